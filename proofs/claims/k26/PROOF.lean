import PyProof.Rows.All
import Wide.All
import OpenK.AllK
import Wide.FinOn
import KE.KTypeName
import KE.KTryMore
import HandS.ForMost
import HandS.ForExc
import HandS.ExcInit
import HandS.ExcIs
import HandS.ExcField
import HandS.Star
import HandS.Defaults
import HandS.TryMany
import HandS.Lambda
import HandS.EndTab
import HandS.IsInst
import HandS.Wide
import HandS.WideMore
import HandS.Codes
import HandS.Flow
import HandS.Zip
import HandS.Walk
import HandS.Iter
import KE.GoesEnum
import PySem.Challenge.RW_rungfields_k26_whole_fields_are_fields
import HandS.Nested
import KE.KEqSeq
import HandS.RevRange
import HandS.Rev
import HandS.Style
import HandS.TupMul
import HandS.TupAny
import KE.GoesMore
import HandS.MakeKw
import HandS.NamedTupGet
import KE.KWithOwn
import HandS.SetFor
import HandS.Strs
import HandS.TryOnly
import HandS.Dict
import HandS.Head0
import HandS.Head1
import HandS.Head2
import HandS.HeadHook1
import HandS.HeadHook2
import HandS.HeadHook3
import HandS.HeadHook4
import HandS.HeadWalk
import HandS.HeadEnd
section
set_option Elab.async false
set_option linter.all false
set_option maxRecDepth 100000
set_option maxHeartbeats 2000000
/-! An own exception in the making: `self.__class__.__name__`. -/
namespace Xh
open PySem PySem.W PySem.Calls PyProof.Rows PySem.HandSPX Builtin Builtin.ObjectAttr Builtin.Getset_descriptor
section
variable {prog : Program} {w : World} {A : Around} {E : Value → Shared → Prop} {R : Result → Shared → Prop} {s : Shared} {K : Frag} {x D : Addr} {ox : Obj}
/-- x.__class__ of an exception without a dict of its own as yet -/
theorem exc_class {expr : Bool} {Q : Value → Shared → Prop} (hga : findIn K (.ref D) "__getattribute__" = some (some (.builtin "BaseException.__getattribute__"))) (hgt : findIn K (.ref D) "__getattr__" = some none) (hsub : subIn K (.ref D) (.type "BaseException") = some true)
    (hdct : hasDictIn K D = true) (ha : findIn K (.ref D) "__class__" = some (some (.builtin "object.__class__")))
    (hn : specialIn K (.builtin "object.__class__") "__get__" = some (some (.builtin "getset_descriptor.__get__"))) (htk : takesIn K (.builtin "object.__class__") = some true) (hm : mroIn K D (.type "object") = some true)
    (X : K.In s.heap) (I : InstAt s.heap x ox D none) (h : Q (.ref D) { s with toks := s.toks + 1 }) : wpAny (model prog w) A (getAttr (.ref x) "__class__" expr) Q E s := by
  have hf : findObj K D none "__class__" = some (.bind (.builtin "getset_descriptor.__get__") (.builtin "object.__class__")) := findObj_dataN (by obtain ⟨cd, hc, _⟩ := any_some hdct; rw [hc]; rfl) ha hn htk
  obtain ⟨hp, g, d, t, os⟩ := s
  have L0 := I.type (M := model prog w)
  have L1 := looks_findIn (M := model prog w) X hga
  have L2 := looks_findIn (M := model prog w) X hgt
  have L3 := looks_find (M := model prog w) X I hf
  have sub : Looks (model prog w) hp (isInstance (.ref x) (.type "BaseException")) true := L0.andThen (looks_subIn X hsub)
  have hx0 : (expr && onTheHeap (Value.builtin "BaseException.__getattribute__")) = false := by cases expr <;> rfl
  have hx2 : (Value.builtin "BaseException.__getattribute__" == Value.builtin "object.__getattribute__") = false := by decide +kernel
  have hx1 : (onTheHeap (Value.ref D) && Value.builtin "BaseException.__getattribute__" == Value.builtin "object.__getattribute__") = false := by rw [hx2]; rfl
  unfold getAttr getAttrBy
  refine wpAny_bind (wpAny_mkText (wpAny_holding (wpAny_bind (L0.at (wpAny_bind (L1.at ?_))))))
  show wpAny _ _ (if (onTheHeap (Value.ref D) && Value.builtin "BaseException.__getattribute__" == Value.builtin "object.__getattribute__") = true then _ else _) _ _ _
  rw [hx1, if_neg Bool.false_ne_true]
  unfold getAttrByItsOwn hookBefore
  refine wpAny_bind ?_
  rw [if_pos (show onTheHeap (Value.ref D) = true from rfl)]
  refine L2.at ?_
  refine wpAny_bind (wpAny_attempt (wpAny_holding ?_))
  unfold callGetattribute
  rw [hx0, if_neg Bool.false_ne_true]
  unfold boundAndCalled
  rw [PySem.F.excAttr_ValueError.ga.bind (.ref x)]
  refine wpAny_bind (wpAny_pure ?_)
  show wpAny _ _ (call (.builtin "BaseException.__getattribute__") [.ref x, .str "__class__" t]) _ _ _
  refine wpAny_call (codeAny_call_builtin PySem.F.excAttr_ValueError.ga.plain PySem.F.entry_bexc_ga ?_)
  refine @check_slot (model prog w) _ _ ⟨hp, g, d, t + 1, os⟩ "BaseException.__getattribute__" "BaseException" "__getattribute__" (.ref x) [.str "__class__" t] [] _ (by decide +kernel) (by decide +kernel) sub (PySem.F.args_bexc_ga (.ref x) (.str "__class__" t)) ?_
  unfold Builtin.«object.__getattribute__»
  refine wpAny_bind (wpAny_of_eq (a := ((Value.ref x : Value), [Value.str "__class__" t])) (by first | rfl | (simp only [slotArgs]; rfl)) ?_)
  refine wpAny_bind (wpAny_pure (wpAny_bind (L0.at (wpAny_bind (L3.at ?_)))))
  show wpAny _ _ (holding [Value.builtin "object.__class__"] (call (.builtin "getset_descriptor.__get__") [.builtin "object.__class__", .ref x, .ref D]) >>= ret) _ _ _
  refine wpAny_bind (wpAny_holding (wpAny_call (class_get (s := ⟨hp, g, d, t + 1, os⟩) (ox := ox) (od := none) X I hm ?_)))
  refine wpAny_pure ?_
  show wpAny _ _ (handedOut (.ref D)) _ _ _
  rw [handedOut_of (v := .ref D) rfl]
  exact wpAny_pure h
/-- type.__name__ of an own class: what its third slot holds -/
theorem name_get {C : Addr} {tp : Value} {cd : ClassData} {dd : Option Addr} {sl : Array (Option Value)} {v : Value} (hC : K.lookup C = some ⟨.type "type", dd, .cls cd, sl⟩) (hs : (sl[2]?).join = some v) (X : K.In s.heap)
    (h : R (.ok (.ret v)) s) : codeAny (model prog w) A (.call (.builtin "getset_descriptor.__get__") ⟨[.builtin "type.__name__", .ref C, tp], []⟩) R s := by
  obtain ⟨hh, g, dr, t, os⟩ := s
  have hg := X _ _ hC
  have L0 : Looks (model prog w) hh (typeOf (.ref C)) (.type "type") := fun A Q E s k q => wpAny_typeOf_ref (k _ _ hg) q
  have L1 : Looks (model prog w) hh (isSubtype (.type "type") (.type "type")) true := Looks.of_pure (by rw [isSubtype_type]; kernel_rfl)
  refine codeAny_call_builtin KF.slot_gs.plain KF.entry_gs (KF.slot_gs.check _ _ _ _ _ _ _ _ ktyn_type (KF.args_gs _ _ _) ?_)
  unfold Builtin.«getset_descriptor.__get__» descrGet
  rw [dga_obj]
  refine wpAny_bind (wpAny_pure ?_)
  unfold descrGetter descrCheckInstance descrNameAndClass isInstance
  simp only [ktyn_owner]
  repeat lk
  refine ⟨Code.quiet_builtin _ (by decide +kernel), codeAny_builtin ktyn_entry ?_⟩
  unfold Builtin.«type.__name__»
  dsimp only
  unfold keptObject slotAt
  dsimp only
  refine wpAny_bind (wpAny_bind (wpAny_loadPart hg ?_))
  refine wpAny_pure ?_
  dsimp only
  rw [hs]
  dsimp only
  exact wpAny_pure h
/-- C.__name__, C an own class -/
theorem cls_name {C : Addr} {cd : ClassData} {dd : Option Addr} {sl : Array (Option Value)} {v : Value} {expr : Bool} {Q : Value → Shared → Prop} (hC : K.lookup C = some ⟨.type "type", dd, .cls cd, sl⟩) (hs : (sl[2]?).join = some v) (hv : handedIn v = true)
    (hr : readsIn K C (.type "type") = true) (e : findCls K (.ref C) (.type "type") "__name__" = some (.get (.builtin "getset_descriptor.__get__") (.builtin "type.__name__") (.ref C) (.type "type")))
    (X : K.In s.heap) (h : Q v { s with toks := s.toks + 1 }) : wpAny (model prog w) A (getAttr (.ref C) "__name__" expr) Q E s :=
  cls_bind X hr e (wpAny_call (name_get hC hs X (handed_on hv h)))
end
end Xh
namespace L2
open PySem PySem.Spec PyProof.Rows
/-- what the written part says of an own exception class C of the name nm -/
structure RC (K : PySem.W.Frag) (C : Addr) (nm : Str) : Prop where
  o : OexC K C
  x : ExcC K C
  rd : PySem.W.readsIn K C (.type "type") = true
  fn : PySem.W.findCls K (.ref C) (.type "type") "__name__" = some (.get (.builtin "getset_descriptor.__get__") (.builtin "type.__name__") (.ref C) (.type "type"))
  nm : ∃ cd dd sl t, K.lookup C = some ⟨.type "type", dd, .cls cd, sl⟩ ∧ (sl[2]?).join = some (.str nm t)
section
variable {X : Cx} {o : Expr} {to : TE} {p q : Pos}
/-- e.__class__.__name__, e an exception in the making, without a dict as yet -/
def tClsNm (K : PySem.W.Frag) (to : TE) : TE := fun σ H Q => to σ H fun x H1 => ∃ (a C : Addr) (nm : Str), x = .ref a ∧ RC K C nm ∧ H1 a = some (exo a C none) ∧ Q (.str nm) H1
theorem pe_clsnm (ho : PE X o to) (h1 : attributeBase o "__class__" X.env (eval o X.env) = eval o X.env := by rfl)
    (h2 : attributeBase (.Attribute o "__class__" p) "__name__" X.env (eval (.Attribute o "__class__" p) X.env) = eval (.Attribute o "__class__" p) X.env := by rfl) :
    PE X (.Attribute (.Attribute o "__class__" p) "__name__" q) (tClsNm X.K to) := by
  refine ⟨fun pins s σ H Q I h => ?_⟩
  refine attr_of h2 (attr_of h1 (thn (ho.run pins s σ H _ I h) fun u s1 hh => ?_))
  obtain ⟨x, H1, I1, rx, a, C, nm, ex, T, ha, q⟩ := hh
  subst ex
  obtain rfl : u = Value.ref a := rx
  obtain ⟨t1, hg⟩ := exo_at I1.hok ha
  obtain ⟨cd, dd, sl, t, hC, hs⟩ := T.nm
  have J : PySem.W.InstAt s1.heap a { cls := .ref C, dict := none, data := .fields #[.ref t1, .none, .none, .none, .bool false, .none] } C none := ⟨hg, rfl, rfl, trivial⟩
  refine Xh.exc_class T.x.hg T.x.hk T.x.hs T.x.hd T.x.ha T.x.hn T.x.ht T.x.hm I1.kIn J ?_
  have I2 := I1.tok (s1.toks + 1)
  refine Xh.cls_name hC hs rfl T.rd T.fn I2.kIn ?_
  exact ⟨.str nm, H1, I2.tok _, ⟨t, rfl⟩, q⟩
end
end L2
end
section
set_option Elab.async false
set_option linter.all false
set_option maxRecDepth 100000
set_option maxHeartbeats 2000000
namespace L2
open PySem PySem.Spec PyProof.Rows
/-! ### RungError.__init__(self, *told): self.word = self.__class__.__name__ -/
/-- C() where C's __init__ takes only what is left over -/
def tMkO0 (C : Addr) (sp : Sp) : St → Hp → XK → Prop := fun σ H Q => ∀ a, H a = none → sp [.ref a] (upd H a (exo a C none))
  (fun v H2 => v = .non ∧ ∃ (d : Addr) (fs : List (Str × V)), H2 a = some (exo a C (some d)) ∧ H2 d = some (exd d fs) ∧ H d = none ∧ Q (.ref C) (some d) (upd (del H2 a) d (.xd fs))) (fun _ _ _ => False)
section
variable {X : Cx} {p pos : Pos}
theorem pmk_oex0 {CX : CXT} {x : Str} {C fI : Addr} {k : Nat} {sp : Sp} (T : OexC X.K C) (iC : PySem.W.findIn X.K (.ref C) "__init__" = some (some (.ref fI))) (tI : PySem.W.typeIn X.K (.ref fI) = some (.type "function"))
    (F1 : FnR X.prog X.w X.K X.mg X.base CX k fI sp) (hr : Room (k + 1) X.A) (hx : Passes CX X (fun _ _ _ => False)) (hg : Gl X x) (hm : X.mg x = some (.ref C))
    (hdb : (x == ("__debug__" : Str)) = false := by decide) :
    PMk X (.Call (.Name x p) [] [] pos) (tMkO0 C sp) := by
  intro pins s σ H Q I h
  obtain ⟨nm, q, N, bs, bm, sn, sub, ab, col, dd, k0, k1, k2, k3, k5, hC, hbm⟩ := T.cls
  refine wpAny_Call_Name_kw (ld_glob I hg hm ?_ hdb)
  refine PySem.W.callWith_K0 I.kIn T.kC ?_
  show wpAny _ _ (call (.ref C) []) _ _ _
  obtain ⟨hp, g, dr, tk, os⟩ := s
  have hsz : hp.objs.size ≤ hp.objs.size + 1 := Nat.le_succ _
  have hn : H (hp.objs.size + 1) = none := I.hok.fresh hsz
  have hq := h (hp.objs.size + 1) hn
  have kk : ∀ b o, hp.get? b = some o → ((hp.push (PySem.W.kdv_tup [])).push (PySem.HandSPX.excO C hp.objs.size)).get? b = some o := fun b o e => Heap.get?_push_of_some _ (Heap.get?_push_of_some _ e)
  have hget : ((hp.push (PySem.W.kdv_tup [])).push (PySem.HandSPX.excO C hp.objs.size)).get? (hp.objs.size + 1) = some (PySem.HandSPX.excO C hp.objs.size) := by heap_get
  have I2 : Inv X pins σ (upd H (hp.objs.size + 1) (exo (hp.objs.size + 1) C none)) ⟨(hp.push (PySem.W.kdv_tup [])).push (PySem.HandSPX.excO C hp.objs.size), g, dr, tk, os⟩ :=
    I.laid (t' := tk) (a := hp.objs.size + 1) (o := exo (hp.objs.size + 1) C none) (h' := (hp.push (PySem.W.kdv_tup [])).push (PySem.HandSPX.excO C hp.objs.size)) kk hsz (exo_ok hget)
  have r2 : Vals [V.ref (hp.objs.size + 1)] [Value.ref (hp.objs.size + 1)] := .cons rfl .nil
  refine wpAny_call (PySem.HandSPX.call_own F.excBase_ValueError (fun Y => PySem.HandSPX.refsVE_contains Y bm hbm) (I.kIn _ _ hC) (PySem.W.looks_findIn I.kIn iC) (fun self => PySem.W.bind_fn I.kIn self tI) (by rw [sizeLine_eq]; exact Nat.zero_le _)
    (codeAny_mono (F1 _ X.stack _ _ [Value.ref (hp.objs.size + 1)] [V.ref (hp.objs.size + 1)] _ (fun _ _ _ => False) (hr.make C [] []) (I2.env0.make C [] []) r2 hq) fun r s' hq' => ?_))
  cases r with
  | error er => exact hx pins σ _ _ er s' I2 hq'
  | ok fl =>
    cases fl with
    | ret u =>
      obtain ⟨v, H2, os2, bare2, un2, hok2, rv, ev, d, fs, ea, ed, hd1, q2⟩ := hq'
      subst ev
      obtain ⟨h2, g2, d2, t2, os'⟩ := s'
      exact ⟨rv, mk_end (raises_own T.exC T.tyC) I hsz kk un2 hok2 os2 bare2 ea ed hd1 q2⟩
    | next => exact False.elim hq'
    | brk => exact False.elim hq'
    | cont => exact False.elim hq'
end
end L2
namespace Xh
open PySem PySem.Spec PyProof.Rows L2
/-- what RungError.__init__ promises: self an exception in the making, told a new tuple -/
def spRI (K : PySem.W.Frag) : Sp := fun vs H Q E => ∃ (a p C : Addr) (nm : Str), vs = [.ref a, .ref p] ∧ RC K C nm ∧ PySem.W.findIn K (.ref C) "word" = some none ∧ H a = some (exo a C none) ∧
  ∀ dx, H dx = none → dx ≠ a → Q .non (upd (upd H dx (exd dx [("word", .str nm)])) a (exo a C (some dx)))
/-- .. as it is called -/
def spRI1 (K : PySem.W.Frag) : Sp := fun vs H Q E => ∃ (a C : Addr) (nm : Str), vs = [.ref a] ∧ RC K C nm ∧ PySem.W.findIn K (.ref C) "word" = some none ∧ H a = some (exo a C none) ∧
  ∀ H1 dx, H dx = none → dx ≠ a → Same H H1 → H1 dx = none → Q .non (upd (upd H1 dx (exd dx [("word", .str nm)])) a (exo a C (some dx)))
section
variable {P : Program} {w : World} {K : PySem.W.Frag} {mg : Str → Option Value} {base : Heap}
theorem ok_rinit {st : Stmt} {f : Addr} {fd : FuncData} (F : FunD K "__init__" "RungError.__init__" (defArgs st) (defBody st) (defScope st) [] [] f fd) (S : FnScope (["self", "told"] : List Str) ["self", "told"] (defScope st))
    (hb : ∀ (kV doc pm : Value) (an : Option Addr) (cdv ct : Value) (us rest : List Value), us.length = ["self"].length → bindArgs (PySem.W.fnOf "__init__" "RungError.__init__" (defArgs st) (defBody st) (defScope st) .none kV doc pm an cdv ct) ⟨us ++ rest, []⟩ = (newTuple rest >>= fun t => pure ((["self"] : List Str).zip us ++ [(("told" : Str), t)])))
    (body : ∀ X : Cx, X.K = K → X.N = (["self", "told"] : List Str) → X.env.scope = defScope st → PSs X (defBody st) (tOst K "word" (tVar 0) (tClsNm K (tVar 0)))) : FnR P w K mg base (L2.CX P w) 1 f (spRI1 K) := by
  obtain ⟨oc, od, dV, kV, doc, pm, an, cdv, ct, osl, rfl, lk, hcd, hD, _⟩ := F.ex
  rcases hD with ⟨_, rfl⟩ | ⟨e, _⟩
  case inr => exact absurd rfl e
  have G := StX.fn_star (CX := L2.CX P w) (P := P) (w := w) (mg := mg) (base := base) (k := 0) (ps := ["self"]) (pv := "told") (N := ["self", "told"]) (sp := spRI K) lk hcd S StX.cxUp (hb kV doc pm an cdv ct) (fun A outer s H vs Q E hr h => ?_)
  · intro A outer s H us vs Q E hr e0 r h
    obtain ⟨a, C, nm, rfl, T, hw, ha, k⟩ := h
    refine G A outer s H us _ Q E hr e0 r ⟨[.ref a], [], rfl, rfl, by rw [sizeLine_eq]; exact Nat.zero_le _, fun p hp => ⟨a, p, C, nm, rfl, T, hw, by rw [upd_ne (ne_of_none ha hp)]; exact ha, fun dx hdx hne => ?_⟩⟩
    have hdp : dx ≠ p := fun z => by rw [z, upd_same] at hdx; cases hdx
    refine k _ dx (by rw [upd_ne hdp] at hdx; exact hdx) hne (fun b o e => by rw [upd_ne (ne_of_none e hp)]; exact e) hdx
  · obtain ⟨a, p, C, nm, rfl, T, hw, ha, k⟩ := h
    refine ⟨_, body _ rfl rfl rfl, ?_⟩
    refine ⟨_, rfl, a, C, nm, rfl, T, ha, _, rfl, a, C, rfl, T.o, hw, .inl ⟨ha, fun dx hdx hne => k dx hdx hne⟩⟩
/-- a class whose objects RungError.__init__ alone makes -/
structure RX (K : PySem.W.Frag) (mg : Str → Option Value) (C fI : Addr) (nm : Str) : Prop where
  c : RC K C nm
  w : PySem.W.findIn K (.ref C) "word" = some none
  i : PySem.W.findIn K (.ref C) "__init__" = some (some (.ref fI))
  t : PySem.W.typeIn K (.ref fI) = some (.type "function")
  g : mg nm = some (.ref C)
/-- raise C(): its word -/
def tMkR (C : Addr) (nm : Str) : L2.St → Hp → XK → Prop := fun _ H Q => ∀ (d : Addr) (H' : Hp), Same H H' → H' d = some (.xd [("word", .str nm)]) → H d = none → Q (.ref C) (some d) H'
theorem pmk_rung {X : Cx} {C fI : Addr} {nm : Str} {p pos : Pos} (T : RX X.K X.mg C fI nm) (F : FnR X.prog X.w X.K X.mg X.base (L2.CX X.prog X.w) 1 fI (spRI1 X.K)) (hr : Room 2 X.A) (hg : Gl X nm) (hdb : (nm == ("__debug__" : Str)) = false := by decide) :
    PMk X (.Call (.Name nm p) [] [] pos) (tMkR C nm) := by
  intro pins s σ H Q I h
  refine pmk_oex0 T.c.o T.i T.t F hr passL hg T.g hdb pins s σ H Q I fun a ha => ?_
  refine ⟨a, C, nm, rfl, T.c, T.w, upd_same, fun H1 dx hdx hne hs h1 => ⟨rfl, dx, _, upd_same, by rw [upd_ne hne, upd_same], by rw [upd_ne hne] at hdx; exact hdx, ?_⟩⟩
  have hdx' : H dx = none := by rw [upd_ne hne] at hdx; exact hdx
  refine h dx _ (fun b o e => ?_) upd_same hdx'
  have h2 : b ≠ a := ne_of_none e ha
  have h3 : b ≠ dx := ne_of_none e hdx'
  rw [upd_ne h3, del_ne h2, upd_ne h2, upd_ne h3]
  exact hs b o (by rw [upd_ne h2]; exact e)
end
end Xh
end
section
set_option Elab.async false
set_option linter.all false
set_option maxRecDepth 100000
set_option maxHeartbeats 2000000
/-! several except clauses, each with a class or a tuple of classes, with or without a name -/
namespace Xh
open PySem PySem.Spec PyProof.Rows L2
/-- what a clause's test tells: its classes -/
def TestE (X : Cx) (te : Expr) (cs : List Value) : Prop :=
  ∀ (a : Addr) (pn : List (Addr × Obj)) (s : Shared) (σ : L2.St) (H : Hp) (cls : Value) (b : Bool), Inv (X.suite a pn) [] σ H s → PySem.W.Looks (model X.prog X.w) s.heap (typeOf (.ref a)) cls → PySem.W.exmAny X.K cls cs = some b →
    ∀ (Q : Bool → Shared → Prop) (E : Value → Shared → Prop), (∀ (h' : Heap) (tk : Nat), (∀ c o, s.heap.get? c = some o → h'.get? c = some o) → Q b { s with heap := h', toks := tk }) →
      wpAny (model X.prog X.w) (X.A.mark (some (.ref a))) (eval te X.env) (fun c s₁ => wpAny (model X.prog X.w) (X.A.mark (some (.ref a))) (excMatches (.ref a) c) Q E s₁) E s
theorem testName {X : Cx} {x : Str} {c : Value} {np : Pos} (hc : Names X x c) : TestE X (.Name x np) [c] := by
  intro a pn s σ H cls b I LT hx Q E hq
  obtain ⟨b1, d1, h1, h2, h3⟩ := PySem.W.exmAny_cons hx
  have e2 : d1 = false := (Option.some.inj h2).symm
  subst e2
  rw [Bool.or_false] at h3
  subst h3
  have LM := PySem.W.exm_one (M := model X.prog X.w) I.kIn LT h1
  have q : Q b s := by
    obtain ⟨hp, g, d, tk, os⟩ := s
    exact hq hp tk fun _ _ e => e
  obtain ⟨hg, hdbg, hm | ⟨hm, hv, hnn⟩⟩ := hc
  · exact ld_glob (X := X.suite a pn) I hg hm (LM.here q) hdbg
  · exact ld_blt (X := X.suite a pn) I hg hm hv (LM.here q) hnn hdbg
theorem testTup2 {X : Cx} {x y : Str} {C D : Addr} {p1 p2 pos : Pos} {k} (hx : Gl X x) (hmx : X.mg x = some (.ref C)) (hy : Gl X y) (hmy : X.mg y = some (.ref D)) (hdx : (x == ("__debug__" : Str)) = false := by decide) (hdy : (y == ("__debug__" : Str)) = false := by decide) :
    TestE X (.Tuple [.Name x p1, .Name y p2] k pos) [.ref C, .ref D] := by
  intro a pn s σ H cls b I LT hb Q E hq
  obtain ⟨hp, g, d, tk, os⟩ := s
  refine wpAny_Tuple_spliced ?_
  show wpAny _ _ (spliced ((false, eval (.Name x p1) X.env) :: (false, eval (.Name y p2) X.env) :: [])) _ _ _
  refine Calls.spliced_cons (ld_glob (X := X.suite a pn) I hx hmx (Calls.spliced_cons (ld_glob (X := X.suite a pn) I hy hmy (Calls.spliced_nil ⟨by rw [sizeLine_eq]; exact (by decide : 2 ≤ 16777216), ?_⟩) hdy)) hdx)
  have kk : ∀ b o, hp.get? b = some o → (hp.push ({ cls := .type "tuple", data := .seq [Value.ref C, Value.ref D].toArray } : Obj)).get? b = some o := fun b o e => Heap.get?_push_of_some _ e
  have LM := PySem.W.exm_tup2 (M := model X.prog X.w) (K := X.K) (I.kIn.keeps kk) (LT.keeps kk) (Heap.get?_push_size _ rfl) hb
  exact LM.here (hq _ tk kk)
/-- a clause: its test, its name's slot (if any), its suite -/
abbrev Cl : Type := List Value × Option Nat × (Addr → Value → Option Addr → TS)
/-- the ends behind a suite: the clause's name is gone -/
def outOf (D : Ends) : Option Nat → Ends
  | none => D
  | some i => { nx := fun σ' H' => D.nx (σ'.set i none) H', rt := D.rt, bk := fun σ' H' => D.bk (σ'.set i none) H', ct := fun σ' H' => D.ct (σ'.set i none) H' }
def intoS (σ : L2.St) (a : Addr) : Option Nat → L2.St
  | none => σ
  | some i => σ.set i (some (.ref a))
/-- what the clauses wish of an exception of the body, one after the other -/
def wClauses (K : PySem.W.Frag) (Wout : WX) (D : Ends) : List Cl → WX
  | [] => Wout
  | (cs, n, ts) :: r => fun cls d σ H => ∃ b, PySem.W.exmAny K cls cs = some b ∧ (b = true → ∀ a, H a = none → ts a cls d (outOf D n) (intoS σ a n) H) ∧ (b = false → wClauses K Wout D r cls d σ H)
inductive ClsOk (X : Cx) : List ExceptHandler → List Cl → Prop
  | nil : ClsOk X [] []
  | cons {te : Expr} {cs : List Value} {ts : Addr → Value → Option Addr → TS} {b₀ : Stmt} {suite : List Stmt} {pos' : Pos} {hds : List ExceptHandler} {l : List Cl} (hc : TestE X te cs)
      (hsu : ∀ (a : Addr) (oe : Obj) (cls : Value) (d : Option Addr) (pn : List (Addr × Obj)), Zc cls d oe → (∃ vs, oe.data = .fields vs) → PSs (X.suite a ((a, oe) :: pn)) (b₀ :: suite) (ts a cls d)) (r : ClsOk X hds l) :
      ClsOk X (.ExceptHandler (some te) none (b₀ :: suite) pos' :: hds) ((cs, none, ts) :: l)
  | as {te : Expr} {cs : List Value} {ts : Addr → Value → Option Addr → TS} {b₀ : Stmt} {suite : List Stmt} {pos' : Pos} {hds : List ExceptHandler} {l : List Cl} {n : Str} {i : Nat} (hc : TestE X te cs) (hi : X.N[i]? = some n) (hln : X.env.kindOf n = some .local)
      (hsu : ∀ (a : Addr) (oe : Obj) (cls : Value) (d : Option Addr) (pn : List (Addr × Obj)), Zc cls d oe → (∃ vs, oe.data = .fields vs) → PSs (X.suite a ((a, oe) :: pn)) (b₀ :: suite) (ts a cls d)) (r : ClsOk X hds l) :
      ClsOk X (.ExceptHandler (some te) (some n) (b₀ :: suite) pos' :: hds) ((cs, some i, ts) :: l)
theorem flying_keeps {base h h' : Heap} {l : List Env} {e : Addr} {Z : Obj → Prop} (x : HandSPX.FlyingZ base l e Z h) (k : ∀ b o, h.get? b = some o → h'.get? b = some o) : HandSPX.FlyingZ base l e Z h' := by
  obtain ⟨f1, f2, f3, oe, vs, T, oT, ts, g1, g2, g3, g4, g5, g6, g7, g8, g9⟩ := x
  exact ⟨fun b o e => k b o (f1 b o e), f2, f3.of_keeps fun b o e _ => ⟨o, k b o e, rfl⟩, oe, vs, T, oT, ts, k _ _ g1, g2, g3, g4, g5, g6, k _ _ g7, g8, g9⟩
section
variable {X : Cx} {body : List Stmt} {h₀ : ExceptHandler} {hds : List ExceptHandler} {l : List Cl} {pos : Pos} {tb : WX → TS} {Wout : WX}
theorem ps_try_cls (hs : X.stack = X.env :: X.outer) (hf : X.env.frame = some X.env.locals) (hN : X.N.Nodup) (tk : Takes X Wout)
    (hb : ∀ (W : WX) (pn : List (Addr × Obj)) (xe : Value → Shared → Prop), Takes (X.tr pn xe) W → PassesOwn (model X.prog X.w) X.A X.env xe → PSs (X.tr pn xe) body (tb W))
    (hh : ClsOk X (h₀ :: hds) l) : PS X (.Try body (h₀ :: hds) [] [] pos) (fun D σ H => tb (wClauses X.K Wout D l) D σ H) := by
  refine ⟨fun pins s σ H D I h => ?_⟩
  have ok := I.ok
  have hfr : X.A.frames = some (X.env :: X.outer) := by rw [ok.frames, hs]
  refine wpAny_Try_except ?_
  refine wpAny_mono ((hb (wClauses X.K Wout D l) (X.pn ++ pins) (fun e s₁ => wpAny (model X.prog X.w) X.A (noteFrame e X.env) (fun _ s₂ => wpAny (model X.prog X.w) X.A (setFlight e none) (fun _ s₃ =>
    wpAny (model X.prog X.w) X.A (handleBy e X.env (h₀ :: hds)) (SP X pins D) X.xe s₃) X.xe s₂) X.xe s₁) (fun u s' xx => ?_) PassesOwn.looking).run [] s σ H D (I.toTry _) h) (fun f s1 hsp => ?_) (fun e s1 he => he)
  · -- the catch
    obtain ⟨a, B, sI, pins', σ', H', cls, d, rfl, J', nb, up, sky, na, os, ag, w⟩ := xx
    have J : Inv X pins σ' H' sI := J'.ofTry ok
    have sky' : Sky B (X.env :: X.outer) a (Zc cls d) X.env.locals s'.heap := by rw [← hs]; exact sky
    show wpAny (model X.prog X.w) X.A (noteFrame (.ref a) X.env) _ _ _
    refine Sky.land Zc.steady hfr hf sky' fun h3 fl3 up3 => ?_
    have notFr : ∀ {h : Heap} {o : Obj} {vs : Array Value}, h.FunFrames B (X.env :: X.outer) → h.get? a = some o → o.data = .fields vs → a ∉ frs (X.env :: X.outer) := fun {h o vs} ff e dd hm => by
      obtain ⟨_, o', e', hnf⟩ := ff.mem hm
      rw [e] at e'; cases e'
      exact hnf _ dd
    have go : ∀ {hds' : List ExceptHandler} {l' : List Cl}, ClsOk X hds' l' → ∀ (h3 : Heap) (t3 : Nat), HandSPX.FlyingZ B (X.env :: X.outer) a (Zc cls d) h3 → sI.heap.UpToSlots h3 → wClauses X.K Wout D l' cls d σ' H' →
        wpAny (model X.prog X.w) X.A (handleBy (.ref a) X.env hds') (SP X pins D) X.xe { s' with heap := h3, toks := t3 } := by
      intro hds' l' hk
      induction hk with
      | nil =>
        intro h3 t3 fl3 up3 w
        refine wpAny_handleBy_nil ?_
        obtain ⟨k1, k2, k3, oe, vs, T, oT, ts', he, hz, hd, h1, hr⟩ := id fl3
        unfold PySem.passOn
        refine wpAny_bind (wpAny_field he hd h1 ?_)
        rw [if_neg (show ¬ ((Value.ref T == Value.none) = true) from by simp)]
        have fin : wpAny (model X.prog X.w) X.A (setFlight (.ref a) X.env.frame) (fun _ s4 => wpAny (model X.prog X.w) X.A (throw (.ref a) : Sem Flow) (SP X pins D) X.xe s4) X.xe { s' with heap := h3, toks := t3 } := by
          rw [hf]
          refine HandSPX.setFlight_upZ fl3 fun h4 hh4 up4 => wpAny_throw (tk _ _ ?_)
          exact ⟨a, B, sI, pins, σ', H', cls, d, rfl, J, nb, up3.trans up4, .inr (.inr (by rw [hs]; exact hh4)), na, os, ag, w⟩
        first
          | exact wpAny_bind (wpAny_pure (wpAny_bind fin))
          | exact wpAny_bind fin
      | @cons te cs ts b₀ suite pos' hds2 l2 hc hsu r ih =>
        intro h3 t3 fl3 up3 w
        obtain ⟨b, hb1, hyes, hno⟩ := w
        have J3 : Inv X pins σ' H' { s' with heap := h3, toks := t3 } := J.landed nb fl3.1 up3 os ag
        obtain ⟨oe3, vs3, he3, hz3, hd3⟩ := fl3.there
        have nfr := notFr fl3.2.2.1 he3 hd3
        have nL : a ≠ X.env.locals := fun z => nfr (List.mem_filterMap.mpr ⟨X.env, List.mem_cons_self, by rw [hf, z]⟩)
        have nF : a ∉ X.fs := fun hm => by
          obtain ⟨e, he, q⟩ := List.mem_filterMap.mp hm
          exact nfr (List.mem_filterMap.mpr ⟨e, List.mem_cons_of_mem _ he, q⟩)
        have S3 := J3.suite he3 hd3 na nL nF
        refine wpAny_handleBy_cons (codeAny_handlers_test ?_) (by intro q; cases q)
        have LT : PySem.W.Looks (model X.prog X.w) h3 (typeOf (.ref a)) cls := fun A Q E s k q => wpAny_typeOf_ref (k _ _ he3) (by rw [hz3.1]; exact q)
        refine hc a _ _ _ _ cls b S3 LT hb1 _ _ fun h5 t5 k5 => ?_
        have fl5 := flying_keeps fl3 k5
        have up5 : sI.heap.UpToSlots h5 := up3.trans (Heap.UpToSlots.of_keeps k5)
        cases b with
        | true =>
          refine codeAny_handlers_suite ?_
          refine HandSPX.lands_againZ fl5 fun h4 fl4 up4 => ?_
          have J4 : Inv X pins σ' H' { s' with heap := h4, toks := t5 } := J.landed nb fl4.1 (up5.trans up4) os ag
          obtain ⟨oe4, vs4, he4, hz4, hd4⟩ := fl4.there
          have S4 := J4.suite he4 hd4 na nL nF
          refine wpAny_mono ((hsu a oe4 cls d (X.pn ++ pins) hz4 ⟨_, hd4⟩).run [] _ _ H' _ S4 (hyes rfl a na)) (fun f s6 hsp => ?_) (fun _ _ z => False.elim z)
          cases f with
          | next =>
            obtain ⟨σ6, H6, S6, q6⟩ := hsp
            exact ⟨_, _, S6.unsuite ok, q6⟩
          | brk =>
            obtain ⟨σ6, H6, S6, q6⟩ := hsp
            exact ⟨_, _, S6.unsuite ok, q6⟩
          | cont =>
            obtain ⟨σ6, H6, S6, q6⟩ := hsp
            exact ⟨_, _, S6.unsuite ok, q6⟩
          | ret u =>
            obtain ⟨v6, σ6, H6, S6, r6, q6⟩ := hsp
            exact ⟨_, _, _, S6.unsuite ok, r6, q6⟩
        | false =>
          show wpAny _ X.A (handleBy (.ref a) X.env hds2) _ _ _
          exact ih h5 t5 fl5 up5 (hno rfl)
      | @as te cs ts b₀ suite pos' hds2 l2 n i hc hi hln hsu r ih =>
        intro h3 t3 fl3 up3 w
        obtain ⟨b, hb1, hyes, hno⟩ := w
        have J3 : Inv X pins σ' H' { s' with heap := h3, toks := t3 } := J.landed nb fl3.1 up3 os ag
        obtain ⟨oe3, vs3, he3, hz3, hd3⟩ := fl3.there
        have nfr := notFr fl3.2.2.1 he3 hd3
        have nL : a ≠ X.env.locals := fun z => nfr (List.mem_filterMap.mpr ⟨X.env, List.mem_cons_self, by rw [hf, z]⟩)
        have nF : a ∉ X.fs := fun hm => by
          obtain ⟨e, he, q⟩ := List.mem_filterMap.mp hm
          exact nfr (List.mem_filterMap.mpr ⟨e, List.mem_cons_of_mem _ he, q⟩)
        have S3 := J3.suite he3 hd3 na nL nF
        refine wpAny_handleBy_cons (codeAny_handlers_test ?_) (by intro q; cases q)
        have LT : PySem.W.Looks (model X.prog X.w) h3 (typeOf (.ref a)) cls := fun A Q E s k q => wpAny_typeOf_ref (k _ _ he3) (by rw [hz3.1]; exact q)
        refine hc a _ _ _ _ cls b S3 LT hb1 _ _ fun h5 t5 k5 => ?_
        have fl5 := flying_keeps fl3 k5
        have up5 : sI.heap.UpToSlots h5 := up3.trans (Heap.UpToSlots.of_keeps k5)
        cases b with
        | true =>
          refine codeAny_handlers_suite_as ?_
          refine HandSPX.lands_againZ fl5 fun h4 fl4 up4 => ?_
          have J4 : Inv X pins σ' H' { s' with heap := h4, toks := t5 } := J.landed nb fl4.1 (up5.trans up4) os ag
          obtain ⟨oe4, vs4, he4, hz4, hd4⟩ := fl4.there
          have S4 := J4.suite he4 hd4 na nL nF
          refine store_ok (X := X.suite a ((a, oe4) :: (X.pn ++ pins))) (v := .ref a) S4 hN hi (.inl hln) rfl (fun s5 S5 => ?_) (.inr hln)
          refine wpAny_mono ((hsu a oe4 cls d (X.pn ++ pins) hz4 ⟨_, hd4⟩).run [] s5 _ H' _ S5 (hyes rfl a na)) (fun f s6 hsp => ?_) (fun _ _ z => False.elim z)
          have end_ : ∀ {σ6 : L2.St} {H6 : Hp} {Q : Shared → Prop}, Inv (X.suite a ((a, oe4) :: (X.pn ++ pins))) [] σ6 H6 s6 → (∀ s7, Inv X pins (σ6.set i none) H6 s7 → Q s7) →
              wpAny (model X.prog X.w) X.A (do bindName X.env n .none; unbindBehindTheSuite X.env n pos') (fun _ s7 => Q s7) X.xe s6 := fun {σ6 H6 Q} S6 hq => gone_ok (S6.unsuite ok) hN hi hln hq
          cases f with
          | next =>
            obtain ⟨σ6, H6, S6, q6⟩ := hsp
            exact end_ S6 fun s7 J7 => ⟨_, _, J7, q6⟩
          | brk =>
            obtain ⟨σ6, H6, S6, q6⟩ := hsp
            exact end_ S6 fun s7 J7 => ⟨_, _, J7, q6⟩
          | cont =>
            obtain ⟨σ6, H6, S6, q6⟩ := hsp
            exact end_ S6 fun s7 J7 => ⟨_, _, J7, q6⟩
          | ret u =>
            obtain ⟨v6, σ6, H6, S6, r6, q6⟩ := hsp
            exact end_ S6 fun s7 J7 => ⟨_, _, _, J7, r6, q6⟩
        | false =>
          show wpAny _ X.A (handleBy (.ref a) X.env hds2) _ _ _
          exact ih h5 t5 fl5 up5 (hno rfl)
    exact go hh h3 s'.toks fl3 (up.trans up3) w
  · cases f with
    | next =>
      obtain ⟨σ', H', J', q⟩ := hsp
      exact wpAny_execs_nil ⟨σ', H', J'.ofTry ok, q⟩
    | brk =>
      obtain ⟨σ', H', J', q⟩ := hsp
      exact ⟨σ', H', J'.ofTry ok, q⟩
    | cont =>
      obtain ⟨σ', H', J', q⟩ := hsp
      exact ⟨σ', H', J'.ofTry ok, q⟩
    | ret u =>
      obtain ⟨v, σ', H', J', r, q⟩ := hsp
      exact ⟨v, σ', H', J'.ofTry ok, r, q⟩
end
end Xh
end
section
set_option Elab.async false
set_option linter.all false
set_option maxRecDepth 100000
set_option maxHeartbeats 2000000
/-! a lambda handed on from def to def -/
namespace Xh
open PySem PySem.Spec PyProof.Rows L2 LamX
section
variable {X : Cx} {pins : List (Addr × Obj)} {σ : L2.St} {H HZ : Hp} {s s1 : Shared}
theorem lam_startG {fs : List Addr} {A : Around} {outer : List Env} {E : XK} {scope : Scope} {f c' : Addr} {h₁ : Heap} {tk : Nat} (I : Inv X pins σ H s) (L : LamS X.env.scope scope) (e0 : Env0 X.prog X.w X.K X.mg X.base A outer s1 HZ) (hd : A.handled = none)
    (un : Un fs [] H HZ s.heap s1.heap) (hns : h₁.Ns s1.heap.objs.size fun y => ([] : List (Str × Value)).reverse.lookup y) (kp : ∀ b o, s1.heap.get? b = some o → h₁.get? b = some o) :
    Inv (lamCx X A outer s1 HZ E scope f c') [] σ HZ { s1 with heap := h₁, toks := tk } := by
  have hfree := L.has I.ok
  have cm : ∀ {y c}, (cloFrom X.env.cells scope.names []).lookup y = some c → X.env.cells.lookup y = some c := fun {y c} e => by
    rcases cloFrom_mem (PySem.mem_of_lookup e) with hm | ⟨h1, h2⟩
    · cases hm
    · obtain ⟨c1, hc⟩ := hfree _ h1 rfl
      have hc : X.env.cells.lookup y = some c1 := hc
      have e2 : c = c1 := by
        rw [h2, hc] <;> rfl
      rw [e2]
      exact hc
  have look : ∀ {y}, scope.names.lookup y = some .free → ∃ c, (cloFrom X.env.cells scope.names []).lookup y = some c := fun {y} hl => by
    have hy : (y, NameKind.free) ∈ scope.names := PySem.mem_of_lookup hl
    exact mem_lookup (cloFrom_has (cells := X.env.cells) (acc := []) hy)
  have cellK : ∀ {c : Addr} {v : Option Value}, H c = none → s.heap.IsCell c v → h₁.IsCell c v := fun {c v} n ⟨o, ho, hd⟩ => by
    obtain ⟨sl, q⟩ := un.any ho n (by simp)
    exact ⟨_, kp _ _ q, hd⟩
  have noA : ∀ b : Addr, b ∉ (lamCx X A outer s1 HZ E scope f c').ex := fun b z => absurd (show b ∈ ([] : List Addr) from z) (by simp)
  refine ⟨⟨e0.mod, L.kind, rfl, rfl, Nat.le_refl _, fun y z c e1 e2 => I.ok.inj y z c (cm e1) (cm e2), fun y hy => ?_, fun y c z _ => ?_, fun _ => hd, Around.frames_deeper e0.frames, .inr ⟨rfl, rfl⟩, fun b z => absurd z (noA b), e0.bs, e0.bsz, fun b _ _ => noA b,
      fun b z => absurd z (noA b), e0.funs, e0.frf⟩,
    rfl, e0.bare, Un.kept kp, ⟨_, hns, fun i y v e1 e2 e3 => ?_⟩, fun y c e => ?_, e0.hok.fresh (Nat.le_refl _), fun y c e => ?_, fun q hq => absurd (show q ∈ ([] : List (Addr × Obj)) ++ [] from hq) (by simp), e0.hok.kept kp, I.len⟩
  · have hy : scope.names.lookup y = some .cell ∨ scope.names.lookup y = some .free := hy
    rcases hy with hy | hy
    · exact absurd rfl (L.own _ (PySem.mem_of_lookup hy)).2
    · exact look hy
  · have z : false = true := z
    cases z
  · have e3 : Vis scope y := e3
    rcases e3 with k | k | k
    · exact absurd rfl (L.own _ (PySem.mem_of_lookup k)).1
    · exact absurd rfl (L.own _ (PySem.mem_of_lookup k)).2
    · obtain ⟨m, hn, hl⟩ := I.loc
      have hvis : Vis X.env.scope y := (L.free _ (PySem.mem_of_lookup k) rfl).elim (fun k => .inr (.inl k)) (fun k => .inr (.inr k))
      obtain ⟨w', r, q⟩ := hl i y v e1 e2 hvis
      obtain ⟨c2, h2⟩ := look k
      refine ⟨w', r, .inr ⟨.inr k, c2, h2, ?_⟩⟩
      have c1 := cm h2
      rcases q with ⟨k', _⟩ | ⟨_, c3, e', z⟩
      · have k' : X.env.scope.names.lookup y = some .local := k'
        rcases L.free _ (PySem.mem_of_lookup k) rfl with k2 | k2 <;> rw [show X.env.scope.names.lookup y = _ from k2] at k' <;> cases k'
      · rw [c1] at e'
        cases e'
        exact cellK (I.freeC y _ c1) z
  · obtain ⟨w', z⟩ := I.cell y c (cm e)
    exact ⟨w', cellK (I.freeC y c (cm e)) z⟩
  · obtain ⟨v, o, ho, hd⟩ := I.cell y c (cm e)
    exact un.free c o ho (I.freeC y c (cm e)) (by simp)
end
/-- the thing at f can be called, without arguments, from whatever runs behind the state s (abstract heap H): tl tells its reading, q its code's name -/
def CanAct (P : Program) (w : World) (K : PySem.W.Frag) (mg : Str → Option Value) (base : Heap) (k : Nat) (q : Str) (f c' : Addr) (tl : XK → Hp → VK → Prop) (s : Shared) (H : Hp) : Prop :=
  ∀ (fs : List Addr) (CXg : CXT) (Ng : List Str) (qg : Str) (sg : Scope) (g : Addr) (cdg : Value) (A : Around) (outer : List Env) (sZ : Shared) (HZ0 : Hp) (Eg : XK), Un fs [] H HZ0 s.heap sZ.heap → f ∉ fs → (∀ b ∈ frs outer, b ∈ fs) → Room (k + 1) (A.deeper (envOfC qg sg sZ.heap.objs.size g cdg)) →
    ∀ (i : Nat) (a : Str) (W : WX) (pn : List (Addr × Obj)) (xe : Value → Shared → Prop) (E : XK) (p1 p2 : Pos), Ng[i]? = some a → Vis sg a → (a == ("__debug__" : Str)) = false → (a == ("__classdict__" : Str)) = false →
      Takes ((cxOf CXg P w K mg base Ng qg sg g cdg A outer sZ HZ0 Eg).tr pn xe) W → (∀ cls d σ' H', E cls d H' → W cls d σ' H') →
      PE ((cxOf CXg P w K mg base Ng qg sg g cdg A outer sZ HZ0 Eg).tr pn xe) (.Call (.Name a p1) [] [] p2) (fun σZ HZ Q => σZ[i]? = some (some (.ref f)) ∧ HZ c' = some (CodeO c' q) ∧ tl E HZ Q)
theorem CanAct.later {P : Program} {w : World} {K : PySem.W.Frag} {mg : Str → Option Value} {base : Heap} {k : Nat} {q : Str} {f c' : Addr} {tl : XK → Hp → VK → Prop} {s s1 : Shared} {H H1 : Hp} {fs0 : List Addr} (c : CanAct P w K mg base k q f c' tl s H) (un : Un fs0 [] H H1 s.heap s1.heap) (hf : f ∉ fs0) :
    CanAct P w K mg base k q f c' tl s1 H1 := fun fs CXg Ng qg sg g cdg A outer sZ HZ0 Eg un1 hf1 ho hr i a W pn xe E p1 p2 => by
  refine c (fs0 ++ fs) CXg Ng qg sg g cdg A outer sZ HZ0 Eg ((un.mono (fun b hb => List.mem_append_left _ hb) (fun _ z => z)).trans (un1.mono (fun b hb => List.mem_append_right _ hb) (fun _ z => z))) (fun z => ?_) (fun b hb => List.mem_append_right _ (ho b hb)) hr i a W pn xe E p1 p2
  rcases List.mem_append.mp z with z | z
  · exact hf z
  · exact hf1 z
section
variable {X : Cx} {pins : List (Addr × Obj)} {σ : L2.St} {H : Hp} {s : Shared}
/-- a lambda just made can be called -/
theorem canAct_of {f c' : Addr} {pm ctv : Value} {params : Arguments} {body : Expr} {scope : Scope} {k : Nat} {tb : XK → TE}
    (I : Inv X pins σ H s) (L : LamS X.env.scope scope) (hf : s.heap.get? f = some (PySem.W.kla_obj "<lambda>" (X.env.qual ++ "<lambda>") params body scope (cloFrom X.env.cells scope.names []) pm c' ctv)) (hfn : H f = none)
    (hbind : bindArgs (PySem.W.kla_fn "<lambda>" (X.env.qual ++ "<lambda>") params body scope (cloFrom X.env.cells scope.names []) pm (.ref c') ctv) ⟨[], []⟩ = pure [])
    (hbody : ∀ (A : Around) (outer : List Env) (s : Shared) (H : Hp) (E : XK), Room k (A.deeper (lamEnv X scope s.heap.objs.size f c')) → PE (lamCx X A outer s H E scope f c') body (tb E)) :
    CanAct X.prog X.w X.K X.mg X.base k (X.env.qual ++ "<lambda>") f c' (fun E H' Q => tb E σ H' Q) s H := by
  intro fs CXg Ng qg sg g cdg A outer sZ HZ0 Eg un0 hff ho hr i a W pn xe E p1 p2 hN hv hd hcd tk hW
  refine ⟨fun pinsZ s0 σZ HZ Q IZ h => ?_⟩
  obtain ⟨hs, hc, ht⟩ := h
  refine wpAny_Call_Name_kw (thn ((pe_var (pos := p1) (i := i) hN hv hd hcd).run pinsZ s0 σZ HZ (fun v H1 => v = .ref f ∧ H1 = HZ) IZ ⟨.ref f, hs, rfl, rfl⟩) fun u s1 ⟨v, H1, I1, r1, q1⟩ => ?_)
  obtain ⟨ev, eH⟩ := q1
  subst ev
  rw [eH] at I1
  obtain rfl : u = Value.ref f := r1
  have un : Un fs [] H HZ s.heap s1.heap := un0.trans (I1.base.mono ho fun _ z => z)
  have of1 : s1.heap.get? f = some (PySem.W.kla_obj "<lambda>" (X.env.qual ++ "<lambda>") params body scope (cloFrom X.env.cells scope.names []) pm c' ctv) := un.keep f _ hf hfn hff (fun z => nomatch (show f ∈ ([] : List Addr) from z))
  refine PySem.W.callWith_F0 ⟨_, _, _, _, of1⟩ ?_
  obtain ⟨⟨oc, vs, t, hoc, hdc, hvc⟩, _, _⟩ := I1.hok c' _ hc
  have rc : codeAny (model X.prog X.w) (A.deeper (envOfC qg sg sZ.heap.objs.size g cdg)) (.call (.ref f) ⟨[], []⟩) (CR (L2.CX X.prog X.w) (envOfC qg sg sZ.heap.objs.size g cdg :: outer) X.prog X.w HZ s1 Q E) s1 := by
    refine PySem.W.kla_callFunE hr.depth of1 rfl L.co L.gen rfl ⟨c', oc, vs, t, rfl, hoc, hdc, hvc⟩ ?_
    rw [hbind]
    refine wpAny_pure (wpAny_newFunctionEnv (fun y hy => (L.own y hy).2) (fun y hy => absurd hy (by simp)) (fun h₁ hns hsb => ⟨I1.nolimit.fresh _ hsb, ?_⟩) L.kind)
    show codeAny _ _ (.expr body (lamEnv X scope s1.heap.objs.size f c')) _ _
    have kp : ∀ b o, s1.heap.get? b = some o → h₁.get? b = some o := fun b o e => hsb.extBut b o (Nat.ne_of_lt (Heap.lt_size e)) (Heap.get?_push_of_some _ e)
    have J : Inv (lamCx X (A.deeper (envOfC qg sg sZ.heap.objs.size g cdg)) (envOfC qg sg sZ.heap.objs.size g cdg :: outer) s1 HZ E scope f c') [] σ HZ { s1 with heap := h₁, toks := s1.toks + ([] : List (Str × Value)).length } :=
      lam_startG I L I1.env0 hr.hd un hns kp
    refine PySem.W.kla_codeExpr (wpAny_mono ((hbody _ _ s1 HZ E (hr.deeper _)).run [] _ _ HZ Q J ht) (fun v s' hq => ?_) fun e s' hq => hq)
    obtain ⟨w', H', J', rv, q⟩ := hq
    exact ⟨w', H', J'.os, J'.bare, J'.base, J'.hok, rv, q⟩
  have hx : Passes (L2.CX X.prog X.w) ((cxOf CXg X.prog X.w X.K X.mg X.base Ng qg sg g cdg A outer sZ HZ0 Eg).tr pn xe) E := passes_call tk hW
  refine wpAny_call (codeAny_mono rc fun r s' hq => ?_)
  cases r with
  | error e => exact hx pinsZ σZ HZ s1 e s' I1 hq
  | ok fl =>
    cases fl with
    | ret u => exact I1.after hq
    | next => exact False.elim hq
    | brk => exact False.elim hq
    | cont => exact False.elim hq
end
/-- a def of one parameter (Ng: its names, the parameter first) that gets something to call: TT its promise; what the callee raises is caught within -/
structure Gives (P : Program) (w : World) (K : PySem.W.Frag) (mg : Str → Option Value) (base : Heap) (k kl : Nat) (x : Str) (g : Addr) (TT : (XK → Hp → VK → Prop) → Hp → VK → Prop) : Prop where
  m : mg x = some (.ref g)
  kp : PySem.W.keepIn K (.ref g) = true
  run : ∀ (q : Str) (A : Around) (outer : List Env) (f c' : Addr) (s : Shared) (H : Hp) (Q : VK) (tl : XK → Hp → VK → Prop), Room k A → Env0 P w K mg base A outer s H → CanAct P w K mg base kl q f c' tl s H → f ∉ frs outer → f < s.heap.objs.size → H c' = some (CodeO c' q) → TT tl H Q →
    codeAny (model P w) A (.call (.ref g) ⟨[.ref f], []⟩) (CR CX0 outer P w H s Q E0) s
theorem gives_of {P : Program} {w : World} {K : PySem.W.Frag} {mg : Str → Option Value} {base : Heap} {k kl : Nat} {x a : Str} {g : Addr} {fd : FuncData} {pg : Arguments} {bg : List Stmt} {sg : Scope} {Ng : List Str} {TT : (XK → Hp → VK → Prop) → Hp → VK → Prop}
    (F : FunD K x x pg bg sg [] [] g fd) (hm : mg x = some (.ref g)) (Sg : FnScope Ng [a] sg)
    (hb : ∀ (kV doc pm : Value) (an : Option Addr) (cdv ct : Value) (us : List Value), us.length = [a].length → bindArgs (PySem.W.fnOf x x pg bg sg .none kV doc pm an cdv ct) ⟨us, []⟩ = pure ([a].zip us))
    (hG : ∀ (q : Str) (cdg : Value) (A : Around) (outer : List Env) (f c' : Addr) (s : Shared) (H : Hp) (Q : VK) (tl : XK → Hp → VK → Prop), Room k (A.deeper (envOfC x sg s.heap.objs.size g cdg)) → CanAct P w K mg base kl q f c' tl s H → f ∉ frs outer → f < s.heap.objs.size → H c' = some (CodeO c' q) → TT tl H Q →
      ∃ t, PSs (cxOf CX0 P w K mg base Ng x sg g cdg A outer s H E0).nox bg t ∧ t { nx := fun _ H' => Q .non H', rt := Q } (L2.start Ng [.ref f]) H) : Gives P w K mg base (k + 1) kl x g TT := by
  have b := FunD.bindsN F hb
  refine ⟨hm, F.kp, fun q A outer f c' s H Q tl hr e0 act hfo hfs hc hT => ?_⟩
  obtain ⟨oc, od, dV, kV, doc, pm, an, cdv, ct, osl, rfl, lk, hcd, _, _⟩ := F.ex
  refine run_ofS (N := Ng) (ps := [a]) (us := [.ref f]) (vs := [.ref f]) lk hcd Sg hr e0 (b s [.ref f] (e0.mod.kin.keeps fun c o e => (e0.bs c o e).1) rfl) (.cons rfl .nil) rfl fun hr' => ?_
  obtain ⟨t, h1, h2⟩ := hG q cdv A outer f c' s H Q tl hr' act hfo hfs hc hT
  exact ⟨t, h1.nox, h2⟩
section
variable {X : Cx}
/-- x(lambda: body) -/
theorem pe_lam {T : List (Addr × Str)} {TT : (XK → Hp → VK → Prop) → Hp → VK → Prop} {x : Str} {g c P : Addr} {k kl : Nat}
    {params : Arguments} {body : Expr} {scope : Scope} {t : XK → TE} {p lpos pos : Pos} (G : Gives X.prog X.w X.K X.mg X.base k kl x g TT) (hg : Gl X x)
    (TB : TabB X.base X.mg c P) (hcode : X.env.code = .ref c) (hmT : (P, X.env.qual ++ "<lambda>") ∈ T) (hu : ∀ p ∈ T, p.1 = P → p.2 = X.env.qual ++ "<lambda>") (hr : Room k X.A) (L : LamS X.env.scope scope) (hdef : defaultsOf params X.env = ([], []))
    (hbind : ∀ (q : Str) (cl : List (Str × Addr)) (pm cv ctv : Value), bindArgs (PySem.W.kla_fn "<lambda>" q params body scope cl pm cv ctv) ⟨[], []⟩ = pure [])
    (hbody : ∀ (A : Around) (outer : List Env) (s : Shared) (H : Hp) (E : XK) (f c' : Addr), Room kl (A.deeper (lamEnv X scope s.heap.objs.size f c')) → PE (lamCx X A outer s H E scope f c') body (t E))
    (hdb : (x == ("__debug__" : Str)) = false := by decide) :
    PE X (.Call (.Name x p) [.Lambda params body scope lpos] [] pos) (tLam T TT t) := by
  refine ⟨fun pins s σ H Q I h => ?_⟩
  obtain ⟨hT, h⟩ := h
  refine wpAny_Call_Name_kw (ld_glob I hg G.m ?_ hdb)
  refine PySem.W.callWith_K (h₀ := X.base) I.ok.mod.kin G.kp ?_ (by rfl) (by rfl)
  show wpAny _ _ (spliced ((false, eval (.Lambda params body scope lpos) X.env) :: backTo pos (starEach [] X.env))) _ _ s
  refine Calls.spliced_cons (lam_make2 I TB hcode hmT hu hT hdef (L.has I.ok) fun f c' pm' ctv H1 s' I1 eN T1 hf hfn hfr hco => ?_)
  refine Calls.spliced_nil ⟨I1.kIn, ?_⟩
  have act := canAct_of (tb := t) I1 L hf hfn (hbind _ _ _ _ _) (fun A outer s H E hr2 => hbody A outer s H E f c' hr2)
  have rc := G.run _ X.A X.stack f c' s' H1 Q _ hr I1.env0 act hfr (Heap.lt_size hf) hco (h H1 eN T1)
  refine wpAny_call (codeAny_mono rc fun r s2 hq => ?_)
  cases r with
  | error e => exact (show False from hq).elim
  | ok fl =>
    cases fl with
    | ret u => exact I1.after hq
    | next => exact False.elim hq
    | brk => exact False.elim hq
    | cont => exact False.elim hq
end
/-- y(a) in a def that got something to call, y such a def too -/
theorem pe_passOn {P : Program} {w : World} {K : PySem.W.Frag} {mg : Str → Option Value} {base : Heap} {k kl : Nat} {q a y x : Str} {f c' gy g : Addr} {tl : XK → Hp → VK → Prop} {TT : (XK → Hp → VK → Prop) → Hp → VK → Prop} {s : Shared} {H : Hp} {A : Around} {outer : List Env} {Ng : List Str} {sg : Scope} {cdg : Value} {p1 p2 pos : Pos} {i : Nat}
    (G : Gives P w K mg base k kl y gy TT) (act : CanAct P w K mg base kl q f c' tl s H) (hfo : f ∉ frs outer) (hfs : f < s.heap.objs.size) (hr : Room k (A.deeper (envOfC x sg s.heap.objs.size g cdg)))
    (hgy : sg.names.lookup y = some .globalImplicit) (hN : Ng[i]? = some a) (hv : Vis sg a) (hdy : (y == ("__debug__" : Str)) = false := by decide) (hd : (a == ("__debug__" : Str)) = false := by decide) (hcd : (a == ("__classdict__" : Str)) = false := by decide) :
    PE (cxOf CX0 P w K mg base Ng x sg g cdg A outer s H E0).nox (.Call (.Name y p1) [.Name a p2] [] pos) (fun σZ HZ Q => σZ[i]? = some (some (.ref f)) ∧ HZ c' = some (CodeO c' q) ∧ TT tl HZ Q) := by
  refine ⟨fun pins s1 σZ HZ Q I h => ?_⟩
  obtain ⟨hs, hc, hT⟩ := h
  refine wpAny_Call_Name_kw (ld_glob (X := (cxOf CX0 P w K mg base Ng x sg g cdg A outer s H E0).nox) I hgy G.m ?_ hdy)
  refine PySem.W.callWith_K (h₀ := base) I.ok.mod.kin G.kp (thn ((pa_cons (X := (cxOf CX0 P w K mg base Ng x sg g cdg A outer s H E0).nox) (pe_var (pos := p2) (i := i) hN hv hd hcd) pa_nil).run pos pins s1 σZ HZ (fun vs H1 => vs = [.ref f] ∧ H1 = HZ) I ⟨.ref f, hs, rfl, rfl⟩) fun us s2 ⟨vs, H2, I2, r, q2⟩ => ⟨I2.kIn, ?_⟩) (by rfl) (by rfl)
  obtain ⟨ev, eH⟩ := q2
  subst ev
  rw [eH] at I2
  have eu : us = [Value.ref f] := by
    cases r with
    | cons r0 rr =>
      cases rr
      obtain rfl := (show _ = Value.ref f from r0)
      rfl
  subst eu
  have un : Un (frs outer) [] H HZ s.heap s2.heap := I2.base
  have lt2 : s.heap.objs.size ≤ s2.heap.objs.size := I2.sz
  have nfr : f ∉ frs (envOfC x sg s.heap.objs.size g cdg :: outer) := fun z => by
    unfold frs at z
    rw [List.filterMap_cons] at z
    have z' : f ∈ s.heap.objs.size :: frs outer := z
    rcases List.mem_cons.mp z' with e | e
    · exact absurd hfs (by rw [e]; exact Nat.lt_irrefl _)
    · exact hfo e
  have rc := G.run q (A.deeper (envOfC x sg s.heap.objs.size g cdg)) (envOfC x sg s.heap.objs.size g cdg :: outer) f c' s2 HZ Q tl hr I2.env0 (act.later un hfo) nfr (Nat.lt_of_lt_of_le hfs lt2) hc hT
  refine wpAny_call (codeAny_mono rc fun r s3 hq => ?_)
  cases r with
  | error e => exact (show False from hq).elim
  | ok fl =>
    cases fl with
    | ret u => exact I2.after hq
    | next => exact False.elim hq
    | brk => exact False.elim hq
    | cont => exact False.elim hq
end Xh
end
section
set_option Elab.async false
set_option linter.all false
set_option maxRecDepth 100000
set_option maxHeartbeats 2000000
namespace Xh
open PySem PySem.Spec PyProof.Rows L2
/-- a def of the module, called by its name: its promise, its defaults -/
structure Own (P : Program) (w : World) (K : PySem.W.Frag) (mg : Str → Option Value) (base : Heap) (CX : CXT) (k : Nat) (x : Str) (ps : List Str) (dvs : List V) (sp : Sp) : Prop where
  ex : ∃ (f : Addr) (fd : FuncData) (ds : List Value), FnOk P w K mg base CX k f fd ps sp ∧ mg x = some (.ref f) ∧ PySem.W.keepIn K (.ref f) = true ∧ Binds K fd ps ds ∧ Vals dvs ds
/-- .. called with its last parameter by keyword -/
structure OwnK (P : Program) (w : World) (K : PySem.W.Frag) (mg : Str → Option Value) (base : Heap) (CX : CXT) (k n : Nat) (x : Str) (ps ks : List Str) (sp : Sp) : Prop where
  ex : ∃ (f : Addr) (fd : FuncData), FnOk P w K mg base CX k f fd ps sp ∧ mg x = some (.ref f) ∧ PySem.W.keepIn K (.ref f) = true ∧ KBn K fd ps n ks (fun us ws => us ++ ws) (fun vs zs => vs ++ zs)
section
variable {P : Program} {w : World} {K : PySem.W.Frag} {mg : Str → Option Value} {base : Heap} {CX : CXT} {j k n : Nat} {x : Str} {ps ks : List Str} {dvs : List V} {sp sp' : Sp}
theorem Own.mono (O : Own P w K mg base CX j x ps dvs sp) (h : j ≤ k) : Own P w K mg base CX k x ps dvs sp := by
  obtain ⟨f, fd, ds, F, m, kp, b, r⟩ := O.ex
  exact ⟨f, fd, ds, F.mono h, m, kp, b, r⟩
theorem OwnK.mono (O : OwnK P w K mg base CX j n x ps ks sp) (h : j ≤ k) : OwnK P w K mg base CX k n x ps ks sp := by
  obtain ⟨f, fd, F, m, kp, b⟩ := O.ex
  exact ⟨f, fd, F.mono h, m, kp, b⟩
theorem own_of {q : Str} {params : Arguments} {body : List Stmt} {scope : Scope} {f : Addr} {fd : FuncData} (F : FunD K x q params body scope [] [] f fd) (G : FnOk P w K mg base CX k f fd ps sp) (m : mg x = some (.ref f))
    (h : ∀ (kV doc pm : Value) (an : Option Addr) (cdv ct : Value) (us : List Value), us.length = ps.length → bindArgs (PySem.W.fnOf x q params body scope .none kV doc pm an cdv ct) ⟨us, []⟩ = pure (ps.zip us)) : Own P w K mg base CX k x ps [] sp :=
  ⟨f, fd, [], G, m, F.kp, FunD.bindsN F h, .nil⟩
theorem own_ofK {q : Str} {params : Arguments} {body : List Stmt} {scope : Scope} {f : Addr} {fd : FuncData} {kws : List (Str × V)} (F : FunD K x q params body scope [] kws f fd) (G : FnOk P w K mg base CX k f fd ps sp) (m : mg x = some (.ref f))
    (h : ∀ (kV doc pm : Value) (an : Option Addr) (cdv ct : Value) (us ws : List Value), us.length = n → ws.length = ks.length → bindArgs (PySem.W.fnOf x q params body scope .none kV doc pm an cdv ct) ⟨us, ks.zip ws⟩ = pure (ps.zip (us ++ ws))) : OwnK P w K mg base CX k n x ps ks sp := by
  have kp := F.kp
  obtain ⟨oc, od, dV, kV, doc, pm, an, cdv, ct, osl, rfl, lk, hcd, hD, hK⟩ := F.ex
  rcases hD with ⟨_, rfl⟩ | ⟨e, _⟩
  · exact ⟨f, _, G, m, kp, ⟨fun s us ws X l1 l2 => .of_eq (h kV doc pm an cdv ct us ws l1 l2), fun r1 r2 => r1.append r2⟩⟩
  · exact absurd rfl e
theorem own_of0 {q : Str} {params : Arguments} {body : List Stmt} {scope : Scope} {f : Addr} {fd : FuncData} {kws : List (Str × V)} (F : FunD K x q params body scope [] kws f fd) (G : FnOk P w K mg base CX k f fd ps sp) (m : mg x = some (.ref f)) (n : Nat) (hk : kws ≠ []) (hn : n + kws.length = ps.length)
    (h : ∀ (D : Addr) (doc pm : Value) (an : Option Addr) (cdv ct : Value) (us ks : List Value), us.length = n → ks.length = kws.length →
      KwChain D ((kws.map (·.1)).zip ks) (bindArgs (PySem.W.fnOf x q params body scope .none (.ref D) doc pm an cdv ct) ⟨us, []⟩) (ps.zip (us ++ ks))) : Own P w K mg base CX k x ps (kws.map (·.2)) sp := by
  obtain ⟨ds, r, b⟩ := FunD.binds0 F n hk hn h
  exact ⟨f, fd, ds, G, m, F.kp, b, r⟩
end
section
variable {X : Cx} {CX : CXT} {k n : Nat} {x : Str} {ps ks : List Str} {dvs : List V} {sp : Sp} {E : XK} {p pos : Pos} {e : Expr} {es : List Expr} {kws : List Keyword} {t tk : TA}
theorem pe_own (O : Own X.prog X.w X.K X.mg X.base CX k x ps dvs sp) (hr : Room k X.A) (hg : Gl X x) (hx : Passes CX X E) (ha : PA X (e :: es) t) (hdb : (x == ("__debug__" : Str)) = false := by decide)
    (he : starEach (e :: es) X.env = (false, eval e X.env) :: starEach es X.env := by rfl) (hpl : (backTo pos (starEach es X.env)).any (·.1) = false := by rfl) : PE X (.Call (.Name x p) (e :: es) [] pos) (tCall sp dvs E t) := by
  obtain ⟨f, fd, ds, F, m, kp, b, r⟩ := O.ex
  exact pe_call F hr hg m kp b r hx ha hdb he hpl
theorem pe_own0 (O : Own X.prog X.w X.K X.mg X.base CX k x ps dvs sp) (hr : Room k X.A) (hg : Gl X x) (hx : Passes CX X E) (hdb : (x == ("__debug__" : Str)) = false := by decide) : PE X (.Call (.Name x p) [] [] pos) (tCall sp dvs E tNil) := by
  obtain ⟨f, fd, ds, F, m, kp, b, r⟩ := O.ex
  exact pe_call0 F hr hg m kp b r hx hdb
theorem pe_ownK (O : OwnK X.prog X.w X.K X.mg X.base CX k n x ps ks sp) (hr : Room k X.A) (hg : Gl X x) (hx : Passes CX X E)
    (ha : PA X (e :: es) t) (hkw : PK X kws tk) (hall : (backToKw pos (keywordEach kws X.env)).all (·.1.isSome) = true := by rfl) (hks : (backToKw pos (keywordEach kws X.env)).filterMap (·.1) = ks := by rfl)
    (hdb : (x == ("__debug__" : Str)) = false := by decide) (he : starEach (e :: es) X.env = (false, eval e X.env) :: starEach es X.env := by rfl)
    (hpl : ((backTo pos (starEach (e :: es) X.env)).any (·.1) || (backToKw pos (keywordEach kws X.env)).any (·.1.isNone)) = false := by rfl) :
    PE X (.Call (.Name x p) (e :: es) kws pos) (tCallN n ks.length sp (fun vs zs => vs ++ zs) E t tk) := by
  obtain ⟨f, fd, F, m, kp, b⟩ := O.ex
  exact pe_callN F hr hg m kp b hx ha hkw hall hks hdb he hpl
end
end Xh
end
section
set_option Elab.async false
set_option linter.all false
set_option maxRecDepth 100000
set_option maxHeartbeats 2000000
namespace Xh
open PySem PySem.Spec PyProof.Rows L2
/-! ### enumerate of a tuple -/
theorem meets_enum1 {v : Value} {o : Obj} {H : Heap → Prop} (B : Begins v o H) :
    Meets (Builtin.«enumerate.__new__» ⟨[.type "enumerate", v], []⟩) (fun _ R s => H s.heap ∧
      R (.ok (.ret (.ref (s.heap.push o).objs.size))) { s with heap := (s.heap.push o).push { cls := .type "enumerate", data := .fields #[.none, .bool false, .ref s.heap.objs.size, rawInt 0, .none, .none] } }) :=
  .of_wp fun prog w A R s h => by
    obtain ⟨hp, g, d, tk, os⟩ := s
    obtain ⟨h1, h⟩ := h
    have hsub := sub_enumerate
    have q1 : ∀ {A' : Around} {E : Value → Shared → Prop} {Q : Value → Shared → Prop}, Q (.ref hp.objs.size) ⟨hp.push o, g, d, tk, os⟩ → wpAny (model prog w) A' (pyIter v) Q E ⟨hp, g, d, tk, os⟩ :=
      fun q => B.iter prog w _ _ ⟨hp, g, d, tk, os⟩ _ h1 q
    wp_walk using q1
    refine wpAny_stack_any fun st => wpAny_pure ?_
    split
    · rename_i c _ _ _ _ _
      cases (c == Value.type "enumerate")
      · wp_walk using q1
        exact ⟨_, rfl, h⟩
      · wp_walk using q1
        exact ⟨_, rfl, h⟩
    · wp_walk using q1
      exact ⟨_, rfl, h⟩
theorem call_enum1 {prog : Program} {w : World} {A : Around} {E : Value → Shared → Prop} {s : Shared} {v : Value} {o : Obj} {H : Heap → Prop} {Q : Value → Shared → Prop} (B : Begins v o H) (h1 : H s.heap)
    (h : ∀ h', IsEnum h' (s.heap.objs.size + 1) s.heap.objs.size 0 .none → h'.get? s.heap.objs.size = some o → h'.objs.size = s.heap.objs.size + 2 →
      (∀ b o, s.heap.get? b = some o → h'.get? b = some o) → Q (.ref (s.heap.objs.size + 1)) { s with heap := h' }) :
    wpAny (model prog w) A (call (.type "enumerate") [v]) Q E s := by
  refine callType_new F.called_enumerate (by decide) (F.typeCall_enumerate_1 _) (F.newCall_enumerate_1 _) (fun obj => F.args_object_init_2 obj _) F.entry_enumerate_new (meets_enum1 B) ⟨h1, ?_⟩
  have hz : (s.heap.push o).objs.size = s.heap.objs.size + 1 := Heap.size_push ..
  show _ ∧ _
  rw [hz]
  have he := Heap.get?_push_size (s.heap.push o) (o := { cls := .type "enumerate", data := .fields #[.none, .bool false, .ref s.heap.objs.size, rawInt 0, .none, .none] }) rfl
  rw [hz] at he
  exact ⟨⟨_, he, rfl⟩, h _ he (Heap.get?_push_of_some _ (Heap.get?_push_size _ B.free)) (by rw [Heap.size_push, hz]) fun b o x => Heap.get?_push_of_some _ (Heap.get?_push_of_some _ x)⟩
/-- the tuple at a, each item in a new pair with its place -/
def IteT (K : PySem.W.Frag) (a : Addr) : It :=
  ⟨fun i H => ∃ (xs : List V) (x : V), SqT K H a xs ∧ xs[i]? = some x, fun i H v H' => ∃ T x, v = .ref T ∧ H T = none ∧ H' = upd H T (.tup [.int (i : Nat), x]) ∧ ∀ xs, SqT K H a xs → xs[i]? = some x, fun i H => ∃ xs : List V, SqT K H a xs ∧ xs.length ≤ i⟩
theorem next_enum_endT {prog : Program} {w : World} {A : Around} {E : Value → Shared → Prop} {s : Shared} {e it l : Addr} {i : Nat} {items : Array Value} {c : Int} {old : Value} {Q : Option Value → Shared → Prop} (hh : A.handled = none)
    (he : IsEnum s.heap e it c old) (hit : s.heap.IsTupleIter it l i) (hl : s.heap.IsTuple l items) (hx : items[i]? = none) (hQ : ∀ h', Heap.ExtBut it s.heap h' → Q none { s with heap := h' }) : wpAny (model prog w) A (pyNext (.ref e)) Q E s := by
  unfold pyNext
  refine wpAny_bind (wpAny_attempt (wpAny_callSpecial?_slot (name := Str.ofString "__next__") ⟨_, he, rfl⟩ F.slot_enumerate_next (wpAny_call_entry F.slot_enumerate_next ⟨_, he, rfl⟩ F.entry_enumerate_next ?_ (F.args_enumerate_next_1 _))))
  show wpAny _ _ (field (.ref e) 2 >>= _) _ _ _
  refine wpAny_bind (wpAny_field he rfl (x := .ref it) rfl (wpAny_bind (wpAny_nextOf_tuple_end hh hit hl hx fun h' x he' hx' => ?_)))
  obtain ⟨o, ho, hc⟩ := hx'
  exact wpAny_bind (wpAny_isInstance (T := "StopIteration") (b := true) ⟨o, ho, hc⟩ isSubtype_stop (wpAny_pure (hQ _ he')))
theorem turn_enumT {P : Program} {w : World} {K : PySem.W.Frag} {elts : List Expr} {kk : Nat} {tpos : Pos} {a e it : Addr} (hai : a ≠ it) (hea : e ≠ a) :
    Turn P w K (.Tuple elts kk tpos) (IteT K a) [e, it] e (fun i h => (∃ old, IsEnum h e it ((i : Nat) : Int) old) ∧ h.IsTupleIter it a i ∧ e ≠ it) where
  mem := by simp
  obj := fun i h st b hb => by
    obtain ⟨⟨old, he⟩, ⟨o, ho, hc, hd⟩, _⟩ := st
    rcases (show b = e ∨ b = it by simpa using hb) with rfl | rfl
    · exact ⟨_, he, fun v q => nomatch q⟩
    · exact ⟨o, ho, fun v q => by rw [hd] at q; cases q⟩
  keep := fun i h h' st k => let ⟨⟨old, he⟩, hi, hne⟩ := st; ⟨⟨old, k e (by simp) _ he⟩, hi.at fun o q => k it (by simp) o q, hne⟩
  item := by
    intro X hP hw hK hc i pins s σ H E I hf st hg
    subst hP hw hK
    obtain ⟨⟨old, he⟩, hit, hne⟩ := st
    obtain ⟨xs, x, hq, hx⟩ := hg
    obtain ⟨its, rv, p, hz⟩ := I.tuple hq
    obtain ⟨u, hu, ru⟩ := rv.get hx
    have hel : e < s.heap.objs.size := Heap.lt_size he
    have hil : it < s.heap.objs.size := by obtain ⟨_, q, _⟩ := hit; exact Heap.lt_size q
    have hlt : i < its.toArray.size := by
      obtain ⟨z, _⟩ := List.getElem?_eq_some_iff.mp hu
      simpa using z
    have D := Draws.tuple (prog := X.prog) (w := X.w) (A := X.A.in1) (I.ok.hd hc) it a hai its.toArray
    refine wpAny_pyNext_enum_itemD D he ⟨hit, p⟩ hlt hne (by simp [hne, hea]) fun x' h' tk hx' ho hs' hT hsz hk => ?_
    have ex : x' = u := by
      have z : its[i]? = some x' := by simpa using hx'
      rw [hu] at z
      exact (Option.some.inj z).symm
    subst ex
    refine ⟨_, rfl, wpAny_letOwnedTupleGo_enum (s := { s with heap := h', toks := tk + 1 }) ho fun h'' he' sb => ?_⟩
    have hT2 := (sb.2 _ (Nat.ne_of_gt hel)).trans hT
    have new : ObjOk X.prog X.w (upd H s.heap.objs.size (.tup [.int (i : Nat), x])) h'' s.heap.objs.size (.tup [.int (i : Nat), x]) :=
      ⟨by show 2 ≤ sizeLine; decide, [.int i tk, x'], .cons ⟨_, rfl⟩ (.cons ru .nil), ⟨_, hT2, rfl, _, rfl⟩⟩
    have I1 : Inv X pins σ (upd H s.heap.objs.size (.tup [.int (i : Nat), x])) { s with heap := h'', toks := tk + 1 } :=
      I.turnedNew (ch := [e, it]) (fun b ob hb q => (sb.2 b (fun z => hb (by simp [z]))).trans (hk b ob (fun z => hb (by simp [z])) (fun z => hb (by simp [z])) q)) hf (Nat.le_refl _) new
    refine ⟨.ref s.heap.objs.size, _, I1, rfl, ⟨_, x, rfl, I.hok.fresh (Nat.le_refl _), rfl, fun ys hy => by rw [I.tuple_inj hy hq]; exact hx⟩, ⟨⟨x', ?_⟩, hs'.1.at fun o q => (sb.2 it (Ne.symm hne)).trans q, hne⟩, fun b hb => ?_⟩
    · rw [show ((i + 1 : Nat) : Int) = (i : Int) + 1 by omega]
      exact he'
    · have hb' : b < s.heap.objs.size := by
        rcases (show b = e ∨ b = it by simpa using hb) with rfl | rfl
        · exact hel
        · exact hil
      rw [upd_ne (Nat.ne_of_lt hb')]
      exact (hf b hb).1
  done := by
    intro X hP hw hK hc i pins s σ H E I hf st hg
    subst hP hw hK
    obtain ⟨⟨old, he⟩, hit, hne⟩ := st
    obtain ⟨xs, hq, hx⟩ := hg
    obtain ⟨its, rv, p, hz⟩ := I.tuple hq
    obtain ⟨f0, f1, f2, f3, f4, f5⟩ := hf it (by simp)
    have hl := rv.length
    exact next_enum_endT (I.ok.hd hc) he hit p (by simp; omega) fun h' eb => ⟨rfl, I.turned (t' := s.toks) (fun b o hb q => eb b o hb q) f0 f1 f3 f4 f5⟩
  self := fun A i s Q E st h => let ⟨⟨_, he⟩, _⟩ := st; wpAny_pyIter_enum he h
def iEnT (K : PySem.W.Frag) (ta : TA) : TI := fun σ H R => ta σ H fun vs H1 => ∃ a xs, vs = [.ref a] ∧ SqT K H1 a xs ∧ R (IteT K a) H1
theorem pi_enT {X : Cx} {e : Expr} {ta : TA} {p pos tpos : Pos} {elts : List Expr} {kk : Nat} (hg : Gl X "enumerate") (hm : X.mg "enumerate" = none) (ha : PA X [e] ta) (hs : starEach [e] X.env = [(false, eval e X.env)] := by rfl) :
    PI X (.Tuple elts kk tpos) (.Call (.Name "enumerate" p) [e] [] pos) (iEnT X.K ta) := by
  refine ⟨fun pins s σ H R I h => ?_⟩
  refine Call_ (ld_blt I hg hm boot_enumerate (PyProof.Rows.callWith_type1 (thn (ha.run pos pins s σ H _ I h) fun us s1 ⟨vs, H1, I1, r1, q1⟩ => ?_) hs rfl))
  obtain ⟨a, xs, rfl, hq, q⟩ := q1
  cases r1 with
  | cons r rr =>
    cases rr
    cases r
    obtain ⟨its, rv, p', hz⟩ := I1.tuple hq
    have al : a < s1.heap.objs.size := by
      obtain ⟨o, q', _⟩ := p'
      exact Heap.lt_size q'
    refine call_enum1 (begins_tuple a its.toArray) p' fun h' he hit hsz hk => wpAny_pyIter_enum he ?_
    have I2 : Inv X pins σ H1 { s1 with heap := h' } := I1.kept (t' := s1.toks) hk
    refine ⟨s1.heap.objs.size + 1, [s1.heap.objs.size + 1, s1.heap.objs.size], _, _, H1, rfl, I2, turn_enumT (Nat.ne_of_lt al) (Nat.ne_of_gt (Nat.lt_succ_of_lt al)), ⟨⟨.none, he⟩, ⟨_, hit, rfl, rfl⟩, Nat.succ_ne_self _⟩, fun b hb => ?_, q⟩
    have hle : s1.heap.objs.size ≤ b := by
      rcases (show b = s1.heap.objs.size + 1 ∨ b = s1.heap.objs.size by simpa using hb) with rfl | rfl
      · exact Nat.le_add_right _ _
      · exact Nat.le_refl _
    exact I1.fpOk hle (I1.hok.fresh hle)
theorem walk_enT {K : PySem.W.Frag} {a : Addr} {xs : List V} : Walk (IteT K a) xs.length (fun H => SqT K H a xs) (YPair (fun i => some (.int (i : Nat))) (fun i => xs[i]?)) :=
  ⟨fun i H hi h => ⟨xs, xs[i], h, by simp [hi]⟩, fun H h => ⟨xs, h, Nat.le_refl _⟩,
    fun i H x H' hi h y => by
      obtain ⟨T, u, e1, e2, e3, q⟩ := y
      exact ⟨T, _, u, e1, e2, e3, rfl, q xs h⟩⟩
end Xh
namespace Xh
open PySem PySem.Spec PyProof.Rows L2
/-- xs[i] of a list, i not below 0, for `xs[i] op= e` -/
theorem get_list {X : Cx} : PGet X (rIxL X.K) := by
  intro pins s σ H o i ov iv Q I ro ri h
  obtain ⟨p, xs, k, z, rfl, rfl, hq, he, q⟩ := h
  cases ro
  obtain ⟨t, rfl⟩ := ri
  obtain ⟨its, r, pl, hz⟩ := I.list hq
  obtain ⟨j, h1, h2, h3, h4, h5⟩ := atI_get he
  obtain ⟨w, ew, rw'⟩ := r.get h2
  have hl := r.length
  have hn := line63
  have fin : EP X pins σ Q w s := ⟨z, H, I, rw', q⟩
  by_cases h0 : 0 ≤ k
  · have hj : k.toNat = j := by
      rw [seqIndex_of h0 h5] at h1
      exact Option.some.inj h1
    exact wpAny_getItem_list pl.isList h0 (by omega) (by rw [hj]; simpa using ew) fin
  · have hj : (k + (its.toArray.size : Int)).toNat = j := by
      rw [seqIndex_neg (by omega) h4] at h1
      rw [List.size_toArray, ← hl]
      exact Option.some.inj h1
    exact wpAny_getItem_list_neg pl.isList (by omega) (by rw [List.size_toArray] <;> omega) (by omega) (by rw [hj]; simpa using ew) fin
end Xh
end
section
set_option Elab.async false
set_option linter.all false
set_option maxRecDepth 100000
set_option maxHeartbeats 2000000
/-! a lambda as a thing that is handed about: with parameters, kept, called in another def -/
namespace Xh
open PySem PySem.Spec PyProof.Rows L2 LamX NdefX
/-- at f stands the lambda of the words F and the body b -/
def LamO (f : Addr) (F : NF) (b : Expr) : HO := .ext fun h => ∃ pm ctv : Value, h.get? f = some (PySem.W.kla_obj "<lambda>" F.qual F.params b F.scope F.cl pm F.c ctv)
theorem lamO_ne {f : Addr} {F : NF} {b : Expr} (ps : Array Value) : LamO f F b ≠ .tbl ps := fun z => by
  unfold LamO at z
  cases z
theorem lamO_at {P : Program} {w : World} {H : Hp} {h : Heap} {f : Addr} {F : NF} {b : Expr} (hok : HOk P w H h) (e : H f = some (LamO f F b)) : ∃ pm ctv : Value, h.get? f = some (PySem.W.kla_obj "<lambda>" F.qual F.params b F.scope F.cl pm F.c ctv) := (hok f _ e).1
/-- all but the tables stays, nothing tracked is lost, the tables are tables -/
structure Gr (T : List (Addr × Str)) (H H' : Hp) : Prop where
  x : ExtN H H'
  n : ∀ b, H' b = none → H b = none
  t : Tabs T H'
section
variable {T : List (Addr × Str)} {H H1 H2 : Hp}
theorem Gr.refl (t : Tabs T H) : Gr T H H := ⟨ExtN.refl H, fun _ e => e, t⟩
theorem Gr.trans (a : Gr T H H1) (b : Gr T H1 H2) : Gr T H H2 := ⟨a.x.trans b.x, fun c e => a.n c (b.n c e), b.t⟩
theorem Gr.of (t : Tabs T H) (s : Same H H1) : Gr T H H1 := ⟨ExtN.of s, fun b e => s.free e, t.ext s⟩
theorem Gr.same (a : Gr T H H1) (s : Same H1 H2) : Gr T H H2 := a.trans (.of a.t s)
end
section
variable {X : Cx} {pins : List (Addr × Obj)} {σ : L2.St} {H : Hp} {s : Shared}
theorem inv_lamO {F : NF} {b : Expr} {pm ctv : Value} {t' : Nat} (I : Inv X pins σ H s) :
    Inv X pins σ (upd H s.heap.objs.size (LamO s.heap.objs.size F b)) { s with heap := s.heap.push (PySem.W.kla_obj "<lambda>" F.qual F.params b F.scope F.cl pm F.c ctv), toks := t' } := by
  have e : (s.heap.push (PySem.W.kla_obj "<lambda>" F.qual F.params b F.scope F.cl pm F.c ctv)).get? s.heap.objs.size = some (PySem.W.kla_obj "<lambda>" F.qual F.params b F.scope F.cl pm F.c ctv) := Heap.get?_push_size _ rfl
  exact I.laid (fun c u q => Heap.get?_push_of_some _ q) (Nat.le_refl _) ⟨⟨pm, ctv, e⟩, ⟨_, e⟩, fun g1 g2 ⟨u, v, z⟩ st => ⟨u, v, st _ z⟩⟩
/-- the lambda's words, by the maker's context -/
def lamF (X : Cx) (params : Arguments) (scope : Scope) (c' : Addr) : NF := ⟨"<lambda>", X.env.qual ++ "<lambda>", params, [], scope, cloFrom X.env.cells scope.names [], c'⟩
theorem lamV_make {T : List (Addr × Str)} {c P : Addr} {params : Arguments} {body : Expr} {scope : Scope} {pos : Pos} {E : Value → Shared → Prop} {Q : Value → Shared → Prop} (I : Inv X pins σ H s) (TB : TabB X.base X.mg c P) (hcode : X.env.code = .ref c)
    (hm : (P, X.env.qual ++ "<lambda>") ∈ T) (hu : ∀ p ∈ T, p.1 = P → p.2 = X.env.qual ++ "<lambda>") (hT : Tabs T H) (hdef : defaultsOf params X.env = ([], [])) (hfree : ∀ y ∈ scope.names, y.2 = .free → ∃ c, X.env.cells.lookup y.1 = some c)
    (fin : ∀ (f c' : Addr) (H1 : Hp) (s' : Shared), Inv X pins σ H1 s' → Gr T H H1 → H f = none → H1 f = some (LamO f (lamF X params scope c') body) → H1 c' = some (CodeO c' (X.env.qual ++ "<lambda>")) → f ∉ frs X.stack → Q (.ref f) s') :
    wpAny (model X.prog X.w) X.A (eval (.Lambda params body scope pos) X.env) Q E s := by
  obtain ⟨tb, onP, good, known⟩ := hT _ hm
  have inHeap : s.heap.get? P = some { cls := .none, data := .fields tb } := I.hok P _ onP
  have bt : s.heap.BuiltinsAt X.mg P := TB.bm.keeps I.bk
  have off : ∀ f, s.heap.objs.size ≤ f → f ∉ frs X.stack := fun f le z => by
    rcases List.mem_cons.mp (I.stkSub _ z) with e | e
    · exact absurd I.lt (by rw [← e]; exact Nat.not_lt_of_le le)
    · exact I.nofs le e
  refine PySem.W.kla_eval hdef ?_
  cases look : codeAmong pos tb.toList with
  | some cv =>
    obtain ⟨c', rfl, co⟩ := known pos cv look
    refine PySem.W.kla_makeFunctionHit (mg := X.mg) (c := c) (P := P) (ps := tb) (closure_ok hfree) I.ok.glob (I.mod.glob.keeps I.bk) hcode (TB.code.keeps I.bk) inHeap good look bt fun ctv g tk up le => ?_
    have J : Inv X pins σ H { s with heap := g, toks := tk } := I.kept up
    have nw : H g.objs.size = none := J.hok.fresh (Nat.le_refl _)
    have sm : Same H (upd H g.objs.size (LamO g.objs.size (lamF X params scope c') body)) := fun b u e => by rw [upd_ne (ne_of_none e nw)]; exact e
    exact fin g.objs.size c' _ _ (inv_lamO (F := lamF X params scope c') (b := body) (pm := (X.mg "__name__").getD .none) (ctv := ctv) (t' := tk) J) (.of hT sm) nw upd_same (sm _ _ co) (off _ le)
  | none =>
    refine PySem.W.kla_makeFunction (mg := X.mg) (c := c) (P := P) (ps := tb) (closure_ok hfree) I.ok.glob (I.mod.glob.keeps I.bk) hcode (TB.code.keeps I.bk) inHeap good look TB.gP bt fun c' ctv g tk but le lt rec tab => ?_
    obtain ⟨c2, oc, vs, t, e2, g1, g2, g3⟩ := rec
    cases e2
    have nC : H c' = none := I.hok.fresh le
    have J := inv_table (t' := tk) (more := #[rawInt pos.line, rawInt pos.col, .ref c']) (h' := g) I onP (fun b o hb e => but b o hb e) tab le ⟨oc, vs, t, g1, g2, g3⟩
    have ex : ExtN H (upd (upd H P (.tbl (tb ++ #[rawInt pos.line, rawInt pos.col, .ref c']))) c' (CodeO c' (X.env.qual ++ "<lambda>"))) := fun b o e no => by
      have b1 : b ≠ P := fun z => by
        rw [z, onP] at e
        exact no tb (Option.some.inj e).symm
      rw [upd_ne (ne_of_none e nC), upd_ne b1]
      exact e
    have nn : ∀ b, upd (upd H P (.tbl (tb ++ #[rawInt pos.line, rawInt pos.col, .ref c']))) c' (CodeO c' (X.env.qual ++ "<lambda>")) b = none → H b = none := fun b e => upd_none (upd_none e)
    have lst : (tb ++ #[rawInt pos.line, rawInt pos.col, .ref c']).toList = tb.toList ++ [rawInt pos.line, rawInt pos.col, .ref c'] := by simp
    have tabs : Tabs T (upd (upd H P (.tbl (tb ++ #[rawInt pos.line, rawInt pos.col, .ref c']))) c' (CodeO c' (X.env.qual ++ "<lambda>"))) := fun p hp => by
      by_cases same : p.1 = P
      · refine ⟨_, by rw [same, upd_ne (ne_of_none onP nC), upd_same], by rw [lst]; exact PySem.TriplesOk_snoc _ _ _ _ good, fun p' cv q => ?_⟩
        rw [lst] at q
        rw [hu p hp same]
        rcases among_app _ good q with z | z
        · obtain ⟨c0, a1, a2⟩ := known p' cv z
          exact ⟨c0, a1, ex _ _ a2 codeO_ne⟩
        · exact ⟨c', z, upd_same⟩
      · obtain ⟨tb2, a1, a2, a3⟩ := hT p hp
        refine ⟨tb2, by rw [upd_ne (ne_of_none a1 nC), upd_ne same]; exact a1, a2, fun p' cv q => ?_⟩
        obtain ⟨c0, d1, d2⟩ := a3 p' cv q
        exact ⟨c0, d1, ex _ _ d2 codeO_ne⟩
    have nw := J.hok.fresh (Nat.le_refl g.objs.size)
    have sm := fun (o : HO) => (show Same _ (upd _ g.objs.size o) from fun b u e => by rw [upd_ne (ne_of_none e nw)]; exact e)
    exact fin g.objs.size c' _ _ (inv_lamO (F := lamF X params scope c') (b := body) (pm := (X.mg "__name__").getD .none) (ctv := ctv) (t' := tk) J) ((Gr.mk ex nn tabs).same (sm _)) (nn _ nw) upd_same (sm _ _ _ upd_same) (off _ (Nat.le_trans le (Nat.le_of_lt lt)))
end
/-- the lambda as a value -/
def tLamV (X : Cx) (T : List (Addr × Str)) (params : Arguments) (scope : Scope) (body : Expr) : TE := fun _ H Q => Tabs T H ∧ ∀ (f c' : Addr) (H1 : Hp), Gr T H H1 → H f = none → H1 f = some (LamO f (lamF X params scope c') body) → H1 c' = some (CodeO c' (X.env.qual ++ "<lambda>")) → f ∉ frs X.stack → Q (.ref f) H1
theorem pe_lamV {X : Cx} {T : List (Addr × Str)} {c P : Addr} {params : Arguments} {body : Expr} {scope : Scope} {pos : Pos} (TB : TabB X.base X.mg c P) (hcode : X.env.code = .ref c) (hm : (P, X.env.qual ++ "<lambda>") ∈ T) (hu : ∀ p ∈ T, p.1 = P → p.2 = X.env.qual ++ "<lambda>")
    (hdef : defaultsOf params X.env = ([], [])) (hfree : ∀ y ∈ scope.names, y.2 = .free → X.env.scope.names.lookup y.1 = some .cell ∨ X.env.scope.names.lookup y.1 = some .free) : PE X (.Lambda params body scope pos) (tLamV X T params scope body) := by
  refine ⟨fun pins s σ H Q I h => ?_⟩
  obtain ⟨hT, h⟩ := h
  have hfr : ∀ y ∈ scope.names, y.2 = .free → ∃ c, X.env.cells.lookup y.1 = some c := fun y hy e => (hfree y hy e).elim (fun z => I.ok.has _ (.inl z)) fun z => I.ok.has _ (.inr z)
  exact lamV_make I TB hcode hm hu hT hdef hfr fun f c' H1 s' J g n e1 e2 e3 => ⟨.ref f, H1, J, rfl, h f c' H1 g n e1 e2 e3⟩
/-! ### its promise -/
structure NOkL (P : Program) (w : World) (K : PySem.W.Frag) (mg : Str → Option Value) (base : Heap) (CX : CXT) (k : Nat) (f : Addr) (F : NF) (b : Expr) (ps fr : List Str) (sp : List (Option V) → Sp) : Prop where
  run : ∀ (A : Around) (outer : List Env) (s : Shared) (H : Hp) (us : List Value) (vs : List V) (ws : List (Option V)) (Q : VK) (E : XK), Room k A → Env0 P w K mg base A outer s H → H f = some (LamO f F b) → H F.c = some (CodeO F.c F.qual) →
    CellsAt F.cl fr ws s.heap H → Vals vs us → sp ws vs H Q E → codeAny (model P w) A (.call (.ref f) ⟨us, []⟩) (CR CX outer P w H s Q E) s
section
variable {CX : CXT} {P : Program} {w : World} {K : PySem.W.Frag} {mg : Str → Option Value} {base : Heap} {N ps fr : List Str} {F : NF} {b : Expr} {f : Addr} {k : Nat} {sp : List (Option V) → Sp}
theorem nokL_of (S : NScope N ps fr F.scope) (hb : ∀ (pm ctv : Value) (us : List Value), us.length = ps.length → bindArgs (PySem.W.kla_fn "<lambda>" F.qual F.params b F.scope F.cl pm (.ref F.c) ctv) ⟨us, []⟩ = pure (ps.zip us)) (len : ∀ ws vs H Q E, sp ws vs H Q E → vs.length = ps.length)
    (hbody : ∀ (A : Around) (outer : List Env) (s : Shared) (H : Hp) (vs : List V) (ws : List (Option V)) (Q : VK) (E : XK), Room k (A.deeper (envF F f s.heap.objs.size)) → ws.length = fr.length → sp ws vs H Q E →
      ∃ t, PE (ncx CX P w K mg base N F f A outer s H E) b t ∧ t (startF N vs ws) H Q) : NOkL P w K mg base CX (k + 1) f F b ps fr sp := by
  refine ⟨fun A outer s H us vs ws Q E room e0 hf hc C r hsp => ?_⟩
  have many := len _ _ _ _ _ hsp
  obtain ⟨pm, ctv, onF⟩ := lamO_at e0.hok hf
  have lim : s.heap.NoLimit := e0.mod.nolimit.keeps fun c o e => (e0.bs c o e).1
  refine PySem.W.kla_callFunE room.depth onF rfl S.co S.gen rfl (codeO_at e0.hok hc) ?_
  rw [hb pm ctv us (by rw [← r.length]; exact many)]
  refine wpAny_pure (wpAny_newFunctionEnv S.nocell (fun ⟨n, _⟩ hy => S.par n (List.of_mem_zip hy).1) (fun h₁ hns hsb => ⟨lim.fresh _ hsb, ?_⟩) S.kind)
  show codeAny _ _ (.expr b (envF F f s.heap.objs.size)) _ _
  have up : ∀ c o, s.heap.get? c = some o → h₁.get? c = some o := fun c o e => hsb.extBut c o (Nat.ne_of_lt (Heap.lt_size e)) (Heap.get?_push_of_some _ e)
  obtain ⟨t, ht, q⟩ := hbody A outer s H vs ws Q E (room.deeper _) C.len hsp
  have I : Inv (ncx CX P w K mg base N F f A outer s H E) [] (startF N vs ws) H { s with heap := h₁, toks := s.toks + (ps.zip us).length } := inv_startN S room.hd e0 many r C hns up
  refine PySem.W.kla_codeExpr (wpAny_mono (ht.run [] _ _ H Q I q) (fun u s' z => ?_) fun e s' z => z)
  obtain ⟨v, H', J, rv, y⟩ := z
  exact ⟨v, H', J.os, J.bare, J.base, J.hok, rv, y⟩
/-- the cells hold what they held -/
theorem cells_on {cl : List (Str × Addr)} {ws : List (Option V)} {fs : List Addr} {H H1 : Hp} {h h1 : Heap} (C : CellsAt cl fr ws h H) (un : Un fs [] H H1 h h1) : CellsAt cl fr ws h1 H1 := by
  have kp : ∀ y c, cl.lookup y = some c → ∀ v, h.IsCell c v → h1.IsCell c v := fun y c e v ⟨o, a1, a2⟩ => by
    obtain ⟨sl, q⟩ := un.any a1 (C.all y c e).1 (fun z => nomatch z)
    exact ⟨_, q, a2⟩
  refine ⟨C.len, fun y c e => ?_, C.inj, fun i y e => ?_⟩
  · obtain ⟨no, v, z⟩ := C.all y c e
    obtain ⟨o, ho, _⟩ := id z
    exact ⟨un.free c o ho no (fun z => nomatch z), v, kp y c e v z⟩
  · obtain ⟨c, a1, a2⟩ := C.has i y e
    refine ⟨c, a1, fun v ev => ?_⟩
    obtain ⟨u, r, z⟩ := a2 v ev
    exact ⟨u, r, kp y c a1 _ z⟩
end
/-- what is known of the thing at f, and of what it does with what its cells hold -/
def spGot (f : Addr) (F : NF) (b : Expr) (ws : List (Option V)) (sp : List (Option V) → Sp) : Sp := fun vs H Q E => H f = some (LamO f F b) ∧ H F.c = some (CodeO F.c F.qual) ∧ sp ws vs H Q E
section
variable {X : Cx} {CX : CXT} {F : NF} {b : Expr} {ps fr : List Str} {ws : List (Option V)} {i j k : Nat} {f : Addr} {x : Str} {sp : List (Option V) → Sp} {E : XK} {t : TA} {e : Expr} {es : List Expr} {p pos : Pos}
/-- x(..), x a name that holds a lambda of another frame -/
theorem pe_callP (Fn : NOkL X.prog X.w X.K X.mg X.base CX k f F b ps fr sp) (C : CellsAt F.cl fr ws X.s_0.heap X.H_0) (hex : X.ex = []) (hr : Room j X.A) (hk : k ≤ j) (hx : Passes CX X E) (hN : X.N[i]? = some x) (hv : Vis X.env.scope x) (ha : PA X (e :: es) t)
    (hd : (x == ("__debug__" : Str)) = false := by decide) (hcd : (x == ("__classdict__" : Str)) = false := by decide)
    (he : starEach (e :: es) X.env = (false, eval e X.env) :: starEach es X.env := by rfl) (hpl : (backTo pos (starEach es X.env)).any (·.1) = false := by rfl) :
    PE X (.Call (.Name x p) (e :: es) [] pos) (fun σ H Q => σ[i]? = some (some (.ref f)) ∧ H f = some (LamO f F b) ∧ t σ H fun vs H1 => spGot f F b ws sp vs H1 Q E) := by
  refine ⟨fun pins s σ H Q I h => ?_⟩
  obtain ⟨hs, hf, ht⟩ := h
  have at_ : ∀ {H : Hp} {s : Shared}, Inv X pins σ H s → H f = some (LamO f F b) → PySem.W.FnAt f s.heap := fun J e => by
    obtain ⟨pm, ctv, o⟩ := lamO_at J.hok e
    exact ⟨_, _, _, _, o⟩
  refine wpAny_Call_Name_kw (thn ((pe_var (pos := p) hN hv hd hcd).run pins s σ H (fun v H1 => v = .ref f ∧ H1 = H) I ⟨.ref f, hs, rfl, rfl⟩) fun u s1 ⟨v, H1, I1, r1, q1⟩ => ?_)
  obtain ⟨ev, eH⟩ := q1
  subst ev
  rw [eH] at I1
  obtain rfl : u = Value.ref f := r1
  refine PySem.W.callWith_F (first := []) (at_ I1 hf) (thn (ha.run pos pins s1 σ H _ I1 ht) fun us s2 ⟨vs, H2, I2, r, h1, h2, q⟩ => ⟨at_ I2 h1, ?_⟩) he hpl
  show wpAny _ _ (call (.ref f) us) _ _ _
  have un := I2.base
  rw [hex] at un
  refine wpAny_call (codeAny_mono (Fn.run X.A X.stack s2 H2 us vs _ Q E (hr.mono hk) I2.env0 h1 h2 (cells_on C un) r q) fun r s' hq => ?_)
  cases r with
  | error e => exact hx pins σ H2 s2 e s' I2 hq
  | ok fl =>
    cases fl with
    | ret u => exact I2.after hq
    | next => exact False.elim hq
    | brk => exact False.elim hq
    | cont => exact False.elim hq
end
/-! ### a def that gets a lambda to call -/
structure GivesV (P : Program) (w : World) (K : PySem.W.Frag) (mg : Str → Option Value) (base : Heap) (k kl : Nat) (x : Str) (g : Addr) (TT : Addr → Sp → Sp) : Prop where
  m : mg x = some (.ref g)
  kp : PySem.W.keepIn K (.ref g) = true
  run : ∀ (A : Around) (outer : List Env) (f : Addr) (F : NF) (b : Expr) (lps fr : List Str) (ws : List (Option V)) (spl : List (Option V) → Sp) (s : Shared) (H : Hp) (us : List Value) (vs : List V) (Q : VK), Room k A → Env0 P w K mg base A outer s H → NOkL P w K mg base CX0 kl f F b lps fr spl → CellsAt F.cl fr ws s.heap H → H f = some (LamO f F b) → Vals vs us → TT f (spGot f F b ws spl) vs H Q E0 →
    codeAny (model P w) A (.call (.ref g) ⟨us, []⟩) (CR CX0 outer P w H s Q E0) s
theorem givesV_of {P : Program} {w : World} {K : PySem.W.Frag} {mg : Str → Option Value} {base : Heap} {k kl : Nat} {x : Str} {g : Addr} {fd : FuncData} {pg : Arguments} {bg : List Stmt} {sg : Scope} {Ng ps : List Str} {TT : Addr → Sp → Sp}
    (F : FunD K x x pg bg sg [] [] g fd) (hm : mg x = some (.ref g)) (Sg : FnScope Ng ps sg)
    (hb : ∀ (kV doc pm : Value) (an : Option Addr) (cdv ct : Value) (us : List Value), us.length = ps.length → bindArgs (PySem.W.fnOf x x pg bg sg .none kV doc pm an cdv ct) ⟨us, []⟩ = pure (ps.zip us))
    (len : ∀ f c vs H Q E, TT f c vs H Q E → vs.length = ps.length)
    (hG : ∀ (cdg : Value) (A : Around) (outer : List Env) (f : Addr) (F : NF) (b : Expr) (lps fr : List Str) (ws : List (Option V)) (spl : List (Option V) → Sp) (s : Shared) (H : Hp) (vs : List V) (Q : VK), Room k (A.deeper (envOfC x sg s.heap.objs.size g cdg)) → NOkL P w K mg base CX0 kl f F b lps fr spl → CellsAt F.cl fr ws s.heap H → H f = some (LamO f F b) → TT f (spGot f F b ws spl) vs H Q E0 →
      ∃ t, PSs (cxOf CX0 P w K mg base Ng x sg g cdg A outer s H E0).nox bg t ∧ t { nx := fun _ H' => Q .non H', rt := Q } (L2.start Ng vs) H) : GivesV P w K mg base (k + 1) kl x g TT := by
  have bd := FunD.bindsN F hb
  refine ⟨hm, F.kp, fun A outer f FF b lps fr ws spl s H us vs Q room e0 Fn C hf r hT => ?_⟩
  have many := len _ _ _ _ _ _ hT
  obtain ⟨oc, od, dV, kV, doc, pm, an, cdv, ct, osl, rfl, lk, hcd, _, _⟩ := F.ex
  refine run_ofS (N := Ng) (ps := ps) (us := us) (vs := vs) lk hcd Sg room e0 (by
      have z := bd s us (e0.mod.kin.keeps fun c o e => (e0.bs c o e).1) (by rw [List.append_nil, ← r.length]; exact many)
      rw [List.append_nil] at z
      exact z) r many fun room' => ?_
  obtain ⟨t, h1, h2⟩ := hG cdv A outer f FF b lps fr ws spl s H vs Q room' Fn C hf hT
  exact ⟨t, h1.nox, h2⟩
/-- g(lambda, ..): the call -/
def tGiveV (mk : Addr → NF) (b : Expr) (js : List Nat) (TT : Addr → Sp → Sp) (sp : List (Option V) → Sp) (t : TA) : TE := fun σ H Q => t σ H fun vs H1 => ∃ f c', H1 f = some (LamO f (mk c') b) ∧ TT f (spGot f (mk c') b (js.map (slotAt σ)) sp) vs H1 Q E0
theorem pe_giveV {X : Cx} {k kl : Nat} {g : Addr} {TT : Addr → Sp → Sp} {mk : Addr → NF} {cl : List (Str × Addr)} {lps fr : List Str} {js : List Nat} {x : Str} {sp : List (Option V) → Sp} {t : TA} {b e : Expr} {es : List Expr} {p pos : Pos}
    (G : GivesV X.prog X.w X.K X.mg X.base k kl x g TT) (Fn : ∀ f c', NOkL X.prog X.w X.K X.mg X.base CX0 kl f (mk c') b lps fr sp) (hcl : ∀ c', (mk c').cl = cl) (cp : X.Ok → Caps X cl fr js) (hr : Room k X.A) (hg : Gl X x) (ha : PA X (e :: es) t)
    (hdb : (x == ("__debug__" : Str)) = false := by decide) (he : starEach (e :: es) X.env = (false, eval e X.env) :: starEach es X.env := by rfl) (hpl : (backTo pos (starEach es X.env)).any (·.1) = false := by rfl) :
    PE X (.Call (.Name x p) (e :: es) [] pos) (tGiveV mk b js TT sp t) := by
  refine ⟨fun pins s σ H Q I h => ?_⟩
  refine wpAny_Call_Name_kw (ld_glob I hg G.m ?_ hdb)
  refine PySem.W.callWith_K (h₀ := X.base) I.ok.mod.kin G.kp (thn (ha.run pos pins s σ H _ I h) fun us s2 ⟨vs, H2, I2, r, q2⟩ => ⟨I2.kIn, ?_⟩) he hpl
  obtain ⟨f, c', h1, hT⟩ := q2
  have C : CellsAt (mk c').cl fr (js.map (slotAt σ)) s2.heap H2 := by
    rw [hcl c']
    exact cells_of I2 (cp I2.ok)
  show wpAny _ _ (call (.ref g) us) _ _ _
  refine wpAny_call (codeAny_mono (G.run X.A X.stack f (mk c') b lps fr _ sp s2 H2 us vs Q hr I2.env0 (Fn f c') C h1 r hT) fun r s3 hq => ?_)
  cases r with
  | error e => exact (show False from hq).elim
  | ok fl =>
    cases fl with
    | ret u => exact I2.after hq
    | next => exact False.elim hq
    | brk => exact False.elim hq
    | cont => exact False.elim hq
/-- a def whose own code object is known -/
theorem FunD_okC {P : Program} {w : World} {K : PySem.W.Frag} {mg : Str → Option Value} {base : Heap} {x qual : Str} {params : Arguments} {body : List Stmt} {scope : Scope} {dvs : List V} {kws : List (Str × V)} {f c : Addr} {fd : FuncData} {CX : CXT} {N ps : List Str} {k : Nat} {sp : Sp} (F : FunD K x qual params body scope dvs kws f fd) (hc : fd.code = .ref c) (S : FnScope N ps scope) (len : ∀ vs H Q E, sp vs H Q E → vs.length = ps.length)
    (hbody : ∀ (A : Around) (outer : List Env) (s : Shared) (H : Hp) (vs : List V) (Q : VK) (E : XK), Room k (A.deeper (envOfC qual scope s.heap.objs.size f (.ref c))) → sp vs H Q E →
      ∃ t, PSs (cxOf CX P w K mg base N qual scope f (.ref c) A outer s H E) body t ∧ t { nx := fun _ H' => Q .non H', rt := Q } (start N vs) H) : FnOk P w K mg base CX (k + 1) f fd ps sp := by
  obtain ⟨oc, od, dV, kV, doc, pm, an, cdv, ct, osl, rfl, lk, hcd, _, _⟩ := F.ex
  obtain rfl : cdv = .ref c := hc
  exact fn_of lk hcd S len fun A outer s H vs Q E hr hsp => hbody A outer s H vs Q E hr hsp
end Xh
end
section
set_option Elab.async false
set_option linter.all false
set_option maxRecDepth 100000
set_option maxHeartbeats 4000000
/-! t * k of a tuple, k from 1: one time is the very tuple -/
namespace Xh
open PySem PySem.Spec PyProof.Rows L2
theorem tup_once (l : Addr) (items : Array Value) (n : Nat) (dd : Option Addr) (sl : Array (Option Value)) (u : Tok) :
    Meets (Builtin.«tuple.__mul__» ⟨[.ref l, .int 1 u], []⟩) (fun _ R s => s.heap.get? l = some { cls := .type "tuple", dict := dd, data := .seq items n, slots := sl } ∧ R (.ok (.ret (.ref l))) s) :=
  .of_wp fun prog w A R s h => by
    obtain ⟨hp, g, d, tk, os⟩ := s
    obtain ⟨hl, h⟩ := h
    have f1 := AutoSeq1.idx_int
    have c0 : (decide ((1 : Int) < -(2 ^ 63)) || decide ((1 : Int) ≥ 2 ^ 63)) = false := by decide
    have c1 : (items.isEmpty || (1 : Int) == 1) = true := by simp
    wp_walk using wpAny_loadPart' hl
    repeat (first
      | (refine wpAny_ite_false (decide_eq_false (by rw [c0]; exact Bool.false_ne_true)) ?_; wp_walk using wpAny_loadPart' hl)
      | (refine wpAny_ite_true (decide_eq_true c1) ?_; wp_walk using wpAny_loadPart' hl))
    exact ⟨_, rfl, h⟩
def rRepP (K : PySem.W.Frag) : R2 := fun x y H Q => ∃ l k xs, x = .ref l ∧ y = .int k ∧ SqT K H l xs ∧ xs ≠ [] ∧ 1 ≤ k ∧ k ≤ 1000 ∧ xs.length ≤ 1000 ∧ (k = 1 → Q (.ref l) H) ∧ (2 ≤ k → ∀ p, H p = none → Q (.ref p) (upd H p (.tup (List.replicate k.toNat xs).flatten)))
theorem op_repP {X : Cx} : OpR X (binaryOp .Mult) (rRepP X.K) := by
  intro pins s σ H x y v u Q I rx ry h
  obtain ⟨l, k, xs, ex, ey, hT, hne, h1, h2, hz, q1, q2⟩ := h
  by_cases hk : k = 1
  · subst hk
    subst ex
    subst ey
    cases rx
    obtain ⟨t, rfl⟩ := ry
    obtain ⟨its, r, ⟨⟨cls, dd, data, sl⟩, ho, hc, n, hd⟩, hs⟩ := I.tuple hT
    simp only at hc hd
    subst hc hd
    exact wpAny_binaryOp_repeat_ref (T := "tuple") (U := "int") (by decide) ⟨_, ho, rfl⟩ (fun s' => typeIs_int s' 1 t) noFill_tuple_mul F.fills_int_mul F.slot_int_rmul repeat_tuple F.slot_int_index.lookup
      (call_meets F.slot_int_rmul (typeIs_int s 1 t) F.entry_int_rmul (F.args_int_rmul_2 _ _) (int_rmul_tuple 1 t l its.toArray n dd sl)
        ⟨ho, rfl, ⟨_, ho, rfl⟩, call_meets F.slot_tuple_mul ⟨_, ho, rfl⟩ F.entry_tuple_mul (F.args_tuple_mul_2 _ _) (tup_once l its.toArray n dd sl t) ⟨ho, ⟨.ref l, H, I, rfl, q1 rfl⟩⟩⟩)
  · exact op_repT pins s σ H x y v u Q I rx ry ⟨l, k, xs, ex, ey, hT, hne, by omega, h2, hz, q2 (by omega)⟩
theorem tup_none (l : Addr) (items : Array Value) (n : Nat) (dd : Option Addr) (sl : Array (Option Value)) (x : Int) (u : Tok) (h0 : x ≤ 0) (h1 : -1000 ≤ x) (ne : items.isEmpty = false) :
    Meets (Builtin.«tuple.__mul__» ⟨[.ref l, .int x u], []⟩) (fun _ R s => s.heap.get? l = some { cls := .type "tuple", dict := dd, data := .seq items n, slots := sl } ∧ R (.ok (.ret (.ref s.heap.objs.size))) { s with heap := s.heap.push { cls := Value.type "tuple", data := Data.seq #[] }, toks := s.toks }) :=
  .of_wp fun prog w A R s h => by
    obtain ⟨hp, g, d, tk, os⟩ := s
    obtain ⟨hl, h⟩ := h
    have f1 := AutoSeq1.idx_int
    have c0 : (decide (x < -(2 ^ 63)) || decide (x ≥ 2 ^ 63)) = false := by rw [decide_eq_false (by omega), decide_eq_false (by omega)]; rfl
    have c1 : (items.isEmpty || x == 1) = false := by rw [ne, Bool.false_or]; exact beq_eq_false_iff_ne.mpr (by omega)
    have c2 : (decide (x ≤ 0) || items.isEmpty) = true := by rw [decide_eq_true h0]; rfl
    wp_walk using wpAny_loadPart' hl
    repeat (first
      | (refine wpAny_ite_false (decide_eq_false (by rw [c0]; exact Bool.false_ne_true)) ?_; wp_walk using wpAny_loadPart' hl)
      | (refine wpAny_ite_false (decide_eq_false (by rw [c1]; exact Bool.false_ne_true)) ?_; wp_walk using wpAny_loadPart' hl)
      | (refine wpAny_ite_true (decide_eq_true c2) ?_; wp_walk using wpAny_loadPart' hl))
    exact ⟨_, rfl, h⟩
def rRepZ (K : PySem.W.Frag) : R2 := fun x y H Q => ∃ l k xs, x = .ref l ∧ y = .int k ∧ SqT K H l xs ∧ xs ≠ [] ∧ -1000 ≤ k ∧ k ≤ 1000 ∧ xs.length ≤ 1000 ∧ (k = 1 → Q (.ref l) H) ∧ (k ≠ 1 → ∀ p, H p = none → Q (.ref p) (upd H p (.tup (List.replicate k.toNat xs).flatten)))
/-- t * k, any k -/
theorem op_repZ {X : Cx} : OpR X (binaryOp .Mult) (rRepZ X.K) := by
  intro pins s σ H x y v u Q I rx ry h
  obtain ⟨l, k, xs, ex, ey, hT, hne, h1, h2, hz, q1, q2⟩ := h
  by_cases hk : k ≤ 0
  · have q := q2 (by omega)
    rw [show k.toNat = 0 by omega] at q
    subst ex
    subst ey
    cases rx
    obtain ⟨t, rfl⟩ := ry
    obtain ⟨its, r, ⟨⟨cls, dd, data, sl⟩, ho, hc, n, hd⟩, hs⟩ := I.tuple hT
    simp only at hc hd
    subst hc hd
    have hi : its.toArray.isEmpty = false := by
      cases its with
      | nil =>
        have := r.length
        exact absurd (List.eq_nil_of_length_eq_zero this) hne
      | cons a b => rfl
    refine wpAny_binaryOp_repeat_ref (T := "tuple") (U := "int") (by decide) ⟨_, ho, rfl⟩ (fun s' => typeIs_int s' k t) noFill_tuple_mul F.fills_int_mul F.slot_int_rmul repeat_tuple F.slot_int_index.lookup
      (call_meets F.slot_int_rmul (typeIs_int s k t) F.entry_int_rmul (F.args_int_rmul_2 _ _) (int_rmul_tuple k t l its.toArray n dd sl)
        ⟨ho, rfl, ⟨_, ho, rfl⟩, call_meets F.slot_tuple_mul ⟨_, ho, rfl⟩ F.entry_tuple_mul (F.args_tuple_mul_2 _ _) (tup_none l its.toArray n dd sl k t hk h1 hi) ⟨ho, ?_⟩⟩)
    refine ⟨.ref s.heap.objs.size, _, I.laid (t' := s.toks) (o := .tup []) (fun b ob q => Heap.get?_push_of_some _ q) (Nat.le_refl _) ?_, rfl, q _ (I.hok.fresh (Nat.le_refl _))⟩
    exact ⟨Nat.zero_le _, _, .nil, IsTup.new _ _⟩
  · exact op_repP pins s σ H x y v u Q I rx ry ⟨l, k, xs, ex, ey, hT, hne, by omega, h2, hz, q1, fun h => q2 (by omega)⟩
end Xh
end
section
set_option Elab.async false
set_option linter.all false
set_option maxRecDepth 100000
set_option maxHeartbeats 1000000
/-! zip of a tuple and a list -/
namespace Xh
open PySem PySem.Spec PyProof.Rows L2
/-- a tuple's items beside a list's, as they stand -/
def ItTL (K : PySem.W.Frag) (a b : Addr) : It where
  go i H := ∃ (xs ys : List V) (x y : V), SqT K H a xs ∧ SqL K H b ys ∧ xs[i]? = some x ∧ ys[i]? = some y
  yld i H v H' := ∃ T x y, v = .ref T ∧ H T = none ∧ H' = upd H T (.tup [x, y]) ∧ (∀ xs, SqT K H a xs → xs[i]? = some x) ∧ ∀ ys, SqL K H b ys → ys[i]? = some y
  stop i H := ∃ xs ys : List V, SqT K H a xs ∧ SqL K H b ys ∧ i = min xs.length ys.length
theorem sepTL {z TI TO i1 i2 a b : Addr} (D : ZipApart z TI TO i1 i2 a b) : ZipSep2 z TI TO i1 i2 [i1, a] [i2, b] where
  TIz := D.TIz
  TOz := D.TOz
  TITO := D.TITO
  TIi1 := D.TIi1
  TIi2 := D.TIi2
  mem1 := List.mem_cons_self
  mem2 := List.mem_cons_self
  zf1 := by simp [D.i1z.symm, D.l1z.symm]
  zf2 := by simp [D.i2z.symm, D.l2z.symm]
  Tf1 := by simp [D.TOi1, D.l1TO.symm]
  Tf2 := by simp [D.TOi2, D.l2TO.symm]
  sep1_2 := by simp [D.i12, D.l2i1.symm]
  sep2_1 := by simp [D.i12.symm, D.l1i2.symm]
/-- how a zip of the two stands -/
structure StTL (a b z TI TO i1 i2 : Addr) (i : Nat) (h : Heap) : Prop where
  z0 : IsZip h z TI TO .none
  ti : IsTupOf2 h TI (.ref i1) (.ref i2)
  to_ : ∃ x y, IsTupOf2 h TO x y
  i1 : h.IsTupleIter i1 a i
  i2 : h.IsListIter i2 b i
theorem StTL.cell {a b z TI TO i1 i2 : Addr} {i : Nat} {h : Heap} (S : StTL a b z TI TO i1 i2 i h) {c : Addr} (hc : c ∈ [z, TI, TO, i1, i2]) : ∃ o, h.get? c = some o ∧ ∀ v, o.data ≠ .cell v := by
  obtain ⟨x, y, h3⟩ := S.to_
  obtain ⟨o1, e1, _, d1⟩ := S.i1
  obtain ⟨o2, e2, _, d2⟩ := S.i2
  simp only [List.mem_cons, List.not_mem_nil, or_false] at hc
  rcases hc with rfl | rfl | rfl | rfl | rfl
  · exact ⟨_, S.z0, fun v q => nomatch q⟩
  · exact ⟨_, S.ti, fun v q => nomatch q⟩
  · exact ⟨_, h3, fun v q => nomatch q⟩
  · exact ⟨o1, e1, fun v q => by rw [d1] at q; cases q⟩
  · exact ⟨o2, e2, fun v q => by rw [d2] at q; cases q⟩
theorem turnTL {P : Program} {w : World} {K : PySem.W.Frag} {elts : List Expr} {kk : Nat} {tpos : Pos} {a b z TI TO i1 i2 : Addr} (D : ZipApart z TI TO i1 i2 a b) :
    Turn P w K (.Tuple elts kk tpos) (ItTL K a b) [z, TI, TO, i1, i2] z (StTL a b z TI TO i1 i2) where
  mem := List.mem_cons_self
  obj i h st c hc := st.cell hc
  keep i h h' st k := by
    obtain ⟨x, y, h3⟩ := st.to_
    exact ⟨k z (by simp) _ st.z0, k TI (by simp) _ st.ti, ⟨x, y, k TO (by simp) _ h3⟩, st.i1.at fun o q => k i1 (by simp) o q, st.i2.at fun o q => k i2 (by simp) o q⟩
  item := by
    rintro X rfl rfl rfl hc i pins s σ H E I hf st ⟨xs, ys, x, y, qa, qb, ex, ey⟩
    obtain ⟨us, rv, pa, _⟩ := I.tuple qa
    obtain ⟨vs, rw', pb, _⟩ := I.list qb
    obtain ⟨u, hu, ru⟩ := rv.get ex
    obtain ⟨v, hv, rv2⟩ := rw'.get ey
    have hh : X.A.in1.handled = none := I.ok.hd hc
    have D1 := Draws.tuple (prog := X.prog) (w := X.w) hh i1 a D.l1i1 us.toArray
    have D2 := Draws.list (prog := X.prog) (w := X.w) hh i2 b D.l2i2 vs.toArray
    obtain ⟨x0, y0, h3⟩ := st.to_
    have l1 : i < us.toArray.size := by
      rw [List.size_toArray]
      exact (List.getElem?_eq_some_iff.mp hu).1
    have l2 : i < vs.toArray.size := by
      rw [List.size_toArray]
      exact (List.getElem?_eq_some_iff.mp hv).1
    have zl : z < s.heap.objs.size := Heap.lt_size st.z0
    refine wpAny_pyNext_zipD2_item (sepTL D) D1 D2 st.z0 st.ti h3 ⟨st.i1, pa⟩ ⟨st.i2, pb.isList⟩ l1 l2 fun x1 x2 h' tk p1 p2 b1 b2 s1 s2 b5 sz hk => ?_
    have e1 : x1 = u := by
      have q : us.toArray[i]? = some x1 := p1
      rw [List.getElem?_toArray, hu] at q
      exact (Option.some.inj q).symm
    have e2 : x2 = v := by
      have q : vs.toArray[i]? = some x2 := p2
      rw [List.getElem?_toArray, hv] at q
      exact (Option.some.inj q).symm
    subst e1 e2
    refine ⟨_, rfl, wpAny_letOwnedTupleGo_zip (s := { s with heap := h', toks := tk }) b1 fun h2 z2 sb => ?_⟩
    have hT : h2.get? s.heap.objs.size = some { cls := .type "tuple", data := .seq #[x1, x2] } := (sb.2 _ (Nat.ne_of_gt zl)).trans b5
    have new : ObjOk X.prog X.w (upd H s.heap.objs.size (.tup [x, y])) h2 s.heap.objs.size (.tup [x, y]) := ⟨by show 2 ≤ sizeLine; decide, [x1, x2], .cons ru (.cons rv2 .nil), ⟨_, hT, rfl, _, rfl⟩⟩
    have I1 : Inv X pins σ (upd H s.heap.objs.size (.tup [x, y])) { s with heap := h2, toks := tk } :=
      I.turnedNew (t' := tk) (ch := [z, TI, TO, i1, i2]) (fun c o hb q => (sb.2 c fun e => hb (by simp [e])).trans (hk c o (fun e => hb (by simp [e])) (fun e => hb (by simp [e])) (fun e => hb (by simp [e])) (fun e => hb (by simp [e])) q)) hf (Nat.le_refl _) new
    refine ⟨.ref s.heap.objs.size, _, I1, rfl, ⟨_, x, y, rfl, I.hok.fresh (Nat.le_refl _), rfl, fun l hl => by rw [I.tuple_inj hl qa]; exact ex, fun l hl => by rw [I.list_inj hl qb]; exact ey⟩,
      ⟨z2, (sb.2 _ D.TIz).trans (hk _ _ D.TIz D.TITO D.TIi1 D.TIi2 st.ti), ⟨x1, x2, (sb.2 _ D.TOz).trans b2⟩, s1.1.at fun o q => (sb.2 _ D.i1z).trans q, s2.1.at fun o q => (sb.2 _ D.i2z).trans q⟩, fun c hcm => ?_⟩
    obtain ⟨o, ho, _⟩ := st.cell hcm
    rw [upd_ne (Nat.ne_of_lt (Heap.lt_size ho))]
    exact (hf c hcm).1
  done := by
    rintro X rfl rfl rfl hc i pins s σ H E I hf st ⟨xs, ys, qa, qb, hend⟩
    obtain ⟨us, rv, pa, _⟩ := I.tuple qa
    obtain ⟨vs, rw', pb, _⟩ := I.list qb
    have hh : X.A.in1.handled = none := I.ok.hd hc
    have D1 := Draws.tuple (prog := X.prog) (w := X.w) hh i1 a D.l1i1 us.toArray
    have D2 := Draws.list (prog := X.prog) (w := X.w) hh i2 b D.l2i2 vs.toArray
    obtain ⟨x0, y0, h3⟩ := st.to_
    have l1 := rv.length
    have l2 := rw'.length
    refine wpAny_pyNext_zipD2_end (sepTL D) D1 D2 st.z0 st.ti h3 ⟨st.i1, pa⟩ ⟨st.i2, pb.isList⟩ (by rw [List.size_toArray]; omega) (by rw [List.size_toArray]; omega) (by rw [List.size_toArray, List.size_toArray]; omega) fun h' tk hk => ⟨rfl, ?_⟩
    exact I.turnedL (t' := tk) (ch := [z, TI, TO, i1, i2]) (fun c o hb q => hk c o (fun e => hb (by simp [e])) (fun e => hb (by simp [e])) (fun e => hb (by simp [e])) (fun e => hb (by simp [e])) q) hf
  self A i s Q E st h := wpAny_pyIter_zip st.z0 h
/-- zip(a tuple, a list) -/
def iZipTL (K : PySem.W.Frag) (ta : TA) : TI := fun σ H R => ta σ H fun vs H1 => ∃ a b xs ys, vs = [.ref a, .ref b] ∧ SqT K H1 a xs ∧ SqL K H1 b ys ∧ R (ItTL K a b) H1
theorem pi_zipTL {X : Cx} {e e2 : Expr} {ta : TA} {p pos tpos : Pos} {elts : List Expr} {kk : Nat} (hg : Gl X "zip") (hm : X.mg "zip" = none) (ha : PA X [e, e2] ta)
    (hs : starEach [e, e2] X.env = (false, eval e X.env) :: starEach [e2] X.env := by rfl) (hpl : (backTo pos (starEach [e2] X.env)).any (·.1) = false := by rfl) : PI X (.Tuple elts kk tpos) (.Call (.Name "zip" p) [e, e2] [] pos) (iZipTL X.K ta) := by
  refine ⟨fun pins s σ H R I h => Call_ (ld_blt I hg hm PyProof.Rows.boot_zip (PyProof.Rows.callWith_type1 (thn (ha.run pos pins s σ H _ I h) fun us s1 ⟨vs, H1, I1, r1, q1⟩ => ?_) hs hpl))⟩
  obtain ⟨a, b, xs, ys, rfl, qa, qb, q⟩ := q1
  obtain ⟨u1, u2, rfl, ra, rb⟩ : ∃ u1 u2, us = [u1, u2] ∧ RelV (.ref a) u1 ∧ RelV (.ref b) u2 := by
    cases r1 with
    | cons r rr => cases rr with
      | cons r' rr =>
        cases rr
        exact ⟨_, _, rfl, r, r'⟩
  cases ra
  cases rb
  obtain ⟨us, rv, pa, _⟩ := I1.tuple qa
  obtain ⟨vs, rw', pb, _⟩ := I1.list qb
  obtain ⟨oa, ga, _⟩ := id pa
  have fr : ∀ c, s1.heap.objs.size ≤ c → FpOk X pins H1 c := fun c hc => I1.fpOk hc (I1.hok.fresh hc)
  refine zip_begins2 (begins_tuple a us.toArray) (begins_list b vs.toArray) pa pb.isList fun h' hz hTI hTO h1 h2 hsz hk => wpAny_pyIter_zip hz ?_
  have I2 : Inv X pins σ H1 { s1 with heap := h' } := I1.kept (t' := s1.toks) hk
  refine ⟨s1.heap.objs.size + 4, [s1.heap.objs.size + 4, s1.heap.objs.size + 2, s1.heap.objs.size + 3, s1.heap.objs.size, s1.heap.objs.size + 1], _, _, H1, rfl, I2, turnTL (PySem.W.ktu_apart s1.heap.objs.size a b (Heap.lt_size ga) pb.lt), ⟨hz, hTI, ⟨_, _, hTO⟩, ⟨_, h1, rfl, rfl⟩, ⟨_, h2, rfl, rfl⟩⟩, fun c hc => fr c ?_, q⟩
  simp only [List.mem_cons, List.not_mem_nil, or_false] at hc
  rcases hc with e | e | e | e | e <;> (rw [e]; first | exact Nat.le_add_right _ _ | exact Nat.le_refl _)
theorem walk_zipTL {K : PySem.W.Frag} {a b : Addr} {xs ys : List V} {n : Nat} (hn : n = min xs.length ys.length) : Walk (ItTL K a b) n (fun H => SqT K H a xs ∧ SqL K H b ys) (YPair (fun i => xs[i]?) fun i => ys[i]?) where
  goes i H hi q := ⟨xs, ys, xs[i]'(by omega), ys[i]'(by omega), q.1, q.2, List.getElem?_eq_getElem (by omega), List.getElem?_eq_getElem (by omega)⟩
  stops H q := ⟨xs, ys, q.1, q.2, hn⟩
  yields i H v H' _ q y := by
    obtain ⟨T, x, z, h1, h2, h3, h4, h5⟩ := y
    exact ⟨T, x, z, h1, h2, h3, h4 xs q.1, h5 ys q.2⟩
end Xh
end
section
set_option Elab.async false
set_option linter.all false
set_option maxRecDepth 100000
set_option maxHeartbeats 2000000
/-! own classes: a method by its name, a new thing, by what is promised -/
namespace Xh
open PySem PySem.Spec PyProof.Rows L2
/-- a method of the class at C: its promise, its defaults -/
structure OwnM (P : Program) (w : World) (K : PySem.W.Frag) (mg : Str → Option Value) (base : Heap) (CX : CXT) (k : Nat) (C : Addr) (m : Str) (ps : List Str) (dvs : List V) (sp : Sp) : Prop where
  ex : ∃ (f : Addr) (fd : FuncData) (ds : List Value), FnOk P w K mg base CX k f fd ps sp ∧ Meth K C m f ∧ Cls K C ∧ Binds K fd ps ds ∧ Vals dvs ds
/-- the class called x: how a thing of it is made -/
structure OwnC (P : Program) (w : World) (K : PySem.W.Frag) (mg : Str → Option Value) (base : Heap) (CX : CXT) (k : Nat) (x : Str) (C : Addr) (ps : List Str) (dvs : List V) (sp : Sp) : Prop where
  ex : ∃ (f : Addr) (fd : FuncData) (ds : List Value), FnOk P w K mg base CX k f fd ps sp ∧ Mk K C f ∧ mg x = some (.ref C) ∧ Binds K fd ps ds ∧ Vals dvs ds
/-- .. with keywords behind -/
structure OwnCK (P : Program) (w : World) (K : PySem.W.Frag) (mg : Str → Option Value) (base : Heap) (CX : CXT) (k n : Nat) (x : Str) (C : Addr) (ps ks : List Str) (sp : Sp) : Prop where
  ex : ∃ (f : Addr) (fd : FuncData), FnOk P w K mg base CX k f fd ps sp ∧ Mk K C f ∧ mg x = some (.ref C) ∧ KBn K fd ps (n + 1) ks (fun us ws => us ++ ws) (fun vs zs => vs ++ zs)
section
variable {P : Program} {w : World} {K : PySem.W.Frag} {mg : Str → Option Value} {base : Heap} {CX : CXT} {j k n : Nat} {x m : Str} {C : Addr} {ps ks : List Str} {dvs : List V} {sp sp' : Sp}
theorem ownM_of {q : Str} {params : Arguments} {body : List Stmt} {scope : Scope} {f : Addr} {fd : FuncData} (F : FunD K m q params body scope [] [] f fd) (G : FnOk P w K mg base CX k f fd ps sp) (M : Meth K C m f) (c : Cls K C)
    (h : ∀ (kV doc pm : Value) (an : Option Addr) (cdv ct : Value) (us : List Value), us.length = ps.length → bindArgs (PySem.W.fnOf m q params body scope .none kV doc pm an cdv ct) ⟨us, []⟩ = pure (ps.zip us)) : OwnM P w K mg base CX k C m ps [] sp :=
  ⟨f, fd, [], G, M, c, FunD.bindsN F h, .nil⟩
theorem ownM_of0 {q : Str} {params : Arguments} {body : List Stmt} {scope : Scope} {f : Addr} {fd : FuncData} {kws : List (Str × V)} (F : FunD K m q params body scope [] kws f fd) (G : FnOk P w K mg base CX k f fd ps sp) (M : Meth K C m f) (c : Cls K C) (n : Nat) (hk : kws ≠ []) (hn : n + kws.length = ps.length)
    (h : ∀ (D : Addr) (doc pm : Value) (an : Option Addr) (cdv ct : Value) (us ks : List Value), us.length = n → ks.length = kws.length →
      KwChain D ((kws.map (·.1)).zip ks) (bindArgs (PySem.W.fnOf m q params body scope .none (.ref D) doc pm an cdv ct) ⟨us, []⟩) (ps.zip (us ++ ks))) : OwnM P w K mg base CX k C m ps (kws.map (·.2)) sp := by
  obtain ⟨ds, r, b⟩ := FunD.binds0 F n hk hn h
  exact ⟨f, fd, ds, G, M, c, b, r⟩
theorem ownC_of {q : Str} {params : Arguments} {body : List Stmt} {scope : Scope} {f : Addr} {fd : FuncData} (F : FunD K "__init__" q params body scope [] [] f fd) (G : FnOk P w K mg base CX k f fd ps sp) (M : Mk K C f) (c : mg x = some (.ref C))
    (h : ∀ (kV doc pm : Value) (an : Option Addr) (cdv ct : Value) (us : List Value), us.length = ps.length → bindArgs (PySem.W.fnOf "__init__" q params body scope .none kV doc pm an cdv ct) ⟨us, []⟩ = pure (ps.zip us)) : OwnC P w K mg base CX k x C ps [] sp :=
  ⟨f, fd, [], G, M, c, FunD.bindsN F h, .nil⟩
theorem ownC_of0 {q : Str} {params : Arguments} {body : List Stmt} {scope : Scope} {f : Addr} {fd : FuncData} {kws : List (Str × V)} (F : FunD K "__init__" q params body scope [] kws f fd) (G : FnOk P w K mg base CX k f fd ps sp) (M : Mk K C f) (c : mg x = some (.ref C)) (n : Nat) (hk : kws ≠ []) (hn : n + kws.length = ps.length)
    (h : ∀ (D : Addr) (doc pm : Value) (an : Option Addr) (cdv ct : Value) (us ks : List Value), us.length = n → ks.length = kws.length →
      KwChain D ((kws.map (·.1)).zip ks) (bindArgs (PySem.W.fnOf "__init__" q params body scope .none (.ref D) doc pm an cdv ct) ⟨us, []⟩) (ps.zip (us ++ ks))) : OwnC P w K mg base CX k x C ps (kws.map (·.2)) sp := by
  obtain ⟨ds, r, b⟩ := FunD.binds0 F n hk hn h
  exact ⟨f, fd, ds, G, M, c, b, r⟩
theorem ownCK_of {q : Str} {params : Arguments} {body : List Stmt} {scope : Scope} {f : Addr} {fd : FuncData} {kws : List (Str × V)} (F : FunD K "__init__" q params body scope [] kws f fd) (G : FnOk P w K mg base CX k f fd ps sp) (M : Mk K C f) (c : mg x = some (.ref C))
    (h : ∀ (kV doc pm : Value) (an : Option Addr) (cdv ct : Value) (us ws : List Value), us.length = n + 1 → ws.length = ks.length → bindArgs (PySem.W.fnOf "__init__" q params body scope .none kV doc pm an cdv ct) ⟨us, ks.zip ws⟩ = pure (ps.zip (us ++ ws))) : OwnCK P w K mg base CX k n x C ps ks sp := by
  obtain ⟨oc, od, dV, kV, doc, pm, an, cdv, ct, osl, rfl, lk, hcd, hD, hK⟩ := F.ex
  rcases hD with ⟨_, rfl⟩ | ⟨e, _⟩
  · exact ⟨f, _, G, M, c, ⟨fun s us ws X l1 l2 => .of_eq (h kV doc pm an cdv ct us ws l1 l2), fun r1 r2 => r1.append r2⟩⟩
  · exact absurd rfl e
end
section
variable {X : Cx} {CX : CXT} {k n : Nat} {C : Addr} {x m : Str} {ps ks : List Str} {dvs : List V} {sp : Sp} {E : XK} {p pos apos : Pos} {o e : Expr} {es : List Expr} {kws : List Keyword} {ta : TE} {t tk : TA}
theorem pe_ownM {pl : Sem Bool} (O : OwnM X.prog X.w X.K X.mg X.base CX k C m ps dvs sp) (hr : Room k X.A) (hx : Passes CX X E) (he : PE X o ta) (ha : PA X (e :: es) t)
    (hst : starEach (e :: es) X.env = (false, eval e X.env) :: starEach es X.env := by rfl) (hpl : (backTo pos (starEach es X.env)).any (·.1) = false := by rfl)
    (ht : eval (.Call (.Attribute o m apos) (e :: es) [] pos) X.env = (do
      let ov ← eval o X.env
      standAt apos.atName
      let (f, first) ← holding [ov] (getMethod ov m pl)
      callWith pos f first (backTo pos (starEach (e :: es) X.env)) (backToKw pos (keywordEach [] X.env))) := by rfl) :
    PE X (.Call (.Attribute o m apos) (e :: es) [] pos) (tMeth C m sp dvs E ta t) := by
  obtain ⟨f, fd, ds, F, M, c, b, r⟩ := O.ex
  exact pe_meth he c M F hr b r hx ha hst hpl ht
theorem pe_ownM0 {pl : Sem Bool} (O : OwnM X.prog X.w X.K X.mg X.base CX k C m ps dvs sp) (hr : Room k X.A) (hx : Passes CX X E) (he : PE X o ta)
    (ht : eval (.Call (.Attribute o m apos) [] [] pos) X.env = (do
      let ov ← eval o X.env
      standAt apos.atName
      let (f, first) ← holding [ov] (getMethod ov m pl)
      callWith pos f first (backTo pos (starEach [] X.env)) (backToKw pos (keywordEach [] X.env))) := by rfl) :
    PE X (.Call (.Attribute o m apos) [] [] pos) (tMeth C m sp dvs E ta tNil) := by
  obtain ⟨f, fd, ds, F, M, c, b, r⟩ := O.ex
  exact pe_meth0 he c M F hr b r hx ht
theorem pe_ownC (O : OwnC X.prog X.w X.K X.mg X.base CX k x C ps dvs sp) (hr : Room (k + 1) X.A) (hg : Gl X x) (hx : Passes CX X E) (ha : PA X (e :: es) t) (hdb : (x == ("__debug__" : Str)) = false := by decide)
    (he : starEach (e :: es) X.env = (false, eval e X.env) :: starEach es X.env := by rfl) (hpl : (backTo pos (starEach es X.env)).any (·.1) = false := by rfl) : PE X (.Call (.Name x p) (e :: es) [] pos) (tMake C sp dvs E t) := by
  obtain ⟨f, fd, ds, F, M, c, b, r⟩ := O.ex
  exact pe_make M F hr hg c b r hx ha hdb he hpl
theorem pe_ownCK (O : OwnCK X.prog X.w X.K X.mg X.base CX k n x C ps ks sp) (hr : Room (k + 1) X.A) (hg : Gl X x) (hx : Passes CX X E)
    (ha : PA X (e :: es) t) (hkw : PK X kws tk) (hall : (backToKw pos (keywordEach kws X.env)).all (·.1.isSome) = true := by rfl) (hks : (backToKw pos (keywordEach kws X.env)).filterMap (·.1) = ks := by rfl)
    (hdb : (x == ("__debug__" : Str)) = false := by decide) (he : starEach (e :: es) X.env = (false, eval e X.env) :: starEach es X.env := by rfl)
    (hpl : ((backTo pos (starEach (e :: es) X.env)).any (·.1) || (backToKw pos (keywordEach kws X.env)).any (·.1.isNone)) = false := by rfl) :
    PE X (.Call (.Name x p) (e :: es) kws pos) (tMakeN C n ks.length sp (fun vs zs => vs ++ zs) E t tk) := by
  obtain ⟨f, fd, F, M, c, b⟩ := O.ex
  exact pe_makeN M F hr hg c b hx ha hkw hall hks hdb he hpl
end
/-- a method with keywords behind -/
structure OwnMK (P : Program) (w : World) (K : PySem.W.Frag) (mg : Str → Option Value) (base : Heap) (CX : CXT) (k n : Nat) (C : Addr) (m : Str) (ps ks : List Str) (sp : Sp) : Prop where
  ex : ∃ (f : Addr) (fd : FuncData), FnOk P w K mg base CX k f fd ps sp ∧ Meth K C m f ∧ Cls K C ∧ KBn K fd ps (n + 1) ks (fun us ws => us ++ ws) (fun vs zs => vs ++ zs)
theorem ownMK_of {P : Program} {w : World} {K : PySem.W.Frag} {mg : Str → Option Value} {base : Heap} {CX : CXT} {k n : Nat} {m : Str} {C : Addr} {ps ks : List Str} {sp : Sp} {q : Str} {params : Arguments} {body : List Stmt} {scope : Scope} {f : Addr} {fd : FuncData} {kws : List (Str × V)} (F : FunD K m q params body scope [] kws f fd) (G : FnOk P w K mg base CX k f fd ps sp) (M : Meth K C m f) (c : Cls K C)
    (h : ∀ (kV doc pm : Value) (an : Option Addr) (cdv ct : Value) (us ws : List Value), us.length = n + 1 → ws.length = ks.length → bindArgs (PySem.W.fnOf m q params body scope .none kV doc pm an cdv ct) ⟨us, ks.zip ws⟩ = pure (ps.zip (us ++ ws))) : OwnMK P w K mg base CX k n C m ps ks sp := by
  obtain ⟨oc, od, dV, kV, doc, pm, an, cdv, ct, osl, rfl, lk, hcd, hD, hK⟩ := F.ex
  rcases hD with ⟨_, rfl⟩ | ⟨e, _⟩
  · exact ⟨f, _, G, M, c, ⟨fun s us ws X l1 l2 => .of_eq (h kV doc pm an cdv ct us ws l1 l2), fun r1 r2 => r1.append r2⟩⟩
  · exact absurd rfl e
/-- o.m(e, .., k = v) -/
def tMethN (C : Addr) (m : Str) (n l : Nat) (sp : Sp) (E : XK) (ta : TE) (t tk : TA) : TE := fun σ H Q => ta σ H fun x H1 => ∃ a dx fs, x = .ref a ∧ H1 a = some (.ins C dx fs) ∧ fs.lookup m = none ∧
  t σ H1 fun vs H2 => tk σ H2 fun zs H3 => vs.length = n ∧ zs.length = l ∧ sp (x :: (vs ++ zs)) H3 Q E
section
variable {X : Cx} {CX : CXT} {k n : Nat} {C : Addr} {m : Str} {ps ks : List Str} {sp : Sp} {E : XK} {pos apos : Pos} {o e : Expr} {es : List Expr} {kws : List Keyword} {ta : TE} {t tk : TA}
theorem pe_ownMK {pl : Sem Bool} (O : OwnMK X.prog X.w X.K X.mg X.base CX k n C m ps ks sp) (hr : Room k X.A) (hx : Passes CX X E) (he : PE X o ta) (ha : PA X (e :: es) t) (hkw : PK X kws tk)
    (hall : (backToKw pos (keywordEach kws X.env)).all (·.1.isSome) = true := by rfl) (hks : (backToKw pos (keywordEach kws X.env)).filterMap (·.1) = ks := by rfl)
    (hst : starEach (e :: es) X.env = (false, eval e X.env) :: starEach es X.env := by rfl)
    (hpl : ((backTo pos (starEach (e :: es) X.env)).any (·.1) || (backToKw pos (keywordEach kws X.env)).any (·.1.isNone)) = false := by rfl)
    (ht : eval (.Call (.Attribute o m apos) (e :: es) kws pos) X.env = (do
      let ov ← eval o X.env
      standAt apos.atName
      let (f, first) ← holding [ov] (getMethod ov m pl)
      callWith pos f first (backTo pos (starEach (e :: es) X.env)) (backToKw pos (keywordEach kws X.env))) := by rfl) :
    PE X (.Call (.Attribute o m apos) (e :: es) kws pos) (tMethN C m n ks.length sp E ta t tk) := by
  obtain ⟨f, fd, F, M, c, b⟩ := O.ex
  refine ⟨fun pins s σ H Q I h => ?_⟩
  refine PySem.W.methodCall_KW (pl := pl) (thn (he.run pins s σ H _ I h) fun u s1 ⟨x, H1, I1, rx, a, dx, fs, ex, ea, l, q⟩ => ?_) ht
  subst ex
  obtain rfl : u = Value.ref a := rx
  refine getmeth_ok I1 ea c M l ?_
  refine PySem.W.callWith_KW (first := [.ref a]) (h₀ := X.base) I.ok.mod.kin M.kp hall (thn (ha.run pos pins s1 σ H1 _ I1 q) fun us s2 ⟨vs, H2, I2, r, q2⟩ => ?_) hpl hst
  refine thn (hkw.run pos pins s2 σ H2 _ I2 q2) fun ws s3 ⟨zs, H3, I3, rz, l1, l2, q3⟩ => ⟨I3.kIn, ?_⟩
  rw [hks]
  exact run_fnN (us := .ref a :: us) (vs := .ref a :: vs) F hr b hx I3 (.cons rfl r) rz (congrArg (· + 1) l1) l2 q3
end
end Xh
end
section
set_option Elab.async false
set_option linter.all false
set_option maxRecDepth 100000
set_option maxHeartbeats 2000000
/-! len(x) of a thing of an own class -/
namespace Xh
open PySem PySem.Spec PyProof.Rows L2
section
variable {M : Model} {A : Around} {E : Value → Shared → Prop} {s : Shared}
theorem cspecF {self fn : Value} {name : Str} {args : List Value} {Q : Option Value → Shared → Prop} (sp : PySem.W.Looks M s.heap (specialOf self name) (some fn)) (hb : PySem.W.Looks M s.heap (bindSpecial fn self) (fn, [self]))
    (hc : wpAny M A (call fn (self :: args)) (fun v => Q (some v)) E s) : wpAny M A (callSpecial? self name args) Q E s := by
  simp only [callSpecial?]
  refine wpAny_bind (sp.here ?_)
  refine wpAny_holding (wpAny_bind ?_)
  refine hb.here ?_
  exact wpAny_bind (wpAny_mono hc (fun v s' h' => wpAny_pure h') fun _ _ h' => h')
end
def rLenO (C : Addr) (sp : Sp) (E : XK) : List V → Hp → VK → Prop := fun vs H Q => ∃ (a dx : Addr) (fs : List (Str × V)), vs = [.ref a] ∧ H a = some (.ins C dx fs) ∧ sp [.ref a] H (fun v H2 => ∃ n : Nat, v = .int n ∧ n ≤ 1000000 ∧ Q (.int n) H2) E
theorem call_lenO {X : Cx} {CX : CXT} {k : Nat} {C : Addr} {ps : List Str} {sp : Sp} {E : XK} (O : OwnM X.prog X.w X.K X.mg X.base CX k C "__len__" ps [] sp) (hr : Room (k + 1) X.A) (hx : Passes CX X E) : CallR X (.builtin "len") (rLenO C sp E) := by
  intro pins s σ H vs us Q I r h
  obtain ⟨a, dx, fs, rfl, ea, q⟩ := h
  rw [Vals.ref1 r]
  obtain ⟨f, fd, ds, F, M, c, b, rd⟩ := O.ex
  cases rd
  obtain ⟨mA, Oj, _, _, _, _⟩ := ins_get I.hok ea
  have L1 : PySem.W.Looks (model X.prog X.w) s.heap (specialOf (.ref a) "__len__") (some (.ref f)) := (NwA.type_at Oj.obj rfl).andThen (PySem.W.looks_findIn I.kIn M.at_)
  have L3 : PySem.W.Looks (model X.prog X.w) s.heap (bindSpecial (.ref f) (.ref a)) (.ref f, [.ref a]) := PySem.W.bind_fn I.kIn _ (beq_iff_eq.mp M.fn)
  have hl : ([Value.ref a] : List Value).length = ps.length := F.len _ _ _ _ q
  refine Calls.call_function_entry kind_len plain_len entry_len (args_len1 _) ?_
  unfold Builtin.«len»
  refine wpAny_bind (m := oneArg "len" _) (wpAny_pure ?_)
  refine wpAny_bind (m := callSpecial? (.ref a) (PySem.Str.ofString "__len__")) (cspecF L1 L3 ?_)
  refine wpAny_call (codeAny_mono (F.run X.A.in1 X.stack s H ⟨[.ref a], []⟩ [.ref a] [.ref a] _ E hr.in1 I.env0.in1 (b s [.ref a] I.kIn hl) (.cons rfl .nil) q) fun r s' hq => ?_)
  cases r with
  | error e => exact hx pins σ H s e s' I hq
  | ok fl =>
    cases fl with
    | ret u =>
      obtain ⟨v, H2, I2, rv, n, rfl, hn, q2⟩ := I.after hq
      obtain ⟨t, rfl⟩ : ∃ t, u = Value.int n t := rv
      refine wpAny_bind (wpAny_holding (wpAny_pure ?_))
      refine wpAny_bind (wpAny_letGo ?_)
      show wpAny _ _ (if (n : Int) < 0 then _ else _) _ _ _
      rw [if_neg (by omega)]
      show wpAny _ _ (if (n : Int) ≥ 2 ^ 63 then _ else _) _ _ _
      rw [if_neg (by omega)]
      exact wpAny_bind (wpAny_mkInt (wpAny_pure ⟨_, rfl, .int n, H2, I2.tok _, ⟨_, rfl⟩, q2⟩))
    | next => exact False.elim hq
    | brk => exact False.elim hq
    | cont => exact False.elim hq
end Xh
end
section
set_option Elab.async false
set_option linter.all false
set_option maxRecDepth 100000
set_option maxHeartbeats 2000000
/-! t[::-1] of a tuple -/
namespace HT
open PySem PySem.Spec PyProof.Rows
section
variable {prog : Program} {w : World} {A : Around} {E : Value → Shared → Prop} {s : Shared}
theorem adjust_rev (n : Nat) : Builtin.Slice.sliceAdjust none none (-1) (n : Int) = ((n : Int) - 1, -1) := rfl
theorem places_rev (n : Nat) : Builtin.Slice.slicePlaces ((n : Int) - 1) (-1) (-1) = n := by
  unfold Builtin.Slice.slicePlaces
  rw [if_neg (by decide)]
  split
  · rw [show -(-1 : Int) = 1 from rfl, Int.ediv_one]; omega
  · omega
theorem sliceApplied_rev {sl : Addr} {vs : Value} {n : Nat} {Q : Int × Int × Nat → Shared → Prop} (hs : s.heap.IsSliceOf sl .none .none vs) (ps : IsPart vs (some (-1)))
    (h : Q ((n : Int) - 1, -1, n) s) : wpAny (model prog w) A (Builtin.Slice.sliceApplied (.ref sl) (pure (n : Int))) Q E s := by
  obtain ⟨os, hos, hcs, hds⟩ := id hs
  unfold Builtin.Slice.sliceApplied Builtin.Slice.sliceFields
  refine wpAny_bind (wpAny_bind (wpAny_field hos hds (x := .none) rfl (wpAny_bind (wpAny_field hos hds (x := .none) rfl (wpAny_bind (wpAny_field hos hds (x := vs) rfl (wpAny_pure ?_)))))))
  refine wpAny_bind (slicePart_ ps ?_)
  show wpAny _ _ (if ((-1 : Int) == 0) = true then _ else _) _ _ s
  rw [if_neg (by decide)]
  refine wpAny_bind (slicePart_none (wpAny_bind (slicePart_none (wpAny_bind (wpAny_pure ?_)))))
  show wpAny _ _ (match Builtin.Slice.sliceAdjust none none (-1) (n : Int) with | (lo, hi) => pure (lo, (-1 : Int), Builtin.Slice.slicePlaces lo hi (-1))) _ _ s
  rw [adjust_rev]
  show wpAny _ _ (pure ((n : Int) - 1, (-1 : Int), Builtin.Slice.slicePlaces ((n : Int) - 1) (-1) (-1))) _ _ s
  rw [places_rev]
  exact wpAny_pure h
theorem pick_rev (xs : Array Value) : ((List.range xs.size).filterMap fun (m : Nat) => xs[(((xs.size : Nat) : Int) - 1 + (m : Int) * (-1)).toNat]?) = xs.toList.reverse := by
  have e : (fun (m : Nat) => xs[(((xs.size : Nat) : Int) - 1 + (m : Int) * (-1)).toNat]?) = (fun k => xs[k]?) ∘ fun m => xs.size - 1 - m := by
    funext m
    show _ = xs[xs.size - 1 - m]?
    have : (((xs.size : Nat) : Int) - 1 + (m : Int) * (-1)).toNat = xs.size - 1 - m := by omega
    rw [this]
  rw [e, ← List.filterMap_map, PySem.W.krv_range, List.filterMap_reverse, PySem.W.krv_all]
theorem getItem_tuple_rev {t sl : Addr} {items : Array Value} {vs : Value} {Q : Value → Shared → Prop} (ht : IsTup s.heap t items) (hs : s.heap.IsSliceOf sl .none .none vs) (ps : IsPart vs (some (-1)))
    (h : Q (.ref s.heap.objs.size) { s with heap := s.heap.push { cls := .type "tuple", data := .seq items.toList.reverse.toArray } })
    (hsz : items.size ≤ sizeLine) : wpAny (model prog w) A (getItem (.ref t) (.ref sl)) Q E s := by
  have htake : sizeOk (.seq items.toList.reverse.toArray) := by
    show items.toList.reverse.toArray.size ≤ sizeLine
    rw [List.size_toArray, List.length_reverse, Array.length_toList]
    exact hsz
  obtain ⟨os, hos, hcs, hds⟩ := id hs
  have hTs : s.TypeIs (.ref sl) "slice" := ⟨os, hos, hcs⟩
  unfold getItem
  try with_reducible refine wpAny_holding ?_
  first | refine wpAny_bind (wpAny_pure ?_) | skip
  refine wpAny_bind (wpAny_sequenceKey ht.typeIs (by decide) ?_)
  refine wpAny_bind (wpAny_callSpecial?_slot (name := Str.ofString "__getitem__") ht.typeIs PyProof.Rows.slot_tuple_getitem
    (wpAny_call_entry PyProof.Rows.slot_tuple_getitem ht.typeIs entry_tuple_getitem ?_ (args_tuple_getitem _ _)))
  show wpAny _ _ (Builtin.Tuple.tupleItemsOf (.ref t) >>= _) _ _ s
  refine wpAny_bind (tupleItemsOf_ ht ?_)
  refine wpAny_bind (wpAny_typeOf hTs ?_)
  rw [if_pos (by decide)]
  refine wpAny_bind (sliceApplied_rev hs ps ?_)
  have hno : ¬ (((((items.size : Nat) : Int) - 1) == 0 && (-1 : Int) == 1 && items.size == items.size) = true) := by
    intro q
    rw [Bool.and_eq_true, Bool.and_eq_true] at q
    exact absurd q.1.2 (by decide)
  show wpAny _ _ (if ((((items.size : Nat) : Int) - 1) == 0 && (-1 : Int) == 1 && items.size == items.size) = true then _ else _) _ _ s
  rw [if_neg hno, pick_rev]
  first
    | exact wpAny_bind (m := Builtin.Tuple.tupleExact _) (wpAny_newObj_type (wpAny_pure ⟨_, rfl, wpAny_pure h⟩) htake)
    | exact wpAny_bind (m := Builtin.Tuple.tupleExact _) (wpAny_newObj_type (wpAny_bind (wpAny_pure (wpAny_pure ⟨_, rfl, wpAny_pure h⟩))) htake)
    | exact wpAny_bind (wpAny_bind (m := Builtin.Tuple.tupleExact _) (wpAny_newObj_type (wpAny_pure (wpAny_pure ⟨_, rfl, wpAny_pure h⟩)) htake))
    | exact wpAny_bind (wpAny_bind (m := Builtin.Tuple.tupleExact _) (wpAny_newObj_type (wpAny_pure ⟨_, rfl, wpAny_pure h⟩) htake))
end
end HT
namespace Xh
open PySem PySem.Spec PyProof.Rows L2
section
variable {X : Cx}
def tRevT (K : PySem.W.Frag) (te : TE) : TE := fun σ H Q => te σ H fun x H1 => ∃ a xs, x = .ref a ∧ SqT K H1 a xs ∧ ∀ p, H1 p = none → Q (.ref p) (upd H1 p (.tup xs.reverse))
theorem pe_revT {e : Expr} {te : TE} {k : Nat} {p1 p2 p3 pos : Pos} (he : PE X e te) : PE X (.Subscript e (.Slice none none (some (.UnaryOp .USub (.Constant (.int 1) k p1) p2)) p3) pos) (tRevT X.K te) := by
  refine ⟨fun pins s σ H Q I h => ?_⟩
  refine Subscript_ (thn (he.run pins s σ H _ I h) fun v s1 ⟨x, H1, I1, r1, q1⟩ => ?_)
  obtain ⟨a, xs, ex, hx, q⟩ := q1
  subst ex
  cases r1
  have hst : PO X (some (.UnaryOp .USub (.Constant (.int 1) k p1) p2)) (tPart (tUn (rU fun i => .int (-i)) (tC (.int 1)))) := po_some (pe_un un_neg pe_int)
  refine wpAny_Slice (thn (po_none.run pins s1 σ H1 (fun o H2 => o = none ∧ H2 = H1) I1 ⟨rfl, rfl⟩) fun vl s2 ⟨l, H2, I2, pl, el, e2⟩ => ?_)
  subst el e2
  refine thn (po_none.run pins s2 σ H2 (fun o H3 => o = none ∧ H3 = H2) I2 ⟨rfl, rfl⟩) fun vu s3 ⟨u, H3, I3, pu, eu, e3⟩ => ?_
  subst eu e3
  refine thn (hst.run pins s3 σ H3 (fun o H4 => o = some (-1) ∧ H4 = H3) I3 ⟨1, rfl, -1, rfl, rfl, rfl⟩) fun vs s4 ⟨o, H4, I4, ps, eo, e4⟩ => ?_
  subst eo e4
  cases pl
  cases pu
  have I5 : Inv X pins σ H4 { s4 with heap := s4.heap.push { cls := .type "slice", data := .fields #[.none, .none, vs] } } := I4.kept (t' := s4.toks) fun b ob q => Heap.get?_push_of_some _ q
  obtain ⟨its, r, ht, hz⟩ := I5.tuple hx
  have hlen := r.length
  show wpAny (model X.prog X.w) X.A (subscriptTail e (.Slice none none (some (.UnaryOp .USub (.Constant (.int 1) k p1) p2)) p3) (.ref a) (.ref s4.heap.objs.size)) (EP X pins σ Q) X.xe { s4 with heap := s4.heap.push { cls := .type "slice", data := .fields #[.none, .none, vs] } }
  refine tail_any (ops := [.ref a, .ref s4.heap.objs.size]) ht.typeIs (PyProof.Rows.slot_tuple_getitem.lookup) ?_ (by with_unfolding_all rfl)
  refine HT.getItem_tuple_rev ht (Heap.IsSliceOf.new _ .none .none vs) ps ?_ (by rw [List.size_toArray]; omega)
  refine ⟨.ref _, _, I5.laid (t' := s4.toks) (o := .tup xs.reverse) (fun b ob q => Heap.get?_push_of_some _ q) (Nat.le_refl _) ?_, rfl, q _ (I5.hok.fresh (Nat.le_refl _))⟩
  exact ⟨by rw [List.length_reverse]; exact hz, _, by simpa using r.reverse, IsTup.new _ _⟩
end
end Xh
end
section
set_option Elab.async false
set_option linter.all false
set_option maxRecDepth 100000
set_option maxHeartbeats 4000000
/-! set(xs) of a list of whole numbers; any(t) of a tuple of them -/
namespace Xh
open PySem PySem.Spec PyProof.Rows L2
section
variable {P : Program} {w : World} {A : Around} {E : Value → Shared → Prop} {s : Shared}
/-- the new empty set -/
abbrev newSet (w : World) : Obj := { cls := .type "set", dict := none, data := .set #[] 0 (.fresh 0 0 (!w.params.followText "set-order")) }
/-- set(x): what is wanted of filling it -/
theorem call_set_then {x : Value} {Q : Value → Shared → Prop}
    (h : wpAny (model P w) A.in1.in1 (Builtin.«set.__init__» ⟨[.ref s.heap.objs.size, x], []⟩)
      (fun fin s' => match fin with | .done f => wants (fun r s₂ => r = .none ∧ Q (.ref s.heap.objs.size) s₂) E (.ok f) s' | .again c' => c'.quiet = true ∧ codeAny (model P w) A.in1 c' (wants (fun r s₂ => r = .none ∧ Q (.ref s.heap.objs.size) s₂) E) s')
      (fun e s' => wants (fun r s₂ => r = .none ∧ Q (.ref s.heap.objs.size) s₂) E (.error e) s') { s with heap := s.heap.push (newSet w) }) :
    wpAny (model P w) A (call (.type "set") [x]) Q E s := by
  have ft := PySem.F.called_set
  obtain ⟨c, tl, hmro⟩ := ft.mro
  have hmade := ft.made
  have hsub := ft.sub
  have h1 := ft.notType
  have h2 := ft.canCreate
  have hct := PySem.F.typeCall_set_1 x
  have hS : (s.heap.push (newSet w)).get? s.heap.objs.size = some (newSet w) := Heap.get?_push_size _ rfl
  have hT : Shared.TypeIs { s with heap := s.heap.push (newSet w) } (.ref s.heap.objs.size) "set" := ⟨_, hS, rfl⟩
  refine wpAny_call (codeAny_of_tree ?_)
  show wpAny _ _ (callAny (.type "set") _) _ _ _
  refine wpAny_pure ⟨Code.quiet_builtin _ (by decide +kernel), codeAny_builtin PySem.F.entry_type_call ?_⟩
  rw [Around.under_plain (weight_type_call_type "set" [x] []) rfl]
  repeat (any_goals (first | assumption | wp_step))
  refine codeAny_mono (code_set_led1 x (E := E) (Q₁ := fun o t => o = .ref s.heap.objs.size ∧ t = { s with heap := s.heap.push (newSet w) }) ⟨rfl, rfl⟩) fun r t hr => ?_
  match r, hr with
  | .error e, hr => exact hr
  | .ok .next, hr => exact hr.elim
  | .ok .brk, hr => exact hr.elim
  | .ok .cont, hr => exact hr.elim
  | .ok (.ret o), hr =>
    obtain ⟨rfl, rfl⟩ := hr
    have hli := ft.init.lookup
    have hbi := ft.init.bind (.ref s.heap.objs.size)
    repeat (any_goals (first | assumption | wp_step))
    refine codeAny_mono (codeAny_call_builtin ft.init.plain PySem.F.entry_set_init (check_set_init_1 hT h)) fun r₂ t₂ hr₂ => ?_
    match r₂, hr₂ with
    | .error e, hr₂ => exact hr₂
    | .ok .next, hr₂ => exact hr₂.elim
    | .ok .brk, hr₂ => exact hr₂.elim
    | .ok .cont, hr₂ => exact hr₂.elim
    | .ok (.ret r), hr₂ =>
      obtain ⟨rfl, hq⟩ := hr₂
      repeat (any_goals (first | assumption | wp_step))
/-- set(l), l a list of whole numbers -/
theorem call_set_lstI {l : Addr} {items : Array Value} (ns : List Int) {Q : Value → Shared → Prop} (hh : A.handled = none) (hl : s.heap.IsList l items) (hit : IntsAre items.toList ns) (hb : ns.length + 1 < scanBound)
    (h : ∀ (h' : Heap) (tk c : Nat), SetR w h' s.heap.objs.size (fun j => decide (j ∈ ns)) c → c ≤ ns.length → (∀ b o, s.heap.get? b = some o → h'.get? b = some o) → Q (.ref s.heap.objs.size) { s with heap := h', toks := tk }) :
    wpAny (model P w) A (call (.type "set") [.ref l]) Q E s := by
  have z : items.size = ns.length := by
    have q := IntsAre.length hit
    rwa [Array.length_toList] at q
  refine call_set_then ?_
  have hS : (s.heap.push (newSet w)).get? s.heap.objs.size = some { cls := .type "set", dict := none, data := .set #[] 0 (.fresh 0 0 (!w.params.followText "set-order")) } := Heap.get?_push_size _ rfl
  have hT : Shared.TypeIs { s with heap := s.heap.push (newSet w) } (.ref s.heap.objs.size) "set" := ⟨_, hS, rfl⟩
  generalize hN : newSet w = N at hS hT ⊢
  obtain ⟨ol, hol, hcl, nl, hdl⟩ := hl
  obtain ⟨ocls, odict, odata, oslots⟩ := ol
  simp only at hcl hdl
  subst hcl
  subst hdl
  have f0 : (s.heap.push N).get? l = some { cls := .type "list", dict := odict, data := .seq items nl, slots := oslots } := Heap.get?_push_of_some _ hol
  have f1 : (s.heap.push N).IsList l items := ⟨_, f0, rfl, nl, rfl⟩
  have hsls := PySem.F.sub_list_set
  have hslf := PySem.F.sub_list_frozenset
  have hne : (Value.type "list" == Value.type "dict") = false := by decide
  unfold Builtin.«set.__init__» noKeywords Builtin.Frozenset.updateFrom
  generalize hPI : pyIter = PI
  wp_walk
  subst hPI
  refine wpAny_pyIter_list f1 ?_
  refine wpAny_bind (wpAny_runValue ?_)
  have ls : l < s.heap.objs.size := Heap.lt_size hol
  have zs : (s.heap.push N).objs.size = s.heap.objs.size + 1 := Heap.size_push ..
  have li : l ≠ (s.heap.push N).objs.size := by rw [zs]; exact Nat.ne_of_lt (Nat.lt_succ_of_lt ls)
  have off : s.heap.objs.size ∉ [(s.heap.push N).objs.size, l] := by
    rw [zs]
    intro m
    rcases List.mem_cons.mp m with e | m
    · exact absurd e (Nat.ne_of_lt (Nat.lt_succ_self _))
    · exact absurd (List.mem_singleton.mp m) (Nat.ne_of_gt ls)
  have val : ∀ (i : Nat) (v : Value), items[i]? = some v → ∃ k t, ns[i]? = some k ∧ v = .int k t := fun i v hv => by
    obtain ⟨t, e⟩ := PyProof.Rows.IntsAre.int_at hit i v (by rw [Array.getElem?_toList]; exact hv)
    have lt : i < ns.length := by rw [← z]; exact (Array.getElem?_eq_some_iff.mp hv).1
    exact ⟨_, t, List.getElem?_eq_getElem lt, by rw [e, List.getD_eq_getElem?_getD, List.getElem?_eq_getElem lt]; rfl⟩
  have hh3 : A.in1.in1.in1.handled = none := by simp [hh]
  refine set_update_ints ((Walks.list hh3 _ l li items).toS) s.heap.objs.size off ns z hb val (items.size - 0) 0 _ (by omega) (Nat.zero_le _) ⟨⟨_, Heap.get?_push_size _ rfl, rfl, rfl⟩, f1.push _⟩ ⟨0, Nat.le_refl 0, setR_new_at ?_⟩ fun t c hm hc hS => ?_
  · exact Heap.get?_push_of_some _ hS
  · obtain ⟨h', g, d, tk, os⟩ := t
    obtain rfl : g = s.gens := hm.gens
    obtain rfl : d = s.drawn := hm.drawn
    obtain rfl : os = s.os := hm.os
    show wpAny _ _ _ _ _ _
    refine wpAny_pure ?_
    show wpAny _ _ (ret Value.none) _ _ _
    rw [z] at hc
    refine wpAny_pure ⟨rfl, h h' tk c hS hc fun b o e => hm.heap b o (fun m => ?_) (Heap.get?_push_of_some _ (Heap.get?_push_of_some _ e))⟩
    have lt : b < s.heap.objs.size := Heap.lt_size e
    rcases List.mem_cons.mp m with q | m
    · exact absurd q (Nat.ne_of_lt lt)
    · have q := List.mem_singleton.mp m
      rw [zs] at q
      exact absurd q (Nat.ne_of_lt (Nat.lt_succ_of_lt lt))
end
section
variable {X : Cx}
theorem valsI : ∀ {ns : List Int} {us : List Value}, Vals (ns.map V.int) us → IntsAre us ns
  | [], _, .nil => .nil
  | n :: ns, _, .cons r t => by
    obtain ⟨k, rfl⟩ := r
    exact .cons n k (valsI t)
def rSetLI (K : PySem.W.Frag) (w : World) : List V → Hp → VK → Prop := fun vs H Q => ∃ (l : Addr) (ns : List Int), vs = [.ref l] ∧ SqL K H l (ns.map V.int) ∧ ns.length < 64 ∧
  ∀ (p : Addr) (c : Nat), H p = none → c ≤ ns.length → Q (.ref p) (upd H p (SetO w p (fun j => decide (j ∈ ns)) c))
theorem call_setLI (hc : X.calm = true) : CallR X (.type "set") (rSetLI X.K X.w) := by
  intro pins s σ H vs us Q I r h
  obtain ⟨l, ns, rfl, hq, hn, q⟩ := h
  obtain ⟨its, rv, pl, _⟩ := I.list hq
  rw [Vals.ref1 r]
  refine call_set_lstI ns (I.ok.hd hc) pl.isList (by simpa using valsI rv) (by unfold scanBound; omega) fun h' tk c R1 hcn k => ?_
  have I1 : Inv X pins σ H { s with toks := tk } := I.tok _
  exact ⟨.ref _, _, I1.laid (t' := tk) k (Nat.le_refl _) (setO_new R1), rfl, q _ c (I.hok.fresh (Nat.le_refl _)) hcn⟩
/-- any(t), t a tuple of whole numbers -/
def rAnyTI (K : PySem.W.Frag) : List V → Hp → VK → Prop := fun vs H Q => ∃ (a : Addr) (ns : List Int), vs = [V.ref a] ∧ SqT K H a (ns.map V.int) ∧ Q (.bl (ns.any (· != 0))) H
theorem any_rangeI : ∀ ns : List Int, (List.range ns.length).any (fun i => ns.getD i 0 != 0) = ns.any (· != 0)
  | [] => rfl
  | n :: ns => by
    rw [List.length_cons, List.range_succ_eq_map, List.any_cons, List.any_map, List.any_cons, ← any_rangeI ns]
    rfl
theorem call_anyTI (hc : X.calm = true) : CallR X (.builtin "any") (rAnyTI X.K) := by
  intro pins s σ H vs us Q I r h
  obtain ⟨a, ns, rfl, hs, q⟩ := h
  obtain ⟨its, rv, pt, _⟩ := I.tuple hs
  rw [Vals.ref1 r]
  have hi := valsI rv
  have al : a < s.heap.objs.size := by
    obtain ⟨o, e, _⟩ := pt
    exact Heap.lt_size e
  have zs : its.toArray.size = ns.length := by rw [List.size_toArray]; exact IntsAre.length hi
  refine call_any_walk (wpAny_pyIter_tuple pt ⟨_, _, _, _, _, _, (fun i => ns.getD i 0 != 0), rfl, Walks.tuple (A := X.A.in1) (I.ok.hd hc) _ a (Nat.ne_of_lt al) its.toArray, ⟨⟨_, Heap.get?_push_size _ rfl, rfl, rfl⟩, ⟨_, Heap.get?_push_of_some _ (pt.choose_spec.1), pt.choose_spec.2⟩⟩, fun i v t Q' E' hv hq => ?_, fun h' tk hk => ?_⟩)
  · obtain ⟨t', rfl⟩ := PyProof.Rows.IntsAre.int_at hi i v (by simpa using hv)
    exact truthy_int hq
  · rw [zs, any_rangeI]
    refine ⟨.bl _, H, I.kept (t' := tk) fun b o eo => hk b o (fun m => ?_) (Heap.get?_push_of_some _ eo), rfl, q⟩
    exact absurd (List.mem_singleton.mp m) (Nat.ne_of_lt (Heap.lt_size eo))
end
end Xh
end
section
set_option Elab.async false
set_option linter.all false
set_option maxRecDepth 100000
set_option maxHeartbeats 0
namespace Xh
open PySem PySem.Spec PyProof.Rows L2 He
/-- where the written part looks: what the names reach in n steps, and the statics -/
def asS (g : Addr → Option Obj) (n : Nat) : List Addr := cStatics :: asD g n
def obsZ (n : Nat) (fa : List Fa) (fn : List DefD) (tf : List Defn) (ex : PySem.W.Frag → Bool) (g : Addr → Option Obj) : AlX :=
  let K := frT g (asS g n)
  (obsT fa fn [] K, ex K && tabsB g tf K)
theorem saysZ {n : Nat} {fa : List Fa} {fn : List DefD} {tf : List Defn} {ex : PySem.W.Frag → Bool} {w : World} {h : Heap} (e : obsZ n fa fn tf ex h.get? = valX fn [] w) :
    SaysX fa fn [] tf ex w h (frT h.get? (asS h.get? n)) := by
  generalize hK : frT h.get? (asS h.get? n) = K
  have e' : (obsT fa fn [] K, ex K && tabsB h.get? tf K) = valX fn [] w := by rw [← hK]; exact e
  injection e' with e1 e2
  rw [Bool.and_eq_true] at e2
  have key : ∀ p ∈ tf, PySem.W.codeHdIn K (cT K p).1 (cT K p).2 = true ∧ ∃ o, h.get? (cT K p).2 = some o ∧ emptyTab o = true := by
    intro p hp
    have z := List.all_eq_true.mp e2.2 p hp
    rw [Bool.and_eq_true] at z
    refine ⟨z.1, ?_⟩
    have z2 := z.2
    split at z2
    · exact ⟨_, ‹_›, z2⟩
    · cases z2
  refine ⟨e1, e2.1, fun p hp => (key p hp).1, fun p hp => ?_, fun p hp => ?_⟩
  · obtain ⟨_, o, q, z⟩ := key p hp
    rw [← hK] at q ⊢
    exact frT_none q z
  · obtain ⟨_, o, q, z⟩ := key p hp
    rw [q, emptyTab_eq z]
def hookZ (n : Nat) (fa : List Fa) (fn : List DefD) (tf : List Defn) (ex : PySem.W.Frag → Bool) : PySem.W.Hook where
  α := AlX
  obs := fun s => obsZ n fa fn tf ex s.heap.get?
  val := fun w => valX fn [] w
  says := fun w h => ∃ K : PySem.W.Frag, K.In h ∧ SaysX fa fn [] tf ex w h K
  of := fun _ _ e => ⟨_, frT_in, saysZ e⟩
  keeps := fun _ _ _ ⟨K, hK, c⟩ k => ⟨K, PySem.W.Frag.In.keeps hK k, ⟨c.t, c.more, c.hd, c.out, fun p hp => k _ _ (c.empty p hp)⟩⟩
theorem obsZ_eq {n : Nat} {fa : List Fa} {fn : List DefD} {tf : List Defn} {ex : PySem.W.Frag → Bool} {g : Addr → Option Obj} {s : Shared} (h : ∀ a, g a = s.heap.get? a) :
    obsZ n fa fn tf ex g = (hookZ n fa fn tf ex).obs s := by
  have e : g = s.heap.get? := funext h
  subst e
  rfl
end Xh
end
section
set_option Elab.async false
set_option linter.all false
set_option maxRecDepth 100000
set_option maxHeartbeats 0
namespace Xh
open PySem PySem.Spec PyProof.Rows L2 He
/-! The same hook, its addresses found layer by layer, each once: what was seen is a mask. -/
/-- those of a row that the mask has not, each once, and the mask then -/
def freshB {β : Type} : List Addr → Nat → List Addr → (List Addr → Nat → β) → β
  | [], m, acc, k => k acc m
  | a :: r, m, acc, k => match Nat.beq (Nat.mod (Nat.shiftRight m a) 2) 1 with
    | true => freshB r m acc k
    | false => freshB r (Nat.add m (Nat.pow 2 a)) (a :: acc) k
def refsB (g : Addr → Option Obj) (as : List Addr) : List Addr := as.flatMap fun a => match g a with
  | some o => refsD o
  | none => []
def bfsB (g : Addr → Option Obj) : Nat → List Addr → Nat → List Addr
  | 0, fr, _ => fr
  | n + 1, fr, m => fr ++ freshB (refsB g fr) m [] fun new m' => bfsB g n new m'
def asB (n : Nat) (g : Addr → Option Obj) : List Addr := mainGlobals :: cStatics :: freshB (refsB g [mainGlobals]) (2 ^ mainGlobals + 2 ^ cStatics) [] fun new m => bfsB g n new m
/-- over any row of addresses -/
def obsA (as : (Addr → Option Obj) → List Addr) (fa : List Fa) (fn : List DefD) (tf : List Defn) (ex : PySem.W.Frag → Bool) (g : Addr → Option Obj) : AlX :=
  let K := frT g (as g)
  (obsT fa fn [] K, ex K && tabsB g tf K)
theorem saysA {as : (Addr → Option Obj) → List Addr} {fa : List Fa} {fn : List DefD} {tf : List Defn} {ex : PySem.W.Frag → Bool} {w : World} {h : Heap} (e : obsA as fa fn tf ex h.get? = valX fn [] w) :
    SaysX fa fn [] tf ex w h (frT h.get? (as h.get?)) := by
  generalize hK : frT h.get? (as h.get?) = K
  have e' : (obsT fa fn [] K, ex K && tabsB h.get? tf K) = valX fn [] w := by rw [← hK]; exact e
  injection e' with e1 e2
  rw [Bool.and_eq_true] at e2
  have key : ∀ p ∈ tf, PySem.W.codeHdIn K (cT K p).1 (cT K p).2 = true ∧ ∃ o, h.get? (cT K p).2 = some o ∧ emptyTab o = true := by
    intro p hp
    have z := List.all_eq_true.mp e2.2 p hp
    rw [Bool.and_eq_true] at z
    refine ⟨z.1, ?_⟩
    have z2 := z.2
    split at z2
    · exact ⟨_, ‹_›, z2⟩
    · cases z2
  refine ⟨e1, e2.1, fun p hp => (key p hp).1, fun p hp => ?_, fun p hp => ?_⟩
  · obtain ⟨_, o, q, z⟩ := key p hp
    rw [← hK] at q ⊢
    exact frT_none q z
  · obtain ⟨_, o, q, z⟩ := key p hp
    rw [q, emptyTab_eq z]
def hookA (as : (Addr → Option Obj) → List Addr) (fa : List Fa) (fn : List DefD) (tf : List Defn) (ex : PySem.W.Frag → Bool) : PySem.W.Hook where
  α := AlX
  obs := fun s => obsA as fa fn tf ex s.heap.get?
  val := fun w => valX fn [] w
  says := fun w h => ∃ K : PySem.W.Frag, K.In h ∧ SaysX fa fn [] tf ex w h K
  of := fun _ _ e => ⟨_, frT_in, saysA e⟩
  keeps := fun _ _ _ ⟨K, hK, c⟩ k => ⟨K, PySem.W.Frag.In.keeps hK k, ⟨c.t, c.more, c.hd, c.out, fun p hp => k _ _ (c.empty p hp)⟩⟩
theorem obsA_eq {as : (Addr → Option Obj) → List Addr} {fa : List Fa} {fn : List DefD} {tf : List Defn} {ex : PySem.W.Frag → Bool} {g : Addr → Option Obj} {s : Shared} (h : ∀ a, g a = s.heap.get? a) :
    obsA as fa fn tf ex g = (hookA as fa fn tf ex).obs s := by
  have e : g = s.heap.get? := funext h
  subst e
  rfl
end Xh
end
section
set_option Elab.async false
set_option linter.all false
set_option maxRecDepth 100000
namespace Xk
open PySem PySem.Spec PyProof.Rows L2 Xh
def topS (i : Nat) : Stmt := PySem.Challenge.pw_rungfields_k26_whole_fields_are_fields.main.body.getD i (.Pass ⟨0, 0, 0, 0⟩)
def primes : List Int := [2, 3, 5, 7, 11, 13, 17, 19, 23, 29, 31, 37, 41, 43, 47, 53, 59, 61, 67, 71, 73, 79, 83, 89, 97]
abbrev s_law_begin : Stmt := topS 80
abbrev s_law_take : Stmt := topS 81
abbrev s_law_of : Stmt := topS 82
abbrev s_power_by : Stmt := topS 12
abbrev s_rest_power : Stmt := topS 21
abbrev s_is_prime : Stmt := topS 16
abbrev s_is_number : Stmt := topS 17
abbrev s_is_rest : Stmt := topS 18
abbrev s_refuse_prime : Stmt := topS 19
abbrev s_trimmed : Stmt := topS 29
abbrev s_law_trim : Stmt := topS 83
abbrev s_raw_scaled : Stmt := topS 30
abbrev s_raw_plus : Stmt := topS 31
abbrev s_raw_minus : Stmt := topS 32
abbrev s_raw_times : Stmt := topS 33
abbrev s_is_poly : Stmt := topS 46
abbrev s_refuse_polys : Stmt := topS 47
abbrev s_law_rests : Stmt := topS 84
abbrev s_law_blend : Stmt := topS 85
abbrev s_law_conv : Stmt := topS 86
abbrev s_law_mul : Stmt := topS 87
abbrev s_raw_parted : Stmt := topS 34
abbrev s_raw_left : Stmt := topS 35
abbrev s_raw_power : Stmt := topS 36
abbrev s_raw_level : Stmt := topS 38
abbrev s_raw_greatest : Stmt := topS 39
abbrev s_padded : Stmt := topS 41
abbrev s_turn_rows : Stmt := topS 42
abbrev s_weighed : Stmt := topS 43
abbrev s_turns_of_x : Stmt := topS 74
abbrev s_raw_whole : Stmt := topS 73
abbrev s_is_whole : Stmt := topS 69
abbrev s_refuse_degree : Stmt := topS 71
abbrev s_count_on : Stmt := topS 72
abbrev s_least_whole : Stmt := topS 70
abbrev s_RawField_plain : Stmt := inClass (topS 61) 3
abbrev s_RawField_x_power : Stmt := inClass (topS 61) 1
abbrev s_RawField_has : Stmt := inClass (topS 61) 2
abbrev s_RawField_plus : Stmt := inClass (topS 61) 4
abbrev s_RawField_minus : Stmt := inClass (topS 61) 5
abbrev s_RawField_times : Stmt := inClass (topS 61) 6
abbrev s_RawField___init : Stmt := inClass (topS 61) 0
abbrev s_refuse_numbers : Stmt := topS 60
abbrev s_refuse_rule : Stmt := topS 76
abbrev s_Field___init : Stmt := inClass (topS 78) 0
abbrev s_Field_plus : Stmt := inClass (topS 78) 5
abbrev s_Field_minus : Stmt := inClass (topS 78) 6
abbrev s_Field_times : Stmt := inClass (topS 78) 7
abbrev s_law_number : Stmt := topS 91
abbrev s_law_great : Stmt := topS 88
abbrev s_RawField_turned : Stmt := inClass (topS 61) 9
abbrev s_refuse_count : Stmt := topS 77
abbrev s_RawField_orbit : Stmt := inClass (topS 61) 11
abbrev s_Field_turned : Stmt := inClass (topS 78) 10
abbrev s_Field_degree : Stmt := inClass (topS 78) 11
abbrev s_RawField_turn_sum : Stmt := inClass (topS 61) 12
abbrev s_RawField_turn_product : Stmt := inClass (topS 61) 13
abbrev s_Field_trace : Stmt := inClass (topS 78) 13
abbrev s_Field_norm : Stmt := inClass (topS 78) 14
abbrev s_over_trimmed : Stmt := topS 63
abbrev s_raw_over_times : Stmt := topS 64
abbrev s_raw_built : Stmt := topS 65
abbrev s_Field_least : Stmt := inClass (topS 78) 12
abbrev s_raw_undone : Stmt := topS 40
abbrev s_refuse_rest : Stmt := topS 20
abbrev s_RawField_undone : Stmt := inClass (topS 61) 7
abbrev s_RawField_power : Stmt := inClass (topS 61) 8
abbrev s_Field_undone : Stmt := inClass (topS 78) 8
abbrev s_Field_power : Stmt := inClass (topS 78) 9
abbrev s_Field_plain : Stmt := inClass (topS 78) 4
abbrev s_Field_prime : Stmt := inClass (topS 78) 2
abbrev s_Field___len : Stmt := inClass (topS 78) 17
abbrev s_Field_place : Stmt := inClass (topS 78) 15
abbrev s_Field_nth : Stmt := inClass (topS 78) 16
abbrev s_Field_size : Stmt := inClass (topS 78) 3
abbrev s_law_shifted : Stmt := topS 89
abbrev s_law_great_rule : Stmt := topS 90
abbrev s_law_least_right : Stmt := topS 93
abbrev s_law_placed : Stmt := topS 92
abbrev s_law : Stmt := topS 94
abbrev s_RungError___init : Stmt := inClass (topS 2) 0
end Xk
end
section
set_option Elab.async false
set_option linter.all false
set_option maxRecDepth 100000
set_option maxHeartbeats 0
namespace Xk
open PySem PySem.Spec PyProof.Rows L2 Xh LamX NdefX
theorem sc_RungError___init : FnScope (["self", "told"] : List Str) ["self", "told"] (defScope s_RungError___init) := ⟨rfl, rfl, rfl, by decide +kernel, rfl, by decide +kernel, by decide +kernel⟩
/-! ### the head: what of the written part is looked at -/
open He
/-- the class at C, an own exception over ValueError, called nm; f: how it is made -/
def clsB (K : PySem.W.Frag) (C fI : Addr) (nm : Str) : Bool := (match K.lookup C with
    | some ⟨.type c, _, .cls cd, sl⟩ => decide (c = "type") && ((match cd.mro with
      | .ref a :: bm => decide (a = C) && PySem.HandSPX.refsVE bm
      | _ => false) && (cd.hasDict && (!cd.hasDel && ((match sl.toList with
      | [_, _, some (.str x _), _, some (.builtin n), _] => decide (x = nm) && decide (n = "ValueError.__new__")
      | _ => false)))))
    | _ => false) &&
  (eqO (PySem.W.findIn K (.ref C) "__setattr__") (some (some (.builtin "object.__setattr__"))) && (decide (PySem.W.subIn K (.ref C) (.type "BaseException") = some true) && (decide (PySem.W.typeIn K (.ref C) = some (.type "type")) && (PySem.W.keepIn K (.ref C) &&
  (eqO (PySem.W.findIn K (.ref C) "__getattribute__") (some (some (.builtin "BaseException.__getattribute__"))) && (eqO (PySem.W.findIn K (.ref C) "__getattr__") (some none) && (PySem.W.hasDictIn K C && (eqO (PySem.W.findIn K (.ref C) "__class__") (some (some (.builtin "object.__class__"))) &&
  (eqO (PySem.W.specialIn K (.builtin "object.__class__") "__get__") (some (some (.builtin "getset_descriptor.__get__"))) && (decide (PySem.W.takesIn K (.builtin "object.__class__") = some true) && (decide (PySem.W.mroIn K C (.type "object") = some true) && (PySem.W.readsIn K C (.type "type") &&
  ((match PySem.W.findCls K (.ref C) (.type "type") "__name__" with
    | some (.get (.builtin g) (.builtin n) (.ref c) (.type t)) => decide (g = "getset_descriptor.__get__") && (decide (n = "type.__name__") && (decide (c = C) && decide (t = "type")))
    | _ => false) && (eqO (PySem.W.findIn K (.ref C) "word") (some none) && (eqO (PySem.W.findIn K (.ref C) "__init__") (some (some (.ref fI))) && decide (PySem.W.typeIn K (.ref fI) = some (.type "function")))))))))))))))))
theorem clsB_ok {K : PySem.W.Frag} {C fI : Addr} {nm : Str} (h : clsB K C fI nm = true) : RC K C nm ∧ PySem.W.findIn K (.ref C) "word" = some none ∧ PySem.W.findIn K (.ref C) "__init__" = some (some (.ref fI)) ∧ PySem.W.typeIn K (.ref fI) = some (.type "function") := by
  obtain ⟨h0, h⟩ := ba h
  obtain ⟨h1, h⟩ := ba h
  obtain ⟨h2, h⟩ := ba h
  obtain ⟨h3, h⟩ := ba h
  obtain ⟨h4, h⟩ := ba h
  obtain ⟨h5, h⟩ := ba h
  obtain ⟨h6, h⟩ := ba h
  obtain ⟨h7, h⟩ := ba h
  obtain ⟨h8, h⟩ := ba h
  obtain ⟨h9, h⟩ := ba h
  obtain ⟨h10, h⟩ := ba h
  obtain ⟨h11, h⟩ := ba h
  obtain ⟨h12, h⟩ := ba h
  obtain ⟨h13, h⟩ := ba h
  obtain ⟨h14, h⟩ := ba h
  obtain ⟨h15, h16⟩ := ba h
  have fn : PySem.W.findCls K (.ref C) (.type "type") "__name__" = some (.get (.builtin "getset_descriptor.__get__") (.builtin "type.__name__") (.ref C) (.type "type")) := by
    revert h13
    split
    · rename_i g n c t e
      intro z
      obtain ⟨z1, z⟩ := ba z
      obtain ⟨z2, z⟩ := ba z
      obtain ⟨z3, z4⟩ := ba z
      rw [e, of_decide_eq_true z1, of_decide_eq_true z2, of_decide_eq_true z3, of_decide_eq_true z4]
    · intro z
      cases z
  revert h0
  split
  · rename_i c dd cd sl e
    intro z
    obtain ⟨z1, z⟩ := ba z
    obtain ⟨z2, z⟩ := ba z
    obtain ⟨z3, z⟩ := ba z
    obtain ⟨z4, z5⟩ := ba z
    have c1 : c = "type" := of_decide_eq_true z1
    subst c1
    obtain ⟨cn, cb, cm, cns, cq, chd, csn, csub, cab, ccol, cdel⟩ := cd
    revert z2
    split
    · rename_i a bm em
      intro z2
      obtain ⟨y1, y2⟩ := ba z2
      have y1' := of_decide_eq_true y1
      have em' : cm = .ref a :: bm := em
      subst em'
      subst y1'
      revert z5
      split
      · rename_i s0 s1 x t s3 n s5 es
        intro z5
        obtain ⟨x1, x2⟩ := ba z5
        have x1' := of_decide_eq_true x1
        have x2' := of_decide_eq_true x2
        subst x1' x2'
        have esl : sl = #[s0, s1, some (.str x t), s3, some (.builtin "ValueError.__new__"), s5] := by
          rw [← es]
        have d1 : chd = true := z3
        have d2 : cdel = false := by
          have z4' : (!cdel) = true := z4
          cases cdel with
          | true => cases z4'
          | false => rfl
        subst d1 d2 esl
        exact ⟨⟨⟨⟨_, _, _, _, _, _, _, _, _, _, _, _, _, _, _, e, y2⟩, eqO_ok h1, of_decide_eq_true h2, of_decide_eq_true h3, h4⟩, ⟨eqO_ok h5, eqO_ok h6, of_decide_eq_true h2, h7, eqO_ok h8, eqO_ok h9, of_decide_eq_true h10, of_decide_eq_true h11⟩, h12, fn, ⟨_, _, _, t, e, rfl⟩⟩, eqO_ok h14, eqO_ok h15, of_decide_eq_true h16⟩
      · intro z5
        cases z5
    · intro z2
      cases z2
  · intro z
    cases z

/-- an own class without more -/
def clB (K : PySem.W.Frag) (C : Addr) : Bool := PySem.W.plainGet K C Str.empty && (PySem.W.hasDictIn K C && (PySem.W.plainOver K C && eqO (PySem.W.findIn K (.ref C) "__setattr__") (some (some (.builtin "object.__setattr__")))))
theorem clB_ok {K : PySem.W.Frag} {C : Addr} (h : clB K C = true) : Cls K C := by
  obtain ⟨h1, h⟩ := ba h
  obtain ⟨h2, h⟩ := ba h
  obtain ⟨h3, h4⟩ := ba h
  exact ⟨h1, h2, h3, eqO_ok h4⟩
def naB (K : PySem.W.Frag) (C : Addr) (f : Str) : Bool := eqO (PySem.W.findIn K (.ref C) f) (some none)
theorem naB_ok {K : PySem.W.Frag} {C : Addr} {f : Str} (h : naB K C f = true) : NoAttr K C f := eqO_ok h
def mtB (K : PySem.W.Frag) (C : Addr) (m : Str) (f : Addr) : Bool := eqO (PySem.W.findIn K (.ref C) m) (some (some (.ref f))) && PySem.W.isFn K (.ref f)
theorem mtB_ok {K : PySem.W.Frag} {C f : Addr} {m : Str} (h : mtB K C m f = true) (kp : PySem.W.keepIn K (.ref f) = true) : Meth K C m f := by
  obtain ⟨h1, h2⟩ := ba h
  exact ⟨eqO_ok h1, h2, kp⟩
def mkB (K : PySem.W.Frag) (C : Addr) (_ : Str) (f : Addr) : Bool := PySem.W.makesIn K C && (eqO (PySem.W.findIn K (.ref C) "__init__") (some (some (.ref f))) && (PySem.W.isFn K (.ref f) && PySem.W.keepIn K (.ref C)))
theorem mkB_ok {K : PySem.W.Frag} {C f : Addr} {m : Str} (h : mkB K C m f = true) : Mk K C f := by
  obtain ⟨h1, h⟩ := ba h
  obtain ⟨h2, h⟩ := ba h
  obtain ⟨h3, h4⟩ := ba h
  exact ⟨h1, eqO_ok h2, h3, h4⟩

def fnL : List DefD := [⟨("RungError", some "__init__"), "__init__", "RungError.__init__", defArgs s_RungError___init, defBody s_RungError___init, defScope s_RungError___init, [], []⟩, ⟨("power_by", none), "power_by", "power_by", defArgs s_power_by, defBody s_power_by, defScope s_power_by, [], []⟩, ⟨("is_prime", none), "is_prime", "is_prime", defArgs s_is_prime, defBody s_is_prime, defScope s_is_prime, [], []⟩, ⟨("is_number", none), "is_number", "is_number", defArgs s_is_number, defBody s_is_number, defScope s_is_number, [], []⟩, ⟨("is_rest", none), "is_rest", "is_rest", defArgs s_is_rest, defBody s_is_rest, defScope s_is_rest, [], []⟩, ⟨("refuse_prime", none), "refuse_prime", "refuse_prime", defArgs s_refuse_prime, defBody s_refuse_prime, defScope s_refuse_prime, [], []⟩, ⟨("refuse_rest", none), "refuse_rest", "refuse_rest", defArgs s_refuse_rest, defBody s_refuse_rest, defScope s_refuse_rest, [], []⟩, ⟨("rest_power", none), "rest_power", "rest_power", defArgs s_rest_power, defBody s_rest_power, defScope s_rest_power, [], []⟩, ⟨("trimmed", none), "trimmed", "trimmed", defArgs s_trimmed, defBody s_trimmed, defScope s_trimmed, [], []⟩, ⟨("raw_scaled", none), "raw_scaled", "raw_scaled", defArgs s_raw_scaled, defBody s_raw_scaled, defScope s_raw_scaled, [], []⟩, ⟨("raw_plus", none), "raw_plus", "raw_plus", defArgs s_raw_plus, defBody s_raw_plus, defScope s_raw_plus, [], []⟩, ⟨("raw_minus", none), "raw_minus", "raw_minus", defArgs s_raw_minus, defBody s_raw_minus, defScope s_raw_minus, [], []⟩, ⟨("raw_times", none), "raw_times", "raw_times", defArgs s_raw_times, defBody s_raw_times, defScope s_raw_times, [], []⟩, ⟨("raw_parted", none), "raw_parted", "raw_parted", defArgs s_raw_parted, defBody s_raw_parted, defScope s_raw_parted, [], []⟩, ⟨("raw_left", none), "raw_left", "raw_left", defArgs s_raw_left, defBody s_raw_left, defScope s_raw_left, [], []⟩, ⟨("raw_power", none), "raw_power", "raw_power", defArgs s_raw_power, defBody s_raw_power, defScope s_raw_power, [], []⟩, ⟨("raw_level", none), "raw_level", "raw_level", defArgs s_raw_level, defBody s_raw_level, defScope s_raw_level, [], []⟩, ⟨("raw_greatest", none), "raw_greatest", "raw_greatest", defArgs s_raw_greatest, defBody s_raw_greatest, defScope s_raw_greatest, [], []⟩, ⟨("raw_undone", none), "raw_undone", "raw_undone", defArgs s_raw_undone, defBody s_raw_undone, defScope s_raw_undone, [], []⟩, ⟨("padded", none), "padded", "padded", defArgs s_padded, defBody s_padded, defScope s_padded, [], []⟩, ⟨("turn_rows", none), "turn_rows", "turn_rows", defArgs s_turn_rows, defBody s_turn_rows, defScope s_turn_rows, [], []⟩, ⟨("weighed", none), "weighed", "weighed", defArgs s_weighed, defBody s_weighed, defScope s_weighed, [], []⟩, ⟨("is_poly", none), "is_poly", "is_poly", defArgs s_is_poly, defBody s_is_poly, defScope s_is_poly, [], []⟩, ⟨("refuse_polys", none), "refuse_polys", "refuse_polys", defArgs s_refuse_polys, defBody s_refuse_polys, defScope s_refuse_polys, [], []⟩, ⟨("refuse_numbers", none), "refuse_numbers", "refuse_numbers", defArgs s_refuse_numbers, defBody s_refuse_numbers, defScope s_refuse_numbers, [], []⟩, ⟨("RawField", some "__init__"), "__init__", "RawField.__init__", defArgs s_RawField___init, defBody s_RawField___init, defScope s_RawField___init, [], []⟩, ⟨("RawField", some "x_power"), "x_power", "RawField.x_power", defArgs s_RawField_x_power, defBody s_RawField_x_power, defScope s_RawField_x_power, [], []⟩, ⟨("RawField", some "has"), "has", "RawField.has", defArgs s_RawField_has, defBody s_RawField_has, defScope s_RawField_has, [], []⟩, ⟨("RawField", some "plain"), "plain", "RawField.plain", defArgs s_RawField_plain, defBody s_RawField_plain, defScope s_RawField_plain, [], []⟩, ⟨("RawField", some "plus"), "plus", "RawField.plus", defArgs s_RawField_plus, defBody s_RawField_plus, defScope s_RawField_plus, [], []⟩, ⟨("RawField", some "minus"), "minus", "RawField.minus", defArgs s_RawField_minus, defBody s_RawField_minus, defScope s_RawField_minus, [], []⟩, ⟨("RawField", some "times"), "times", "RawField.times", defArgs s_RawField_times, defBody s_RawField_times, defScope s_RawField_times, [], []⟩, ⟨("RawField", some "undone"), "undone", "RawField.undone", defArgs s_RawField_undone, defBody s_RawField_undone, defScope s_RawField_undone, [], []⟩, ⟨("RawField", some "power"), "power", "RawField.power", defArgs s_RawField_power, defBody s_RawField_power, defScope s_RawField_power, [], []⟩, ⟨("RawField", some "turned"), "turned", "RawField.turned", defArgs s_RawField_turned, defBody s_RawField_turned, defScope s_RawField_turned, [], []⟩, ⟨("RawField", some "orbit"), "orbit", "RawField.orbit", defArgs s_RawField_orbit, defBody s_RawField_orbit, defScope s_RawField_orbit, [], []⟩, ⟨("RawField", some "turn_sum"), "turn_sum", "RawField.turn_sum", defArgs s_RawField_turn_sum, defBody s_RawField_turn_sum, defScope s_RawField_turn_sum, [], []⟩, ⟨("RawField", some "turn_product"), "turn_product", "RawField.turn_product", defArgs s_RawField_turn_product, defBody s_RawField_turn_product, defScope s_RawField_turn_product, [], []⟩, ⟨("over_trimmed", none), "over_trimmed", "over_trimmed", defArgs s_over_trimmed, defBody s_over_trimmed, defScope s_over_trimmed, [], []⟩, ⟨("raw_over_times", none), "raw_over_times", "raw_over_times", defArgs s_raw_over_times, defBody s_raw_over_times, defScope s_raw_over_times, [], []⟩, ⟨("raw_built", none), "raw_built", "raw_built", defArgs s_raw_built, defBody s_raw_built, defScope s_raw_built, [], []⟩, ⟨("is_whole", none), "is_whole", "is_whole", defArgs s_is_whole, defBody s_is_whole, defScope s_is_whole, [], [("prime", .int 2)]⟩, ⟨("least_whole", none), "least_whole", "least_whole", defArgs s_least_whole, defBody s_least_whole, defScope s_least_whole, [], [("prime", .int 2)]⟩, ⟨("refuse_degree", none), "refuse_degree", "refuse_degree", defArgs s_refuse_degree, defBody s_refuse_degree, defScope s_refuse_degree, [], []⟩, ⟨("count_on", none), "count_on", "count_on", defArgs s_count_on, defBody s_count_on, defScope s_count_on, [], []⟩, ⟨("raw_whole", none), "raw_whole", "raw_whole", defArgs s_raw_whole, defBody s_raw_whole, defScope s_raw_whole, [], []⟩, ⟨("turns_of_x", none), "turns_of_x", "turns_of_x", defArgs s_turns_of_x, defBody s_turns_of_x, defScope s_turns_of_x, [], []⟩, ⟨("refuse_rule", none), "refuse_rule", "refuse_rule", defArgs s_refuse_rule, defBody s_refuse_rule, defScope s_refuse_rule, [], []⟩, ⟨("refuse_count", none), "refuse_count", "refuse_count", defArgs s_refuse_count, defBody s_refuse_count, defScope s_refuse_count, [], []⟩, ⟨("Field", some "__init__"), "__init__", "Field.__init__", defArgs s_Field___init, defBody s_Field___init, defScope s_Field___init, [], [("prime", .int 2)]⟩, ⟨("Field", some "prime"), "prime", "Field.prime", defArgs s_Field_prime, defBody s_Field_prime, defScope s_Field_prime, [], []⟩, ⟨("Field", some "size"), "size", "Field.size", defArgs s_Field_size, defBody s_Field_size, defScope s_Field_size, [], []⟩, ⟨("Field", some "plain"), "plain", "Field.plain", defArgs s_Field_plain, defBody s_Field_plain, defScope s_Field_plain, [], []⟩, ⟨("Field", some "plus"), "plus", "Field.plus", defArgs s_Field_plus, defBody s_Field_plus, defScope s_Field_plus, [], []⟩, ⟨("Field", some "minus"), "minus", "Field.minus", defArgs s_Field_minus, defBody s_Field_minus, defScope s_Field_minus, [], []⟩, ⟨("Field", some "times"), "times", "Field.times", defArgs s_Field_times, defBody s_Field_times, defScope s_Field_times, [], []⟩, ⟨("Field", some "undone"), "undone", "Field.undone", defArgs s_Field_undone, defBody s_Field_undone, defScope s_Field_undone, [], []⟩, ⟨("Field", some "power"), "power", "Field.power", defArgs s_Field_power, defBody s_Field_power, defScope s_Field_power, [], []⟩, ⟨("Field", some "turned"), "turned", "Field.turned", defArgs s_Field_turned, defBody s_Field_turned, defScope s_Field_turned, [], [("steps", .int 1)]⟩, ⟨("Field", some "degree"), "degree", "Field.degree", defArgs s_Field_degree, defBody s_Field_degree, defScope s_Field_degree, [], []⟩, ⟨("Field", some "least"), "least", "Field.least", defArgs s_Field_least, defBody s_Field_least, defScope s_Field_least, [], []⟩, ⟨("Field", some "trace"), "trace", "Field.trace", defArgs s_Field_trace, defBody s_Field_trace, defScope s_Field_trace, [], []⟩, ⟨("Field", some "norm"), "norm", "Field.norm", defArgs s_Field_norm, defBody s_Field_norm, defScope s_Field_norm, [], []⟩, ⟨("Field", some "place"), "place", "Field.place", defArgs s_Field_place, defBody s_Field_place, defScope s_Field_place, [], []⟩, ⟨("Field", some "nth"), "nth", "Field.nth", defArgs s_Field_nth, defBody s_Field_nth, defScope s_Field_nth, [], []⟩, ⟨("_law_begin", none), "_law_begin", "_law_begin", defArgs s_law_begin, defBody s_law_begin, defScope s_law_begin, [], []⟩, ⟨("_law_take", none), "_law_take", "_law_take", defArgs s_law_take, defBody s_law_take, defScope s_law_take, [], []⟩, ⟨("_law_of", none), "_law_of", "_law_of", defArgs s_law_of, defBody s_law_of, defScope s_law_of, [], []⟩, ⟨("_law_trim", none), "_law_trim", "_law_trim", defArgs s_law_trim, defBody s_law_trim, defScope s_law_trim, [], []⟩, ⟨("_law_rests", none), "_law_rests", "_law_rests", defArgs s_law_rests, defBody s_law_rests, defScope s_law_rests, [], []⟩, ⟨("_law_blend", none), "_law_blend", "_law_blend", defArgs s_law_blend, defBody s_law_blend, defScope s_law_blend, [], []⟩, ⟨("_law_conv", none), "_law_conv", "_law_conv", defArgs s_law_conv, defBody s_law_conv, defScope s_law_conv, [], []⟩, ⟨("_law_mul", none), "_law_mul", "_law_mul", defArgs s_law_mul, defBody s_law_mul, defScope s_law_mul, [], []⟩, ⟨("_law_great", none), "_law_great", "_law_great", defArgs s_law_great, defBody s_law_great, defScope s_law_great, [], []⟩, ⟨("_law_shifted", none), "_law_shifted", "_law_shifted", defArgs s_law_shifted, defBody s_law_shifted, defScope s_law_shifted, [], []⟩, ⟨("_law_great_rule", none), "_law_great_rule", "_law_great_rule", defArgs s_law_great_rule, defBody s_law_great_rule, defScope s_law_great_rule, [], []⟩, ⟨("_law_number", none), "_law_number", "_law_number", defArgs s_law_number, defBody s_law_number, defScope s_law_number, [], []⟩, ⟨("_law_placed", none), "_law_placed", "_law_placed", defArgs s_law_placed, defBody s_law_placed, defScope s_law_placed, [], []⟩, ⟨("_law_least_right", none), "_law_least_right", "_law_least_right", defArgs s_law_least_right, defBody s_law_least_right, defScope s_law_least_right, [], []⟩, ⟨("law", none), "law", "law", defArgs s_law, defBody s_law, defScope s_law, [], []⟩]
def faL : List Fa := [.glo "RungError", .glo "BadPrime", .glo "BadPoly", .glo "BadDegree", .glo "BadNumber", .glo "NoInverse", .glo "BadRest", .glo "RawField", .glo "Field", .glo "PRIMES", .glo "X", .glo "power_by", .glo "is_prime", .glo "is_number", .glo "is_rest", .glo "refuse_prime", .glo "refuse_rest", .glo "rest_power", .glo "trimmed", .glo "raw_scaled", .glo "raw_plus", .glo "raw_minus", .glo "raw_times", .glo "raw_parted", .glo "raw_left", .glo "raw_power", .glo "raw_level", .glo "raw_greatest", .glo "raw_undone", .glo "padded", .glo "turn_rows", .glo "weighed", .glo "is_poly", .glo "refuse_polys", .glo "refuse_numbers", .glo "over_trimmed", .glo "raw_over_times", .glo "raw_built", .glo "is_whole", .glo "least_whole", .glo "refuse_degree", .glo "count_on", .glo "raw_whole", .glo "turns_of_x", .glo "refuse_rule", .glo "refuse_count", .glo "_law_begin", .glo "_law_take", .glo "_law_of", .glo "_law_trim", .glo "_law_rests", .glo "_law_blend", .glo "_law_conv", .glo "_law_mul", .glo "_law_great", .glo "_law_shifted", .glo "_law_great_rule", .glo "_law_number", .glo "_law_placed", .glo "_law_least_right", .glo "law", .int "MOST_RESTS" 25, .int "MOST_DEGREE" 12, .free "len", .free "abs", .free "list", .free "tuple", .free "int", .free "bool", .free "str", .free "isinstance", .free "range", .free "all", .free "zip", .free "enumerate", .free "max", .free "reversed", .free "any", .free "sorted", .free "set", .free "sum"]
def exL (K : PySem.W.Frag) : Bool := tupB K "PRIMES" (primes.map Dv.int) && (tupB K "X" (([0, 1] : List Int).map Dv.int) && (clsB K (ga K "BadPrime") (ma K (ga K "RungError") "__init__") "BadPrime" && (clsB K (ga K "BadPoly") (ma K (ga K "RungError") "__init__") "BadPoly" && (clsB K (ga K "BadDegree") (ma K (ga K "RungError") "__init__") "BadDegree" && (clsB K (ga K "BadNumber") (ma K (ga K "RungError") "__init__") "BadNumber" && (clsB K (ga K "NoInverse") (ma K (ga K "RungError") "__init__") "NoInverse" && (clsB K (ga K "BadRest") (ma K (ga K "RungError") "__init__") "BadRest" && (decide ((cT K ("rest_power", none)).2 ≠ (cT K ("raw_power", none)).2) && (decide ((cT K ("rest_power", none)).2 ≠ (cT K ("RawField", some "power")).2) && (decide ((cT K ("raw_power", none)).2 ≠ (cT K ("RawField", some "power")).2) && (clB K (ga K "RawField") && (naB K (ga K "RawField") "divisor" && (naB K (ga K "RawField") "base" && (naB K (ga K "RawField") "width" && (naB K (ga K "RawField") "nought" && (naB K (ga K "RawField") "unit" && (naB K (ga K "RawField") "turn_table" && (naB K (ga K "RawField") "high_table" && (mkB K (ga K "RawField") "__init__" (ma K (ga K "RawField") "__init__") && (mtB K (ga K "RawField") "x_power" (ma K (ga K "RawField") "x_power") && (mtB K (ga K "RawField") "has" (ma K (ga K "RawField") "has") && (mtB K (ga K "RawField") "plain" (ma K (ga K "RawField") "plain") && (mtB K (ga K "RawField") "turned" (ma K (ga K "RawField") "turned") && (mtB K (ga K "RawField") "orbit" (ma K (ga K "RawField") "orbit") && (mtB K (ga K "RawField") "plus" (ma K (ga K "RawField") "plus") && (mtB K (ga K "RawField") "minus" (ma K (ga K "RawField") "minus") && (mtB K (ga K "RawField") "times" (ma K (ga K "RawField") "times") && (mtB K (ga K "RawField") "undone" (ma K (ga K "RawField") "undone") && (mtB K (ga K "RawField") "power" (ma K (ga K "RawField") "power") && (mtB K (ga K "RawField") "turn_sum" (ma K (ga K "RawField") "turn_sum") && (mtB K (ga K "RawField") "turn_product" (ma K (ga K "RawField") "turn_product") && (clB K (ga K "Field") && (naB K (ga K "Field") "_rule" && (naB K (ga K "Field") "_prime" && (naB K (ga K "Field") "raw" && (naB K (ga K "Field") "_size" && (mkB K (ga K "Field") "__init__" (ma K (ga K "Field") "__init__") && (mtB K (ga K "Field") "prime" (ma K (ga K "Field") "prime") && (mtB K (ga K "Field") "size" (ma K (ga K "Field") "size") && (mtB K (ga K "Field") "plain" (ma K (ga K "Field") "plain") && (mtB K (ga K "Field") "plus" (ma K (ga K "Field") "plus") && (mtB K (ga K "Field") "minus" (ma K (ga K "Field") "minus") && (mtB K (ga K "Field") "times" (ma K (ga K "Field") "times") && (mtB K (ga K "Field") "undone" (ma K (ga K "Field") "undone") && (mtB K (ga K "Field") "power" (ma K (ga K "Field") "power") && (mtB K (ga K "Field") "turned" (ma K (ga K "Field") "turned") && (mtB K (ga K "Field") "degree" (ma K (ga K "Field") "degree") && (mtB K (ga K "Field") "least" (ma K (ga K "Field") "least") && (mtB K (ga K "Field") "trace" (ma K (ga K "Field") "trace") && (mtB K (ga K "Field") "norm" (ma K (ga K "Field") "norm") && (mtB K (ga K "Field") "place" (ma K (ga K "Field") "place") && (mtB K (ga K "Field") "nth" (ma K (ga K "Field") "nth")))))))))))))))))))))))))))))))))))))))))))))))))))))
abbrev R : PySem.W.OpenRow := PySem.W.OpenLaw.row PySem.Challenge.rw_rungfields_k26_whole_fields_are_fields
abbrev hk : PySem.W.Hook := hookA (asB 3) faL fnL [("rest_power", none), ("raw_power", none), ("RawField", some "power")] exL
def ob (s : PySem.W.SharedT) : AlX := obsA (asB 3) faL fnL [("rest_power", none), ("raw_power", none), ("RawField", some "power")] exL (HandSHeadRun.getT s)
theorem ob_eq (s : PySem.W.SharedT) : ob s = hk.obs s.abs := obsA_eq (HandSHeadRun.getT_eq s)
def loL : List Str := (["_wall", "RungError", "BadPrime", "BadRest", "BadPoly", "BadRule", "NotWhole", "BadDegree", "BadNumber", "NoInverse"] : List Str) ++ (["power_by", "PRIMES", "LEAST", "is_prime", "is_number", "is_rest", "refuse_prime", "refuse_rest", "rest_power", "raw_stepped"] : List Str) ++ (["cleared", "head_place", "unit_row", "raw_kernel", "trimmed", "raw_scaled", "raw_plus", "raw_minus", "raw_times", "raw_parted"] : List Str) ++ (["raw_left", "raw_power", "raw_slope", "raw_level", "raw_greatest", "raw_undone", "padded", "turn_rows", "weighed", "MOST_RESTS"] : List Str) ++ (["is_poly", "refuse_polys", "written", "written_term", "raw_parts", "first_part", "taken_out", "whole_parts", "single_parts", "steady_polys"] : List Str) ++ (["split_by", "half_mask", "refuse_numbers", "RawField", "over_trimmed", "raw_over_times", "raw_built", "X", "MOST_DEGREE", "is_whole"] : List Str) ++ (["least_whole", "refuse_degree", "count_on", "raw_whole", "turns_of_x", "refuse_rule", "refuse_count", "Field", "_law_begin", "_law_take"] : List Str) ++ (["_law_of", "_law_trim", "_law_rests", "_law_blend", "_law_conv", "_law_mul", "_law_great", "_law_shifted", "_law_great_rule", "_law_number"] : List Str) ++ (["_law_placed", "_law_least_right"] : List Str)
theorem map3 {A B B2 C D : Type} {r : Option A} {f : A → B} {g : A → B2} {h : A → C} {i : A → D} {a : B} {b : B2} {c : C} {d : D} (h1 : r.map (fun s => (f s, g s)) = some (a, b)) (h2 : r.map h = some c) (h3 : r.map i = some d) : r.map (fun s => (f s, g s, (h s, i s))) = some (a, b, (c, d)) := by
  cases r with
  | none => cases h1
  | some x =>
    cases h1
    cases h2
    cases h3
    rfl
section
open PySem.W PySem.Calls
noncomputable abbrev endS (w : World) (os : OsState) : Option PySem.W.SharedT := HandSHeadRun.endF (HandSHeadRun.stepQ (HandSHeadRun.denQ HandSHeadRun.tabQ) R.prog w) 18000 R.prog w os
def obK (s : PySem.W.SharedT) : PySem.W.Frag := frT (HandSHeadRun.getT s) (asB 3 (HandSHeadRun.getT s))
theorem run1 (w : World) (os : OsState) : (endS w os).map (fun s => (HandSHeadRun.looksF R.prog (boot_heap w.params) s.abs, HandSHeadRun.seenQ (PySem.W.view R.prog [94]) loL (importedModules R.prog.main.body) (fun s => xlAt (PySem.W.view R.prog [94]) [] s && recOk R.toRowW.records s) s.abs)) = some (true, openGood (PySem.W.view R.prog [94]) loL) := by
  kernel_rfl
theorem run2 (w : World) (os : OsState) : (endS w os).map (fun s => obsT faL fnL [] (obK s)) = some (valT fnL [] w) := by
  kernel_rfl
theorem run3 (w : World) (os : OsState) : (endS w os).map (fun s => exL (obK s) && tabsB (HandSHeadRun.getT s) [("rest_power", none), ("raw_power", none), ("RawField", some "power")] (obK s)) = some true := by
  kernel_rfl
theorem run (w : World) : HandSHeadRun.RunEq R (PySem.W.view R.prog [94]) hk ob 18000 loL w := by
  intro os
  exact map3 (run1 w os) (run2 w os) (run3 w os)
end
end Xk
end
section
set_option Elab.async false
set_option linter.all false
set_option maxRecDepth 100000
set_option maxHeartbeats 4000000
namespace Xk
open PySem PySem.Spec PyProof.Rows L2 Xh
/-- names that are the built-in ones still -/
structure Fre (mg : Str → Option Value) : Prop where
  f_len : mg "len" = none
  f_abs : mg "abs" = none
  f_list : mg "list" = none
  f_tuple : mg "tuple" = none
  f_int : mg "int" = none
  f_bool : mg "bool" = none
  f_str : mg "str" = none
  f_isinstance : mg "isinstance" = none
  f_range : mg "range" = none
  f_all : mg "all" = none
  f_zip : mg "zip" = none
  f_enumerate : mg "enumerate" = none
  f_max : mg "max" = none
  f_reversed : mg "reversed" = none
  f_any : mg "any" = none
  f_sorted : mg "sorted" = none
  f_set : mg "set" = none
  f_sum : mg "sum" = none
/-! ### what is drawn -/
/-- a row of draws stands at d -/
def Draw (H : Hp) (d : Addr) : Prop := ∃ (c : Addr) (ns : List Int) (i : Nat) (r g : Int), H d = some (.lst [.ref c, .int i, .int r, .int g]) ∧ H c = some (.lst (ns.map V.int)) ∧ 0 ≤ g ∧ g < 2147483647
/-- all but what stands at d is as it was -/
structure But (d : Addr) (H H' : Hp) : Prop where
  f : ∀ b o, b ≠ d → H b = some o → H' b = some o
  c : ∀ c r, H d = some (.lst (.ref c :: r)) → ∃ r', H' d = some (.lst (.ref c :: r'))
instance {d : Addr} {H H' : Hp} : CoeFun (But d H H') (fun _ => ∀ b o, b ≠ d → H b = some o → H' b = some o) := ⟨But.f⟩
theorem But.refl (d : Addr) (H : Hp) : But d H H := ⟨fun _ _ _ e => e, fun _ r e => ⟨r, e⟩⟩
theorem But.trans {d : Addr} {H H1 H2 : Hp} (a : But d H H1) (b : But d H1 H2) : But d H H2 := ⟨fun c o h e => b.f c o h (a.f c o h e), fun c r e => by
  obtain ⟨r1, e1⟩ := a.c c r e
  exact b.c c r1 e1⟩
theorem But.same {d : Addr} {H H1 : Hp} (a : Same H H1) : But d H H1 := ⟨fun c o _ e => a c o e, fun c r e => ⟨r, a _ _ e⟩⟩
theorem But.upd {d c : Addr} {H : Hp} {r r' : List V} (h : H d = some (.lst (.ref c :: r))) : But d H (upd H d (.lst (.ref c :: r'))) := ⟨fun b u h e => by rw [upd_ne h]; exact e, fun c' r2 e => by
  rw [h] at e
  cases e
  exact ⟨r', upd_same⟩⟩
theorem But.updN {d p : Addr} {H : Hp} {o : HO} (h : H p = none) : But d H (L2.upd H p o) := ⟨fun b u _ e => by rw [upd_ne (ne_of_none e h)]; exact e, fun c r e => ⟨r, by rw [upd_ne (ne_of_none e h)]; exact e⟩⟩
theorem But.free {d p : Addr} {H H' : Hp} (a : But d H H') (h : H' p = none) (hd : p ≠ d) : H p = none := by
  cases q : H p with
  | none => rfl
  | some o =>
    rw [a p o hd q] at h
    cases h
theorem same_upd {p : Addr} {H : Hp} {o : HO} (h : H p = none) : Same H (L2.upd H p o) := fun b u e => by rw [upd_ne (ne_of_none e h)]; exact e
theorem Draw.there {H : Hp} {d : Addr} (D : Draw H d) : ∃ o, H d = some o := by
  obtain ⟨c, ns, i, r, g, h, _⟩ := D
  exact ⟨_, h⟩
theorem Draw.same {H H' : Hp} {d : Addr} (D : Draw H d) (s : Same H H') : Draw H' d := by
  obtain ⟨c, ns, i, r, g, h1, h2, h3⟩ := D
  exact ⟨c, ns, i, r, g, s _ _ h1, s _ _ h2, h3⟩
theorem Draw.ne {H : Hp} {d p : Addr} (D : Draw H d) (h : H p = none) : p ≠ d := fun z => by
  obtain ⟨o, e⟩ := D.there
  rw [z, e] at h
  cases h
theorem But.seq {K : PySem.W.Frag} {d a : Addr} {H H' : Hp} {xs : List V} (b : But d H H') (hd : a ≠ d) (h : SqL K H a xs) : SqL K H' a xs := by
  rcases h with (h | ⟨o, h⟩) | h
  · exact .inl (.inl (b _ _ hd h))
  · exact .inl (.inr ⟨o, b _ _ hd h⟩)
  · exact .inr h
/-- a row that is not the drawing one -/
theorem Draw.apart {H : Hp} {d p : Addr} {ns : List Int} (D : Draw H d) (h : H p = some (.lst (ns.map V.int))) : p ≠ d := fun z => by
  obtain ⟨c, ms, i, r, g, h1, h2, h3⟩ := D
  rw [z, h1] at h
  cases ns with
  | nil => cases h
  | cons n ns => cases h
/-- a list of the comprehension's own grows while draws go on -/
theorem Draw.updR {H0 H2 : Hp} {d D : Addr} {xs ys : List V} (D0 : Draw H0 d) (hD : H0 D = none) (b : But d H0 H2) (D2 : Draw H2 d) (e : H2 D = some (.lst xs)) : Draw (L2.upd H2 D (.lst ys)) d := by
  obtain ⟨c, ns, i, r, g, h1, h2, _⟩ := D0
  obtain ⟨c', ns', i', r', g', f1, f2, f3⟩ := D2
  obtain ⟨q, e1⟩ := b.c _ _ h1
  rw [f1] at e1
  cases e1
  exact ⟨_, ns', i', r', g', by rw [upd_ne (ne_of_none h1 hD)]; exact f1, by rw [upd_ne (ne_of_none h2 hD)]; exact f2, f3⟩
theorem cutV_ints (ns : List Int) (lo hi : Option Int) : ∃ ms : List Int, cutV (ns.map V.int) lo hi = ms.map V.int := by
  refine ⟨(ns.drop (HT.sIx ns.length 0 lo)).take (HT.sIx ns.length ns.length hi - HT.sIx ns.length 0 lo), ?_⟩
  unfold cutV
  rw [List.length_map, ← List.map_drop, ← List.map_take]
theorem ne_of_none' {H : Hp} {a b : Addr} {o : HO} (h : H a = none) (h' : H b = some o) : a ≠ b := fun z => by
  rw [z, h'] at h
  cases h
def spBegin (K : PySem.W.Frag) : Sp := fun vs H Q _ => ∃ (a : Addr) (ns : List Int), vs = [.ref a] ∧ SqL K H a (ns.map V.int) ∧ ∀ d H', Same H H' → H d = none → Draw H' d → Q (.ref d) H'
def spTake : Sp := fun vs H Q _ => ∃ (d : Addr) (n : Int), vs = [.ref d, .int n] ∧ Draw H d ∧ 1 ≤ n ∧ n.natAbs < 2 ^ 200 ∧ ∀ (m : Int) (H' : Hp), 0 ≤ m → m < n → Draw H' d → But d H H' → Q (.int m) H'
def spOf (K : PySem.W.Frag) : Sp := fun vs H Q _ => ∃ (d a : Addr) (xs : List V), vs = [.ref d, .ref a] ∧ Draw H d ∧ SqL K H a xs ∧ a ≠ d ∧ 0 < xs.length ∧ xs.length ≤ 1000 ∧ ∀ (x : V) (H' : Hp), x ∈ xs → Draw H' d → But d H H' → Q x H'
def spPrimes : Sp := fun vs H Q _ => vs = [] ∧ ∀ (p : Addr) (H' : Hp), Same H H' → H p = none → H' p = some (.lst (primes.map V.int)) → Q (.ref p) H'
def spAnyPrime : Sp := fun vs H Q _ => ∃ (d : Addr), vs = [.ref d] ∧ Draw H d ∧ ∀ (p : Int) (H' : Hp), p ∈ primes → Draw H' d → But d H H' → Q (.int p) H'
theorem big {n : Nat} (h : n ≤ 1000) : n < 2 ^ 200 := Nat.lt_of_le_of_lt h (by decide)
section
variable {P : Program} {w : World} {K : PySem.W.Frag} {mg : Str → Option Value} {base : Heap}
theorem sc_law_begin : FnScope (["_law_script"] : List Str) ["_law_script"] (defScope s_law_begin) := ⟨rfl, rfl, rfl, by decide +kernel, rfl, by decide +kernel, by decide +kernel⟩
theorem ok_begin {f : Addr} {fd : FuncData} (F : FunD K "_law_begin" "_law_begin" (defArgs s_law_begin) (defBody s_law_begin) (defScope s_law_begin) [] [] f fd) (T : Fre mg) : FnOk P w K mg base CX0 1 f fd ["_law_script"] (spBegin K) := by
  refine F.ok sc_law_begin (fun vs H Q E h => ?_) (fun cdv A outer s H vs Q E hr h => ?_)
  · obtain ⟨a, ns, rfl, _⟩ := h
    rfl
  · obtain ⟨a, ns, rfl, hS, k⟩ := h
    refine ⟨_, PSs.nox (pss_one (ps_ret (pe_lst (pa_cons (pe_callTy call_list_of (by rfl) T.f_list (by decide +kernel) (pa_cons (pe_slice sl_list (pv 0) po_none (po_some pe_int)) pa_nil)) (pa_cons pe_int (pa_cons pe_int (pa_cons pe_int pa_nil))))))) , ?_⟩
    refine ⟨_, rfl, 63, rfl, a, _, rfl, hS, fun p hp => ⟨p, _, rfl, .inl (SqL.of upd_same), fun l hl => ⟨(by show 4 ≤ sizeLine; decide), fun d hd => ?_⟩⟩⟩
    obtain ⟨ms, em⟩ := cutV_ints ns none (some 63)
    have h1 : H l = none := by rw [← upd_ne (H := H) (o := .lst (cutV (ns.map V.int) none (some 63))) (ne_of_none' hl upd_same)]; exact hl
    have s1 : Same H (L2.upd H p (.lst (cutV (ns.map V.int) none (some 63)))) := same_upd hp
    have s2 := s1.trans (same_upd (o := .lst (cutV (ns.map V.int) none (some 63))) hl)
    refine k d _ (s2.trans (same_upd hd)) (s2.free hd) ⟨l, ms, 0, 0, 37, upd_same, ?_, by decide, by decide⟩
    rw [upd_ne (ne_of_none upd_same hd), upd_same, em]
theorem sc_law_take : FnScope (["_law_draw", "_law_sides", "_law_cell", "_law_got"] : List Str) ["_law_draw", "_law_sides"] (defScope s_law_take) := ⟨rfl, rfl, rfl, by decide +kernel, rfl, by decide +kernel, by decide +kernel⟩
theorem ok_take {f : Addr} {fd : FuncData} (F : FunD K "_law_take" "_law_take" (defArgs s_law_take) (defBody s_law_take) (defScope s_law_take) [] [] f fd) (T : Fre mg) : FnOk P w K mg base CX0 1 f fd ["_law_draw", "_law_sides"] spTake := by
  refine F.ok sc_law_take (fun vs H Q E h => ?_) (fun cdv A outer s H vs Q E hr h => ?_)
  · obtain ⟨d, n, rfl, _⟩ := h
    rfl
  · obtain ⟨d, n, rfl, D, h1, h2, k⟩ := h
    obtain ⟨c, ns, i, r, g, e1, e2, g0, g1⟩ := id D
    have hcd : c ≠ d := D.apart e2
    refine ⟨_, PSs.nox (C8.pss_cut (ps_if (PW.pt (pw_and (pt_cmpR op_lt (pe_ix ix_list (pv 0) pe_int (fun _ _ => rfl)) (pv 1) (nomark _)) (pw_and1 (pt_cmpR op_lt (pe_ix ix_list (pv 0) pe_int (fun _ _ => rfl)) (pe_callB call_len_seq (by rfl) T.f_len PySem.boot_len (pa_cons (pe_ix ix_list (pv 0) pe_int (fun _ _ => rfl)) pa_nil)) (nomark _))))) (pss_cons (ps_set (i := 2) sc_law_take.nd rfl (Or.inl rfl) (pe_ix ix_list (pe_ix ix_list (pv 0) pe_int (fun _ _ => rfl)) (pe_ix ix_list (pv 0) pe_int (fun _ _ => rfl)) (fun _ _ => rfl)))
      (pss_cons (ps_asg (pe_op op_add (pe_ix ix_list (pv 0) pe_int (fun _ _ => rfl)) pe_int) (pg_sub (pv 0) pe_int set_list))
      (pss_cons (ps_asg pe_int (pg_sub (pv 0) pe_int set_list))
      (pss_one (ps_if (pt_cmpR op_ge (pe_callB call_abs (by rfl) T.f_abs (by decide +kernel) (pa_cons (pv 2) pa_nil)) (pe_op op_pow pe_int pe_int) (nomark _)) (pss_one (ps_asg (pe_callB call_abs (by rfl) T.f_abs (by decide +kernel) (pa_cons (pv 2) pa_nil)) (pg_sub (pv 0) pe_int set_list))) (pss_one (ps_asg (pe_op op_modN (pe_op op_add (pe_op op_add (pe_op op_mul (pe_ix ix_list (pv 0) pe_int (fun _ _ => rfl)) pe_int) (pe_op op_mul (pe_op op_modN (pv 2) pe_int) pe_int)) pe_int) pe_int) (pg_sub (pv 0) pe_int set_list)))))))) pss_nil)
      (pss_cons (ps_if (pt_cmpR op_ge (pe_ix ix_list (pv 0) pe_int (fun _ _ => rfl)) (pv 1) (nomark _)) (pss_cons (ps_set (i := 3) sc_law_take.nd rfl (Or.inl rfl) (pe_op op_modN (pe_ix ix_list (pv 0) pe_int (fun _ _ => rfl)) (pv 1)))
      (pss_cons (ps_asg (pe_op op_fdivW (pe_ix ix_list (pv 0) pe_int (fun _ _ => rfl)) (pv 1)) (pg_sub (pv 0) pe_int set_list))
      (pss_one (ps_ret (pv 3))))) pss_nil)
      (pss_cons (ps_asg (pe_op op_modN (pe_op op_add (pe_op op_add (pe_op op_mul (pe_op op_modN (pe_op op_mul (pe_ix ix_list (pv 0) pe_int (fun _ _ => rfl)) (pe_ix ix_list (pv 0) pe_int (fun _ _ => rfl))) pe_int) pe_int) (pe_op op_mul (pe_ix ix_list (pv 0) pe_int (fun _ _ => rfl)) pe_int)) pe_int) pe_int) (pg_sub (pv 0) pe_int set_list))
      (pss_one (ps_ret (pe_op op_modN (pe_op op_add (pe_op op_fdivW (pe_ix ix_list (pv 0) pe_int (fun _ _ => rfl)) pe_int) (pe_op op_mul (pe_op op_modN (pe_ix ix_list (pv 0) pe_int (fun _ _ => rfl)) pe_int) pe_int)) (pv 1))))))) , ?_⟩
    refine ⟨fun σ' H' => ∃ x, σ' = [some (.ref d), some (.int n), x, none] ∧ Draw H' d ∧ But d H H', ?_, ?_⟩
    · have same : ∃ x, L2.start ["_law_draw", "_law_sides", "_law_cell", "_law_got"] [V.ref d, V.int n] = [some (.ref d), some (.int n), x, none] ∧ Draw H d ∧ But d H H := ⟨none, rfl, D, But.refl d H⟩
      refine ⟨_, rfl, d, _, 2, _, rfl, rfl, SqL.of e1, rfl, _, rfl, _, _, rfl, rfl, _, rfl, ?_⟩
      refine ite2 (fun hc => ?_) (fun hc => ?_)
      · refine ⟨_, rfl, d, _, 1, _, rfl, rfl, SqL.of e1, rfl, _, rfl, d, _, 0, _, rfl, rfl, SqL.of e1, rfl, c, _, rfl, .inl (SqL.of e2), _, _, rfl, rfl, _, rfl, ?_⟩
        refine ite2 (fun hi => ?_) (fun hi => ?_)
        · have hi' : i < ns.length := by
            have z := of_decide_eq_true hi
            rw [List.length_map] at z
            omega
          have e1a : ∀ o : HO, L2.upd H d o d = some o := fun o => upd_same
          refine ⟨_, rfl, d, _, 0, _, rfl, rfl, SqL.of e1, rfl, _, rfl, d, _, 1, _, rfl, rfl, SqL.of e1, rfl, c, _, i, .int ns[i], rfl, rfl, SqL.of e2, atI_nat (by simp [hi']), ?_⟩
          refine ⟨_, rfl, d, _, 1, _, rfl, rfl, SqL.of e1, rfl, _, _, rfl, rfl, _, rfl, d, _, 1, 1, rfl, rfl, e1, rfl, ?_⟩
          refine ⟨_, rfl, d, _, 2, 2, rfl, rfl, upd_same, rfl, ?_⟩
          rw [upd_upd]
          refine ⟨_, rfl, _, rfl, _, _, rfl, rfl, ⟨by decide, by decide, by decide⟩, _, _, rfl, rfl, _, rfl, ?_⟩
          have fin : ∀ (r' g' : Int), 0 ≤ g' → g' < 2147483647 → ∃ x, [some (V.ref d), some (V.int n), some (V.int ns[i]), none] = [some (.ref d), some (.int n), x, none] ∧ Draw (L2.upd H d (.lst [.ref c, .int ((i : Int) + 1), .int r', .int g'])) d ∧ But d H (L2.upd H d (.lst [.ref c, .int ((i : Int) + 1), .int r', .int g'])) := fun r' g' a1 a2 =>
            ⟨_, rfl, ⟨c, ns, i + 1, r', g', upd_same, by rw [upd_ne hcd]; exact e2, a1, a2⟩, But.upd e1⟩
          refine ite2 (fun ha => ?_) (fun ha => ?_)
          · refine ⟨_, rfl, _, rfl, _, rfl, d, _, 2, 2, rfl, rfl, upd_same, rfl, ?_⟩
            rw [upd_upd]
            exact fin _ g g0 g1
          · refine ⟨_, rfl, d, _, 3, _, rfl, rfl, SqL.of upd_same, rfl, _, _, rfl, rfl, .inr ⟨by decide, by decide⟩, _, rfl, _, _, rfl, rfl, (fun z => absurd z (by decide)), _, _, rfl, rfl, .inr ⟨by decide, by decide⟩, _, _, rfl, rfl, _, _, rfl, rfl, _, _, rfl, rfl, (fun z => absurd z (by decide)), _, rfl, d, _, 3, 3, rfl, rfl, upd_same, rfl, ?_⟩
            rw [upd_upd]
            exact fin 0 _ (Int.fmod_nonneg_of_pos _ (by decide)) (Int.fmod_lt_of_pos _ (by decide))
        · exact same
      · exact same
    · rintro σ' H' ⟨x, rfl, ⟨c', ns', i', r', g', f1, f2, b0, b1⟩, hb⟩
      have D' : Draw H' d := ⟨c', ns', i', r', g', f1, f2, b0, b1⟩
      have hcd' : c' ≠ d := D'.apart f2
      have hwd : CDivW r' n := wide_div (b := 200) (by omega) h2 (by decide) (by decide)
      refine ⟨_, rfl, d, _, 2, _, rfl, rfl, SqL.of f1, rfl, _, rfl, _, _, rfl, rfl, _, rfl, ?_⟩
      refine ite2 (fun hc => ?_) (fun hc => ?_)
      · refine ⟨_, rfl, d, _, 2, _, rfl, rfl, SqL.of f1, rfl, _, rfl, _, _, rfl, rfl, (by show n ≠ 0; omega), ?_⟩
        refine ⟨_, rfl, d, _, 2, _, rfl, rfl, SqL.of f1, rfl, _, rfl, _, _, rfl, rfl, hwd, _, rfl, d, _, 2, 2, rfl, rfl, f1, rfl, _, rfl, ?_⟩
        refine k _ _ (Int.fmod_nonneg_of_pos _ (by omega)) (Int.fmod_lt_of_pos _ (by omega)) ⟨c', ns', i', _, g', upd_same, by rw [upd_ne hcd']; exact f2, b0, b1⟩ (hb.trans (But.upd f1))
      · refine ⟨_, rfl, d, _, 3, _, rfl, rfl, SqL.of f1, rfl, _, rfl, d, _, 3, _, rfl, rfl, SqL.of f1, rfl, _, _, rfl, rfl, .inl ⟨by omega, by omega⟩, _, _, rfl, rfl, (fun z => absurd z (by decide)), _, _, rfl, rfl, .inr ⟨by decide, by decide⟩, _, rfl, d, _, 3, _, rfl, rfl, SqL.of f1, rfl, _, _, rfl, rfl, .inr ⟨by decide, by decide⟩, _, _, rfl, rfl, _, _, rfl, rfl, _, _, rfl, rfl, (fun z => absurd z (by decide)), _, rfl, d, _, 3, 3, rfl, rfl, f1, rfl, ?_⟩
        refine ⟨_, rfl, d, _, 3, _, rfl, rfl, SqL.of upd_same, rfl, _, _, rfl, rfl, wide_div (b := 6) (by decide) (by decide) (by decide) (by decide), _, rfl, d, _, 3, _, rfl, rfl, SqL.of upd_same, rfl, _, _, rfl, rfl, (fun z => absurd z (by decide)), _, _, rfl, rfl, .inr ⟨by decide, by decide⟩, _, _, rfl, rfl, _, rfl, _, _, rfl, rfl, (by show n ≠ 0; omega), ?_⟩
        refine k _ _ (Int.fmod_nonneg_of_pos _ (by omega)) (Int.fmod_lt_of_pos _ (by omega)) ⟨c', ns', i', _, _, upd_same, by rw [upd_ne hcd']; exact f2, Int.fmod_nonneg_of_pos _ (by decide), Int.fmod_lt_of_pos _ (by decide)⟩ (hb.trans (But.upd f1))
theorem sc_law_of : FnScope (["_law_draw", "_law_row"] : List Str) ["_law_draw", "_law_row"] (defScope s_law_of) := ⟨rfl, rfl, rfl, by decide +kernel, rfl, by decide +kernel, by decide +kernel⟩
theorem ok_of {f : Addr} {fd : FuncData} (F : FunD K "_law_of" "_law_of" (defArgs s_law_of) (defBody s_law_of) (defScope s_law_of) [] [] f fd) (T : Fre mg) (o_law_take : Own P w K mg base CX0 1 "_law_take" ["_law_draw", "_law_sides"] [] spTake) : FnOk P w K mg base CX0 2 f fd ["_law_draw", "_law_row"] (spOf K) := by
  refine F.ok sc_law_of (fun vs H Q E h => ?_) (fun cdv A outer s H vs Q E hr h => ?_)
  · obtain ⟨d, a, xs, rfl, _⟩ := h
    rfl
  · obtain ⟨d, a, xs, rfl, D, hS, had, h1, h2, k⟩ := h
    refine ⟨_, PSs.nox (pss_one (ps_ret (pe_ix ix_list (pv 1) (pe_own o_law_take (hr.mono (by decide)) rfl pass0 (pa_cons (pv 0) (pa_cons (pe_callB call_len_seq (by rfl) T.f_len PySem.boot_len (pa_cons (pv 1) pa_nil)) pa_nil))) (fun _ _ => rfl)))) , ?_⟩
    refine ⟨_, rfl, _, rfl, _, rfl, a, _, rfl, .inl hS, d, _, rfl, D, (by show 1 ≤ ((xs.length : Nat) : Int); omega), (by show ((xs.length : Nat) : Int).natAbs < 2 ^ 200; exact big (by omega)), fun m H' m0 m1 D' B => ?_⟩
    obtain ⟨j, rfl⟩ := Int.eq_ofNat_of_zero_le m0
    have hj : j < xs.length := by omega
    refine ⟨a, xs, j, xs[j], rfl, rfl, B.seq had hS, atI_nat (by simp [hj]), k _ _ (List.getElem_mem hj) D' B⟩
end
end Xk
end
section
set_option Elab.async false
set_option linter.all false
set_option maxRecDepth 100000
set_option maxHeartbeats 4000000
namespace Xk
open PySem PySem.Spec PyProof.Rows L2 Xh LamX NdefX
/-! ### two things alike -/
theorem tyT {K : PySem.W.Frag} {H : Hp} {a : Addr} {xs : List V} (h : SqT K H a xs) : TyX K H (.ref a) (.type "tuple") := by
  rcases h with (h | ⟨o, h⟩) | ⟨o, its, n, h, c, _⟩
  · exact .base (.tup h)
  · exact .fTuple h
  · exact .kTuple h c
theorem tyL {K : PySem.W.Frag} {H : Hp} {a : Addr} {xs : List V} (h : SqL K H a xs) : TyX K H (.ref a) (.type "list") := by
  rcases h with (h | ⟨o, h⟩) | ⟨o, its, n, h, c, _⟩
  · exact .base (.lst h)
  · exact .base (.frz h)
  · exact .kList h c
theorem sameT {K : PySem.W.Frag} {H H' : Hp} {a : Addr} {xs : List V} (e : Same H H') (h : SqT K H a xs) : SqT K H' a xs := by
  rcases h with (h | ⟨o, h⟩) | h
  · exact .inl (.inl (e _ _ h))
  · exact .inl (.inr ⟨o, e _ _ h⟩)
  · exact .inr h
def tyF : V → String
  | .non => "NoneType"
  | .bl _ => "bool"
  | .int _ => "int"
  | _ => "str"
theorem flat_ty {K : PySem.W.Frag} {H : Hp} {x : V} (h : flatV x = true) : TyX K H x (.type (tyF x)) := by
  cases x with
  | non => exact .base .non
  | bl b => exact .base (.bl b)
  | int i => exact .base (.int i)
  | str s => exact .base (.str s)
  | _ => cases h
theorem flat_ty4 {x : V} (h : flatV x = true) : tyF x = "NoneType" ∨ tyF x = "bool" ∨ tyF x = "int" ∨ tyF x = "str" := by
  cases x with
  | non => exact .inl rfl
  | bl b => exact .inr (.inl rfl)
  | int i => exact .inr (.inr (.inl rfl))
  | str s => exact .inr (.inr (.inr rfl))
  | _ => cases h
theorem any_lt {K : PySem.W.Frag} : PySem.W.kitAny K (.type "list") [.type "list", .type "tuple"] = some true := kitAny_cons (b := true) (kit_ty (by decide +kernel)) (fun z => by cases z) (fun _ => rfl)
theorem any_tt {K : PySem.W.Frag} : PySem.W.kitAny K (.type "tuple") [.type "list", .type "tuple"] = some true := kitAny_cons (b := false) (kit_ty (by decide +kernel)) (fun _ => kitAny_cons (b := true) (kit_ty (by decide +kernel)) (fun z => by cases z) (fun _ => rfl)) (fun z => by cases z)
theorem any_f {K : PySem.W.Frag} {t : String} (h : t = "NoneType" ∨ t = "bool" ∨ t = "int" ∨ t = "str") : PySem.W.kitAny K (.type t) [.type "list", .type "tuple"] = some false := by
  have two : kitB t "list" = some false ∧ kitB t "tuple" = some false := by
    rcases h with rfl | rfl | rfl | rfl <;> exact ⟨by decide +kernel, by decide +kernel⟩
  exact kitAny_cons (b := false) (kit_ty two.1) (fun _ => kitAny_cons (b := false) (kit_ty two.2) (fun _ => kitAny_nil) (fun z => by cases z)) (fun z => by cases z)
theorem one_f {K : PySem.W.Frag} {t : String} (h : t = "NoneType" ∨ t = "bool" ∨ t = "int" ∨ t = "str") : (∃ b, PySem.W.kitOne K (.type t) (.type "bool") = some b) ∧ (∃ b, PySem.W.kitOne K (.type t) (.type "int") = some b) ∧ ∃ b, PySem.W.kitOne K (.type t) (.type "str") = some b := by
  rcases h with rfl | rfl | rfl | rfl
  · exact ⟨⟨_, kit_ty (r := false) (by decide +kernel)⟩, ⟨_, kit_ty (r := false) (by decide +kernel)⟩, ⟨_, kit_ty (r := false) (by decide +kernel)⟩⟩
  · exact ⟨⟨_, kit_ty (r := true) (by decide +kernel)⟩, ⟨_, kit_ty (r := true) (by decide +kernel)⟩, ⟨_, kit_ty (r := false) (by decide +kernel)⟩⟩
  · exact ⟨⟨_, kit_ty (r := false) (by decide +kernel)⟩, ⟨_, kit_ty (r := true) (by decide +kernel)⟩, ⟨_, kit_ty (r := false) (by decide +kernel)⟩⟩
  · exact ⟨⟨_, kit_ty (r := false) (by decide +kernel)⟩, ⟨_, kit_ty (r := false) (by decide +kernel)⟩, ⟨_, kit_ty (r := true) (by decide +kernel)⟩⟩
theorem walk_zipT {K : PySem.W.Frag} {a b : Addr} {xs ys : List V} (hn : xs.length = ys.length) : Walk (RZ.ItzT K a b) xs.length (fun H => SqT K H a xs ∧ SqT K H b ys) (YPair (fun i => xs[i]?) (fun i => ys[i]?)) :=
  ⟨fun i H hi h => ⟨xs, ys, xs[i], ys[i]'(by omega), h.1, h.2, by simp [hi], by simp [show i < ys.length by omega]⟩, fun H h => ⟨xs, ys, h.1, h.2, .inl (Nat.le_refl _)⟩,
    fun i H x H' hi h y => by
      obtain ⟨T, u, v, e1, e2, e3, q1, q2⟩ := y
      exact ⟨T, u, v, e1, e2, e3, q1 xs h.1, q2 ys h.2⟩⟩
/-- alike, to a depth -/
def SameAt (K : PySem.W.Frag) (H : Hp) : Nat → V → V → Prop
  | 0, v, u => flatV u = true ∧ v = u
  | n + 1, v, u => (flatV u = true ∧ v = u) ∨ ∃ (a b : Addr) (xs ys : List V), v = .ref a ∧ u = .ref b ∧ ((SqL K H a xs ∧ SqL K H b ys) ∨ (SqT K H a xs ∧ SqT K H b ys)) ∧ xs.length = ys.length ∧ xs.length ≤ 1000 ∧ ∀ (i : Nat) (x y : V), xs[i]? = some x → ys[i]? = some y → SameAt K H n x y
theorem SameAt.same {K : PySem.W.Frag} {H H' : Hp} (s : Same H H') : ∀ {n : Nat} {v u : V}, SameAt K H n v u → SameAt K H' n v u
  | 0, _, _, h => h
  | n + 1, _, _, .inl h => .inl h
  | n + 1, _, _, .inr ⟨a, b, xs, ys, e1, e2, h, l, l2, q⟩ => .inr ⟨a, b, xs, ys, e1, e2, h.imp (fun z => ⟨s.seq z.1, s.seq z.2⟩) (fun z => ⟨sameT s z.1, sameT s z.2⟩), l, l2, fun i x y hx hy => (q i x y hx hy).same s⟩
def spS (K : PySem.W.Frag) : Nat → Sp
  | 0 => fun _ _ _ _ => False
  | n + 1 => fun vs H Q _ => ∃ (v u : V), vs = [v, u] ∧ SameAt K H n v u ∧ ∀ H', Same H H' → Q (.bl true) H'
theorem spS_len {K : PySem.W.Frag} : ∀ (n : Nat) (vs : List V) (H : Hp) (Q : VK) (E : XK), spS K n vs H Q E → vs.length = (["_law_found", "_law_due"] : List Str).length
  | 0, _, _, _, _, h => h.elim
  | n + 1, _, _, _, _, ⟨v, u, e, _⟩ => by rw [e]; rfl
section
variable {P : Program} {w : World} {K : PySem.W.Frag} {mg : Str → Option Value} {base : Heap}

end
end Xk
end
section
set_option Elab.async false
set_option linter.all false
set_option maxRecDepth 100000
set_option maxHeartbeats 4000000
namespace Xk
open PySem PySem.Spec PyProof.Rows L2 Xh LamX NdefX
/-- N to the power e by P -/
def rpow (N : Nat) (e : Int) (P : Nat) : Nat := if N = 0 then (if e = 0 then 1 else 0) else N ^ (e.fmod ((P : Int) - 1)).toNat % P
def spRPow : Sp := fun vs H Q _ => ∃ (N P : Nat) (e : Int), vs = [.int N, .int e, .int P] ∧ 2 ≤ P ∧ P ≤ 1000 ∧ N < P ∧ Q (.int (rpow N e P)) H
theorem fmodN (a b : Nat) : (a : Int).fmod (b : Int) = ((a % b : Nat) : Int) := by
  rw [Int.fmod_eq_emod_of_nonneg _ (Int.natCast_nonneg b), Int.natCast_emod]
def slotN (i : Nat) (σ : L2.St) : Nat := match σ[i]? with
  | some (some (.int s)) => s.toNat
  | _ => 0
/-! ### powers by any multiplication -/
/-- c multiplies: Rel i x: x is the i-th power; what power_by promises by that -/
def TTpow : Addr → Sp → Sp := fun f c vs H Q E => ∃ (u o : V) (e : Nat) (Rel : Nat → V → Hp → Prop) (T : List (Addr × Str)), vs = [.ref f, u, o, .int e] ∧ Tabs T H ∧ Rel 0 u H ∧ Rel 1 o H ∧ (∀ i x H1 H2, Gr T H1 H2 → Rel i x H1 → Rel i x H2) ∧
  (∀ i j x y H1, Gr T H H1 → Rel i x H1 → Rel j y H1 → ∀ Q', (∀ z H2, Gr T H1 H2 → Rel (i + j) z H2 → Q' z H2) → c [x, y] H1 Q' E) ∧ ∀ z H1, Gr T H H1 → Rel e z H1 → Q z H1
/-- the lambda in a row `return g(lambda .., ..)` -/
def lamP (s : Stmt) : Arguments × Expr × Scope := match s with
  | .Return (some (.Call _ (.Lambda p b c _ :: _) _ _)) _ => (p, b, c)
  | s => (defArgs s, .Name "x" ⟨0, 0, 0, 0⟩, defScope s)
/-- of rests -/
def spMulP : List (Option V) → Sp := fun ws vs H Q _ => ∃ a b M : Nat, ws = [some (.int M)] ∧ vs = [.int a, .int b] ∧ a < M ∧ b < M ∧ 2 ≤ M ∧ M ≤ 1000 ∧ Q (.int ((a * b % M : Nat) : Int)) H
def rpQ : Str := (envOfC "rest_power" ⟨.function, [], false, false, []⟩ 0 0 .none).qual ++ "<lambda>"
def spRPowT (T : List (Addr × Str)) : Sp := fun vs H Q _ => ∃ (N P : Nat) (e : Int), vs = [.int N, .int e, .int P] ∧ 2 ≤ P ∧ P ≤ 1000 ∧ N < P ∧ Tabs T H ∧ ∀ H', Gr T H H' → Q (.int (rpow N e P)) H'
section
variable {P : Program} {w : World} {K : PySem.W.Frag} {mg : Str → Option Value} {base : Heap}
theorem sc_power_by : FnScope (["times", "unit", "one", "exponent", "power", "square", "steps"] : List Str) ["times", "unit", "one", "exponent"] (defScope s_power_by) := ⟨rfl, rfl, rfl, by decide +kernel, rfl, by decide +kernel, by decide +kernel⟩
theorem ok_power_by {g : Addr} {fd : FuncData} {kl : Nat} (F : FunD K "power_by" "power_by" (defArgs s_power_by) (defBody s_power_by) (defScope s_power_by) [] [] g fd) (m : mg "power_by" = some (.ref g)) : GivesV P w K mg base (kl + 1) kl "power_by" g TTpow := by
  refine givesV_of (Ng := ["times", "unit", "one", "exponent", "power", "square", "steps"]) (ps := ["times", "unit", "one", "exponent"]) F m sc_power_by (fun _ _ _ _ _ _ us hl => match us, hl with | [_, _, _, _], _ => rfl) (fun f c vs H Q E h => ?_) fun cdg A outer f FF b lps fr ws spl s H vs Q hr Fn C hf h => ?_
  · obtain ⟨u, o, e, Rel, TG, rfl, _⟩ := h
    rfl
  · obtain ⟨u, o, e, Rel, TG, rfl, hTG, r0, r1, stay, step, k⟩ := h
    have pf : ∀ {H1 : Hp}, Gr TG H H1 → H1 f = some (LamO f FF b) := fun g => g.x _ _ hf lamO_ne
    refine ⟨_, (pss_cons (ps_set (i := 4) sc_power_by.nd rfl (Or.inl rfl) (pv 1))
      (pss_cons (ps_set (i := 5) sc_power_by.nd rfl (Or.inl rfl) (pv 2))
      (pss_cons (ps_set (i := 6) sc_power_by.nd rfl (Or.inl rfl) (pv 3))
      (pss_cons (ps_while PassesOwn.never (pt_cmpR op_gt (pv 6) pe_int (nomark _)) (C8.pss_cut (ps_if (pt_cmpR op_eq (pe_op op_modN (pv 6) pe_int) pe_int (nomark _)) (pss_one (ps_set (i := 4) sc_power_by.nd rfl (Or.inl rfl) (pe_callP (i := 0) Fn C rfl hr (Nat.le_refl _) pass0 rfl (Or.inl rfl) (pa_cons (pv 4) (pa_cons (pv 5) pa_nil))))) pss_nil)
      (pss_cons (ps_aug (i := 6) sc_power_by.nd rfl (Or.inl rfl) pe_int iop_fdivW)
      (pss_one (ps_if (pt_cmpR op_gt (pv 6) pe_int (nomark _)) (pss_one (ps_set (i := 5) sc_power_by.nd rfl (Or.inl rfl) (pe_callP (i := 0) Fn C rfl hr (Nat.le_refl _) pass0 rfl (Or.inl rfl) (pa_cons (pv 5) (pa_cons (pv 5) pa_nil))))) pss_nil)))))
      (pss_one (ps_ret (pv 4))))))) , ?_⟩
    refine ⟨_, rfl, _, rfl, _, rfl, ?_⟩
    refine while_by (fun σ' H' => ∃ (i j n : Nat) (x y : V), σ' = [some (.ref f), some u, some o, some (.int e), some x, some y, some (.int n)] ∧ Gr TG H H' ∧ Rel i x H' ∧ Rel j y H' ∧ i + j * n = e) (fun σ' _ => slotN 6 σ')
      ⟨0, 1, e, u, o, rfl, Gr.refl hTG, r0, r1, by omega⟩ ?_ (fun σ H Q Q' m ⟨v, h1, i, j, h2, h3, k, h4, q⟩ => ⟨v, h1, i, j, h2, h3, k, h4, m _ _ q⟩)
    rintro σ' H1 ⟨i, j, n, x, y, rfl, s1, ri, rj, inv⟩
    have en : (n : Int) / 2 = ((n / 2 : Nat) : Int) := by omega
    have e3 : (n : Int).fmod 2 = ((n % 2 : Nat) : Int) := fmodN n 2
    refine ⟨_, rfl, _, _, rfl, rfl, _, rfl, ite2 (fun hc => ?_) (fun hc => ?_)⟩
    · have n0 : 0 < n := by
        have z := of_decide_eq_true hc
        omega
      refine ⟨fun σ' H' => ∃ (i' : Nat) (x' : V), σ' = [some (.ref f), some u, some o, some (.int e), some x', some y, some (.int n)] ∧ Gr TG H H' ∧ Rel i' x' H' ∧ Rel j y H' ∧ i' + j * (2 * (n / 2)) = e, ?_, ?_⟩
      · refine ⟨_, rfl, _, _, rfl, rfl, (fun z => absurd z (by decide)), rfl, _, rfl, ite2 (fun hb => ?_) (fun hb => ?_)⟩
        · have hb' : n % 2 = 1 := by
            have z := V.int.inj (of_decide_eq_true hb)
            rw [e3] at z
            omega
          refine ⟨rfl, pf s1, _, rfl, _, rfl, step i j x y H1 s1 ri rj _ fun z H2 s2 rz => ⟨i + j, z, rfl, s1.trans s2, rz, stay j y _ _ s2 rj, ?_⟩⟩
          have h2 : n = 2 * (n / 2) + 1 := by omega
          rw [← inv]
          conv => rhs; rw [h2, Nat.mul_add]
          omega
        · have hb' : n % 2 ≠ 1 := fun z => hb (decide_eq_true (by show V.int ((n : Int).fmod 2) = V.int 1; rw [e3, z]; rfl))
          have h2 : n = 2 * (n / 2) := by omega
          exact ⟨i, x, rfl, s1, ri, rj, by rw [← h2]; exact inv⟩
      · rintro σ' H2 ⟨i', x', rfl, s2, ri', rj', inv'⟩
        refine ⟨_, rfl, _, _, rfl, rfl, wide_div (b := 2) (by decide) (by decide) (by decide) (by decide), ?_⟩
        have less : (n / 2) < n := by omega
        refine ⟨_, rfl, _, _, rfl, rfl, _, rfl, ite2 (fun hd => ?_) (fun hd => ?_)⟩
        · refine ⟨rfl, pf s2, _, rfl, _, rfl, step j j y y H2 s2 rj' rj' _ fun z H3 s3 rz => ⟨⟨i', j + j, n / 2, x', z, by rw [← en]; rfl, s2.trans s3, stay i' x' _ _ s3 ri', rz, ?_⟩, ?_⟩⟩
          · rw [← inv', Nat.add_mul, ← Nat.mul_assoc, Nat.mul_comm j 2, Nat.two_mul, Nat.add_mul]
          · show ((n : Int) / 2).toNat < (n : Int).toNat
            omega
        · have z0 : n / 2 = 0 := by
            by_cases z : n / 2 = 0
            · exact z
            · exact absurd (decide_eq_true (show (0 : Int) < (n : Int) / 2 by omega)) hd
          refine ⟨⟨i', j, n / 2, x', y, by rw [← en]; rfl, s2, ri', rj', ?_⟩, ?_⟩
          · rw [← inv', z0]
          · show ((n : Int) / 2).toNat < (n : Int).toNat
            omega
    · have z0 : n = 0 := by
        by_cases z : n = 0
        · exact z
        · exact absurd (decide_eq_true (show (0 : Int) < (n : Int) by omega)) hc
      refine ⟨_, rfl, k x H1 s1 ?_⟩
      rw [z0, Nat.mul_zero, Nat.add_zero] at inv
      rw [← inv]
      exact ri
theorem sc_rest_power : FnScope (["rest", "exponent", "prime", "steps"] : List Str) ["rest", "exponent", "prime"] (defScope s_rest_power) := ⟨rfl, rfl, rfl, by decide +kernel, rfl, by decide +kernel, by decide +kernel⟩
abbrev lam_rpL : Arguments × Expr × Scope := (lamP ((defBody s_rest_power).getD 2 (.Pass ⟨0, 0, 0, 0⟩)))
theorem nb_rp : ndefB (defScope s_rest_power) lam_rpL.2.2 ["prime"] = true := by decide +kernel
theorem ns_rp : NScope ["first", "second", "prime"] ["first", "second"] ["prime"] lam_rpL.2.2 := nscope_by (by decide +kernel)
theorem lam_rp {f : Addr} {F : NF} (hp : F.params = lam_rpL.1) (hs : F.scope = lam_rpL.2.2) : NOkL P w K mg base CX0 1 f F lam_rpL.2.1 ["first", "second"] ["prime"] spMulP := by
  obtain ⟨fn, fq, fp, fb, fs, fc, fo⟩ := F
  have hp : fp = _ := hp
  have hs : fs = _ := hs
  subst hp hs
  refine nokL_of (N := ["first", "second", "prime"]) ns_rp (fun pm ctv us hl => match us, hl with | [_, _], _ => rfl) (fun ws vs H Q E h => ?_) fun A outer s H vs ws Q E hr hw h => ?_
  · obtain ⟨a, b, M, _, rfl, _⟩ := h
    rfl
  · obtain ⟨a, b, M, rfl, rfl, ha, hb, h2, h3, k⟩ := h
    refine ⟨_, (pe_op op_modN (pe_op op_mul (pv 0) (pv 1)) (pv 2)), ?_⟩
    refine ⟨_, rfl, _, rfl, _, _, rfl, rfl, .inl ⟨by omega, by omega⟩, _, rfl, _, _, rfl, rfl, (fun z => by omega), ?_⟩
    show Q (.int (((a : Int) * (b : Int)).fmod (M : Int))) H
    rw [← Int.natCast_mul, fmodN]
    exact k
theorem ok_rest_power {T : List (Addr × Str)} {f cR PR g : Addr} {fd : FuncData} (F : FunD K "rest_power" "rest_power" (defArgs s_rest_power) (defBody s_rest_power) (defScope s_rest_power) [] [] f fd) (hcd : fd.code = .ref cR) (TB : TabB base mg cR PR) (hmT : (PR, rpQ) ∈ T) (hu : ∀ p ∈ T, p.1 = PR → p.2 = rpQ)
    (G_power_by : GivesV P w K mg base 2 1 "power_by" g TTpow) : FnOk P w K mg base CX0 3 f fd ["rest", "exponent", "prime"] (spRPowT T) := by
  refine FunD_okC F hcd sc_rest_power (fun vs H Q E h => ?_) (fun A outer s H vs Q E hr h => ?_)
  · obtain ⟨N, p, e, rfl, _⟩ := h
    rfl
  · obtain ⟨N, M, e, rfl, h2, hM, hN, hT, k⟩ := h
    refine ⟨_, PSs.nox (pss_cons (ps_if (pt_cmpR op_eq (pv 0) pe_int (nomark _)) (pss_one (ps_ret (pe_ifExp (pt_cmpR op_eq (pv 1) pe_int (nomark _)) pe_int pe_int))) pss_nil)
      (pss_cons (ps_set (i := 3) sc_rest_power.nd rfl (Or.inl rfl) (pe_op op_modN (pv 1) (pe_op op_sub (pv 2) pe_int)))
      (pss_one (ps_ret (pe_giveV (mk := lamF _ lam_rpL.1 lam_rpL.2.2) (js := [2]) G_power_by (fun f c' => lam_rp rfl rfl) (fun _ => rfl) (fun ok => Caps.made ok (ndef_free nb_rp) (ndef_fr nb_rp) rfl) (hr.mono (by decide)) rfl (pa_cons (pe_lamV TB rfl hmT hu rfl (ndef_free nb_rp)) (pa_cons pe_int (pa_cons (pv 0) (pa_cons (pv 3) pa_nil))))))))) , ?_⟩
    refine ⟨_, rfl, rfl, _, rfl, ite2 (fun hc => ?_) (fun hc => ?_)⟩
    · have hN0 : N = 0 := by
        have z := V.int.inj (of_decide_eq_true hc)
        omega
      have k := k H (Gr.refl hT)
      refine ⟨_, rfl, rfl, _, rfl, ?_⟩
      by_cases he : e = 0
      · rw [decide_eq_true (by rw [he])]
        refine iteT ?_
        unfold rpow at k
        rw [if_pos hN0, if_pos he] at k
        exact k
      · rw [decide_eq_false (fun z => he (V.int.inj z))]
        refine iteF ?_
        unfold rpow at k
        rw [if_pos hN0, if_neg he] at k
        exact k
    · have hN0 : N ≠ 0 := fun z => hc (decide_eq_true (by rw [z]; rfl))
      refine ⟨_, rfl, _, rfl, _, _, rfl, rfl, _, _, rfl, rfl, (fun z => by omega), ?_⟩
      obtain ⟨s0, hs0⟩ := Int.eq_ofNat_of_zero_le (Int.fmod_nonneg_of_pos e (show (0 : Int) < (M : Int) - 1 by omega))
      have rk : rpow N e M = N ^ s0 % M := by
        unfold rpow
        rw [if_neg hN0, hs0, Int.toNat_natCast]
      refine ⟨hT, fun fl c' H1 g1 nf e1 e2 _ => ⟨_, rfl, _, rfl, fl, c', e1, ?_⟩⟩
      refine ⟨.int 1, .int N, s0, fun i v _ => v = .int ((N ^ i % M : Nat) : Int), T, (by show [V.ref fl, V.int 1, V.int N, V.int (e.fmod ((M : Int) - 1))] = _; rw [hs0]), g1.t, ?_, ?_, fun _ _ _ _ _ z => z, fun i j x y H2 s2 ri rj Q' q => ⟨s2.x _ _ e1 lamO_ne, s2.x _ _ e2 codeO_ne, N ^ i % M, N ^ j % M, M, rfl, by rw [ri, rj], Nat.mod_lt _ (by omega), Nat.mod_lt _ (by omega), h2, hM, q _ _ (Gr.refl s2.t) ?_⟩, fun z H2 s2 rz => ?_⟩
      · show V.int 1 = V.int ((N ^ 0 % M : Nat) : Int)
        rw [Nat.pow_zero, Nat.mod_eq_of_lt (show 1 < M by omega)]
        rfl
      · show V.int N = V.int ((N ^ 1 % M : Nat) : Int)
        rw [Nat.pow_one, Nat.mod_eq_of_lt hN]
      · show V.int ((N ^ i % M * (N ^ j % M) % M : Nat) : Int) = V.int ((N ^ (i + j) % M : Nat) : Int)
        rw [← Nat.mul_mod, ← Nat.pow_add]
      · have rz : z = V.int ((N ^ s0 % M : Nat) : Int) := rz
        rw [rz, ← rk]
        exact k _ (g1.trans s2)
end
end Xk
end
section
set_option Elab.async false
set_option linter.all false
set_option maxRecDepth 100000
set_option maxHeartbeats 4000000
namespace Xk
open PySem PySem.Spec PyProof.Rows L2 Xh LamX NdefX
/-! ### rests -/
/-- what is wanted of a refusal: an own exception of the class at C, its word alone -/
def Ex (H : Hp) (E : XK) (C : Addr) (nm : Str) : Prop := ∀ (d : Addr) (H' : Hp), Same H H' → H' d = some (.xd [("word", .str nm)]) → H d = none → E (.ref C) (some d) H'
theorem Ex.imp {H : Hp} {E E' : XK} {C : Addr} {nm : Str} (x : Ex H E C nm) (h : ∀ c d H', E c d H' → E' c d H') : Ex H E' C nm := fun d H' a b c => h _ _ _ (x d H' a b c)
def spIsPrime : Sp := fun vs H Q _ => ∃ p : Int, vs = [.int p] ∧ Q (.bl (decide (p ∈ primes))) H
def spIsNum : Sp := fun vs H Q _ => ∃ n : Int, vs = [.int n] ∧ Q (.bl true) H
def spIsRest : Sp := fun vs H Q _ => ∃ n p : Int, vs = [.int n, .int p] ∧ Q (.bl (decide (0 ≤ n ∧ n < p))) H
def spRefP (C : Addr) : Sp := fun vs H Q E => ∃ p : Int, vs = [.int p] ∧ (p ∈ primes → Q .non H) ∧ (p ∉ primes → Ex H E C "BadPrime")
theorem inV_ints (p : Int) : ∀ ns : List Int, inV (.int p) (ns.map V.int) = decide (p ∈ ns)
  | [] => rfl
  | n :: ns => by
    have ih := inV_ints p ns
    unfold inV at ih ⊢
    rw [List.map_cons, List.any_cons, ih]
    show ((n == p) || decide (p ∈ ns)) = decide (p ∈ n :: ns)
    by_cases h : n = p
    · subst h
      simp
    · have h' : p ≠ n := fun z => h z.symm
      simp [h, h']
theorem all_flat (ns : List Int) : (ns.map V.int).all flatV = true := by
  rw [List.all_eq_true]
  intro x hx
  obtain ⟨n, _, rfl⟩ := List.mem_map.mp hx
  rfl
section
variable {P : Program} {w : World} {K : PySem.W.Frag} {mg : Str → Option Value} {base : Heap}
theorem sc_is_prime : FnScope (["number"] : List Str) ["number"] (defScope s_is_prime) := ⟨rfl, rfl, rfl, by decide +kernel, rfl, by decide +kernel, by decide +kernel⟩
theorem ok_is_prime {f : Addr} {fd : FuncData} {cP : Addr} (F : FunD K "is_prime" "is_prime" (defArgs s_is_prime) (defBody s_is_prime) (defScope s_is_prime) [] [] f fd) (mP : mg "PRIMES" = some (.ref cP)) (hP : ∀ H, SqT K H cP (primes.map V.int)) : FnOk P w K mg base CX0 1 f fd ["number"] spIsPrime := by
  refine F.ok sc_is_prime (fun vs H Q E h => ?_) (fun cdv A outer s H vs Q E hr h => ?_)
  · obtain ⟨p, rfl, _⟩ := h
    rfl
  · obtain ⟨p, rfl, k⟩ := h
    refine ⟨_, PSs.nox (pss_one (ps_ret (pe_cmpR op_in_seq (pv 0) (pe_glob (v := .ref cP) rfl mP rfl) (by rfl)))) , ?_⟩
    refine ⟨_, rfl, cP, _, rfl, .inr (hP H), rfl, all_flat _, ?_⟩
    rw [if_neg (by decide), inV_ints]
    exact k
theorem sc_is_number : FnScope (["told"] : List Str) ["told"] (defScope s_is_number) := ⟨rfl, rfl, rfl, by decide +kernel, rfl, by decide +kernel, by decide +kernel⟩
theorem ok_is_number {f : Addr} {fd : FuncData} (F : FunD K "is_number" "is_number" (defArgs s_is_number) (defBody s_is_number) (defScope s_is_number) [] [] f fd) (T : Fre mg) : FnOk P w K mg base CX0 1 f fd ["told"] spIsNum := by
  refine F.ok sc_is_number (fun vs H Q E h => ?_) (fun cdv A outer s H vs Q E hr h => ?_)
  · obtain ⟨p, rfl, _⟩ := h
    rfl
  · obtain ⟨n, rfl, k⟩ := h
    refine ⟨_, PSs.nox (pss_one (ps_ret (pe_and (pe_callB call_isi (by rfl) T.f_isinstance PyProof.Rows.boot_isinstance (pa_cons (pv 0) (pa_cons (pe_bltn (v := .ty "int") rfl T.f_int boot_int rfl) pa_nil))) (pe_one (pe_not (pe_callB call_isi (by rfl) T.f_isinstance PyProof.Rows.boot_isinstance (pa_cons (pv 0) (pa_cons (pe_bltn (v := .ty "bool") rfl T.f_bool boot_bool rfl) pa_nil)))))))) , ?_⟩
    exact ⟨_, rfl, .int n, _, _, _, true, rfl, .ty _, .base (.int n), kit_ty (by decide +kernel), _, rfl, iteT ⟨_, rfl, .int n, _, _, _, false, rfl, .ty _, .base (.int n), kit_ty (by decide +kernel), _, rfl, k⟩⟩
theorem sc_is_rest : FnScope (["told", "prime"] : List Str) ["told", "prime"] (defScope s_is_rest) := ⟨rfl, rfl, rfl, by decide +kernel, rfl, by decide +kernel, by decide +kernel⟩
theorem ok_is_rest {f : Addr} {fd : FuncData} (F : FunD K "is_rest" "is_rest" (defArgs s_is_rest) (defBody s_is_rest) (defScope s_is_rest) [] [] f fd) (o_is_number : Own P w K mg base CX0 1 "is_number" ["told"] [] spIsNum) : FnOk P w K mg base CX0 2 f fd ["told", "prime"] spIsRest := by
  refine F.ok sc_is_rest (fun vs H Q E h => ?_) (fun cdv A outer s H vs Q E hr h => ?_)
  · obtain ⟨n, p, rfl, _⟩ := h
    rfl
  · obtain ⟨n, p, rfl, k⟩ := h
    refine ⟨_, PSs.nox (pss_one (ps_ret (pe_and (pe_own o_is_number (hr.mono (by decide)) rfl pass0 (pa_cons (pv 0) pa_nil)) (pe_one (pe_chain op_le op_lt pe_int (pv 0) (pv 1)))))) , ?_⟩
    refine ⟨_, rfl, n, rfl, _, rfl, iteT ⟨_, rfl, _, _, rfl, rfl, _, rfl, ?_⟩⟩
    by_cases h0 : 0 ≤ n
    · rw [decide_eq_true h0]
      refine iteT ⟨_, rfl, _, _, rfl, rfl, ?_⟩
      show Q (.bl (decide (n < p))) H
      rw [show decide (n < p) = decide (0 ≤ n ∧ n < p) from by simp [h0]]
      exact k
    · rw [decide_eq_false h0]
      refine iteF ?_
      rw [show decide (0 ≤ n ∧ n < p) = false from decide_eq_false fun z => h0 z.1] at k
      exact k
theorem sc_refuse_prime : FnScope (["prime"] : List Str) ["prime"] (defScope s_refuse_prime) := ⟨rfl, rfl, rfl, by decide +kernel, rfl, by decide +kernel, by decide +kernel⟩
theorem ok_refuse_prime {f C fI : Addr} {fd : FuncData} (F : FunD K "refuse_prime" "refuse_prime" (defArgs s_refuse_prime) (defBody s_refuse_prime) (defScope s_refuse_prime) [] [] f fd) (o_is_prime : Own P w K mg base CX0 1 "is_prime" ["number"] [] spIsPrime) (xP : RX K mg C fI "BadPrime") (o_init : FnR P w K mg base (L2.CX P w) 1 fI (spRI1 K)) : FnOk P w K mg base (L2.CX P w) 3 f fd ["prime"] (spRefP C) := by
  refine F.ok sc_refuse_prime (fun vs H Q E h => ?_) (fun cdv A outer s H vs Q E hr h => ?_)
  · obtain ⟨p, rfl, _⟩ := h
    rfl
  · obtain ⟨p, rfl, h1, h2⟩ := h
    refine ⟨_, (pss_one (ps_if (pt_not (pt_val (pe_own o_is_prime (hr.mono (by decide)) rfl pass0 (pa_cons (pv 0) pa_nil)))) (pss_one (ps_raise rfl (takes_of rfl rfl rfl rfl) (pmk_rung xP o_init hr rfl))) pss_nil)) , ?_⟩
    refine ⟨_, rfl, p, rfl, _, rfl, ?_⟩
    by_cases hp : p ∈ primes
    · rw [decide_eq_true hp]
      exact iteF (h1 hp)
    · rw [decide_eq_false hp]
      exact iteT fun d H' a b c => h2 hp d H' a b c
end
end Xk
end
section
set_option Elab.async false
set_option linter.all false
set_option maxRecDepth 100000
set_option maxHeartbeats 4000000
namespace Xk
open PySem PySem.Spec PyProof.Rows L2 Xh LamX NdefX
/-! ### polynomials: rests without a nought at their end -/
def trim : List Int → List Int
  | [] => []
  | x :: xs => if trim xs = [] ∧ x = 0 then [] else x :: trim xs
theorem trim_nil : ∀ {a : List Int}, (∀ i, a.getD i 0 = 0) → trim a = []
  | [], _ => rfl
  | x :: xs, h => by
    have h0 : x = 0 := h 0
    have h1 : trim xs = [] := trim_nil fun i => h (i + 1)
    unfold trim
    rw [if_pos ⟨h1, h0⟩]
theorem trim_congr : ∀ (a b : List Int), (∀ i, a.getD i 0 = b.getD i 0) → trim a = trim b
  | [], b, h => (trim_nil fun i => (h i).symm).symm
  | a, [], h => trim_nil fun i => h i
  | x :: xs, y :: ys, h => by
    have h0 : x = y := h 0
    have h1 : trim xs = trim ys := trim_congr xs ys fun i => h (i + 1)
    unfold trim
    rw [h0, h1]
theorem trim_getD : ∀ (a : List Int) (i : Nat), (trim a).getD i 0 = a.getD i 0
  | [], i => rfl
  | x :: xs, i => by
    unfold trim
    by_cases h : trim xs = [] ∧ x = 0
    · rw [if_pos h, h.2]
      cases i with
      | zero => rfl
      | succ i =>
        have z := trim_getD xs i
        rw [h.1] at z
        exact z
    · rw [if_neg h]
      cases i with
      | zero => rfl
      | succ i => exact trim_getD xs i
theorem trim_trim (a : List Int) : trim (trim a) = trim a := trim_congr _ _ fun i => trim_getD a i
theorem trim_length : ∀ a : List Int, (trim a).length ≤ a.length
  | [] => Nat.le_refl _
  | x :: xs => by
    unfold trim
    split
    · exact Nat.zero_le _
    · exact Nat.succ_le_succ (trim_length xs)
theorem trim_mem : ∀ {a : List Int} {x : Int}, x ∈ trim a → x ∈ a
  | y :: ys, x, h => by
    unfold trim at h
    split at h
    · cases h
    · rcases List.mem_cons.mp h with h | h
      · exact List.mem_cons.mpr (.inl h)
      · exact List.mem_cons.mpr (.inr (trim_mem h))
theorem trim_last : ∀ (a : List Int) (n : Nat), n + 1 = a.length → a.getD n 0 ≠ 0 → trim a = a
  | x :: xs, n, hn, hz => by
    have hn' : n = xs.length := Nat.succ.inj hn
    unfold trim
    cases n with
    | zero =>
      have : xs = [] := List.length_eq_zero_iff.mp hn'.symm
      subst this
      rw [if_neg (fun z => hz z.2)]
      rfl
    | succ n =>
      have ih := trim_last xs n hn' hz
      rw [if_neg (fun z => by rw [ih] at z; rw [z.1] at hn'; cases hn'), ih]
theorem trim_ne (a : List Int) (h : a ≠ []) (ht : trim a = a) : a.getD (a.length - 1) 0 ≠ 0 := by
  induction a with
  | nil => exact absurd rfl h
  | cons x xs ih =>
    unfold trim at ht
    split at ht
    · cases ht
    · rename_i hc
      have hx : trim xs = xs := (List.cons.inj ht).2
      cases xs with
      | nil => exact fun z => hc ⟨rfl, z⟩
      | cons y ys => exact ih (by intro z; cases z) hx
theorem take_getD (a : List Int) (n i : Nat) : (a.take n).getD i 0 = if i < n then a.getD i 0 else 0 := by
  rw [List.getD_eq_getElem?_getD, List.getD_eq_getElem?_getD, List.getElem?_take]
  split <;> rfl
/-- what the count from the end leaves -/
theorem take_trim {a : List Int} {n : Nat} (hn : n ≤ a.length) (hz : ∀ i, n ≤ i → a.getD i 0 = 0) (hl : n = 0 ∨ a.getD (n - 1) 0 ≠ 0) : a.take n = trim a := by
  have e : trim (a.take n) = trim a := trim_congr _ _ fun i => by
    rw [take_getD]
    split
    · rfl
    · rw [hz i (by omega)]
  rw [← e]
  rcases hl with rfl | hl
  · rfl
  · cases n with
    | zero => rfl
    | succ n => exact (trim_last _ n (by rw [List.length_take]; omega) (by rw [take_getD, if_pos (Nat.lt_succ_self n)]; exact hl)).symm
theorem cutV_take (ns : List Int) (n : Nat) : cutV (ns.map V.int) none (some (n : Int)) = (ns.take n).map V.int := by
  unfold cutV
  rw [HT.sIx_none, HT.sIx_nat, Nat.sub_zero, List.drop_zero, ← List.map_take]
  congr 1
  rw [List.length_map]
  by_cases h : n ≤ ns.length
  · rw [Nat.min_eq_left h]
  · rw [Nat.min_eq_right (by omega), List.take_length, List.take_of_length_le (by omega)]
theorem map_at (ns : List Int) (i : Nat) (h : i < ns.length) : (ns.map V.int)[i]? = some (.int (ns.getD i 0)) := by
  rw [List.getElem?_map, List.getD_eq_getElem?_getD, List.getElem?_eq_getElem h]
  rfl
/-- a new tuple of these -/
def NewT (H : Hp) (ms : List Int) (Q : VK) : Prop := ∀ (p : Addr) (H' : Hp), Same H H' → H p = none → H' p = some (.tup (ms.map V.int)) → Q (.ref p) H'
theorem out_take {H : Hp} {ns : List Int} {n : Nat} {Q : VK} (e : ns.take n = trim ns) (k : NewT H (trim ns) Q) {p l : Addr} (hp : H p = none) (hl : L2.upd H p (.lst (cutV (ns.map V.int) none (some (n : Int)))) l = none) :
    Q (.ref l) (L2.upd (L2.upd H p (.lst (cutV (ns.map V.int) none (some (n : Int))))) l (.tup (cutV (ns.map V.int) none (some (n : Int))))) := by
  refine k l _ ((same_upd hp).trans (same_upd hl)) ((same_upd hp).free hl) ?_
  rw [upd_same, cutV_take, e]
def spTrim (K : PySem.W.Frag) : Sp := fun vs H Q _ => ∃ (a : Addr) (ns : List Int), vs = [.ref a] ∧ SqL K H a (ns.map V.int) ∧ ns.length ≤ 1000 ∧ NewT H (trim ns) Q
section
variable {P : Program} {w : World} {K : PySem.W.Frag} {mg : Str → Option Value} {base : Heap}
theorem sc_trimmed : FnScope (["rests", "count"] : List Str) ["rests"] (defScope s_trimmed) := ⟨rfl, rfl, rfl, by decide +kernel, rfl, by decide +kernel, by decide +kernel⟩
theorem ok_trimmed {f : Addr} {fd : FuncData} (F : FunD K "trimmed" "trimmed" (defArgs s_trimmed) (defBody s_trimmed) (defScope s_trimmed) [] [] f fd) (T : Fre mg) : FnOk P w K mg base CX0 1 f fd ["rests"] (spTrim K) := by
  refine F.ok sc_trimmed (fun vs H Q E h => ?_) (fun cdv A outer s H vs Q E hr h => ?_)
  · obtain ⟨a, ns, rfl, _⟩ := h
    rfl
  · obtain ⟨a, ns, rfl, hS, hl, k⟩ := h
    refine ⟨_, PSs.nox (pss_cons (ps_set (i := 1) sc_trimmed.nd rfl (Or.inl rfl) (pe_callB call_len_seq (by rfl) T.f_len PySem.boot_len (pa_cons (pv 0) pa_nil)))
      (pss_cons (ps_while PassesOwn.never (PW.pt (pw_and (pt_cmpR op_gt (pv 1) pe_int (nomark _)) (pw_and1 (pt_cmpR op_eq (pe_ix ix_list (pv 0) (pe_op op_sub (pv 1) pe_int) (fun _ _ => rfl)) pe_int (nomark _))))) (pss_one (ps_aug (i := 1) sc_trimmed.nd rfl (Or.inl rfl) pe_int ip_sub)))
      (pss_one (ps_ret (pe_callTy call_tuple_of (by rfl) T.f_tuple (by decide +kernel) (pa_cons (pe_slice sl_list (pv 0) po_none (po_some (pv 1))) pa_nil)))))) , ?_⟩
    refine ⟨_, rfl, _, _, rfl, .inl hS, ?_⟩
    refine while_by (fun σ' H' => ∃ n : Nat, σ' = [some (.ref a), some (.int n)] ∧ H' = H ∧ n ≤ ns.length ∧ ∀ i, n ≤ i → ns.getD i 0 = 0) (fun σ' _ => slotN 1 σ') ⟨ns.length, by rw [List.length_map]; rfl, rfl, Nat.le_refl _, fun i hi => by rw [List.getD_eq_getElem?_getD, List.getElem?_eq_none hi]; rfl⟩ ?_ ?_
    · rintro σ' H' ⟨n, rfl, rfl, hn, hz⟩
      have fin : n = 0 ∨ ns.getD (n - 1) 0 ≠ 0 → ns.take n = trim ns := take_trim hn hz
      refine ⟨_, rfl, _, _, rfl, rfl, _, rfl, ite2 (fun hc => ?_) (fun hc => ?_)⟩
      · have h0 : 0 < n := by
          have z := of_decide_eq_true hc
          omega
        refine ⟨_, rfl, _, rfl, _, _, rfl, rfl, a, _, _, .int (ns.getD (n - 1) 0), rfl, rfl, hS, ?_, ?_⟩
        · rw [show (n : Int) - 1 = ((n - 1 : Nat) : Int) by omega]
          exact atI_nat (map_at ns (n - 1) (by omega))
        · refine ⟨rfl, _, rfl, ite2 (fun hb => ?_) (fun hb => ?_)⟩
          · have z := V.int.inj (of_decide_eq_true hb)
            refine ⟨_, rfl, _, _, rfl, rfl, ⟨n - 1, by rw [show ((n - 1 : Nat) : Int) = (n : Int) - 1 by omega]; rfl, rfl, by omega, fun i hi => ?_⟩, ?_⟩
            · by_cases hi2 : i = n - 1
              · rw [hi2]; exact z
              · exact hz i (by omega)
            · show ((n : Int) - 1).toNat < (n : Int).toNat
              omega
          · exact ⟨_, rfl, _, rfl, n, rfl, a, _, rfl, hS, fun p hp => ⟨p, _, rfl, .inl ⟨SqL.of upd_same, fun l hl => out_take (fin (.inr fun z => hb (decide_eq_true (by rw [z])))) k hp hl⟩⟩⟩
      · have h0 : n = 0 := by
          by_cases z : n = 0
          · exact z
          · exact absurd (decide_eq_true (show (0 : Int) < (n : Int) by omega)) hc
        exact ⟨_, rfl, _, rfl, n, rfl, a, _, rfl, hS, fun p hp => ⟨p, _, rfl, .inl ⟨SqL.of upd_same, fun l hl => out_take (fin (.inl h0)) k hp hl⟩⟩⟩
    · rintro σ H Q Q' m ⟨v, h1, i, j, h2, h3, b, h4, q⟩
      refine ⟨v, h1, i, j, h2, h3, b, h4, ?_⟩
      cases b with
      | true =>
        obtain ⟨x, e1, y, e2, i2, j2, e3, e4, p1, p2, p3, p4, e5, e6, e7, e8, e9, b2, e10, q⟩ := q
        exact ⟨x, e1, y, e2, i2, j2, e3, e4, p1, p2, p3, p4, e5, e6, e7, e8, e9, b2, e10, m _ _ q⟩
      | false => exact m _ _ q
end
end Xk
end
section
set_option Elab.async false
set_option linter.all false
set_option maxRecDepth 100000
set_option maxHeartbeats 4000000
namespace Xk
open PySem PySem.Spec PyProof.Rows L2 Xh LamX NdefX
/-- the coefficients of ms, without a nought at the end, at most n of them -/
structure Is (f : Nat → Int) (n : Nat) (ms : List Int) : Prop where
  at_ : ∀ j, ms.getD j 0 = f j
  tr : trim ms = ms
  len : ms.length ≤ n
theorem Is.uniq {f g : Nat → Int} {n m : Nat} {a b : List Int} (x : Is f n a) (y : Is g m b) (h : ∀ j, f j = g j) : a = b := by
  rw [← x.tr, ← y.tr]
  exact trim_congr _ _ fun i => by rw [x.at_, y.at_, h]
def NewP (H : Hp) (f : Nat → Int) (n : Nat) (Q : VK) : Prop := ∀ ms, Is f n ms → NewT H ms Q
theorem is_trim {f : Nat → Int} {n : Nat} {ms : List Int} (h : ∀ j, ms.getD j 0 = f j) (l : ms.length ≤ n) : Is f n (trim ms) := ⟨fun j => by rw [trim_getD, h], trim_trim _, Nat.le_trans (trim_length _) l⟩
theorem NewT.same {H H' : Hp} {ms : List Int} {Q : VK} (k : NewT H ms Q) (s : Same H H') : NewT H' ms Q := fun p H2 a b c => k p H2 (s.trans a) (s.free b) c
theorem NewP.same {H H' : Hp} {f : Nat → Int} {n : Nat} {Q : VK} (k : NewP H f n Q) (s : Same H H') : NewP H' f n Q := fun ms h => (k ms h).same s
/-- rests by p -/
def Rs (p : Int) (ms : List Int) : Prop := ∀ j, 0 ≤ ms.getD j 0 ∧ ms.getD j 0 < p
structure Pm (p : Int) : Prop where
  lo : 2 ≤ p
  hi : p ≤ 1000
theorem Pm.pos {p : Int} (h : Pm p) : 0 < p := by have := h.lo; omega
theorem fm_rs {p : Int} (h : Pm p) {ms : List Int} {f : Nat → Int} (e : ∀ j, ms.getD j 0 = (f j).fmod p) : Rs p ms := fun j => by
  rw [e]
  exact ⟨Int.fmod_nonneg_of_pos _ h.pos, Int.fmod_lt_of_pos _ h.pos⟩
theorem fm_id {x p : Int} (h0 : 0 ≤ x) (h1 : x < p) : x.fmod p = x := by rw [Int.fmod_eq_emod_of_nonneg _ (by omega), Int.emod_eq_of_lt h0 h1]
theorem getD_over {a : List Int} {i : Nat} (h : a.length ≤ i) : a.getD i 0 = 0 := by
  rw [List.getD_eq_getElem?_getD, List.getElem?_eq_none h]
  rfl
theorem getD_map {a : List Int} {i : Nat} {g : Int → Int} (h : g 0 = 0) : (a.map g).getD i 0 = g (a.getD i 0) := by
  rw [List.getD_eq_getElem?_getD, List.getD_eq_getElem?_getD, List.getElem?_map]
  cases a[i]? with
  | none => exact h.symm
  | some x => rfl
theorem lcs {H H2 : Hp} {D : Addr} {o : HO} (hD : H D = none) (s : Same H H2) : Same H (L2.upd H2 D o) := fun b o h => by
  rw [upd_ne (ne_of_none h hD)]
  exact s b o h
theorem take_map {ns : List Int} {i : Nat} (g : Int → Int) (hi : i < ns.length) : ((ns.take i).map g).map V.int ++ [V.int (g (ns.getD i 0))] = ((ns.take (i + 1)).map g).map V.int := by
  rw [List.take_succ, List.getD_eq_getElem?_getD, List.getElem?_eq_getElem hi, List.map_append, List.map_append]
  rfl
theorem take_len (ns : List Int) (g : Int → Int) (i : Nat) : (((ns.take i).map g).map V.int).length ≤ ns.length := by
  rw [List.length_map, List.length_map, List.length_take]
  omega
theorem ixN_nat {n i : Nat} (h : i < n) : ixN n (i : Int) = some i := by
  unfold ixN
  rw [if_pos (by omega), if_pos (by omega), Int.toNat_natCast]
theorem getD_set {a : List Int} {i j : Nat} {v : Int} (h : i < a.length) : (a.set i v).getD j 0 = if j = i then v else a.getD j 0 := by
  rw [List.getD_eq_getElem?_getD, List.getD_eq_getElem?_getD, List.getElem?_set]
  by_cases e : j = i
  · rw [if_pos e, if_pos e.symm, if_pos h]
    rfl
  · rw [if_neg e, if_neg (fun z => e z.symm)]
def spScale (K : PySem.W.Frag) : Sp := fun vs H Q _ => ∃ (a : Addr) (ns : List Int) (r p : Int), vs = [.ref a, .int r, .int p] ∧ SqT K H a (ns.map V.int) ∧ ns.length ≤ 100 ∧ Rs p ns ∧ Pm p ∧ NewP H (fun j => (ns.getD j 0 * r).fmod p) ns.length Q
def spPlus (K : PySem.W.Frag) : Sp := fun vs H Q _ => ∃ (a b : Addr) (xs ys : List Int) (p : Int), vs = [.ref a, .ref b, .int p] ∧ SqT K H a (xs.map V.int) ∧ SqT K H b (ys.map V.int) ∧ xs.length ≤ 100 ∧ ys.length ≤ 100 ∧ Rs p xs ∧ Rs p ys ∧ Pm p ∧
  NewP H (fun j => (xs.getD j 0 + ys.getD j 0).fmod p) (max xs.length ys.length) Q
def spMinus (K : PySem.W.Frag) : Sp := fun vs H Q _ => ∃ (a b : Addr) (xs ys : List Int) (p : Int), vs = [.ref a, .ref b, .int p] ∧ SqT K H a (xs.map V.int) ∧ SqT K H b (ys.map V.int) ∧ xs.length ≤ 100 ∧ ys.length ≤ 100 ∧ Rs p xs ∧ Rs p ys ∧ Pm p ∧
  NewP H (fun j => (xs.getD j 0 + (p - 1) * ys.getD j 0).fmod p) 100 Q
section
variable {P : Program} {w : World} {K : PySem.W.Frag} {mg : Str → Option Value} {base : Heap}
theorem sc_law_trim : FnScope (["_law_numbers", "_law_many", "_law_k"] : List Str) ["_law_numbers"] (defScope s_law_trim) := ⟨rfl, rfl, rfl, by decide +kernel, rfl, by decide +kernel, by decide +kernel⟩
theorem ok_law_trim {f : Addr} {fd : FuncData} (F : FunD K "_law_trim" "_law_trim" (defArgs s_law_trim) (defBody s_law_trim) (defScope s_law_trim) [] [] f fd) (T : Fre mg) : FnOk P w K mg base CX0 1 f fd ["_law_numbers"] (spTrim K) := by
  refine F.ok sc_law_trim (fun vs H Q E h => ?_) (fun cdv A outer s H vs Q E hr h => ?_)
  · obtain ⟨a, ns, rfl, _⟩ := h
    rfl
  · obtain ⟨a, ns, rfl, hS, hl, k⟩ := h
    refine ⟨_, PSs.nox (pss_cons (ps_set (i := 1) sc_law_trim.nd rfl (Or.inl rfl) (pe_callB call_len_seq (by rfl) T.f_len PySem.boot_len (pa_cons (pv 0) pa_nil)))
      (pss_cons (ps_for PassesOwn.never rfl (pi_range1 (by rfl) T.f_range (pa_cons (pe_callB call_len_seq (by rfl) T.f_len PySem.boot_len (pa_cons (pv 0) pa_nil)) pa_nil)) (pg_name (i := 2) sc_law_trim.nd rfl (Or.inl rfl)) (pss_one (ps_if (PW.pt (pw_and (pt_cmpR op_gt (pv 1) pe_int (nomark _)) (pw_and1 (pt_cmpR op_eq (pe_ix ix_list (pv 0) (pe_op op_sub (pv 1) pe_int) (fun _ _ => rfl)) pe_int (nomark _))))) (pss_one (ps_set (i := 1) sc_law_trim.nd rfl (Or.inl rfl) (pe_op op_sub (pv 1) pe_int))) pss_nil)))
      (pss_one (ps_ret (pe_callTy call_tuple_of (by rfl) T.f_tuple (by decide +kernel) (pa_cons (pe_slice sl_list (pv 0) po_none (po_some (pv 1))) pa_nil)))))) , ?_⟩
    refine ⟨_, rfl, _, _, rfl, .inl hS, ?_⟩
    refine ⟨_, rfl, _, _, rfl, .inl hS, (ns.length : Int), by rw [List.length_map], by omega, by omega, ?_⟩
    rw [Int.toNat_natCast]
    refine for_range (lo := 0) (n := ns.length) (fun i σ' H' => ∃ (n : Nat) (x : Option V), σ' = [some (.ref a), some (.int n), x] ∧ H' = H ∧ n ≤ ns.length ∧ (∀ j, n ≤ j → ns.getD j 0 = 0) ∧ (n + i ≤ ns.length ∨ n = 0 ∨ ns.getD (n - 1) 0 ≠ 0)) ⟨ns.length, none, by rw [List.length_map]; rfl, rfl, Nat.le_refl _, fun j hj => getD_over hj, .inl (Nat.le_refl _)⟩ ?_ ?_
    · rintro i σ' H' hi ⟨n, x, rfl, rfl, hn, hz, hq⟩
      refine ⟨_, rfl, _, _, rfl, rfl, _, rfl, ite2 (fun hc => ?_) (fun hc => ?_)⟩
      · have h0 : 0 < n := by
          have z := of_decide_eq_true hc
          omega
        refine ⟨_, rfl, _, rfl, _, _, rfl, rfl, a, _, _, .int (ns.getD (n - 1) 0), rfl, rfl, hS, ?_, ?_⟩
        · rw [show (n : Int) - 1 = ((n - 1 : Nat) : Int) by omega]
          exact atI_nat (map_at ns (n - 1) (by omega))
        · refine ⟨rfl, _, rfl, ite2 (fun hb => ?_) (fun hb => ?_)⟩
          · have z := V.int.inj (of_decide_eq_true hb)
            refine ⟨_, rfl, _, _, rfl, rfl, n - 1, _, by rw [show ((n - 1 : Nat) : Int) = (n : Int) - 1 by omega]; rfl, rfl, by omega, fun j hj => ?_, ?_⟩
            · by_cases hj2 : j = n - 1
              · rw [hj2]; exact z
              · exact hz j (by omega)
            · rcases hq with q | q | q
              · exact .inl (by omega)
              · omega
              · exact absurd z q
          · exact ⟨n, _, rfl, rfl, hn, hz, .inr (.inr fun z => hb (decide_eq_true (by rw [z])))⟩
      · have h0 : n = 0 := by
          by_cases z : n = 0
          · exact z
          · exact absurd (decide_eq_true (show (0 : Int) < (n : Int) by omega)) hc
        exact ⟨n, _, rfl, rfl, hn, hz, .inr (.inl h0)⟩
    · rintro σ' H' ⟨n, x, rfl, rfl, hn, hz, hq⟩
      have hq' : n = 0 ∨ ns.getD (n - 1) 0 ≠ 0 := by
        rcases hq with q | q
        · exact .inl (by omega)
        · exact q
      exact ⟨_, rfl, _, rfl, n, rfl, a, _, rfl, hS, fun p hp => ⟨p, _, rfl, .inl ⟨SqL.of upd_same, fun l hl => out_take (take_trim hn hz hq') k hp hl⟩⟩⟩
theorem sc_raw_scaled : FnScope (["one", "rest", "prime", "own"] : List Str) ["one", "rest", "prime"] (defScope s_raw_scaled) := ⟨rfl, rfl, rfl, by decide +kernel, rfl, by decide +kernel, by decide +kernel⟩
theorem ok_raw_scaled {f : Addr} {fd : FuncData} (F : FunD K "raw_scaled" "raw_scaled" (defArgs s_raw_scaled) (defBody s_raw_scaled) (defScope s_raw_scaled) [] [] f fd) (o_trimmed : Own P w K mg base CX0 1 "trimmed" ["rests"] [] (spTrim K)) : FnOk P w K mg base CX0 2 f fd ["one", "rest", "prime"] (spScale K) := by
  refine F.ok sc_raw_scaled (fun vs H Q E h => ?_) (fun cdv A outer s H vs Q E hr h => ?_)
  · obtain ⟨a, ns, r, p, rfl, _⟩ := h
    rfl
  · obtain ⟨a, ns, r, p, rfl, hS, hl, hR, hp, k⟩ := h
    refine ⟨_, PSs.nox (pss_one (ps_ret (pe_own o_trimmed (hr.mono (by decide)) rfl pass0 (pa_cons (pe_lc (own := [("own", 3)]) rfl sc_raw_scaled.nd (pi_tup (pv 0)) (blkOk_by (own := [("own", 3)]) (N := ["one", "rest", "prime", "own"]) (sc := defScope s_raw_scaled) (by decide +kernel)) (fun _ _ _ _ _ => pg_name (i := 3) sc_raw_scaled.nd rfl (Or.inl rfl) (Or.inr rfl)) (fun _ _ _ _ _ => pts_nil) (fun _ _ _ _ _ => (pe_op op_modN (pe_op op_mul (pv 3) (pv 1)) (pv 2)))) pa_nil)))) , ?_⟩
    refine ⟨_, rfl, a, rfl, ⟨_, hS⟩, fun D hD => ?_⟩
    refine lc_it (walk_tup (xs := ns.map V.int)) (fun i H1 => Same H H1 ∧ H1 D = some (.lst (((ns.take i).map fun x => (x * r).fmod p).map V.int))) ⟨same_upd hD, upd_same⟩ (fun i H1 _ h => sameT h.1 hS) ?_ ?_
    · rintro i x H1 H2 hi ⟨s1, e1⟩ ⟨rfl, hx⟩
      rw [List.length_map] at hi
      rw [map_at ns i hi] at hx
      cases hx
      obtain ⟨x0, x1⟩ := hR i
      have := hp.hi
      refine ⟨rfl, _, rfl, _, rfl, _, _, rfl, rfl, .inl ⟨by omega, by omega⟩, _, rfl, _, _, rfl, rfl, (fun z => by have := hp.lo; omega), _, e1, ?_, ?_⟩
      · exact small1000 (Nat.le_trans (take_len _ _ _) (by omega))
      · exact ⟨lcs hD s1, by rw [upd_same]; exact congrArg (fun z => some (HO.lst z)) (take_map (fun x => (x * r).fmod p) hi)⟩
    · rintro H1 ⟨s1, e1⟩
      rw [List.length_map, List.take_length] at e1
      refine ⟨D, _, rfl, SqL.of e1, by rw [List.length_map]; omega, (k _ (is_trim (fun j => ?_) (by rw [List.length_map]; exact Nat.le_refl _))).same s1⟩
      rw [getD_map (g := fun x => (x * r).fmod p) (by show (0 * r).fmod p = 0; rw [Int.zero_mul, Int.zero_fmod])]
theorem sc_raw_plus : FnScope (["one", "other", "prime", "longer", "shorter", "rests", "place", "rest"] : List Str) ["one", "other", "prime"] (defScope s_raw_plus) := ⟨rfl, rfl, rfl, by decide +kernel, rfl, by decide +kernel, by decide +kernel⟩
theorem ok_raw_plus {f : Addr} {fd : FuncData} (F : FunD K "raw_plus" "raw_plus" (defArgs s_raw_plus) (defBody s_raw_plus) (defScope s_raw_plus) [] [] f fd) (T : Fre mg) (o_trimmed : Own P w K mg base CX0 1 "trimmed" ["rests"] [] (spTrim K)) : FnOk P w K mg base CX0 2 f fd ["one", "other", "prime"] (spPlus K) := by
  refine F.ok sc_raw_plus (fun vs H Q E h => ?_) (fun cdv A outer s H vs Q E hr h => ?_)
  · obtain ⟨a, b, xs, ys, p, rfl, _⟩ := h
    rfl
  · obtain ⟨a, b, xs, ys, p, rfl, hA, hB, la, lb, rA, rB, hp, k⟩ := h
    refine ⟨_, PSs.nox (C8.pss_cut (ps_asg (pe_ifExp (pt_cmpR op_ge (pe_callB call_len_seq (by rfl) T.f_len PySem.boot_len (pa_cons (pv 0) pa_nil)) (pe_callB call_len_seq (by rfl) T.f_len PySem.boot_len (pa_cons (pv 1) pa_nil)) (nomark _)) (pe_tup (pa_cons (pv 0) (pa_cons (pv 1) pa_nil))) (pe_tup (pa_cons (pv 1) (pa_cons (pv 0) pa_nil)))) (pg_tup rfl (pgs_cons (pg_name (i := 3) sc_raw_plus.nd rfl (Or.inl rfl)) (pgs_cons (pg_name (i := 4) sc_raw_plus.nd rfl (Or.inl rfl)) pgs_nil))))
      (pss_cons (ps_set (i := 5) sc_raw_plus.nd rfl (Or.inl rfl) (pe_callTy call_list_of (by rfl) T.f_list (by decide +kernel) (pa_cons (pv 3) pa_nil)))
      (pss_cons (ps_for PassesOwn.never rfl (pi_enT (by rfl) T.f_enumerate (pa_cons (pv 4) pa_nil)) (pg_tup rfl (pgs_cons (pg_name (i := 6) sc_raw_plus.nd rfl (Or.inl rfl)) (pgs_cons (pg_name (i := 7) sc_raw_plus.nd rfl (Or.inl rfl)) pgs_nil))) (pss_one (ps_asg (pe_op op_modN (pe_op op_add (pe_ix ix_list (pv 5) (pv 6) (fun _ _ => rfl)) (pv 7)) (pv 2)) (pg_sub (pv 5) (pv 6) set_list))))
      (pss_one (ps_ret (pe_own o_trimmed (hr.mono (by decide)) rfl pass0 (pa_cons (pv 5) pa_nil))))))) , ?_⟩
    refine ⟨fun σ' H' => ∃ (c d : Addr) (us ws : List Int), σ' = [some (.ref a), some (.ref b), some (.int p), some (.ref c), some (.ref d), none, none, none] ∧ Same H H' ∧ SqT K H' c (us.map V.int) ∧ SqT K H' d (ws.map V.int) ∧ us.length ≤ 100 ∧ ws.length ≤ us.length ∧ us.length = max xs.length ys.length ∧ Rs p us ∧ ∀ j, us.getD j 0 + ws.getD j 0 = xs.getD j 0 + ys.getD j 0, ?_, ?_⟩
    · refine ⟨_, rfl, _, _, rfl, .inr hA, _, rfl, _, _, rfl, .inr hB, _, _, rfl, rfl, _, rfl, ite2 (fun hc => ?_) (fun hc => ?_)⟩
      · have z := of_decide_eq_true hc
        rw [List.length_map, List.length_map] at z
        refine ⟨_, rfl, _, rfl, (by show 2 ≤ sizeLine; decide), fun t ht => ⟨t, _, rfl, .inl (.inl upd_same), rfl, _, _, rfl, _, _, rfl, rfl, a, b, xs, ys, rfl, same_upd ht, sameT (same_upd ht) hA, sameT (same_upd ht) hB, la, by omega, by omega, rA, fun j => rfl⟩⟩
      · have z : ¬ ((ys.map V.int).length : Int) ≤ ((xs.map V.int).length : Int) := fun z => hc (decide_eq_true z)
        rw [List.length_map, List.length_map] at z
        refine ⟨_, rfl, _, rfl, (by show 2 ≤ sizeLine; decide), fun t ht => ⟨t, _, rfl, .inl (.inl upd_same), rfl, _, _, rfl, _, _, rfl, rfl, b, a, ys, xs, rfl, same_upd ht, sameT (same_upd ht) hB, sameT (same_upd ht) hA, lb, by omega, by omega, rB, fun j => Int.add_comm _ _⟩⟩
    · rintro σ' H' ⟨c, d, us, ws, rfl, s1, hC, hD, lu, lw, lm, rU, ev⟩
      refine ⟨_, rfl, c, _, rfl, .inr hC, fun q hq => ?_⟩
      have nz : p ≠ 0 := by have := hp.lo; omega
      refine ⟨_, rfl, d, _, rfl, sameT (same_upd hq) hD, ?_⟩
      refine for_it (walk_enT (xs := ws.map V.int)) (fun i σ' H2 => ∃ (ms : List Int) (x y : Option V), σ' = [some (.ref a), some (.ref b), some (.int p), some (.ref c), some (.ref d), some (.ref q), x, y] ∧ Same H' H2 ∧ H2 q = some (.lst (ms.map V.int)) ∧ ms.length = us.length ∧ ∀ j, ms.getD j 0 = if j < i then (us.getD j 0 + ws.getD j 0).fmod p else us.getD j 0)
        ⟨us, none, none, rfl, same_upd hq, upd_same, rfl, fun j => (if_neg (Nat.not_lt_zero j)).symm⟩ (fun i σ' H2 _ ⟨_, _, _, _, s2, _⟩ => sameT s2 hD) ?_ ?_
      · rintro i x σ' H2 H3 hi ⟨ms, x0, y0, rfl, s2, eq, lms, cf⟩ ⟨T, u, v, rfl, hT, rfl, e1, e2⟩
        cases e1
        rw [List.length_map] at hi
        have e3 := (map_at ws i hi).symm.trans e2
        cases e3
        have hqT : q ≠ T := ne_of_none eq hT
        have eq2 : L2.upd H2 T (.tup [.int (i : Nat), .int (ws.getD i 0)]) q = some (.lst (ms.map V.int)) := by rw [upd_ne hqT]; exact eq
        have ei := cf i
        rw [if_neg (Nat.lt_irrefl i)] at ei
        refine ⟨T, _, rfl, .inl (.inl upd_same), rfl, _, _, rfl, _, _, rfl, rfl, ?_⟩
        refine ⟨_, rfl, _, rfl, q, _, (i : Int), .int (ms.getD i 0), rfl, rfl, SqL.of eq2, atI_nat (map_at ms i (by omega)), _, rfl, _, _, rfl, rfl, _, rfl, _, _, rfl, rfl, nz, _, rfl, _, rfl, q, _, _, i, rfl, rfl, eq2, ixN_nat (by rw [List.length_map]; omega), ?_⟩
        refine ⟨ms.set i ((ms.getD i 0 + ws.getD i 0).fmod p), _, _, rfl, lcs hq (s2.trans (same_upd hT)), ?_, by rw [List.length_set]; exact lms, fun j => ?_⟩
        · rw [upd_same, List.map_set]
        · rw [getD_set (by omega)]
          by_cases hj : j = i
          · rw [if_pos hj, if_pos (by omega), hj, ei]
          · rw [if_neg hj, cf j]
            by_cases hj2 : j < i
            · rw [if_pos hj2, if_pos (by omega)]
            · rw [if_neg hj2, if_neg (by omega)]
      · rintro σ' H2 ⟨ms, x0, y0, rfl, s2, eq, lms, cf⟩
        rw [List.length_map] at cf
        refine ⟨_, rfl, q, _, rfl, SqL.of eq, by omega, (k _ (is_trim (fun j => ?_) (by omega))).same (s1.trans s2)⟩
        rw [cf j, ← ev j]
        by_cases hj : j < ws.length
        · rw [if_pos hj]
        · rw [if_neg hj, getD_over (Nat.le_of_not_lt hj), Int.add_zero]
          exact (fm_id (rU j).1 (rU j).2).symm
end
end Xk
end
section
set_option Elab.async false
set_option linter.all false
set_option maxRecDepth 100000
set_option maxHeartbeats 4000000
namespace Xk
open PySem PySem.Spec PyProof.Rows L2 Xh LamX NdefX
theorem Is.imp {f g : Nat → Int} {n m : Nat} {ms : List Int} (x : Is f n ms) (h : ∀ j, f j = g j) (l : n ≤ m) : Is g m ms := ⟨fun j => (x.at_ j).trans (h j), x.tr, Nat.le_trans x.len l⟩
theorem NewP.imp {H : Hp} {f g : Nat → Int} {n m : Nat} {Q : VK} (k : NewP H g m Q) (h : ∀ j, f j = g j) (l : n ≤ m) : NewP H f n Q := fun ms x => k ms (x.imp h l)
theorem fm_add {a b p : Int} (h : 0 < p) : (a + b.fmod p).fmod p = (a + b).fmod p := by
  rw [Int.fmod_eq_emod_of_nonneg _ (by omega), Int.fmod_eq_emod_of_nonneg _ (by omega), Int.fmod_eq_emod_of_nonneg _ (by omega), Int.add_emod_emod]
theorem fm_add2 {a b p : Int} (h : 0 < p) : (a.fmod p + b).fmod p = (a + b).fmod p := by rw [Int.add_comm, fm_add h, Int.add_comm]
/-- one row of a product -/
def In (g : Nat → Int) (i : Nat) (x : Int) (ys : List Int) : Nat → Nat → Int
  | 0 => g
  | j + 1 => fun k => if k = i + j then In g i x ys j k + x * ys.getD j 0 else In g i x ys j k
/-- a product's coefficients, i rows of it -/
def Ou (xs ys : List Int) : Nat → Nat → Int
  | 0 => fun _ => 0
  | i + 1 => In (Ou xs ys i) i (xs.getD i 0) ys ys.length
def cvf (xs ys : List Int) : Nat → Int := Ou xs ys xs.length
theorem In_over {g : Nat → Int} {i n : Nat} {x : Int} {ys : List Int} (h : ∀ k, n ≤ k → g k = 0) (hn : i + ys.length ≤ n) : ∀ j, j ≤ ys.length → ∀ k, n ≤ k → In g i x ys j k = 0
  | 0, _, k, hk => h k hk
  | j + 1, hj, k, hk => by
    unfold In
    rw [if_neg (by omega)]
    exact In_over h hn j (by omega) k hk
theorem Ou_nil (xs : List Int) : ∀ i k, Ou xs [] i k = 0
  | 0, _ => rfl
  | i + 1, k => Ou_nil xs i k
theorem rep_zero (n : Nat) : (List.replicate n [V.int 0]).flatten = (List.replicate n (0 : Int)).map V.int := by
  induction n with
  | zero => rfl
  | succ n ih => rw [List.replicate_succ, List.replicate_succ, List.flatten_cons, ih]; rfl
theorem getD_rep (n j : Nat) : (List.replicate n (0 : Int)).getD j 0 = 0 := by
  rw [List.getD_eq_getElem?_getD, List.getElem?_replicate]
  split <;> rfl
def spTimes (K : PySem.W.Frag) : Sp := fun vs H Q _ => ∃ (a b : Addr) (xs ys : List Int) (p : Int), vs = [.ref a, .ref b, .int p] ∧ SqT K H a (xs.map V.int) ∧ SqT K H b (ys.map V.int) ∧ xs.length ≤ 50 ∧ ys.length ≤ 50 ∧ Rs p xs ∧ Rs p ys ∧ Pm p ∧
  NewP H (fun j => (cvf xs ys j).fmod p) 100 Q
section
variable {P : Program} {w : World} {K : PySem.W.Frag} {mg : Str → Option Value} {base : Heap}
theorem sc_raw_minus : FnScope (["one", "other", "prime"] : List Str) ["one", "other", "prime"] (defScope s_raw_minus) := ⟨rfl, rfl, rfl, by decide +kernel, rfl, by decide +kernel, by decide +kernel⟩
theorem ok_raw_minus {f : Addr} {fd : FuncData} (F : FunD K "raw_minus" "raw_minus" (defArgs s_raw_minus) (defBody s_raw_minus) (defScope s_raw_minus) [] [] f fd) (o_raw_scaled : Own P w K mg base CX0 2 "raw_scaled" ["one", "rest", "prime"] [] (spScale K)) (o_raw_plus : Own P w K mg base CX0 2 "raw_plus" ["one", "other", "prime"] [] (spPlus K)) : FnOk P w K mg base CX0 3 f fd ["one", "other", "prime"] (spMinus K) := by
  refine F.ok sc_raw_minus (fun vs H Q E h => ?_) (fun cdv A outer s H vs Q E hr h => ?_)
  · obtain ⟨a, b, xs, ys, p, rfl, _⟩ := h
    rfl
  · obtain ⟨a, b, xs, ys, p, rfl, hA, hB, la, lb, rA, rB, hp, k⟩ := h
    refine ⟨_, PSs.nox (pss_one (ps_ret (pe_own o_raw_plus (hr.mono (by decide)) rfl pass0 (pa_cons (pv 0) (pa_cons (pe_own o_raw_scaled (hr.mono (by decide)) rfl pass0 (pa_cons (pv 1) (pa_cons (pe_op op_sub (pv 2) pe_int) (pa_cons (pv 2) pa_nil)))) (pa_cons (pv 2) pa_nil)))))) , ?_⟩
    refine ⟨_, rfl, _, rfl, _, rfl, _, _, rfl, rfl, _, rfl, b, ys, p - 1, p, rfl, hB, lb, rB, hp, fun ms x q H1 s1 hq e1 => ?_⟩
    have lm := x.len
    refine ⟨_, rfl, a, q, xs, ms, p, rfl, sameT s1 hA, .inl (.inl e1), la, by omega, rA, fm_rs hp x.at_, hp, (k.same s1).imp (fun j => ?_) (by omega)⟩
    show (xs.getD j 0 + ms.getD j 0).fmod p = _
    rw [x.at_, fm_add hp.pos, Int.mul_comm]
theorem sc_raw_times : FnScope (["one", "other", "prime", "sums", "low", "rest", "high", "by", "number"] : List Str) ["one", "other", "prime"] (defScope s_raw_times) := ⟨rfl, rfl, rfl, by decide +kernel, rfl, by decide +kernel, by decide +kernel⟩
theorem ok_raw_times {f : Addr} {fd : FuncData} (F : FunD K "raw_times" "raw_times" (defArgs s_raw_times) (defBody s_raw_times) (defScope s_raw_times) [] [] f fd) (T : Fre mg) (o_trimmed : Own P w K mg base CX0 1 "trimmed" ["rests"] [] (spTrim K)) : FnOk P w K mg base CX0 2 f fd ["one", "other", "prime"] (spTimes K) := by
  refine F.ok sc_raw_times (fun vs H Q E h => ?_) (fun cdv A outer s H vs Q E hr h => ?_)
  · obtain ⟨a, b, xs, ys, p, rfl, _⟩ := h
    rfl
  · obtain ⟨a, b, xs, ys, p, rfl, hA, hB, la, lb, rA, rB, hp, k⟩ := h
    refine ⟨_, PSs.nox (C8.pss_cut (ps_if (PW.pt (pw_or (pt_not (pt_truth (pv 0) (by intro _; rfl))) (pw_or1 (pt_not (pt_truth (pv 1) (by intro _; rfl)))))) (pss_one (ps_ret (pe_tup pa_nil))) pss_nil)
      (pss_cons (ps_set (i := 3) sc_raw_times.nd rfl (Or.inl rfl) (pe_op op_rep (pe_lst (pa_cons pe_int pa_nil)) (pe_op op_sub (pe_op op_add (pe_callB call_len_seq (by rfl) T.f_len PySem.boot_len (pa_cons (pv 0) pa_nil)) (pe_callB call_len_seq (by rfl) T.f_len PySem.boot_len (pa_cons (pv 1) pa_nil))) pe_int)))
      (pss_cons (ps_for PassesOwn.never rfl (pi_enT (by rfl) T.f_enumerate (pa_cons (pv 0) pa_nil)) (pg_tup rfl (pgs_cons (pg_name (i := 4) sc_raw_times.nd rfl (Or.inl rfl)) (pgs_cons (pg_name (i := 5) sc_raw_times.nd rfl (Or.inl rfl)) pgs_nil))) (pss_one (ps_for PassesOwn.never rfl (pi_enT (by rfl) T.f_enumerate (pa_cons (pv 1) pa_nil)) (pg_tup rfl (pgs_cons (pg_name (i := 6) sc_raw_times.nd rfl (Or.inl rfl)) (pgs_cons (pg_name (i := 7) sc_raw_times.nd rfl (Or.inl rfl)) pgs_nil))) (pss_one (ps_augS (pv 3) (pe_op op_add (pv 4) (pv 6)) get_list (pe_op op_mul (pv 5) (pv 7)) ip_add set_list)))))
      (pss_one (ps_ret (pe_own o_trimmed (hr.mono (by decide)) rfl pass0 (pa_cons (pe_lc (own := [("number", 8)]) rfl sc_raw_times.nd (pi_list (pv 3)) (blkOk_by (own := [("number", 8)]) (N := ["one", "other", "prime", "sums", "low", "rest", "high", "by", "number"]) (sc := defScope s_raw_times) (by decide +kernel)) (fun _ _ _ _ _ => pg_name (i := 8) sc_raw_times.nd rfl (Or.inl rfl) (Or.inr rfl)) (fun _ _ _ _ _ => pts_nil) (fun _ _ _ _ _ => (pe_op op_modN (pv 8) (pv 2)))) pa_nil))))))) , ?_⟩
    refine ⟨fun σ' H' => σ' = [some (.ref a), some (.ref b), some (.int p), none, none, none, none, none, none] ∧ H' = H ∧ 0 < xs.length ∧ 0 < ys.length, ?_, ?_⟩
    · cases xs with
      | nil => exact ⟨_, rfl, _, .inr (.inl ⟨_, hA, rfl⟩), iteT (iteT ⟨(by show 0 ≤ sizeLine; decide), fun t ht => k [] ⟨fun j => (Int.zero_fmod p).symm, rfl, Nat.zero_le _⟩ t _ (same_upd ht) ht upd_same⟩)⟩
      | cons x xs =>
        refine ⟨_, rfl, _, .inr (.inl ⟨_, hA, rfl⟩), iteF ?_⟩
        cases ys with
        | nil => exact ⟨_, rfl, _, .inr (.inl ⟨_, hB, rfl⟩), iteT ⟨(by show 0 ≤ sizeLine; decide), fun t ht => k [] ⟨fun j => by rw [cvf, Ou_nil]; exact (Int.zero_fmod p).symm, rfl, Nat.zero_le _⟩ t _ (same_upd ht) ht upd_same⟩⟩
        | cons y ys => exact ⟨_, rfl, _, .inr (.inl ⟨_, hB, rfl⟩), iteF ⟨rfl, rfl, Nat.succ_pos _, Nat.succ_pos _⟩⟩
    · rintro σ' H' ⟨rfl, rfl, lx, ly⟩
      refine ⟨(by show 1 ≤ sizeLine; decide), fun l hl => ?_⟩
      have s0 := same_upd (o := .lst [.int 0]) hl
      refine ⟨_, rfl, _, _, rfl, .inr (sameT s0 hA), _, rfl, _, _, rfl, .inr (sameT s0 hB), _, _, rfl, rfl, _, _, rfl, rfl, l, _, _, rfl, rfl, upd_same, ?_, ?_, ?_, fun q hq => ?_⟩
      · rw [List.length_map, List.length_map]; omega
      · rw [List.length_map, List.length_map]; omega
      · rw [List.length_map, List.length_map]
        exact Nat.le_trans (show 1 * ((xs.length : Int) + (ys.length : Int) - 1).toNat ≤ 1000 by omega) (Nat.le_of_lt (small1000 (Nat.le_refl _)))
      have q0 : H' q = none := s0.free hq
      have nz : p ≠ 0 := by have := hp.lo; omega
      have hi1000 := hp.hi
      rw [List.length_map, List.length_map, show ((xs.length : Int) + (ys.length : Int) - 1).toNat = xs.length + ys.length - 1 by omega, rep_zero]
      refine ⟨_, rfl, a, _, rfl, sameT (s0.trans (same_upd hq)) hA, ?_⟩
      refine for_it (walk_enT (xs := xs.map V.int)) (fun i σ' H2 => ∃ (ms : List Int) (x y u v : Option V), σ' = [some (.ref a), some (.ref b), some (.int p), some (.ref q), x, y, u, v, none] ∧ Same H' H2 ∧ H2 q = some (.lst (ms.map V.int)) ∧ ms.length = xs.length + ys.length - 1 ∧ ∀ j, ms.getD j 0 = Ou xs ys i j)
        ⟨List.replicate (xs.length + ys.length - 1) 0, none, none, none, none, rfl, s0.trans (same_upd hq), upd_same, List.length_replicate, fun j => getD_rep _ j⟩ (fun i σ' H2 _ ⟨_, _, _, _, _, _, s2, _⟩ => sameT s2 hA) ?_ ?_
      · rintro i x σ' H2 H3 hi ⟨ms, x0, y0, u0, v0, rfl, s2, eq, lms, cf⟩ ⟨T, u, v, rfl, hT, rfl, e1, e2⟩
        cases e1
        rw [List.length_map] at hi
        have e3 := (map_at xs i hi).symm.trans e2
        cases e3
        have sT := s2.trans (same_upd (o := .tup [.int (i : Nat), .int (xs.getD i 0)]) hT)
        refine ⟨T, _, rfl, .inl (.inl upd_same), rfl, _, _, rfl, _, _, rfl, rfl, ?_⟩
        refine ⟨_, rfl, b, _, rfl, sameT sT hB, ?_⟩
        refine for_it (walk_enT (xs := ys.map V.int)) (fun j σ' H2 => ∃ (ms : List Int) (u v : Option V), σ' = [some (.ref a), some (.ref b), some (.int p), some (.ref q), some (.int (i : Nat)), some (.int (xs.getD i 0)), u, v, none] ∧ Same H' H2 ∧ H2 q = some (.lst (ms.map V.int)) ∧ ms.length = xs.length + ys.length - 1 ∧ ∀ k, ms.getD k 0 = In (Ou xs ys i) i (xs.getD i 0) ys j k)
          ⟨ms, u0, v0, rfl, sT, by rw [upd_ne (ne_of_none eq hT)]; exact eq, lms, cf⟩ (fun j σ' H2 _ ⟨_, _, _, _, s2, _⟩ => sameT s2 hB) ?_ ?_
        · rintro j x' σ' H4 H5 hj ⟨ms, u0, v0, rfl, s2, eq, lms, cf⟩ ⟨T, u, v, rfl, hT, rfl, e1, e2⟩
          cases e1
          rw [List.length_map] at hj
          have e3 := (map_at ys j hj).symm.trans e2
          cases e3
          have eq2 : L2.upd H4 T (.tup [.int (j : Nat), .int (ys.getD j 0)]) q = some (.lst (ms.map V.int)) := by rw [upd_ne (ne_of_none eq hT)]; exact eq
          obtain ⟨x0, x1⟩ := rA i
          have ho : atI (ms.map V.int) ((i : Int) + (j : Int)) = some (.int (ms.getD (i + j) 0)) := by
            rw [← Int.natCast_add]
            exact atI_nat (map_at ms (i + j) (by omega))
          have hx : ixN (ms.map V.int).length ((i : Int) + (j : Int)) = some (i + j) := by
            rw [← Int.natCast_add]
            exact ixN_nat (by rw [List.length_map]; omega)
          refine ⟨T, _, rfl, .inl (.inl upd_same), rfl, _, _, rfl, _, _, rfl, rfl, ?_⟩
          refine ⟨_, rfl, _, rfl, _, rfl, _, _, rfl, rfl, q, _, _, _, rfl, rfl, SqL.of eq2, ho, _, rfl, _, rfl, _, _, rfl, rfl, .inl ⟨by omega, by omega⟩, _, _, rfl, rfl, q, _, _, _, rfl, rfl, eq2, hx, ?_⟩
          refine ⟨ms.set (i + j) (ms.getD (i + j) 0 + xs.getD i 0 * ys.getD j 0), _, _, rfl, lcs q0 (s2.trans (same_upd hT)), ?_, by rw [List.length_set]; exact lms, fun k => ?_⟩
          · rw [upd_same, List.map_set]
          · rw [getD_set (by omega)]
            unfold In
            by_cases hk : k = i + j
            · rw [if_pos hk, if_pos hk, cf, hk]
            · rw [if_neg hk, if_neg hk, cf]
        · rintro σ' H4 ⟨ms, u0, v0, rfl, s2, eq, lms, cf⟩
          rw [List.length_map] at cf
          exact ⟨ms, _, _, _, _, rfl, s2, eq, lms, cf⟩
      · rintro σ' H2 ⟨ms, x0, y0, u0, v0, rfl, s2, eq, lms, cf⟩
        rw [List.length_map] at cf
        refine ⟨_, rfl, q, rfl, ⟨_, SqL.of eq⟩, fun D hD => ?_⟩
        refine lc_it (walk_list (xs := ms.map V.int)) (fun i H3 => Same H2 H3 ∧ H3 D = some (.lst (((ms.take i).map fun x => x.fmod p).map V.int))) ⟨same_upd hD, upd_same⟩ (fun i H1 _ h => SqL.of (h.1 _ _ eq)) ?_ ?_
        · rintro i x H3 H4 hi ⟨s3, e3⟩ ⟨rfl, hx⟩
          rw [List.length_map] at hi
          have e4 := (map_at ms i hi).symm.trans hx
          cases e4
          refine ⟨rfl, _, rfl, _, rfl, _, _, rfl, rfl, nz, _, e3, small1000 (Nat.le_trans (take_len _ _ _) (by omega)), lcs hD s3, ?_⟩
          rw [upd_same]
          exact congrArg (fun z => some (HO.lst z)) (take_map (fun x => x.fmod p) hi)
        · rintro H3 ⟨s3, e3⟩
          rw [List.length_map, List.take_length] at e3
          refine ⟨D, _, rfl, SqL.of e3, by rw [List.length_map]; omega, (k _ (is_trim (fun j => ?_) (by rw [List.length_map]; omega))).same (s2.trans s3)⟩
          rw [getD_map (g := fun x => x.fmod p) (Int.zero_fmod p), cf]
          rfl
end
end Xk
end
section
set_option Elab.async false
set_option linter.all false
set_option maxRecDepth 100000
set_option maxHeartbeats 4000000
namespace Xk
open PySem PySem.Spec PyProof.Rows L2 Xh LamX NdefX
def spIsPoly (K : PySem.W.Frag) : Sp := fun vs H Q _ => ∃ (a : Addr) (ns : List Int) (p : Int), vs = [.ref a, .int p] ∧ SqT K H a (ns.map V.int) ∧ ns.length ≤ 25 ∧ Rs p ns ∧ trim ns = ns ∧ ∀ H', Same H H' → Q (.bl true) H'
theorem atI_back (n : Int) (ns : List Int) : atI ((n :: ns).map V.int) (-1) = some (.int ((n :: ns).getD ns.length 0)) := by
  unfold atI ixN
  rw [List.length_map, List.length_cons, if_neg (by decide), if_pos (by omega)]
  show ((n :: ns).map V.int)[((-1 : Int) + ((ns.length + 1 : Nat) : Int)).toNat]? = _
  rw [show ((-1 : Int) + ((ns.length + 1 : Nat) : Int)).toNat = ns.length by omega]
  exact map_at (n :: ns) ns.length (by rw [List.length_cons]; omega)
theorem dp_ints {K : PySem.W.Frag} {H : Hp} : ∀ ns : List Int, DpAll K H (ns.map V.int) (ns.map PyData.int)
  | [] => .nil
  | n :: ns => .cons (.int n) (dp_ints ns)
theorem dp_tup {K : PySem.W.Frag} {H : Hp} {a : Addr} {ns : List Int} (h : SqT K H a (ns.map V.int)) : Dp K H (.ref a) (.tuple (ns.map PyData.int)) := .tup h (dp_ints ns)
section
variable {P : Program} {w : World} {K : PySem.W.Frag} {mg : Str → Option Value} {base : Heap}
theorem sc_is_poly : FnScope (["told", "prime", "rest"] : List Str) ["told", "prime"] (defScope s_is_poly) := ⟨rfl, rfl, rfl, by decide +kernel, rfl, by decide +kernel, by decide +kernel⟩
theorem ok_is_poly {f : Addr} {fd : FuncData} (F : FunD K "is_poly" "is_poly" (defArgs s_is_poly) (defBody s_is_poly) (defScope s_is_poly) [] [] f fd) (T : Fre mg) (mM : ∃ t, mg "MOST_RESTS" = some (.int 25 t)) (o_is_rest : Own P w K mg base CX0 2 "is_rest" ["told", "prime"] [] spIsRest) : FnOk P w K mg base CX0 3 f fd ["told", "prime"] (spIsPoly K) := by
  obtain ⟨tM, mM⟩ := mM
  refine F.ok sc_is_poly (fun vs H Q E h => ?_) (fun cdv A outer s H vs Q E hr h => ?_)
  · obtain ⟨a, ns, p, rfl, _⟩ := h
    rfl
  · obtain ⟨a, ns, p, rfl, hS, hl, hR, htr, k⟩ := h
    refine ⟨_, PSs.nox (pss_cons (ps_if (PW.pt (pw_or (pt_not (pt_val (pe_callB call_isi (by rfl) T.f_isinstance PyProof.Rows.boot_isinstance (pa_cons (pv 0) (pa_cons (pe_bltn (v := .ty "tuple") rfl T.f_tuple boot_tuple rfl) pa_nil))))) (pw_or1 (pt_cmpR op_gt (pe_callB call_len_seq (by rfl) T.f_len PySem.boot_len (pa_cons (pv 0) pa_nil)) (pe_glob (v := .int 25) rfl mM ⟨_, rfl⟩) (nomark _))))) (pss_one (ps_ret pe_bl)) pss_nil)
      (pss_cons (ps_if (pt_not (pt_val (pe_callB (cr_all rfl) (by rfl) T.f_all (by decide +kernel) (pa_cons (pe_lc (own := [("rest", 2)]) rfl sc_is_poly.nd (pi_tup (pv 0)) (blkOk_by (own := [("rest", 2)]) (N := ["told", "prime", "rest"]) (sc := defScope s_is_poly) (by decide +kernel)) (fun _ _ _ _ _ => pg_name (i := 2) sc_is_poly.nd rfl (Or.inl rfl) (Or.inr rfl)) (fun _ _ _ _ _ => pts_nil) (fun _ _ _ _ _ => (pe_own o_is_rest (hr.mono (by decide)) rfl pass0 (pa_cons (pv 2) (pa_cons (pv 1) pa_nil))))) pa_nil)))) (pss_one (ps_ret pe_bl)) pss_nil)
      (pss_one (ps_ret (pe_or (pe_cmpR (op_eqD hr.units) (pv 0) (pe_tup pa_nil) (nomark _)) (pe_one (pe_cmpR op_ne (pe_ix ix_tup (pv 0) (pe_un un_neg pe_int) (fun _ _ => rfl)) pe_int (nomark _)))))))) , ?_⟩
    refine ⟨_, rfl, .ref a, _, _, _, true, rfl, .ty _, tyT hS, kit_ty (by decide +kernel), _, rfl, iteF ?_⟩
    refine ⟨_, rfl, _, _, rfl, .inr hS, _, _, rfl, rfl, _, rfl, ?_⟩
    rw [show decide ((25 : Int) < ((ns.map V.int).length : Int)) = false from decide_eq_false (by rw [List.length_map]; omega)]
    refine iteF ?_
    refine ⟨_, rfl, a, rfl, ⟨_, hS⟩, fun D hD => ?_⟩
    refine lc_it (walk_tup (xs := ns.map V.int)) (fun i H1 => Same H H1 ∧ H1 D = some (.lst ((List.replicate i true).map V.bl)) ∧ i ≤ ns.length) ⟨same_upd hD, upd_same, Nat.zero_le _⟩ (fun i H1 _ h => sameT h.1 hS) ?_ ?_
    · rintro i x H1 H2 hi ⟨s1, e1, _⟩ ⟨rfl, hx⟩
      rw [List.length_map] at hi
      have e3 := (map_at ns i hi).symm.trans hx
      cases e3
      refine ⟨rfl, _, rfl, _, rfl, _, _, rfl, ?_⟩
      rw [decide_eq_true (hR i)]
      refine ⟨_, e1, ?_, lcs hD s1, ?_, hi⟩
      · rw [List.length_map, List.length_replicate]
        exact small1000 (by omega)
      · rw [upd_same, List.replicate_succ', List.map_append]
        rfl
    · rintro H1 ⟨s1, e1, _⟩
      refine ⟨D, List.replicate (ns.map V.int).length true, rfl, SqL.of e1, _, rfl, ?_⟩
      rw [show (List.replicate (ns.map V.int).length true).all id = true from by simp]
      refine iteF ⟨_, rfl, (by show 0 ≤ sizeLine; decide), fun t ht => ⟨_, _, dp_tup (sameT (s1.trans (same_upd ht)) hS), dp_tup (ns := []) (.inl (.inl upd_same)), ?_, rfl, ?_⟩⟩
      · simp [SeqAt.shaped, PyData.canLay0, PyData.depth, PySem.W.ke_canLayAll0, PySem.W.ke_depthAll]
      · cases ns with
        | nil => exact ⟨_, rfl, iteT (k _ (s1.trans (same_upd ht)))⟩
        | cons n ns =>
          refine ⟨_, rfl, iteF ⟨_, rfl, _, rfl, a, _, _, .int ((n :: ns).getD ns.length 0), rfl, rfl, sameT (s1.trans (same_upd ht)) hS, ?_, ?_⟩⟩
          · exact atI_back n ns
          · have z := trim_ne _ (by intro z; cases z) htr
            refine ⟨rfl, ?_⟩
            rw [show (!decide (V.int ((n :: ns).getD ns.length 0) = V.int 0)) = true from by simpa using z]
            exact k _ (s1.trans (same_upd ht))
end
end Xk
end
section
set_option Elab.async false
set_option linter.all false
set_option maxRecDepth 100000
set_option maxHeartbeats 4000000
namespace Xk
open PySem PySem.Spec PyProof.Rows L2 Xh LamX NdefX
theorem pm_all : ∀ p ∈ primes, 2 ≤ p ∧ p ≤ 1000 := by decide
theorem pm_of {p : Int} (h : p ∈ primes) : Pm p := ⟨(pm_all p h).1, (pm_all p h).2⟩
structure Pol (K : PySem.W.Frag) (H : Hp) (a : Addr) (p : Int) (ns : List Int) : Prop where
  at_ : SqT K H a (ns.map V.int)
  len : ns.length ≤ 25
  rs : Rs p ns
  tr : trim ns = ns
theorem Pol.same {H H' : Hp} {K : PySem.W.Frag} {a : Addr} {p : Int} {ns : List Int} (x : Pol K H a p ns) (s : Same H H') : Pol K H' a p ns := ⟨sameT s x.at_, x.len, x.rs, x.tr⟩
theorem two_of {H : Hp} {K : PySem.W.Frag} {a b : Addr} {p : Int} {xs ys : List Int} (x : Pol K H a p xs) (y : Pol K H b p ys) : ∀ r ∈ [V.ref a, V.ref b], ∃ a ns, r = .ref a ∧ Pol K H a p ns := fun r hr => by
  rcases List.mem_cons.mp hr with rfl | hr
  · exact ⟨_, _, rfl, x⟩
  · rw [List.mem_singleton.mp hr]
    exact ⟨_, _, rfl, y⟩
def spRefPs (K : PySem.W.Frag) : Sp := fun vs H Q _ => ∃ (c : Addr) (rs : List V) (p : Int), vs = [.ref c, .int p] ∧ p ∈ primes ∧ SqT K H c rs ∧ (∀ r ∈ rs, ∃ a ns, r = .ref a ∧ Pol K H a p ns) ∧ ∀ H', Same H H' → Q .non H'
def spPoly (K : PySem.W.Frag) (g : Int → List Int → List Int → Nat → Int) : Sp := fun vs H Q _ => ∃ (a b : Addr) (xs ys : List Int) (p : Int), vs = [.ref a, .ref b, .int p] ∧ p ∈ primes ∧ Pol K H a p xs ∧ Pol K H b p ys ∧ NewP H (g p xs ys) 100 Q
def gPlus : Int → List Int → List Int → Nat → Int := fun p xs ys j => (xs.getD j 0 + ys.getD j 0).fmod p
def gMinus : Int → List Int → List Int → Nat → Int := fun p xs ys j => (xs.getD j 0 + (p - 1) * ys.getD j 0).fmod p
def gTimes : Int → List Int → List Int → Nat → Int := fun p xs ys j => (cvf xs ys j).fmod p
section
variable {P : Program} {w : World} {K : PySem.W.Frag} {mg : Str → Option Value} {base : Heap}
theorem sc_refuse_polys : FnScope (["polys", "prime", "poly"] : List Str) ["polys", "prime"] (defScope s_refuse_polys) := ⟨rfl, rfl, rfl, by decide +kernel, rfl, by decide +kernel, by decide +kernel⟩
theorem ok_refuse_polys {f fI : Addr} {C : Fin 14 → Addr} {fd : FuncData} (F : FunD K "refuse_polys" "refuse_polys" (defArgs s_refuse_polys) (defBody s_refuse_polys) (defScope s_refuse_polys) [] [] f fd) (o_refuse_prime : Own P w K mg base (L2.CX P w) 3 "refuse_prime" ["prime"] [] (spRefP (C 0)))
    (o_is_poly : Own P w K mg base CX0 3 "is_poly" ["told", "prime"] [] (spIsPoly K)) (xP : RX K mg (C 1) fI "BadPoly") (o_init : FnR P w K mg base (L2.CX P w) 1 fI (spRI1 K)) : FnOk P w K mg base (L2.CX P w) 4 f fd ["polys", "prime"] (spRefPs K) := by
  refine F.ok sc_refuse_polys (fun vs H Q E h => ?_) (fun cdv A outer s H vs Q E hr h => ?_)
  · obtain ⟨c, rs, p, rfl, _⟩ := h
    rfl
  · obtain ⟨c, rs, p, rfl, hp, hS, hP, k⟩ := h
    refine ⟨_, (pss_cons (ps_expr (pe_own o_refuse_prime (hr.mono (by decide)) rfl (passes_call (takes_of rfl rfl rfl rfl) (fun _ _ _ _ h => h)) (pa_cons (pv 1) pa_nil)))
      (pss_one (ps_for (passes_of rfl) rfl (pi_tup (pv 0)) (pg_name (i := 2) sc_refuse_polys.nd rfl (Or.inl rfl)) (pss_one (ps_if (pt_not (pt_val (pe_own o_is_poly (hr.mono (by decide)) rfl pass0 (pa_cons (pv 2) (pa_cons (pv 1) pa_nil))))) (pss_one (ps_raise rfl (takes_of rfl rfl rfl rfl) (pmk_rung xP o_init (hr.mono (by decide)) rfl))) pss_nil))))) , ?_⟩
    refine ⟨_, rfl, p, rfl, fun _ => ?_, fun z => absurd hp z⟩
    refine ⟨_, rfl, c, rfl, ⟨_, hS⟩, ?_⟩
    refine for_it (walk_tup (xs := rs)) (fun i σ' H2 => ∃ x : Option V, σ' = [some (.ref c), some (.int p), x] ∧ Same H H2) ⟨none, rfl, fun _ _ h => h⟩ (fun i σ' H2 _ ⟨_, _, s2⟩ => sameT s2 hS) ?_ ?_
    · rintro i x σ' H2 H3 hi ⟨x0, rfl, s2⟩ ⟨rfl, hx⟩
      obtain ⟨a, ns, rfl, Pa⟩ := hP x (List.mem_of_getElem? hx)
      have Pb := Pa.same s2
      exact ⟨_, rfl, _, rfl, a, ns, p, rfl, Pb.at_, Pb.len, Pb.rs, Pb.tr, fun H4 s4 => ⟨_, rfl, iteF ⟨_, rfl, s2.trans s4⟩⟩⟩
    · rintro σ' H2 ⟨x, rfl, s2⟩
      exact k _ s2
end
end Xk
end
section
set_option Elab.async false
set_option linter.all false
set_option maxRecDepth 100000
set_option maxHeartbeats 4000000
namespace Xk
open PySem PySem.Spec PyProof.Rows L2 Xh LamX NdefX
theorem Draw.updL {H : Hp} {d p : Addr} {ms : List Int} (D : Draw H d) (h : p ≠ d) : Draw (L2.upd H p (.lst (ms.map V.int))) d := by
  obtain ⟨c, ns, i, r, g, h1, h2, h3⟩ := D
  by_cases hc : c = p
  · exact ⟨c, ms, i, r, g, by rw [upd_ne (Ne.symm h)]; exact h1, by rw [hc, upd_same], h3⟩
  · exact ⟨c, ns, i, r, g, by rw [upd_ne (Ne.symm h)]; exact h1, by rw [upd_ne hc]; exact h2, h3⟩
theorem But.lcs {H H2 : Hp} {d D : Addr} {o : HO} (hD : H D = none) (b : But d H H2) : But d H (L2.upd H2 D o) := ⟨fun c u h e => by
  rw [upd_ne (ne_of_none e hD)]
  exact b.f c u h e, fun c r e => by
  obtain ⟨r', e'⟩ := b.c c r e
  exact ⟨r', by rw [upd_ne (ne_of_none e hD)]; exact e'⟩⟩
theorem Rs.nil (p : Int) (h : 0 < p) : Rs p [] := fun j => ⟨Int.le_refl _, h⟩
theorem Rs.add {p x : Int} {ms : List Int} (r : Rs p ms) (h0 : 0 ≤ x) (h1 : x < p) : Rs p (ms ++ [x]) := fun j => by
  rw [List.getD_eq_getElem?_getD, List.getElem?_append]
  split
  · have z := r j
    rw [List.getD_eq_getElem?_getD] at z
    exact z
  · cases e : j - ms.length with
    | zero => exact ⟨h0, h1⟩
    | succ n => exact ⟨Int.le_refl _, show (0 : Int) < p by omega⟩
/-- a new list of rests, drawn -/
def NewL (H : Hp) (d : Addr) (p : Int) (n : Nat) (Q : VK) : Prop := ∀ (ms : List Int) (a : Addr) (H' : Hp), ms.length = n → Rs p ms → Draw H' d → But d H H' → H' a = some (.lst (ms.map V.int)) → a ≠ d → H a = none → Q (.ref a) H'
def spRestsD : Sp := fun vs H Q _ => ∃ (d : Addr) (n : Nat) (p : Int), vs = [.ref d, .int n, .int p] ∧ Draw H d ∧ n ≤ 100 ∧ Pm p ∧ NewL H d p n Q
def spPolyD (K : PySem.W.Frag) : Sp := fun vs H Q _ => ∃ (d : Addr) (n : Nat) (p : Int), vs = [.ref d, .int n, .int p] ∧ Draw H d ∧ n ≤ 25 ∧ Pm p ∧ ∀ (ms : List Int) (a : Addr) (H' : Hp), Draw H' d → But d H H' → Pol K H' a p ms → ms.length ≤ n → a ≠ d → H a = none → H' a = some (.tup (ms.map V.int)) → Q (.ref a) H'
theorem natAbs_small {p : Int} (h : Pm p) : p.natAbs < 2 ^ 200 := big (by have := h.lo; have := h.hi; omega)
section
variable {P : Program} {w : World} {K : PySem.W.Frag} {mg : Str → Option Value} {base : Heap}
theorem sc_law_rests : FnScope (["_law_draw", "_law_many", "_law_p", "_law_k"] : List Str) ["_law_draw", "_law_many", "_law_p"] (defScope s_law_rests) := ⟨rfl, rfl, rfl, by decide +kernel, rfl, by decide +kernel, by decide +kernel⟩
theorem ok_law_rests {f : Addr} {fd : FuncData} (F : FunD K "_law_rests" "_law_rests" (defArgs s_law_rests) (defBody s_law_rests) (defScope s_law_rests) [] [] f fd) (T : Fre mg) (o_law_take : Own P w K mg base CX0 1 "_law_take" ["_law_draw", "_law_sides"] [] spTake) : FnOk P w K mg base CX0 2 f fd ["_law_draw", "_law_many", "_law_p"] spRestsD := by
  refine F.ok sc_law_rests (fun vs H Q E h => ?_) (fun cdv A outer s H vs Q E hr h => ?_)
  · obtain ⟨d, n, p, rfl, _⟩ := h
    rfl
  · obtain ⟨d, n, p, rfl, Dr, hn, hp, k⟩ := h
    refine ⟨_, PSs.nox (pss_one (ps_ret (pe_lc (own := [("_law_k", 3)]) rfl sc_law_rests.nd (pi_range1 (by rfl) T.f_range (pa_cons (pv 1) pa_nil)) (blkOk_by (own := [("_law_k", 3)]) (N := ["_law_draw", "_law_many", "_law_p", "_law_k"]) (sc := defScope s_law_rests) (by decide +kernel)) (fun _ _ _ _ _ => pg_name (i := 3) sc_law_rests.nd rfl (Or.inl rfl) (Or.inr rfl)) (fun _ _ _ _ _ => pts_nil) (fun _ _ _ _ _ => (pe_own o_law_take (hr.mono (by decide)) rfl pass0 (pa_cons (pv 0) (pa_cons (pv 2) pa_nil))))))) , ?_⟩
    refine ⟨_, rfl, (n : Int), rfl, by omega, by omega, fun D hD => ?_⟩
    rw [Int.toNat_natCast]
    have hDd : D ≠ d := Dr.ne hD
    refine lc_range (lo := 0) (n := n) (fun i H1 => ∃ ms : List Int, H1 D = some (.lst (ms.map V.int)) ∧ ms.length = i ∧ Rs p ms ∧ Draw H1 d ∧ But d H H1) ⟨[], upd_same, rfl, Rs.nil p hp.pos, Dr.same (same_upd hD), But.updN hD⟩ ?_ ?_
    · rintro i H1 hi ⟨ms, e1, l1, r1, D1, B1⟩
      have lo := hp.lo
      refine ⟨rfl, _, rfl, _, rfl, d, p, rfl, D1, by omega, natAbs_small hp, fun m H2 m0 m1 D2 B2 => ⟨_, B2 _ _ hDd e1, ?_, ms ++ [m], ?_, ?_, r1.add m0 m1, ?_, But.lcs hD (B1.trans B2)⟩⟩
      · rw [List.length_map]
        exact small1000 (by omega)
      · rw [upd_same, List.map_append]
        rfl
      · rw [List.length_append, l1]
        rfl
      · have z := D2.updL (p := D) (ms := ms ++ [m]) hDd
        rw [List.map_append] at z
        exact z
    · rintro H1 ⟨ms, e1, l1, r1, D1, B1⟩
      exact k ms D H1 (by omega) r1 D1 B1 e1 hDd hD
end
end Xk
end
section
set_option Elab.async false
set_option linter.all false
set_option maxRecDepth 100000
set_option maxHeartbeats 4000000
namespace Xk
open PySem PySem.Spec PyProof.Rows L2 Xh LamX NdefX
def spBlend (K : PySem.W.Frag) : Sp := fun vs H Q _ => ∃ (a b : Addr) (xs ys : List Int) (w p : Int), vs = [.ref a, .ref b, .int w, .int p] ∧ SqT K H a (xs.map V.int) ∧ SqT K H b (ys.map V.int) ∧ xs.length ≤ 100 ∧ ys.length ≤ 100 ∧ 0 ≤ w ∧ w ≤ 1000 ∧ Pm p ∧
  NewP H (fun j => (xs.getD j 0 + w * ys.getD j 0).fmod p) (max xs.length ys.length) Q
def pad (n : Nat) (xs : List Int) : List Int := xs ++ List.replicate (n - xs.length) 0
theorem pad_len {n : Nat} {xs : List Int} (h : xs.length ≤ n) : (pad n xs).length = n := by
  unfold pad
  rw [List.length_append, List.length_replicate]
  omega
theorem pad_getD (n : Nat) (xs : List Int) (j : Nat) : (pad n xs).getD j 0 = xs.getD j 0 := by
  unfold pad
  rw [List.getD_eq_getElem?_getD, List.getElem?_append]
  split
  · rw [List.getD_eq_getElem?_getD]
  · rename_i h
    rw [getD_over (by omega), ← List.getD_eq_getElem?_getD, getD_rep]
theorem getD_app (a : List Int) (x : Int) (j : Nat) : (a ++ [x]).getD j 0 = if j < a.length then a.getD j 0 else if j = a.length then x else 0 := by
  rw [List.getD_eq_getElem?_getD, List.getElem?_append]
  split
  · rw [List.getD_eq_getElem?_getD]
  · rename_i h
    by_cases e : j = a.length
    · rw [if_pos e, e, Nat.sub_self]
      rfl
    · rw [if_neg e]
      cases e2 : j - a.length with
      | zero => omega
      | succ n => rfl
section
variable {P : Program} {w : World} {K : PySem.W.Frag} {mg : Str → Option Value} {base : Heap}
theorem sc_law_blend : FnScope (["_law_one", "_law_other", "_law_weight", "_law_p", "_law_many", "_law_wide", "_law_row", "_law_a", "_law_b"] : List Str) ["_law_one", "_law_other", "_law_weight", "_law_p"] (defScope s_law_blend) := ⟨rfl, rfl, rfl, by decide +kernel, rfl, by decide +kernel, by decide +kernel⟩
theorem ok_law_blend {f : Addr} {fd : FuncData} (F : FunD K "_law_blend" "_law_blend" (defArgs s_law_blend) (defBody s_law_blend) (defScope s_law_blend) [] [] f fd) (T : Fre mg) (o_law_trim : Own P w K mg base CX0 1 "_law_trim" ["_law_numbers"] [] (spTrim K)) : FnOk P w K mg base CX0 2 f fd ["_law_one", "_law_other", "_law_weight", "_law_p"] (spBlend K) := by
  refine F.ok sc_law_blend (fun vs H Q E h => ?_) (fun cdv A outer s H vs Q E hr h => ?_)
  · obtain ⟨a, b, xs, ys, w, p, rfl, _⟩ := h
    rfl
  · obtain ⟨a, b, xs, ys, w, p, rfl, hA, hB, la, lb, w0, w1, hp, k⟩ := h
    have nz : p ≠ 0 := by have := hp.lo; omega
    refine ⟨_, PSs.nox (pss_cons (ps_set (i := 4) sc_law_blend.nd rfl (Or.inr rfl) (pe_callB (call_max2 rfl) (by rfl) T.f_max (by decide +kernel) (pa_cons (pe_callB call_len_seq (by rfl) T.f_len PySem.boot_len (pa_cons (pv 0) pa_nil)) (pa_cons (pe_callB call_len_seq (by rfl) T.f_len PySem.boot_len (pa_cons (pv 1) pa_nil)) pa_nil))))
      (pss_cons (ps_setLc (i := 5) (own := [("_law_row", 6)]) (te := tOp rCat (tCB (fun xs H Q => ∃ p ys, xs = [V.ref p] ∧ (SqL K H p ys ∨ SqT K H p ys) ∧ ∀ l, H l = none → Q (V.ref l) (L2.upd H l (.lst ys))) (tCons (tVar 6) tNil)) (tOp rRep (tLst (tCons (tC (V.int 0)) tNil)) (tOp (rI0 fun i j => V.int (i - j)) (tVar 4) (tCB (fun xs H Q => ∃ p ys, xs = [V.ref p] ∧ (SqL K H p ys ∨ SqT K H p ys) ∧ Q (V.int ys.length) H) (tCons (tVar 6) tNil))))) rfl sc_law_blend.nd rfl rfl (sw_true rfl rfl rfl (by decide +kernel)) (pi_tup (pe_tup (pa_cons (pv 0) (pa_cons (pv 1) pa_nil)))) (blkOk_by (own := [("_law_row", 6)]) (N := ["_law_one", "_law_other", "_law_weight", "_law_p", "_law_many", "_law_wide", "_law_row", "_law_a", "_law_b"]) (sc := defScope s_law_blend) (by decide +kernel)) (fun _ _ _ _ _ => pg_name (i := 6) sc_law_blend.nd rfl (Or.inl rfl) (Or.inr rfl)) (fun _ _ _ _ _ => pts_nil) (fun _ _ _ _ _ => (pe_op op_cat (pe_callTy call_list_of (by rfl) T.f_list (by decide +kernel) (pa_cons (pv 6) pa_nil)) (pe_op op_rep (pe_lst (pa_cons pe_int pa_nil)) (pe_op op_sub (pv 4) (pe_callB call_len_seq (by rfl) T.f_len PySem.boot_len (pa_cons (pv 6) pa_nil)))))))
      (pss_one (ps_ret (pe_own o_law_trim (hr.mono (by decide)) rfl pass0 (pa_cons (pe_lc (own := [("_law_a", 7), ("_law_b", 8)]) (g := (gTup K 2 (gCons (gName 7) (gCons (gName 8) gNil)))) rfl sc_law_blend.nd (pi_zip (by rfl) T.f_zip (pa_cons (pe_ix ix_list (pv 5) pe_int (fun _ _ => rfl)) (pa_cons (pe_ix ix_list (pv 5) pe_int (fun _ _ => rfl)) pa_nil))) (blkOk_by (own := [("_law_a", 7), ("_law_b", 8)]) (N := ["_law_one", "_law_other", "_law_weight", "_law_p", "_law_many", "_law_wide", "_law_row", "_law_a", "_law_b"]) (sc := defScope s_law_blend) (by decide +kernel)) (fun _ _ _ _ _ => pg_tup rfl (pgs_cons (pg_name (i := 7) sc_law_blend.nd rfl (Or.inl rfl) (Or.inr rfl)) (pgs_cons (pg_name (i := 8) sc_law_blend.nd rfl (Or.inl rfl) (Or.inr rfl)) pgs_nil))) (fun _ _ _ _ _ => pts_nil) (fun _ _ _ _ _ => (pe_op op_modN (pe_op op_add (pv 7) (pe_op op_mul (pv 2) (pv 8))) (pv 3)))) pa_nil)))))) , ?_⟩
    refine ⟨_, rfl, _, _, rfl, .inr hA, _, rfl, _, _, rfl, .inr hB, _, _, rfl, ?_⟩
    rw [List.length_map, List.length_map, show (if (ys.length : Int) > (xs.length : Int) then (ys.length : Int) else (xs.length : Int)) = ((max xs.length ys.length : Nat) : Int) from by split <;> omega]
    generalize hN : max xs.length ys.length = N at k
    refine ⟨_, rfl, _, rfl, (by show 2 ≤ sizeLine; decide), fun t ht => ⟨t, rfl, ⟨_, SqT.of upd_same⟩, fun D hD => ?_⟩⟩
    have st := same_upd (o := .tup [V.ref a, V.ref b]) ht
    have D0 : H D = none := st.free hD
    have et : ∀ H2, Same (L2.upd H t (.tup [V.ref a, V.ref b])) H2 → SqT K H2 t [V.ref a, V.ref b] := fun H2 s2 => SqT.of (s2 _ _ upd_same)
    refine lc_it (walk_tup (xs := [V.ref a, V.ref b])) (fun i H1 => Same (L2.upd H t (.tup [V.ref a, V.ref b])) H1 ∧ ∃ ls : List Addr, H1 D = some (.lst (ls.map V.ref)) ∧ ls.length = i ∧ ∀ j l, ls[j]? = some l → l ≠ D ∧ H1 l = some (.lst ((pad N (if j = 0 then xs else ys)).map V.int))) ⟨same_upd hD, [], upd_same, rfl, fun j l z => by cases z⟩ (fun i H1 _ h => et _ h.1) ?_ ?_
    · rintro i x H1 H2 hi ⟨s1, ls, e1, l1, hl⟩ ⟨rfl, hx⟩
      obtain ⟨c, rfl, hC⟩ : ∃ c, x = .ref c ∧ SqT K H2 c ((if i = 0 then xs else ys).map V.int) := by
        match i, hi, hx with
        | 0, _, hx => cases hx; exact ⟨a, rfl, sameT (st.trans s1) hA⟩
        | 1, _, hx => cases hx; exact ⟨b, rfl, sameT (st.trans s1) hB⟩
      have lz : (if i = 0 then xs else ys).length ≤ N := by split <;> omega
      have lN : N ≤ 100 := by omega
      generalize hz : (if i = 0 then xs else ys) = zs at hC lz
      refine ⟨rfl, _, rfl, c, _, rfl, .inr hC, fun l hl0 => ⟨(by show 1 ≤ sizeLine; decide), fun l2 hl2 => ?_⟩⟩
      have sa := same_upd (o := .lst (zs.map V.int)) hl0
      have sb := sa.trans (same_upd (o := .lst [.int 0]) hl2)
      refine ⟨_, rfl, _, rfl, c, _, rfl, .inr (sameT sb hC), _, _, rfl, rfl, l2, _, _, rfl, rfl, upd_same, ?_, ?_, ?_, fun l3 hl3 => ?_⟩
      · rw [List.length_map]; omega
      · rw [List.length_map]; omega
      · rw [List.length_map]
        exact Nat.le_trans (show 1 * ((N : Int) - (zs.length : Int)).toNat ≤ 1000 by omega) (Nat.le_of_lt (small1000 (Nat.le_refl _)))
      rw [List.length_map, show ((N : Int) - (zs.length : Int)).toNat = N - zs.length by omega, rep_zero] at *
      have sc := sb.trans (same_upd (o := .lst ((List.replicate (N - zs.length) (0 : Int)).map V.int)) hl3)
      refine ⟨l, l3, zs.map V.int, _, rfl, rfl, ?_, upd_same, ?_, fun l4 hl4 => ?_⟩
      · rw [upd_ne (ne_of_none (by rw [upd_ne (ne_of_none upd_same hl2), upd_same]) hl3), upd_ne (ne_of_none upd_same hl2), upd_same]
      · rw [List.length_map, List.length_map, List.length_replicate]
        exact Nat.le_of_lt (small1000 (by omega))
      · rw [← List.map_append, show zs ++ List.replicate (N - zs.length) 0 = pad N zs from rfl]
        have sd := sc.trans (same_upd (o := .lst ((pad N zs).map V.int)) hl4)
        have n4 : l4 ≠ D := (ne_of_none (sc _ _ e1) hl4).symm
        refine ⟨_, sd _ _ e1, by rw [List.length_map]; exact small1000 (by rw [l1]; exact Nat.le_of_lt (Nat.lt_trans hi (by show 2 < 1000; decide))), lcs hD (s1.trans sd), ls ++ [l4], by rw [upd_same, List.map_append]; rfl, by rw [List.length_append, l1]; rfl, fun j u hu => ?_⟩
        rw [List.getElem?_append] at hu
        split at hu
        · obtain ⟨n1, e5⟩ := hl j u hu
          exact ⟨n1, by rw [upd_ne n1]; exact sd _ _ e5⟩
        · rename_i hj
          cases ej : j - ls.length with
          | succ n => rw [ej] at hu; cases hu
          | zero =>
            rw [ej] at hu
            cases hu
            have ji : j = i := by omega
            exact ⟨n4, by rw [upd_ne n4, upd_same, ji, hz]⟩
    · rintro H1 ⟨s1, ls, e1, l1, hl⟩
      obtain ⟨u, v, rfl⟩ : ∃ u v, ls = [u, v] := by
        match ls, l1 with
        | [u, v], _ => exact ⟨u, v, rfl⟩
      obtain ⟨nu, eu⟩ := hl 0 u rfl
      obtain ⟨nv, ev⟩ := hl 1 v rfl
      rw [if_pos rfl] at eu
      rw [if_neg (by decide)] at ev
      have lN : N ≤ 100 := by omega
      have px : (pad N xs).length = N := pad_len (by omega)
      have py : (pad N ys).length = N := pad_len (by omega)
      refine ⟨_, rfl, D, _, 0, .ref u, rfl, rfl, SqL.of e1, rfl, _, rfl, D, _, 1, .ref v, rfl, rfl, SqL.of e1, rfl, u, v, _, _, rfl, SqL.of eu, SqL.of ev, fun G hG => ?_⟩
      refine lc_it (walk_zip (n := N) (xs := (pad N xs).map V.int) (ys := (pad N ys).map V.int) (by rw [List.length_map, List.length_map]; omega)) (fun i H3 => Same H1 H3 ∧ ∃ ms : List Int, H3 G = some (.lst (ms.map V.int)) ∧ ms.length = i ∧ ∀ j, j < i → ms.getD j 0 = (xs.getD j 0 + w * ys.getD j 0).fmod p)
        ⟨same_upd hG, [], upd_same, rfl, fun j hj => absurd hj (Nat.not_lt_zero j)⟩ (fun i H3 _ h => ⟨SqL.of (h.1 _ _ eu), SqL.of (h.1 _ _ ev)⟩) ?_ ?_
      · rintro i x H3 H4 hi ⟨s3, ms, e3, l3, c3⟩ ⟨T, x1, y1, rfl, hT, rfl, g1, g2⟩
        have h1 := (map_at (pad N xs) i (by omega)).symm.trans g1
        have h2 := (map_at (pad N ys) i (by omega)).symm.trans g2
        cases h1
        cases h2
        have s4 := s3.trans (same_upd (o := .tup [.int ((pad N xs).getD i 0), .int ((pad N ys).getD i 0)]) hT)
        refine ⟨T, _, rfl, .inl (.inl upd_same), rfl, _, _, rfl, _, _, rfl, rfl, rfl, _, rfl, _, rfl, _, rfl, _, _, rfl, rfl, .inl ⟨by omega, by omega⟩, _, _, rfl, rfl, _, rfl, _, _, rfl, rfl, nz, _, by rw [upd_ne (ne_of_none e3 hT)]; exact e3, ?_, lcs hG s4, ms ++ [((pad N xs).getD i 0 + w * (pad N ys).getD i 0).fmod p], ?_, ?_, fun j hj => ?_⟩
        · rw [List.length_map]
          exact small1000 (by omega)
        · rw [upd_same, List.map_append]
          rfl
        · rw [List.length_append, l3]
          rfl
        · rw [getD_app, l3]
          by_cases hj2 : j < i
          · rw [if_pos hj2]
            exact c3 j hj2
          · rw [if_neg hj2, show j = i by omega, if_pos rfl, pad_getD, pad_getD]
      · rintro H3 ⟨s3, ms, e3, l3, c3⟩
        refine ⟨G, ms, rfl, SqL.of e3, by omega, (k _ (is_trim (fun j => ?_) (by omega))).same ((st.trans s1).trans s3)⟩
        by_cases hj : j < N
        · exact c3 j hj
        · rw [getD_over (by omega), getD_over (show xs.length ≤ j by omega), getD_over (show ys.length ≤ j by omega), Int.mul_zero, Int.add_zero, Int.zero_fmod]
end
end Xk
end
section
set_option Elab.async false
set_option linter.all false
set_option maxRecDepth 100000
set_option maxHeartbeats 4000000
namespace Xk
open PySem PySem.Spec PyProof.Rows L2 Xh LamX NdefX
def spConv (K : PySem.W.Frag) : Sp := fun vs H Q _ => ∃ (a b : Addr) (xs ys : List Int) (p : Int), vs = [.ref a, .ref b, .int p] ∧ SqT K H a (xs.map V.int) ∧ SqT K H b (ys.map V.int) ∧ xs.length ≤ 50 ∧ ys.length ≤ 50 ∧ Rs p xs ∧ Rs p ys ∧ Pm p ∧
  ∀ (ms : List Int) (q : Addr) (H' : Hp), Same H H' → H q = none → ms.length ≤ 100 → (∀ j, ms.getD j 0 = gTimes p xs ys j) → H' q = some (.lst (ms.map V.int)) → Q (.ref q) H'
def spMul (K : PySem.W.Frag) : Sp := fun vs H Q _ => ∃ (a b : Addr) (xs ys : List Int) (p : Int), vs = [.ref a, .ref b, .int p] ∧ SqT K H a (xs.map V.int) ∧ SqT K H b (ys.map V.int) ∧ xs.length ≤ 50 ∧ ys.length ≤ 50 ∧ Rs p xs ∧ Rs p ys ∧ Pm p ∧ NewP H (gTimes p xs ys) 100 Q
section
variable {P : Program} {w : World} {K : PySem.W.Frag} {mg : Str → Option Value} {base : Heap}
theorem sc_law_conv : FnScope (["_law_one", "_law_other", "_law_p", "_law_found", "_law_at", "_law_a", "_law_place", "_law_b"] : List Str) ["_law_one", "_law_other", "_law_p"] (defScope s_law_conv) := ⟨rfl, rfl, rfl, by decide +kernel, rfl, by decide +kernel, by decide +kernel⟩
theorem ok_law_conv {f : Addr} {fd : FuncData} (F : FunD K "_law_conv" "_law_conv" (defArgs s_law_conv) (defBody s_law_conv) (defScope s_law_conv) [] [] f fd) (T : Fre mg) : FnOk P w K mg base CX0 1 f fd ["_law_one", "_law_other", "_law_p"] (spConv K) := by
  refine F.ok sc_law_conv (fun vs H Q E h => ?_) (fun cdv A outer s H vs Q E hr h => ?_)
  · obtain ⟨a, b, xs, ys, p, rfl, _⟩ := h
    rfl
  · obtain ⟨a, b, xs, ys, p, rfl, hA, hB, la, lb, rA, rB, hp, k⟩ := h
    have nz : p ≠ 0 := by have := hp.lo; omega
    have hi1000 := hp.hi
    refine ⟨_, PSs.nox (pss_cons (ps_set (i := 3) sc_law_conv.nd rfl (Or.inl rfl) (pe_op op_rep (pe_lst (pa_cons pe_int pa_nil)) (pe_op op_add (pe_callB call_len_seq (by rfl) T.f_len PySem.boot_len (pa_cons (pv 0) pa_nil)) (pe_callB call_len_seq (by rfl) T.f_len PySem.boot_len (pa_cons (pv 1) pa_nil)))))
      (pss_cons (ps_for PassesOwn.never rfl (pi_enT (by rfl) T.f_enumerate (pa_cons (pv 0) pa_nil)) (pg_tup rfl (pgs_cons (pg_name (i := 4) sc_law_conv.nd rfl (Or.inl rfl)) (pgs_cons (pg_name (i := 5) sc_law_conv.nd rfl (Or.inl rfl)) pgs_nil))) (pss_one (ps_for PassesOwn.never rfl (pi_enT (by rfl) T.f_enumerate (pa_cons (pv 1) pa_nil)) (pg_tup rfl (pgs_cons (pg_name (i := 6) sc_law_conv.nd rfl (Or.inl rfl)) (pgs_cons (pg_name (i := 7) sc_law_conv.nd rfl (Or.inl rfl)) pgs_nil))) (pss_one (ps_asg (pe_op op_modN (pe_op op_add (pe_ix ix_list (pv 3) (pe_op op_add (pv 4) (pv 6)) (fun _ _ => rfl)) (pe_op op_mul (pv 5) (pv 7))) (pv 2)) (pg_sub (pv 3) (pe_op op_add (pv 4) (pv 6)) set_list))))))
      (pss_one (ps_ret (pv 3))))) , ?_⟩
    refine ⟨(by show 1 ≤ sizeLine; decide), fun l hl => ?_⟩
    have s0 := same_upd (o := .lst [.int 0]) hl
    refine ⟨_, rfl, _, _, rfl, .inr (sameT s0 hA), _, rfl, _, _, rfl, .inr (sameT s0 hB), _, _, rfl, rfl, l, _, _, rfl, rfl, upd_same, ?_, ?_, ?_, fun q hq => ?_⟩
    · rw [List.length_map, List.length_map]; omega
    · rw [List.length_map, List.length_map]; omega
    · rw [List.length_map, List.length_map]
      exact Nat.le_trans (show 1 * ((xs.length : Int) + (ys.length : Int)).toNat ≤ 1000 by omega) (Nat.le_of_lt (small1000 (Nat.le_refl _)))
    have q0 : H q = none := s0.free hq
    rw [List.length_map, List.length_map, show ((xs.length : Int) + (ys.length : Int)).toNat = xs.length + ys.length by omega, rep_zero]
    refine ⟨_, rfl, a, _, rfl, sameT (s0.trans (same_upd hq)) hA, ?_⟩
    refine for_it (walk_enT (xs := xs.map V.int)) (fun i σ' H2 => ∃ (ms : List Int) (x y u v : Option V), σ' = [some (.ref a), some (.ref b), some (.int p), some (.ref q), x, y, u, v] ∧ Same H H2 ∧ H2 q = some (.lst (ms.map V.int)) ∧ ms.length = xs.length + ys.length ∧ ∀ j, ms.getD j 0 = (Ou xs ys i j).fmod p)
      ⟨List.replicate (xs.length + ys.length) 0, none, none, none, none, rfl, s0.trans (same_upd hq), upd_same, List.length_replicate, fun j => by rw [getD_rep]; exact (Int.zero_fmod p).symm⟩ (fun i σ' H2 _ ⟨_, _, _, _, _, _, s2, _⟩ => sameT s2 hA) ?_ ?_
    · rintro i x σ' H2 H3 hi ⟨ms, x0, y0, u0, v0, rfl, s2, eq, lms, cf⟩ ⟨T, u, v, rfl, hT, rfl, e1, e2⟩
      cases e1
      rw [List.length_map] at hi
      have e3 := (map_at xs i hi).symm.trans e2
      cases e3
      have sT := s2.trans (same_upd (o := .tup [.int (i : Nat), .int (xs.getD i 0)]) hT)
      refine ⟨T, _, rfl, .inl (.inl upd_same), rfl, _, _, rfl, _, _, rfl, rfl, ?_⟩
      refine ⟨_, rfl, b, _, rfl, sameT sT hB, ?_⟩
      refine for_it (walk_enT (xs := ys.map V.int)) (fun j σ' H2 => ∃ (ms : List Int) (u v : Option V), σ' = [some (.ref a), some (.ref b), some (.int p), some (.ref q), some (.int (i : Nat)), some (.int (xs.getD i 0)), u, v] ∧ Same H H2 ∧ H2 q = some (.lst (ms.map V.int)) ∧ ms.length = xs.length + ys.length ∧ ∀ k, ms.getD k 0 = (In (Ou xs ys i) i (xs.getD i 0) ys j k).fmod p)
        ⟨ms, u0, v0, rfl, sT, by rw [upd_ne (ne_of_none eq hT)]; exact eq, lms, cf⟩ (fun j σ' H2 _ ⟨_, _, _, _, s2, _⟩ => sameT s2 hB) ?_ ?_
      · rintro j x' σ' H4 H5 hj ⟨ms, u0, v0, rfl, s2, eq, lms, cf⟩ ⟨T, u, v, rfl, hT, rfl, e1, e2⟩
        cases e1
        rw [List.length_map] at hj
        have e3 := (map_at ys j hj).symm.trans e2
        cases e3
        have eq2 : L2.upd H4 T (.tup [.int (j : Nat), .int (ys.getD j 0)]) q = some (.lst (ms.map V.int)) := by rw [upd_ne (ne_of_none eq hT)]; exact eq
        obtain ⟨x0, x1⟩ := rA i
        have ho : atI (ms.map V.int) ((i : Int) + (j : Int)) = some (.int (ms.getD (i + j) 0)) := by
          rw [← Int.natCast_add]
          exact atI_nat (map_at ms (i + j) (by omega))
        have hx : ixN (ms.map V.int).length ((i : Int) + (j : Int)) = some (i + j) := by
          rw [← Int.natCast_add]
          exact ixN_nat (by rw [List.length_map]; omega)
        refine ⟨T, _, rfl, .inl (.inl upd_same), rfl, _, _, rfl, _, _, rfl, rfl, ?_⟩
        refine ⟨_, rfl, _, rfl, _, rfl, _, _, rfl, rfl, q, _, _, _, rfl, rfl, SqL.of eq2, ho, _, rfl, _, rfl, _, _, rfl, rfl, .inl ⟨by omega, by omega⟩, _, _, rfl, rfl, _, rfl, _, _, rfl, rfl, nz, _, rfl, _, rfl, _, rfl, _, _, rfl, rfl, q, _, _, _, rfl, rfl, eq2, hx, ?_⟩
        refine ⟨ms.set (i + j) ((ms.getD (i + j) 0 + xs.getD i 0 * ys.getD j 0).fmod p), _, _, rfl, lcs q0 (s2.trans (same_upd hT)), ?_, by rw [List.length_set]; exact lms, fun k => ?_⟩
        · rw [upd_same, List.map_set]
        · rw [getD_set (by omega)]
          unfold In
          by_cases hk : k = i + j
          · rw [if_pos hk, if_pos hk, cf, hk, fm_add2 hp.pos]
          · rw [if_neg hk, if_neg hk, cf]
      · rintro σ' H4 ⟨ms, u0, v0, rfl, s2, eq, lms, cf⟩
        rw [List.length_map] at cf
        exact ⟨ms, _, _, _, _, rfl, s2, eq, lms, cf⟩
    · rintro σ' H2 ⟨ms, x0, y0, u0, v0, rfl, s2, eq, lms, cf⟩
      rw [List.length_map] at cf
      exact ⟨_, rfl, k ms q H2 s2 q0 (by omega) cf eq⟩
theorem sc_law_mul : FnScope (["_law_one", "_law_other", "_law_p"] : List Str) ["_law_one", "_law_other", "_law_p"] (defScope s_law_mul) := ⟨rfl, rfl, rfl, by decide +kernel, rfl, by decide +kernel, by decide +kernel⟩
theorem ok_law_mul {f : Addr} {fd : FuncData} (F : FunD K "_law_mul" "_law_mul" (defArgs s_law_mul) (defBody s_law_mul) (defScope s_law_mul) [] [] f fd) (o_law_conv : Own P w K mg base CX0 1 "_law_conv" ["_law_one", "_law_other", "_law_p"] [] (spConv K)) (o_law_trim : Own P w K mg base CX0 1 "_law_trim" ["_law_numbers"] [] (spTrim K)) : FnOk P w K mg base CX0 2 f fd ["_law_one", "_law_other", "_law_p"] (spMul K) := by
  refine F.ok sc_law_mul (fun vs H Q E h => ?_) (fun cdv A outer s H vs Q E hr h => ?_)
  · obtain ⟨a, b, xs, ys, p, rfl, _⟩ := h
    rfl
  · obtain ⟨a, b, xs, ys, p, rfl, hA, hB, la, lb, rA, rB, hp, k⟩ := h
    refine ⟨_, PSs.nox (pss_one (ps_ret (pe_own o_law_trim (hr.mono (by decide)) rfl pass0 (pa_cons (pe_own o_law_conv (hr.mono (by decide)) rfl pass0 (pa_cons (pv 0) (pa_cons (pv 1) (pa_cons (pv 2) pa_nil)))) pa_nil)))) , ?_⟩
    exact ⟨_, rfl, _, rfl, _, rfl, a, b, xs, ys, p, rfl, hA, hB, la, lb, rA, rB, hp, fun ms q H' s1 hq lm cf e1 => ⟨q, ms, rfl, SqL.of e1, by omega, (k _ (is_trim cf lm)).same s1⟩⟩
end
end Xk
end
section
set_option Elab.async false
set_option linter.all false
set_option maxRecDepth 100000
set_option maxHeartbeats 4000000
namespace Xk
open PySem PySem.Spec PyProof.Rows L2 Xh LamX NdefX
def bks (N P i : Nat) : List Nat := (List.range i).filter fun j => (j + 1) * N % P == 1
def bk (N P : Nat) : Nat := (bks N P (P - 1)).headD 0 + 1
def spBack : Sp := fun vs H Q _ => ∃ N P : Nat, vs = [.int N, .int P] ∧ 2 ≤ P ∧ P ≤ 1000 ∧ bks N P (P - 1) ≠ [] ∧ ∀ H', Same H H' → Q (.int (bk N P)) H'
theorem undo_facts : ∀ M ∈ primes, ∀ N < M.toNat, N ≠ 0 → bks N M.toNat (M.toNat - 1) ≠ [] ∧ bk N M.toNat < M.toNat ∧ bk N M.toNat * N % M.toNat = 1 ∧ N ^ (M.toNat - 1) % M.toNat = 1 ∧ rpow N (-1) M.toNat = bk N M.toNat := by decide +kernel
section
variable {P : Program} {w : World} {K : PySem.W.Frag} {mg : Str → Option Value} {base : Heap}

end
end Xk
end
section
set_option Elab.async false
set_option linter.all false
set_option maxRecDepth 100000
set_option maxHeartbeats 4000000
namespace Xk
open PySem PySem.Spec PyProof.Rows L2 Xh LamX NdefX
/-! ### a division, step by step -/
def shv (L : Nat → Int) (t lb : Nat) (c p : Int) : Int := (L (t + lb - 1) * c).fmod p
/-- what is left, after j places of a step at t -/
def Lin (L : Nat → Int) (t : Nat) (s : Int) (y : Nat → Int) (p : Int) (j : Nat) : Nat → Int := fun k => if t ≤ k ∧ k < t + j then (L k - s * y (k - t)).fmod p else L k
/-- what is left after i of N steps -/
def Lf (x y : Nat → Int) (lb N : Nat) (c p : Int) : Nat → Nat → Int
  | 0 => x
  | i + 1 => Lin (Lf x y lb N c p i) (N - 1 - i) (shv (Lf x y lb N c p i) (N - 1 - i) lb c p) y p lb
/-- the quotient after i of N steps -/
def Qf (x y : Nat → Int) (lb N : Nat) (c p : Int) (i : Nat) : Nat → Int := fun k => if N ≤ i + k ∧ k < N then shv (Lf x y lb N c p (N - 1 - k)) k lb c p else 0
theorem Lin_succ {L : Nat → Int} {t : Nat} {s : Int} {y : Nat → Int} {p : Int} {j k : Nat} : Lin L t s y p (j + 1) k = if k = t + j then (L k - s * y j).fmod p else Lin L t s y p j k := by
  unfold Lin
  by_cases h : k = t + j
  · rw [if_pos h, if_pos (by omega), show k - t = j by omega]
  · rw [if_neg h]
    by_cases h2 : t ≤ k ∧ k < t + j
    · rw [if_pos h2, if_pos (by omega)]
    · rw [if_neg h2, if_neg (by omega)]
theorem Lin_at {L : Nat → Int} {t : Nat} {s : Int} {y : Nat → Int} {p : Int} {j : Nat} : Lin L t s y p j (t + j) = L (t + j) := by
  unfold Lin
  rw [if_neg (by omega)]
section
variable {x y : Nat → Int} {lb N : Nat} {c p : Int}
theorem Qf_succ {i k : Nat} (hi : i < N) : Qf x y lb N c p (i + 1) k = if k = N - 1 - i then shv (Lf x y lb N c p i) (N - 1 - i) lb c p else Qf x y lb N c p i k := by
  unfold Qf
  by_cases h : k = N - 1 - i
  · rw [if_pos h, if_pos (by omega), h, show N - 1 - (N - 1 - i) = i by omega]
  · rw [if_neg h]
    by_cases h2 : N ≤ i + k ∧ k < N
    · rw [if_pos h2, if_pos (by omega)]
    · rw [if_neg h2, if_neg (by omega)]
theorem Lf_rs (hp : 0 < p) (hx : ∀ k, 0 ≤ x k ∧ x k < p) : ∀ i k, 0 ≤ Lf x y lb N c p i k ∧ Lf x y lb N c p i k < p
  | 0, k => hx k
  | i + 1, k => by
    unfold Lf Lin
    split
    · exact ⟨Int.fmod_nonneg_of_pos _ hp, Int.fmod_lt_of_pos _ hp⟩
    · exact Lf_rs hp hx i k
theorem undo_step {a c y p : Int} (hp : 2 ≤ p) (h : (c * y).fmod p = 1) : (a - (a * c).fmod p * y).fmod p = 0 := by
  rw [Int.fmod_eq_emod_of_nonneg _ (by omega)] at h ⊢
  rw [Int.fmod_eq_emod_of_nonneg _ (by omega)]
  have e : ((a * c % p) * y) % p = a % p := by
    rw [Int.mul_emod, Int.emod_emod, ← Int.mul_emod, Int.mul_assoc, Int.mul_emod, h, Int.mul_one, Int.emod_emod]
  rw [Int.sub_emod, e, Int.sub_self, Int.zero_emod]
theorem Lf_top (hp : 2 ≤ p) (hlb : 1 ≤ lb) (hc : (c * y (lb - 1)).fmod p = 1) (hx : ∀ k, N + lb - 1 ≤ k → x k = 0) : ∀ i, i ≤ N → ∀ k, N - i + lb - 1 ≤ k → Lf x y lb N c p i k = 0
  | 0, _, k, hk => hx k hk
  | i + 1, hi, k, hk => by
    have ih := Lf_top hp hlb hc hx i (by omega)
    unfold Lf Lin
    by_cases h : k = N - 1 - i + lb - 1
    · rw [if_pos (by omega)]
      unfold shv
      rw [← h, show k - (N - 1 - i) = lb - 1 by omega]
      exact undo_step hp hc
    · rw [if_neg (by omega)]
      exact ih k (by omega)
end
theorem In_eq {g : Nat → Int} {i : Nat} {x : Int} {ys : List Int} {k : Nat} : ∀ j, In g i x ys j k = g k + (if i ≤ k ∧ k < i + j then x * ys.getD (k - i) 0 else 0)
  | 0 => by
    unfold In
    rw [if_neg (by omega), Int.add_zero]
  | j + 1 => by
    unfold In
    by_cases h : k = i + j
    · rw [if_pos h, In_eq j, if_neg (by omega), if_pos (by omega), show k - i = j by omega, Int.add_zero]
    · rw [if_neg h, In_eq j]
      by_cases h2 : i ≤ k ∧ k < i + j
      · rw [if_pos h2, if_pos (by omega)]
      · rw [if_neg h2, if_neg (by omega)]
theorem Ou_succ {ms ys : List Int} {n k : Nat} : Ou ms ys (n + 1) k = Ou ms ys n k + (if n ≤ k ∧ k < n + ys.length then ms.getD n 0 * ys.getD (k - n) 0 else 0) := In_eq _
theorem Ou_long {ms ys : List Int} {k : Nat} : ∀ n, Ou ms ys (ms.length + n) k = cvf ms ys k
  | 0 => rfl
  | n + 1 => by
    rw [← Nat.add_assoc, Ou_succ, Ou_long n, getD_over (show ms.length ≤ ms.length + n by omega)]
    split
    · rw [Int.zero_mul, Int.add_zero]
    · rw [Int.add_zero]
theorem mod_step {a b s y D p : Int} (hp : 0 < p) (h : b = (a - s * y).fmod p) : (b + (D + s * y)) % p = (a + D) % p := by
  rw [h, Int.fmod_eq_emod_of_nonneg _ (by omega), Int.emod_add_emod]
  congr 1
  omega
/-- one is quotient times other, and what is left -/
theorem div_eq {x : Nat → Int} {ms ys : List Int} {N : Nat} {c p : Int} (hp : 0 < p) (hm : ∀ t, t < N → ms.getD t 0 = shv (Lf x (fun j => ys.getD j 0) ys.length N c p (N - 1 - t)) t ys.length c p) :
    ∀ i, i ≤ N → ∀ k, (Lf x (fun j => ys.getD j 0) ys.length N c p i k + (Ou ms ys N k - Ou ms ys (N - i) k)) % p = x k % p
  | 0, _, k => by
    show (x k + (Ou ms ys N k - Ou ms ys N k)) % p = x k % p
    rw [Int.sub_self, Int.add_zero]
  | i + 1, hi, k => by
    have ih := div_eq hp hm i (by omega) k
    have e := Ou_succ (ms := ms) (ys := ys) (n := N - 1 - i) (k := k)
    rw [show N - 1 - i + 1 = N - i by omega] at e
    have q := hm (N - 1 - i) (by omega)
    rw [show N - 1 - (N - 1 - i) = i by omega] at q
    have st : Lf x (fun j => ys.getD j 0) ys.length N c p (i + 1) k = Lin (Lf x (fun j => ys.getD j 0) ys.length N c p i) (N - 1 - i) (shv (Lf x (fun j => ys.getD j 0) ys.length N c p i) (N - 1 - i) ys.length c p) (fun j => ys.getD j 0) p ys.length k := rfl
    rw [st, show N - (i + 1) = N - 1 - i by omega, ← ih]
    generalize Lf x (fun j => ys.getD j 0) ys.length N c p i = L at q
    unfold Lin
    by_cases h : N - 1 - i ≤ k ∧ k < N - 1 - i + ys.length
    · rw [if_pos h] at e ⊢
      rw [q] at e
      have z := mod_step (a := L k) (s := shv L (N - 1 - i) ys.length c p) (y := ys.getD (k - (N - 1 - i)) 0) (D := Ou ms ys N k - Ou ms ys (N - i) k) hp rfl
      refine Eq.trans ?_ z
      congr 2
      omega
    · rw [if_neg h] at e ⊢
      rw [e, Int.add_zero]
end Xk
end
section
set_option Elab.async false
set_option linter.all false
set_option maxRecDepth 100000
set_option maxHeartbeats 4000000
namespace Xk
open PySem PySem.Spec PyProof.Rows L2 Xh LamX NdefX
/-- how far a division goes, by what its shares are weighed -/
abbrev stp (xs ys : List Int) : Nat := xs.length + 1 - ys.length
abbrev scl (ys : List Int) (p : Int) : Int := (bk (ys.getD (ys.length - 1) 0).toNat p.toNat : Nat)
abbrev dvQ (xs ys : List Int) (p : Int) (i : Nat) : Nat → Int := Qf (fun j => xs.getD j 0) (fun j => ys.getD j 0) ys.length (stp xs ys) (scl ys p) p i
abbrev dvL (xs ys : List Int) (p : Int) (i : Nat) : Nat → Int := Lf (fun j => xs.getD j 0) (fun j => ys.getD j 0) ys.length (stp xs ys) (scl ys p) p i
/-- quotient and rest -/
structure Div (p : Int) (xs ys qs rs : List Int) : Prop where
  q : Is (dvQ xs ys p (stp xs ys)) (stp xs ys) qs
  r : Is (dvL xs ys p (stp xs ys)) xs.length rs
/-- what a second one must be -/
structure Dsr (p : Int) (ys : List Int) : Prop where
  pos : 0 < ys.length
  tr : trim ys = ys
  rs : Rs p ys
  pr : p ∈ primes
theorem Dsr.last {p : Int} {ys : List Int} (d : Dsr p ys) : ∃ l P : Nat, ys.getD (ys.length - 1) 0 = (l : Int) ∧ p = (P : Int) ∧ 2 ≤ P ∧ P ≤ 1000 ∧ l < P ∧ bks l P (P - 1) ≠ [] ∧ rpow l (-1) P = bk l P ∧ scl ys p = (bk l P : Nat) ∧ (scl ys p * ys.getD (ys.length - 1) 0).fmod p = 1 ∧ bk l P < P := by
  obtain ⟨l0, l1⟩ := d.rs (ys.length - 1)
  have hm := pm_of d.pr
  have lo := hm.lo
  have hi := hm.hi
  obtain ⟨l, hl⟩ := Int.eq_ofNat_of_zero_le l0
  obtain ⟨P, hP⟩ := Int.eq_ofNat_of_zero_le (show 0 ≤ p by omega)
  have nz : l ≠ 0 := fun z => by
    have := trim_ne ys (fun e => by have := d.pos; rw [e] at this; exact absurd this (by decide)) d.tr
    rw [hl, z] at this
    exact this rfl
  have f := undo_facts p d.pr l (by rw [hP, Int.toNat_natCast]; omega) nz
  rw [hP, Int.toNat_natCast] at f
  obtain ⟨f1, f2, f3, _, f5⟩ := f
  have e : scl ys p = (bk l P : Nat) := by
    unfold scl
    rw [hl, hP, Int.toNat_natCast, Int.toNat_natCast]
  refine ⟨l, P, hl, hP, by omega, by omega, by omega, f1, f5, e, ?_, f2⟩
  rw [e, hl, hP, ← Int.natCast_mul, fmodN, f3]
  rfl
def spParted (K : PySem.W.Frag) : Sp := fun vs H Q _ => ∃ (a b : Addr) (xs ys : List Int) (p : Int), vs = [.ref a, .ref b, .int p] ∧ SqT K H a (xs.map V.int) ∧ SqT K H b (ys.map V.int) ∧ xs.length ≤ 50 ∧ ys.length ≤ 50 ∧ Rs p xs ∧ Dsr p ys ∧
  ∀ (w u v : Addr) (qs rs : List Int) (H' : Hp), Same H H' → H w = none → H' w = some (.tup [.ref u, .ref v]) → H' u = some (.tup (qs.map V.int)) → H' v = some (.tup (rs.map V.int)) → Div p xs ys qs rs → Q (.ref w) H'
def spPartedT (K : PySem.W.Frag) (T : List (Addr × Str)) : Sp := fun vs H Q _ => ∃ (a b : Addr) (xs ys : List Int) (p : Int), vs = [.ref a, .ref b, .int p] ∧ SqT K H a (xs.map V.int) ∧ SqT K H b (ys.map V.int) ∧ xs.length ≤ 50 ∧ ys.length ≤ 50 ∧ Rs p xs ∧ Dsr p ys ∧ Tabs T H ∧
  ∀ (w u v : Addr) (qs rs : List Int) (H' : Hp), Gr T H H' → H w = none → H' w = some (.tup [.ref u, .ref v]) → H' u = some (.tup (qs.map V.int)) → H' v = some (.tup (rs.map V.int)) → Div p xs ys qs rs → Q (.ref w) H'
theorem sqT_ext {K : PySem.W.Frag} {a : Addr} {H H' : Hp} {xs : List V} (h : SqT K H a xs) (b : ExtN H H') : SqT K H' a xs := by
  rcases h with (h | ⟨o, h⟩) | h
  · exact .inl (.inl (b _ _ h (fun _ z => by cases z)))
  · exact .inl (.inr ⟨o, b _ _ h (fun _ z => by cases z)⟩)
  · exact .inr h
theorem atI_last2 {ys : List Int} (h : 0 < ys.length) : atI (ys.map V.int) (-1) = some (.int (ys.getD (ys.length - 1) 0)) := by
  cases ys with
  | nil => exact absurd h (by decide)
  | cons y ys => exact atI_back y ys
section
variable {P : Program} {w : World} {K : PySem.W.Frag} {mg : Str → Option Value} {base : Heap}
theorem sc_raw_parted : FnScope (["one", "other", "prime", "steps", "scale", "quotient", "left", "place", "share", "shift", "rest"] : List Str) ["one", "other", "prime"] (defScope s_raw_parted) := ⟨rfl, rfl, rfl, by decide +kernel, rfl, by decide +kernel, by decide +kernel⟩
theorem ok_raw_parted {TT : List (Addr × Str)} {f : Addr} {fd : FuncData} (F : FunD K "raw_parted" "raw_parted" (defArgs s_raw_parted) (defBody s_raw_parted) (defScope s_raw_parted) [] [] f fd) (T : Fre mg) (o_trimmed : Own P w K mg base CX0 1 "trimmed" ["rests"] [] (spTrim K)) (o_rest_power : Own P w K mg base CX0 3 "rest_power" ["rest", "exponent", "prime"] [] (spRPowT TT)) : FnOk P w K mg base CX0 4 f fd ["one", "other", "prime"] (spPartedT K TT) := by
  refine F.ok sc_raw_parted (fun vs H Q E h => ?_) (fun cdv A outer s H vs Q E hr h => ?_)
  · obtain ⟨a, b, xs, ys, p, rfl, _⟩ := h
    rfl
  · obtain ⟨a, b, xs, ys, p, rfl, hA, hB, la, lb, rA, dB, hT, k⟩ := h
    have hpm := pm_of dB.pr
    have lo := hpm.lo
    have hi := hpm.hi
    have ypos := dB.pos
    obtain ⟨l, P, hl, hP, P2, P3, lP, _, fr, es, ec, bl⟩ := dB.last
    refine ⟨_, PSs.nox (pss_cons (ps_set (i := 3) sc_raw_parted.nd rfl (Or.inl rfl) (pe_callB (call_max2 rfl) (by rfl) T.f_max (by decide +kernel) (pa_cons pe_int (pa_cons (pe_op op_add (pe_op op_sub (pe_callB call_len_seq (by rfl) T.f_len PySem.boot_len (pa_cons (pv 0) pa_nil)) (pe_callB call_len_seq (by rfl) T.f_len PySem.boot_len (pa_cons (pv 1) pa_nil))) pe_int) pa_nil))))
      (pss_cons (ps_set (i := 4) sc_raw_parted.nd rfl (Or.inl rfl) (pe_own o_rest_power (hr.mono (by decide)) rfl pass0 (pa_cons (pe_ix ix_tup (pv 1) (pe_un un_neg pe_int) (fun _ _ => rfl)) (pa_cons (pe_un un_neg pe_int) (pa_cons (pv 2) pa_nil)))))
      (pss_cons (ps_set (i := 5) sc_raw_parted.nd rfl (Or.inl rfl) (pe_op op_rep (pe_lst (pa_cons pe_int pa_nil)) (pv 3)))
      (pss_cons (ps_set (i := 6) sc_raw_parted.nd rfl (Or.inl rfl) (pe_callTy call_list_of (by rfl) T.f_list (by decide +kernel) (pa_cons (pv 0) pa_nil)))
      (pss_cons (ps_for PassesOwn.never rfl (pi_revR (by rfl) T.f_reversed (prg_1 (by rfl) T.f_range (pv 3))) (pg_name (i := 7) sc_raw_parted.nd rfl (Or.inl rfl)) (pss_cons (ps_set (i := 8) sc_raw_parted.nd rfl (Or.inl rfl) (pe_op op_modN (pe_op op_mul (pe_ix ix_list (pv 6) (pe_op op_sub (pe_op op_add (pv 7) (pe_callB call_len_seq (by rfl) T.f_len PySem.boot_len (pa_cons (pv 1) pa_nil))) pe_int) (fun _ _ => rfl)) (pv 4)) (pv 2)))
      (pss_cons (ps_asg (pv 8) (pg_sub (pv 5) (pv 7) set_list))
      (pss_one (ps_for PassesOwn.never rfl (pi_enT (by rfl) T.f_enumerate (pa_cons (pv 1) pa_nil)) (pg_tup rfl (pgs_cons (pg_name (i := 9) sc_raw_parted.nd rfl (Or.inl rfl)) (pgs_cons (pg_name (i := 10) sc_raw_parted.nd rfl (Or.inl rfl)) pgs_nil))) (pss_one (ps_asg (pe_op op_modN (pe_op op_sub (pe_ix ix_list (pv 6) (pe_op op_add (pv 7) (pv 9)) (fun _ _ => rfl)) (pe_op op_mul (pv 8) (pv 10))) (pv 2)) (pg_sub (pv 6) (pe_op op_add (pv 7) (pv 9)) set_list))))))))
      (pss_one (ps_ret (pe_tup (pa_cons (pe_own o_trimmed (hr.mono (by decide)) rfl pass0 (pa_cons (pv 5) pa_nil)) (pa_cons (pe_own o_trimmed (hr.mono (by decide)) rfl pass0 (pa_cons (pv 6) pa_nil)) pa_nil)))))))))) , ?_⟩
    refine ⟨_, rfl, _, _, rfl, .inr hA, _, rfl, _, _, rfl, .inr hB, _, _, rfl, rfl, _, _, rfl, rfl, _, _, rfl, ?_⟩
    rw [List.length_map, List.length_map, show (if (xs.length : Int) - (ys.length : Int) + 1 > 0 then (xs.length : Int) - (ys.length : Int) + 1 else 0) = ((stp xs ys : Nat) : Int) from by unfold stp; split <;> omega]
    refine ⟨_, rfl, _, rfl, b, _, _, .int (l : Int), rfl, rfl, hB, by rw [← hl]; exact atI_last2 ypos, _, rfl, _, rfl, l, P, -1, by rw [hP]; rfl, P2, P3, lP, hT, fun HH g1 => ?_⟩
    rw [fr, ← es]
    have hA := sqT_ext hA g1.x
    have hB := sqT_ext hB g1.x
    have k := fun w' u v qs rs H' (s' : Same HH H') h0 e1 e2 e3 dv => k w' u v qs rs H' (g1.same s') (g1.n _ h0) e1 e2 e3 dv
    generalize hN : stp xs ys = N at *
    generalize hc : scl ys p = c at *
    have nz : p ≠ 0 := by omega
    have Nl : N ≤ 51 := by rw [← hN]; unfold stp; omega
    have c1000 : 0 ≤ c ∧ c ≤ 1000 := by omega
    have rl := Lf_rs (x := fun j => xs.getD j 0) (y := fun j => ys.getD j 0) (lb := ys.length) (N := N) (c := c) (p := p) (by omega) rA
    refine ⟨(by show 1 ≤ sizeLine; decide), fun e0 he0 => ?_⟩
    have s0 := same_upd (o := .lst [.int 0]) he0
    refine ⟨_, rfl, e0, _, _, rfl, rfl, upd_same, by omega, by omega, ?_, fun q hq => ?_⟩
    · rw [Int.toNat_natCast]
      exact Nat.le_trans (show 1 * N ≤ 1000 by omega) (Nat.le_of_lt (small1000 (Nat.le_refl _)))
    rw [Int.toNat_natCast, rep_zero]
    have sq := s0.trans (same_upd (o := .lst ((List.replicate N (0 : Int)).map V.int)) hq)
    have q0 : HH q = none := s0.free hq
    refine ⟨_, rfl, a, _, rfl, .inr (sameT sq hA), fun m hm => ?_⟩
    have sm := sq.trans (same_upd (o := .lst (xs.map V.int)) hm)
    have m0 : HH m = none := sq.free hm
    have qm : q ≠ m := ne_of_none upd_same hm
    refine ⟨_, rfl, (N : Int), rfl, by decide, by decide, by omega, by omega, ?_⟩
    rw [Int.sub_zero, Int.toNat_natCast]
    refine for_rangeC (n := N) (fun i σ' H2 => ∃ (ql ll : List Int) (x7 x8 x9 x10 : Option V), σ' = [some (.ref a), some (.ref b), some (.int p), some (.int (N : Nat)), some (.int c), some (.ref q), some (.ref m), x7, x8, x9, x10] ∧ Same HH H2 ∧ H2 q = some (.lst (ql.map V.int)) ∧ H2 m = some (.lst (ll.map V.int)) ∧ ql.length = N ∧ ll.length = xs.length ∧ (∀ k, ql.getD k 0 = Qf (fun j => xs.getD j 0) (fun j => ys.getD j 0) ys.length N c p i k) ∧ ∀ k, ll.getD k 0 = Lf (fun j => xs.getD j 0) (fun j => ys.getD j 0) ys.length N c p i k)
      ⟨List.replicate N 0, xs, none, none, none, none, rfl, sm, by rw [upd_ne qm]; exact upd_same, upd_same, List.length_replicate, rfl, fun k => ?_, fun k => rfl⟩ ?_ ?_
    · rw [getD_rep]
      unfold Qf
      rw [if_neg (by omega)]
    · rintro i σ' H2 hi2 ⟨ql, ll, x7, x8, x9, x10, rfl, s2, eq, em, lq, ll2, cq, cl⟩
      rw [show (0 + (N : Int) - 1 + (i : Nat) * (-1) : Int) = ((N - 1 - i : Nat) : Int) by omega]
      have NN : N = xs.length + 1 - ys.length := by rw [← hN]
      generalize ht : N - 1 - i = t
      have tl : t + ys.length - 1 < xs.length := by omega
      have ho : atI (ll.map V.int) ((t : Int) + ((ys.map V.int).length : Int) - 1) = some (.int (ll.getD (t + ys.length - 1) 0)) := by
        rw [List.length_map, show (t : Int) + (ys.length : Int) - 1 = ((t + ys.length - 1 : Nat) : Int) by omega]
        exact atI_nat (map_at ll _ (by omega))
      refine ⟨_, rfl, _, rfl, _, rfl, _, _, rfl, .inr (sameT s2 hB), _, _, rfl, rfl, _, _, rfl, rfl, m, _, _, _, rfl, rfl, SqL.of em, ho, _, rfl, _, _, rfl, rfl, .inr ⟨by omega, by omega⟩, _, rfl, _, _, rfl, rfl, nz, ?_⟩
      obtain ⟨v0, v1⟩ := rl i (t + ys.length - 1)
      have es2 : (ll.getD (t + ys.length - 1) 0 * c).fmod p = shv (Lf (fun j => xs.getD j 0) (fun j => ys.getD j 0) ys.length N c p i) t ys.length c p := by rw [cl]; rfl
      have b0 : 0 ≤ (ll.getD (t + ys.length - 1) 0 * c).fmod p := Int.fmod_nonneg_of_pos _ (by omega)
      have b1 : (ll.getD (t + ys.length - 1) 0 * c).fmod p < p := Int.fmod_lt_of_pos _ (by omega)
      generalize hsv : shv (Lf (fun j => xs.getD j 0) (fun j => ys.getD j 0) ys.length N c p i) t ys.length c p = sv at es2
      rw [es2] at b0 b1
      refine ⟨_, rfl, _, rfl, _, rfl, q, _, _, t, rfl, rfl, eq, ixN_nat (by rw [List.length_map]; omega), ?_⟩
      have em2 : ∀ o : HO, L2.upd H2 q o m = some (.lst (ll.map V.int)) := fun o => by rw [upd_ne (Ne.symm qm)]; exact em
      refine ⟨_, rfl, b, _, rfl, sameT (lcs q0 s2) hB, ?_⟩
      refine for_it (walk_enT (xs := ys.map V.int)) (fun j σ' H3 => ∃ (ll : List Int) (x9 x10 : Option V), σ' = [some (.ref a), some (.ref b), some (.int p), some (.int (N : Nat)), some (.int c), some (.ref q), some (.ref m), some (.int (t : Nat)), some (.int sv), x9, x10] ∧ Same HH H3 ∧ H3 q = some (.lst ((ql.set t sv).map V.int)) ∧ H3 m = some (.lst (ll.map V.int)) ∧ ll.length = xs.length ∧ ∀ k, ll.getD k 0 = Lin (Lf (fun j => xs.getD j 0) (fun j => ys.getD j 0) ys.length N c p i) t sv (fun j => ys.getD j 0) p j k)
        ⟨ll, x9, x10, by rw [← es2]; rfl, lcs q0 s2, by rw [upd_same, ← es2, List.map_set], em2 _, ll2, fun k => ?_⟩ (fun j σ' H3 _ ⟨_, _, _, _, s3, _⟩ => sameT s3 hB) ?_ ?_
      · unfold Lin
        rw [if_neg (by omega)]
        exact cl k
      · rintro j x' σ' H4 H5 hj ⟨ll, x9, x10, rfl, s3, eq3, em3, ll3, cl3⟩ ⟨Tp, u, v, rfl, hT, rfl, e1, e2⟩
        cases e1
        rw [List.length_map] at hj
        have e3 := (map_at ys j hj).symm.trans e2
        cases e3
        have em4 : L2.upd H4 Tp (.tup [.int (j : Nat), .int (ys.getD j 0)]) m = some (.lst (ll.map V.int)) := by rw [upd_ne (ne_of_none em3 hT)]; exact em3
        have eq4 : L2.upd H4 Tp (.tup [.int (j : Nat), .int (ys.getD j 0)]) q = some (.lst ((ql.set t sv).map V.int)) := by rw [upd_ne (ne_of_none eq3 hT)]; exact eq3
        have ho2 : atI (ll.map V.int) ((t : Int) + (j : Int)) = some (.int (ll.getD (t + j) 0)) := by
          rw [← Int.natCast_add]
          exact atI_nat (map_at ll (t + j) (by omega))
        have hx2 : ixN (ll.map V.int).length ((t : Int) + (j : Int)) = some (t + j) := by
          rw [← Int.natCast_add]
          exact ixN_nat (by rw [List.length_map]; omega)
        refine ⟨Tp, _, rfl, .inl (.inl upd_same), rfl, _, _, rfl, _, _, rfl, rfl, ?_⟩
        refine ⟨_, rfl, _, rfl, _, rfl, _, _, rfl, rfl, m, _, _, _, rfl, rfl, SqL.of em4, ho2, _, rfl, _, rfl, _, _, rfl, rfl, .inl ⟨by omega, by omega⟩, _, _, rfl, rfl, _, rfl, _, _, rfl, rfl, nz, _, rfl, _, rfl, _, rfl, _, _, rfl, rfl, m, _, _, _, rfl, rfl, em4, hx2, ?_⟩
        refine ⟨ll.set (t + j) ((ll.getD (t + j) 0 - sv * ys.getD j 0).fmod p), _, _, rfl, lcs m0 (s3.trans (same_upd hT)), ?_, ?_, by rw [List.length_set]; exact ll3, fun k => ?_⟩
        · rw [upd_ne qm]; exact eq4
        · rw [upd_same, List.map_set]
        · rw [getD_set (by omega), Lin_succ]
          by_cases hk : k = t + j
          · rw [if_pos hk, if_pos hk, cl3, Lin_at, hk]
          · rw [if_neg hk, if_neg hk, cl3]
      · rintro σ' H4 ⟨ll, x9, x10, rfl, s3, eq3, em3, ll3, cl3⟩
        rw [List.length_map] at cl3
        refine ⟨ql.set t sv, ll, _, _, _, _, rfl, s3, eq3, em3, by rw [List.length_set]; exact lq, ll3, fun k => ?_, fun k => ?_⟩
        · rw [getD_set (by omega), Qf_succ hi2, ht, hsv]
          by_cases hk : k = t
          · rw [if_pos hk, if_pos hk]
          · rw [if_neg hk, if_neg hk, cq]
        · rw [cl3]
          show _ = Lin (Lf (fun j => xs.getD j 0) (fun j => ys.getD j 0) ys.length N c p i) (N - 1 - i) (shv (Lf (fun j => xs.getD j 0) (fun j => ys.getD j 0) ys.length N c p i) (N - 1 - i) ys.length c p) (fun j => ys.getD j 0) p ys.length k
          rw [ht, hsv]
    · rintro σ' H2 ⟨ql, ll, x7, x8, x9, x10, rfl, s2, eq, em, lq, ll2, cq, cl⟩
      refine ⟨_, rfl, q, ql, rfl, SqL.of eq, by omega, fun u H3 s3 f3 e3 => ?_⟩
      refine ⟨_, rfl, m, ll, rfl, SqL.of (s3 _ _ em), by omega, fun v H4 s4 f4 e4 => ⟨(by show 2 ≤ sizeLine; decide), fun w' hw => ?_⟩⟩
      have s5 := same_upd (o := .tup [.ref u, .ref v]) hw
      refine k w' u v (trim ql) (trim ll) _ (((s2.trans s3).trans s4).trans s5) (((s2.trans s3).trans s4).free hw) upd_same (s5 _ _ (s4 _ _ e3)) (s5 _ _ e4) ⟨?_, ?_⟩
      · unfold dvQ
        rw [hN, hc]
        exact is_trim cq (by omega)
      · unfold dvL
        rw [hN, hc]
        exact is_trim cl (by omega)
end
end Xk
end
section
set_option Elab.async false
set_option linter.all false
set_option maxRecDepth 100000
set_option maxHeartbeats 4000000
namespace Xk
open PySem PySem.Spec PyProof.Rows L2 Xh LamX NdefX
theorem seq_pt {i : Int} (h : 0 ≤ i) : (if i > 0 then i else 0) = i := by
  split <;> omega
section
variable {P : Program} {w : World} {K : PySem.W.Frag} {mg : Str → Option Value} {base : Heap}

end
end Xk
end
section
set_option Elab.async false
set_option linter.all false
set_option maxRecDepth 100000
set_option maxHeartbeats 4000000
namespace Xk
open PySem PySem.Spec PyProof.Rows L2 Xh LamX NdefX
def spRefN (K : PySem.W.Frag) (C : Addr) : Sp := fun vs H Q E => ∃ (a : Addr) (ns : List Int), vs = [.ref a] ∧ SqT K H a (ns.map V.int) ∧ (ns ≠ [] → ∀ H', Same H H' → Q .non H') ∧ (ns = [] → Ex H E C "NoInverse")
def spPP (K : PySem.W.Frag) (T : List (Addr × Str)) (C : Addr) : Sp := fun vs H Q E => ∃ (a b : Addr) (xs ys : List Int) (p : Int), vs = [.ref a, .ref b, .int p] ∧ p ∈ primes ∧ Pol K H a p xs ∧ Pol K H b p ys ∧ (ys = [] → Ex H E C "NoInverse") ∧ Tabs T H ∧
  (ys ≠ [] → ∀ (w u v : Addr) (qs rs : List Int) (H' : Hp), Gr T H H' → H w = none → H' w = some (.tup [.ref u, .ref v]) → H' u = some (.tup (qs.map V.int)) → H' v = some (.tup (rs.map V.int)) → Div p xs ys qs rs → Q (.ref w) H')
theorem Ex.same {H H1 : Hp} {E : XK} {C : Addr} {nm : Str} (x : Ex H E C nm) (s : Same H H1) : Ex H1 E C nm := fun d H' a b c => x d H' (s.trans a) b (s.free c)
theorem eqv_nil (ns : List Int) : PyData.eqv (PyData.tuple (ns.map PyData.int)) (PyData.tuple (([] : List Int).map PyData.int)) = decide (ns = []) := by
  cases ns with
  | nil => rfl
  | cons n ns => rfl
theorem sh_ints (ns : List Int) : SeqAt.shaped (PyData.tuple (ns.map PyData.int)) = true := by
  simp [SeqAt.shaped, PyData.canLay0, PyData.depth, PySem.W.ke_canLayAll0, PySem.W.ke_depthAll]
section
variable {P : Program} {w : World} {K : PySem.W.Frag} {mg : Str → Option Value} {base : Heap}

end
end Xk
end
section
set_option Elab.async false
set_option linter.all false
set_option maxRecDepth 100000
set_option maxHeartbeats 4000000
namespace Xk
open PySem PySem.Spec PyProof.Rows L2 Xh LamX NdefX
/-! ### the law's own state -/
/-- the draws stand at d, the tables stand, and what qs tells stands -/
structure Wd (d : Addr) (T : List (Addr × Str)) (qs : List (Addr × HO)) (H : Hp) : Prop where
  D : Draw H d
  T : Tabs T H
  q : ∀ p ∈ qs, p.1 ≠ d ∧ H p.1 = some p.2 ∧ ∀ ps, p.2 ≠ .tbl ps
section
variable {d : Addr} {T : List (Addr × Str)} {qs : List (Addr × HO)} {H H' : Hp}
theorem Draw.ext (D : Draw H d) (x : ExtN H H') : Draw H' d := by
  obtain ⟨c, ns, i, r, g, h1, h2, h3⟩ := D
  exact ⟨c, ns, i, r, g, x _ _ h1 (fun _ z => by cases z), x _ _ h2 (fun _ z => by cases z), h3⟩
theorem Wd.ext (w : Wd d T qs H) (x : ExtN H H') (t : Tabs T H') : Wd d T qs H' := ⟨w.D.ext x, t, fun p hp => ⟨(w.q p hp).1, x _ _ (w.q p hp).2.1 (w.q p hp).2.2, (w.q p hp).2.2⟩⟩
theorem Wd.gr (w : Wd d T qs H) (g : Gr T H H') : Wd d T qs H' := w.ext g.x g.t
theorem Wd.same (w : Wd d T qs H) (s : Same H H') : Wd d T qs H' := ⟨w.D.same s, w.T.ext s, fun p hp => ⟨(w.q p hp).1, s _ _ (w.q p hp).2.1, (w.q p hp).2.2⟩⟩
theorem Tabs.but (t : Tabs T H) (D : Draw H d) (b : But d H H') : Tabs T H' := fun p hp => by
  obtain ⟨ps, h1, h2, h3⟩ := t p hp
  obtain ⟨c, ns, i, r, g, e, _⟩ := D
  refine ⟨ps, b _ _ (fun z => ?_) h1, h2, fun pos cv hc => ?_⟩
  · rw [z, e] at h1
    cases h1
  · obtain ⟨c', e1, e2⟩ := h3 pos cv hc
    refine ⟨c', e1, b _ _ (fun z => ?_) e2⟩
    rw [z, e] at e2
    unfold CodeO at e2
    cases e2
theorem Wd.but (w : Wd d T qs H) (b : But d H H') (D' : Draw H' d) : Wd d T qs H' := ⟨D', Tabs.but w.T w.D b, fun p hp => ⟨(w.q p hp).1, b _ _ (w.q p hp).1 (w.q p hp).2.1, (w.q p hp).2.2⟩⟩
theorem Wd.add (w : Wd d T qs H) {p : Addr} {o : HO} (hp : H p = none) (ho : ∀ ps, o ≠ .tbl ps) : Wd d T ((p, o) :: qs) (L2.upd H p o) := by
  have w' := w.same (same_upd (o := o) hp)
  refine ⟨w'.D, w'.T, fun r hr => ?_⟩
  rcases List.mem_cons.mp hr with rfl | hr
  · exact ⟨w.D.ne hp, upd_same, ho⟩
  · exact w'.q r hr
theorem Wd.sub {rs : List (Addr × HO)} (w : Wd d T qs H) (h : ∀ p ∈ rs, p ∈ qs) : Wd d T rs H := ⟨w.D, w.T, fun p hp => w.q p (h p hp)⟩
theorem Wd.at {p : Addr} {o : HO} (w : Wd d T qs H) (h : (p, o) ∈ qs) : H p = some o := (w.q _ h).2.1
end
theorem same_tup {K : PySem.W.Frag} {H : Hp} {p q : Addr} {xs : List V} (hp : H p = some (.tup xs)) (hq : H q = some (.tup xs)) (hf : xs.all flatV = true) (hl : xs.length ≤ 1000) : SameAt K H 1 (.ref p) (.ref q) :=
  .inr ⟨p, q, xs, xs, rfl, rfl, .inr ⟨SqT.of hp, SqT.of hq⟩, rfl, hl, fun i x y hx hy => by
    rw [hx] at hy
    cases hy
    exact ⟨List.all_eq_true.mp hf _ (List.mem_of_getElem? hx), rfl⟩⟩
theorem sqT_but {K : PySem.W.Frag} {d a : Addr} {H H' : Hp} {xs : List V} (b : But d H H') (h : a ≠ d) (x : SqT K H a xs) : SqT K H' a xs := by
  rcases x with (x | ⟨o, x⟩) | x
  · exact .inl (.inl (b _ _ h x))
  · exact .inl (.inr ⟨o, b _ _ h x⟩)
  · exact .inr x
theorem Pol.but {K : PySem.W.Frag} {d a : Addr} {H H' : Hp} {p : Int} {ns : List Int} (x : Pol K H a p ns) (b : But d H H') (h : a ≠ d) : Pol K H' a p ns := ⟨sqT_but b h x.at_, x.len, x.rs, x.tr⟩
theorem Pol.ext {K : PySem.W.Frag} {a : Addr} {H H' : Hp} {p : Int} {ns : List Int} (x : Pol K H a p ns) (b : ExtN H H') : Pol K H' a p ns := by
  refine ⟨?_, x.len, x.rs, x.tr⟩
  rcases x.at_ with (h | ⟨o, h⟩) | h
  · exact .inl (.inl (b _ _ h (fun _ z => by cases z)))
  · exact .inl (.inr ⟨o, b _ _ h (fun _ z => by cases z)⟩)
  · exact .inr h
theorem Is.pol {K : PySem.W.Frag} {H : Hp} {q : Addr} {p : Int} {f : Nat → Int} {n : Nat} {ms : List Int} (x : Is (fun j => (f j).fmod p) n ms) (hp : Pm p) (hn : n ≤ 25) (e : H q = some (.tup (ms.map V.int))) : Pol K H q p ms := ⟨.inl (.inl e), Nat.le_trans x.len hn, fm_rs hp x.at_, x.tr⟩
theorem like1 {K : PySem.W.Frag} {H : Hp} {t u : Addr} {m : List Int} (hl : m.length ≤ 100) (a : H t = some (.tup (m.map V.int))) (b : H u = some (.tup (m.map V.int))) : SameAt K H 1 (.ref t) (.ref u) :=
  .inr ⟨t, u, _, _, rfl, rfl, .inr ⟨.inl (.inl a), .inl (.inl b)⟩, rfl, by rw [List.length_map]; omega, fun i x y hx hy => by
    rw [hx] at hy
    cases hy
    obtain ⟨n, _, rfl⟩ := List.mem_map.mp (List.mem_of_getElem? hx)
    exact ⟨rfl, rfl⟩⟩
theorem Is.short {f : Nat → Int} {n m : Nat} {ms : List Int} (x : Is f n ms) (h : ∀ k, m ≤ k → f k = 0) : ms.length ≤ m := by
  rcases Nat.lt_or_ge m ms.length with l | l
  · exfalso
    refine trim_ne ms (fun z => by rw [z, List.length_nil] at l; omega) x.tr ?_
    rw [x.at_]
    exact h _ (by omega)
  · exact l
theorem cvf_over {xs ys : List Int} : ∀ i, i ≤ xs.length → ∀ k, xs.length + ys.length ≤ k → Ou xs ys i k = 0
  | 0, _, _, _ => rfl
  | i + 1, hi, k, hk => by
    rw [Ou_succ, cvf_over i (by omega) k hk, if_neg (by omega), Int.add_zero]
/-- ('told', (quotient, rest)) at r -/
structure Told (H : Hp) (r : Addr) (w u v : Addr) (qs rs : List Int) : Prop where
  r : H r = some (.tup [.str "told", .ref w])
  w : H w = some (.tup [.ref u, .ref v])
  u : H u = some (.tup (qs.map V.int))
  v : H v = some (.tup (rs.map V.int))
theorem Told.same {H H' : Hp} {r w u v : Addr} {qs rs : List Int} (x : Told H r w u v qs rs) (s : Same H H') : Told H' r w u v qs rs := ⟨s _ _ x.r, s _ _ x.w, s _ _ x.u, s _ _ x.v⟩
theorem Told.like {K : PySem.W.Frag} {H : Hp} {r w u v r' w' u' v' : Addr} {qs rs : List Int} (x : Told H r w u v qs rs) (y : Told H r' w' u' v' qs rs) (h1 : qs.length ≤ 100) (h2 : rs.length ≤ 100) : SameAt K H 3 (.ref r) (.ref r') :=
  .inr ⟨r, r', _, _, rfl, rfl, .inr ⟨.inl (.inl x.r), .inl (.inl y.r)⟩, rfl, by show 2 ≤ 1000; decide, fun i a b ha hb => by
    match i, ha, hb with
    | 0, ha, hb => cases ha; cases hb; exact .inl ⟨rfl, rfl⟩
    | 1, ha, hb =>
      cases ha
      cases hb
      exact .inr ⟨w, w', _, _, rfl, rfl, .inr ⟨.inl (.inl x.w), .inl (.inl y.w)⟩, rfl, by show 2 ≤ 1000; decide, fun i a b ha hb => by
        match i, ha, hb with
        | 0, ha, hb => cases ha; cases hb; exact like1 h1 x.u y.u
        | 1, ha, hb => cases ha; cases hb; exact like1 h2 x.v y.v⟩⟩
theorem Div.rs_q {p : Int} {xs ys qs rs : List Int} (d : Div p xs ys qs rs) (hp : Pm p) : Rs p qs := fun j => by
  rw [d.q.at_]
  unfold dvQ Qf
  split
  · exact ⟨Int.fmod_nonneg_of_pos _ hp.pos, Int.fmod_lt_of_pos _ hp.pos⟩
  · exact ⟨Int.le_refl _, hp.pos⟩
theorem Div.less {p : Int} {xs ys qs rs : List Int} (d : Div p xs ys qs rs) (y : Dsr p ys) : rs.length < ys.length := by
  obtain ⟨l, P, hl, hP, P2, P3, lP, fb, fr, es, ec, bl⟩ := y.last
  have hp := pm_of y.pr
  have ypos := y.pos
  rcases Nat.lt_or_ge rs.length ys.length with h | h
  · exact h
  · exfalso
    have hne : rs ≠ [] := fun z => by rw [z, List.length_nil] at h; omega
    refine trim_ne rs hne d.r.tr ?_
    rw [d.r.at_]
    exact Lf_top hp.lo y.pos ec (fun j hj => getD_over (by unfold stp at hj; omega)) (stp xs ys) (Nat.le_refl _) _ (by omega)
theorem Div.eq {p : Int} {xs ys qs rs : List Int} (d : Div p xs ys qs rs) (hp : Pm p) (rx : Rs p xs) (j : Nat) : ((cvf qs ys j).fmod p + 1 * rs.getD j 0).fmod p = xs.getD j 0 := by
  have hpos := hp.pos
  have e := div_eq (x := fun j => xs.getD j 0) (ms := qs) (ys := ys) (N := stp xs ys) (c := scl ys p) hpos (fun t ht => by
    rw [d.q.at_]
    unfold dvQ Qf
    rw [if_pos ⟨by omega, ht⟩]) (stp xs ys) (Nat.le_refl _) j
  rw [Nat.sub_self] at e
  have o : Ou qs ys (stp xs ys) j = cvf qs ys j := by
    have z := Ou_long (ms := qs) (ys := ys) (k := j) (stp xs ys - qs.length)
    rw [show qs.length + (stp xs ys - qs.length) = stp xs ys by have := d.q.len; omega] at z
    exact z
  have r := d.r.at_ j
  unfold dvL at r
  rw [o, show Ou qs ys 0 j = 0 from rfl, Int.sub_zero, ← r] at e
  obtain ⟨x0, x1⟩ := rx j
  rw [Int.one_mul, fm_add2 hpos, Int.fmod_eq_emod_of_nonneg _ (by omega), Int.add_comm, e, Int.emod_eq_of_lt x0 x1]
theorem eqvAll_ints : ∀ ns : List Int, PyData.eqvAll (ns.map PyData.int) (ns.map PyData.int) = true
  | [] => rfl
  | n :: ns => by
    have ih := eqvAll_ints ns
    simp [PyData.eqvAll, PyData.eqv, ih]
theorem eqv_ints (ns : List Int) : PyData.eqv (PyData.tuple (ns.map PyData.int)) (PyData.tuple (ns.map PyData.int)) = true := by
  have z := eqvAll_ints ns
  simp [PyData.eqv, z]
end Xk
end
section
set_option linter.all false
/-! Polynomials by their coefficients: sums, products (no program in it; for k04, k07). -/
namespace Xp
/-- f 0 + .. + f (n - 1) -/
def sm : Nat → (Nat → Int) → Int
  | 0, _ => 0
  | n + 1, f => sm n f + f n
theorem sm_congr {f g : Nat → Int} : ∀ {n : Nat}, (∀ i, i < n → f i = g i) → sm n f = sm n g
  | 0, _ => rfl
  | n + 1, h => by
    show sm n f + f n = sm n g + g n
    rw [sm_congr (n := n) fun i hi => h i (by omega), h n (by omega)]
theorem sm_zero {f : Nat → Int} {n : Nat} (h : ∀ i, i < n → f i = 0) : sm n f = 0 := by
  induction n with
  | zero => rfl
  | succ n ih =>
    show sm n f + f n = 0
    rw [ih fun i hi => h i (by omega), h n (by omega)]
    rfl
theorem sm_add (f g : Nat → Int) : ∀ n, sm n (fun i => f i + g i) = sm n f + sm n g
  | 0 => rfl
  | n + 1 => by
    show sm n (fun i => f i + g i) + (f n + g n) = (sm n f + f n) + (sm n g + g n)
    rw [sm_add f g n]
    omega
theorem sm_mul (c : Int) (f : Nat → Int) : ∀ n, sm n (fun i => c * f i) = c * sm n f
  | 0 => (Int.mul_zero c).symm
  | n + 1 => by
    show sm n (fun i => c * f i) + c * f n = c * (sm n f + f n)
    rw [sm_mul c f n, Int.mul_add]
theorem sm_mul_right (c : Int) (f : Nat → Int) (n : Nat) : sm n (fun i => f i * c) = sm n f * c := by
  rw [Int.mul_comm, ← sm_mul]
  exact sm_congr fun i _ => Int.mul_comm _ _
/-- the first one apart -/
theorem sm_head (f : Nat → Int) : ∀ n, sm (n + 1) f = f 0 + sm n (fun i => f (i + 1))
  | 0 => by
    show 0 + f 0 = f 0 + 0
    omega
  | n + 1 => by
    show sm (n + 1) f + f (n + 1) = f 0 + (sm n (fun i => f (i + 1)) + f (n + 1))
    rw [sm_head f n]
    omega
theorem sm_rev (f : Nat → Int) : ∀ n, sm n (fun i => f (n - 1 - i)) = sm n f
  | 0 => rfl
  | n + 1 => by
    rw [sm_head]
    show f n + _ = sm n f + f n
    rw [← sm_rev f n, Int.add_comm]
    congr 1
    exact sm_congr fun i hi => by rw [show n + 1 - 1 - (i + 1) = n - 1 - i by omega]
theorem sm_swap (f : Nat → Nat → Int) (m : Nat) : ∀ n, sm n (fun i => sm m (fun j => f i j)) = sm m (fun j => sm n (fun i => f i j))
  | 0 => (sm_zero fun _ _ => rfl).symm
  | n + 1 => by
    show sm n (fun i => sm m (fun j => f i j)) + sm m (fun j => f n j) = sm m (fun j => sm n (fun i => f i j) + f n j)
    rw [sm_swap f m n, sm_add]
/-- beyond m all is nought -/
theorem sm_ext {f : Nat → Int} {m : Nat} (h : ∀ i, m ≤ i → f i = 0) : ∀ d, sm (m + d) f = sm m f
  | 0 => rfl
  | d + 1 => by
    show sm (m + d) f + f (m + d) = sm m f
    rw [sm_ext h d, h _ (by omega), Int.add_zero]
/-- a product's coefficient -/
def cv (f g : Nat → Int) (k : Nat) : Int := sm (k + 1) fun i => f i * g (k - i)
theorem cv_comm (f g : Nat → Int) (k : Nat) : cv f g k = cv g f k := by
  unfold cv
  rw [← sm_rev (fun i => g i * f (k - i)) (k + 1)]
  exact sm_congr fun i hi => by rw [show k + 1 - 1 - i = k - i by omega, show k - (k - i) = i by omega, Int.mul_comm]
theorem cv_add (f g h : Nat → Int) (k : Nat) : cv f (fun i => g i + h i) k = cv f g k + cv f h k := by
  unfold cv
  rw [← sm_add]
  exact sm_congr fun i _ => Int.mul_add _ _ _
theorem cv_mul (c : Int) (f g : Nat → Int) (k : Nat) : cv f (fun i => c * g i) k = c * cv f g k := by
  unfold cv
  rw [← sm_mul]
  exact sm_congr fun i _ => by rw [← Int.mul_assoc, Int.mul_comm (f i) c, Int.mul_assoc]
/-- the same sum, as far as one likes -/
theorem cv_wide (f g : Nat → Int) {k n : Nat} (h : k < n) : cv f g k = sm n fun i => if i ≤ k then f i * g (k - i) else 0 := by
  obtain ⟨d, rfl⟩ : ∃ d, n = k + 1 + d := ⟨n - (k + 1), by omega⟩
  rw [sm_ext (fun i hi => if_neg (by omega))]
  exact sm_congr fun i hi => (if_pos (by omega)).symm
theorem cv_assoc (f g h : Nat → Int) (k : Nat) : cv (cv f g) h k = cv f (cv g h) k := by
  have l : cv (cv f g) h k = sm (k + 1) fun j => sm (k + 1) fun i => if i ≤ j then f i * g (j - i) * h (k - j) else 0 := by
    show sm (k + 1) (fun j => cv f g j * h (k - j)) = _
    refine sm_congr fun j hj => ?_
    rw [cv_wide f g hj, ← sm_mul_right]
    refine sm_congr fun i _ => ?_
    split
    · rfl
    · exact Int.zero_mul _
  have r : cv f (cv g h) k = sm (k + 1) fun i => sm (k + 1) fun j => if i ≤ j then f i * g (j - i) * h (k - j) else 0 := by
    show sm (k + 1) (fun i => f i * cv g h (k - i)) = _
    refine sm_congr fun i hi => ?_
    rw [show (k + 1) = i + (k - i + 1) by omega]
    show f i * sm (k - i + 1) (fun j => g j * h (k - i - j)) = _
    rw [← sm_mul]
    have sh : ∀ (F : Nat → Int) (m n : Nat), (∀ j, j < m → F j = 0) → sm (m + n) F = sm n (fun j => F (m + j)) := fun F m n hF => by
      induction n with
      | zero => exact sm_zero hF
      | succ n ih =>
        show sm (m + n) F + F (m + n) = sm n (fun j => F (m + j)) + F (m + n)
        rw [ih]
    rw [sh _ i (k - i + 1) fun j hj => if_neg (by omega)]
    refine sm_congr fun j hj => ?_
    rw [if_pos (by omega), show i + j - i = j by omega, show k - (i + j) = k - i - j by omega, Int.mul_assoc]
  rw [l, r, sm_swap]
/-! ### by a prime -/
/-- alike by p -/
def Eqm (p : Int) (f g : Nat → Int) : Prop := ∀ k, f k % p = g k % p
theorem Eqm.refl (p : Int) (f : Nat → Int) : Eqm p f f := fun _ => rfl
theorem Eqm.symm {p : Int} {f g : Nat → Int} (h : Eqm p f g) : Eqm p g f := fun k => (h k).symm
theorem Eqm.trans {p : Int} {f g h : Nat → Int} (a : Eqm p f g) (b : Eqm p g h) : Eqm p f h := fun k => (a k).trans (b k)
theorem Eqm.add {p : Int} {f g f' g' : Nat → Int} (a : Eqm p f f') (b : Eqm p g g') : Eqm p (fun k => f k + g k) (fun k => f' k + g' k) := fun k => by
  show (f k + g k) % p = (f' k + g' k) % p
  rw [Int.add_emod, a k, b k, ← Int.add_emod]
theorem Eqm.mul {p : Int} {f f' : Nat → Int} (c : Int) (a : Eqm p f f') : Eqm p (fun k => c * f k) (fun k => c * f' k) := fun k => by
  show (c * f k) % p = (c * f' k) % p
  rw [Int.mul_emod, a k, ← Int.mul_emod]
theorem sm_mod {p : Int} {f g : Nat → Int} (h : ∀ i, f i % p = g i % p) : ∀ n, sm n f % p = sm n g % p
  | 0 => rfl
  | n + 1 => by
    show (sm n f + f n) % p = (sm n g + g n) % p
    rw [Int.add_emod, sm_mod h n, h n, ← Int.add_emod]
theorem Eqm.cv {p : Int} {f g f' g' : Nat → Int} (a : Eqm p f f') (b : Eqm p g g') : Eqm p (cv f g) (cv f' g') := fun k => by
  unfold Xp.cv
  exact sm_mod (fun i => by rw [Int.mul_emod, a i, b (k - i), ← Int.mul_emod]) _
/-- the highest place of a product -/
theorem cv_top {f g : Nat → Int} {a b : Nat} (hf : ∀ i, a < i → f i = 0) (hg : ∀ i, b < i → g i = 0) : cv f g (a + b) = f a * g b := by
  unfold cv
  rw [show a + b + 1 = (a + 1) + b by omega, sm_ext (fun i hi => by rw [hf i (by omega), Int.zero_mul])]
  show sm a (fun i => f i * g (a + b - i)) + f a * g (a + b - a) = f a * g b
  rw [sm_zero (fun i hi => by rw [hg _ (by omega), Int.mul_zero]), Int.zero_add, show a + b - a = b by omega]
theorem cv_over {f g : Nat → Int} {a b : Nat} (hf : ∀ i, a < i → f i = 0) (hg : ∀ i, b < i → g i = 0) {k : Nat} (hk : a + b < k) : cv f g k = 0 :=
  sm_zero fun i _ => by
    by_cases h : a < i
    · rw [hf i h, Int.zero_mul]
    · rw [hg _ (by omega), Int.mul_zero]
end Xp
end
section
set_option linter.all false
/-! Divisors of polynomials by a prime, by coefficients (no program in it). -/
namespace Xp
def Fi (t : Nat → Int) : Prop := ∃ n, ∀ k, n ≤ k → t k = 0
/-- d divides x by p -/
def Dv (p : Int) (d x : Nat → Int) : Prop := ∃ t, Fi t ∧ Eqm p x (cv d t)
theorem Fi.zero : Fi (fun _ => 0) := ⟨0, fun _ _ => rfl⟩
theorem Fi.add {f g : Nat → Int} (a : Fi f) (b : Fi g) : Fi (fun k => f k + g k) := by
  obtain ⟨n, ha⟩ := a
  obtain ⟨m, hb⟩ := b
  exact ⟨n + m, fun k hk => by show f k + g k = 0; rw [ha k (by omega), hb k (by omega)]; rfl⟩
theorem Fi.mul {f : Nat → Int} (c : Int) (a : Fi f) : Fi (fun k => c * f k) := by
  obtain ⟨n, ha⟩ := a
  exact ⟨n, fun k hk => by show c * f k = 0; rw [ha k hk, Int.mul_zero]⟩
theorem Fi.cv {f g : Nat → Int} (a : Fi f) (b : Fi g) : Fi (Xp.cv f g) := by
  obtain ⟨n, ha⟩ := a
  obtain ⟨m, hb⟩ := b
  exact ⟨n + m + 1, fun k hk => cv_over (a := n) (b := m) (fun i hi => ha i (by omega)) (fun i hi => hb i (by omega)) (by omega)⟩
theorem Fi.list (xs : List Int) : Fi (fun j => xs.getD j 0) := ⟨xs.length, fun k hk => by
  show xs.getD k 0 = 0
  rw [List.getD_eq_getElem?_getD, List.getElem?_eq_none hk]
  rfl⟩
theorem cv_funext {f f' g g' : Nat → Int} (hf : ∀ i, f i = f' i) (hg : ∀ i, g i = g' i) (k : Nat) : cv f g k = cv f' g' k := by
  rw [show f = f' from funext hf, show g = g' from funext hg]
theorem cv_zero (f : Nat → Int) (k : Nat) : cv f (fun _ => 0) k = 0 := sm_zero fun _ _ => Int.mul_zero _
theorem cv_zero' (f : Nat → Int) (k : Nat) : cv (fun _ => 0) f k = 0 := sm_zero fun _ _ => Int.zero_mul _
def one : Nat → Int := fun k => if k = 0 then 1 else 0
theorem cv_one' (f : Nat → Int) (k : Nat) : cv one f k = f k := by
  unfold cv
  rw [sm_head]
  show one 0 * f (k - 0) + _ = _
  rw [sm_zero (fun i _ => by show one (i + 1) * _ = 0; unfold one; rw [if_neg (by omega), Int.zero_mul])]
  unfold one
  rw [if_pos rfl, Int.one_mul, Int.add_zero, Nat.sub_zero]
theorem cv_one (f : Nat → Int) (k : Nat) : cv f one k = f k := by rw [cv_comm, cv_one']
theorem Dv.congr {p : Int} {d x y : Nat → Int} (h : Dv p d x) (e : Eqm p x y) : Dv p d y := by
  obtain ⟨t, ft, et⟩ := h
  exact ⟨t, ft, e.symm.trans et⟩
theorem Dv.add {p : Int} {d x y : Nat → Int} (a : Dv p d x) (b : Dv p d y) : Dv p d (fun k => x k + y k) := by
  obtain ⟨t, ft, et⟩ := a
  obtain ⟨u, fu, eu⟩ := b
  exact ⟨_, ft.add fu, fun k => by
    show (x k + y k) % p = cv d (fun i => t i + u i) k % p
    rw [cv_add]
    exact (et.add eu) k⟩
theorem Dv.cv {p : Int} {d x q : Nat → Int} (fq : Fi q) (a : Dv p d x) : Dv p d (Xp.cv q x) := by
  obtain ⟨t, ft, et⟩ := a
  refine ⟨Xp.cv q t, fq.cv ft, fun k => ?_⟩
  have e : Xp.cv d (Xp.cv q t) k = Xp.cv q (Xp.cv d t) k := by
    rw [← cv_assoc, ← cv_assoc]
    exact cv_funext (cv_comm d q) (fun _ => rfl) k
  rw [e]
  exact (Eqm.cv (Eqm.refl p q) et) k
theorem Dv.self (p : Int) (d : Nat → Int) : Dv p d d := ⟨one, ⟨1, fun k hk => if_neg (by omega)⟩, fun k => by rw [cv_one]⟩
theorem Dv.zero (p : Int) (d : Nat → Int) : Dv p d (fun _ => 0) := ⟨_, Fi.zero, fun k => by rw [cv_zero]⟩
theorem Dv.of (p : Int) (d : Nat → Int) {t : Nat → Int} (h : Fi t) : Dv p d (Xp.cv d t) := ⟨t, h, Eqm.refl _ _⟩
theorem Dv.trans {p : Int} {d x y : Nat → Int} (a : Dv p d x) (b : Dv p x y) : Dv p d y := by
  obtain ⟨u, fu, eu⟩ := b
  exact (a.cv fu).congr fun k => by rw [cv_comm]; exact (eu k).symm
theorem Dv.nought {p : Int} {d x : Nat → Int} (h : Dv p d x) (hd : Eqm p d (fun _ => 0)) : Eqm p x (fun _ => 0) := by
  obtain ⟨t, ft, et⟩ := h
  exact et.trans ((hd.cv (Eqm.refl p t)).trans fun k => by rw [cv_zero'])
theorem Dv.scale {p : Int} {d x : Nat → Int} (c : Int) (h : Dv p d x) : Dv p d (fun k => c * x k) := by
  obtain ⟨t, ft, et⟩ := h
  exact ⟨_, ft.mul c, fun k => by rw [cv_mul]; exact (et.mul c) k⟩
/-- a product that is shorter than its first one is nought -/
theorem short_nought {p c : Int} {g u r : Nat → Int} {d : Nat} (hc : (c * g d) % p = 1 % p) (hg : ∀ i, d < i → g i = 0) (fu : Fi u) (hr : ∀ k, d ≤ k → r k % p = 0) (e : Eqm p r (cv g u)) : Eqm p u (fun _ => 0) := by
  obtain ⟨n, hn⟩ := fu
  have key : ∀ m, ∀ k, n ≤ k + m → u k % p = 0 := by
    intro m
    induction m with
    | zero => intro k hk; rw [hn k (by omega)]; exact Int.zero_emod p
    | succ m ih =>
      intro k hk
      have e1 : Eqm p u (fun i => if i ≤ k then u i else 0) := fun i => by
        show u i % p = (if i ≤ k then u i else 0) % p
        by_cases hi : i ≤ k
        · rw [if_pos hi]
        · rw [if_neg hi, ih i (by omega), Int.zero_emod]
      have e2 := (e.trans ((Eqm.refl p g).cv e1)) (d + k)
      rw [cv_top (a := d) (b := k) hg (fun i hi => if_neg (by omega)), hr _ (by omega)] at e2
      have e3 : (g d * u k) % p = 0 := by
        rw [if_pos (Nat.le_refl k)] at e2
        exact e2.symm
      have e4 : u k % p = (c * (g d * u k)) % p := by
        rw [← Int.mul_assoc, Int.mul_emod, hc, ← Int.mul_emod, Int.one_mul]
      rw [e4, Int.mul_emod, e3, Int.mul_zero, Int.zero_emod]
  exact fun k => by rw [key n k (by omega)]; exact (Int.zero_emod p).symm
end Xp
end
section
set_option linter.all false
/-! Sums, products, powers of polynomials as things; one put into another; alike by a rule; the power to a prime of a sum (no program in it). -/
namespace Xp
abbrev Cf := Nat → Int
def ad (f g : Cf) : Cf := fun k => f k + g k
def sc (c : Int) (f : Cf) : Cf := fun k => c * f k
def nul : Cf := fun _ => 0
theorem cvC (f g : Cf) : cv f g = cv g f := funext (cv_comm f g)
theorem cvA (f g h : Cf) : cv (cv f g) h = cv f (cv g h) := funext (cv_assoc f g h)
theorem cv_ad (f g h : Cf) : cv f (ad g h) = ad (cv f g) (cv f h) := funext fun k => cv_add f g h k
theorem ad_cv (f g h : Cf) : cv (ad f g) h = ad (cv f h) (cv g h) := by rw [cvC, cv_ad, cvC h f, cvC h g]
theorem cv_sc (c : Int) (f g : Cf) : cv f (sc c g) = sc c (cv f g) := funext fun k => cv_mul c f g k
theorem sc_cv (c : Int) (f g : Cf) : cv (sc c f) g = sc c (cv f g) := by rw [cvC, cv_sc, cvC]
theorem cv1 (f : Cf) : cv f one = f := funext (cv_one f)
theorem one_cv (f : Cf) : cv one f = f := funext (cv_one' f)
theorem cv_nul (f : Cf) : cv f nul = nul := funext fun k => cv_zero f k
theorem nul_cv (f : Cf) : cv nul f = nul := funext fun k => cv_zero' f k
theorem adC (f g : Cf) : ad f g = ad g f := funext fun k => Int.add_comm _ _
theorem adA (f g h : Cf) : ad (ad f g) h = ad f (ad g h) := funext fun k => Int.add_assoc _ _ _
theorem ad_nul (f : Cf) : ad f nul = f := funext fun k => Int.add_zero _
theorem nul_ad (f : Cf) : ad nul f = f := funext fun k => Int.zero_add _
theorem sc_nul (c : Int) : sc c nul = nul := funext fun k => Int.mul_zero _
theorem sc_zero (f : Cf) : sc 0 f = nul := funext fun k => Int.zero_mul _
theorem sc_one (f : Cf) : sc 1 f = f := funext fun k => Int.one_mul _
theorem sc_ad (c : Int) (f g : Cf) : sc c (ad f g) = ad (sc c f) (sc c g) := funext fun k => Int.mul_add _ _ _
theorem ad_sc (a b : Int) (f : Cf) : sc (a + b) f = ad (sc a f) (sc b f) := funext fun k => Int.add_mul _ _ _
theorem sc_sc (a b : Int) (f : Cf) : sc (a * b) f = sc a (sc b f) := funext fun k => Int.mul_assoc _ _ _
theorem ad_neg (f : Cf) : ad f (sc (-1) f) = nul := funext fun k => by show f k + -1 * f k = 0; omega
theorem Fi.nul : Fi nul := Fi.zero
theorem Fi.one : Fi one := ⟨1, fun k hk => if_neg (by omega)⟩
theorem Fi.ad {f g : Cf} (a : Fi f) (b : Fi g) : Fi (ad f g) := Fi.add a b
theorem Fi.sc {f : Cf} (c : Int) (a : Fi f) : Fi (sc c f) := Fi.mul c a
theorem Eqm.ad {p : Int} {f f' g g' : Cf} (a : Eqm p f f') (b : Eqm p g g') : Eqm p (ad f g) (ad f' g') := Eqm.add a b
theorem Eqm.sc {p : Int} {f f' : Cf} (c : Int) (a : Eqm p f f') : Eqm p (sc c f) (sc c f') := Eqm.mul c a
theorem Eqm.sc2 {p a b : Int} (h : a % p = b % p) (f : Cf) : Eqm p (Xp.sc a f) (Xp.sc b f) := fun k => by
  show (a * f k) % p = (b * f k) % p
  rw [Int.mul_emod, h, ← Int.mul_emod]
theorem Eqm.of_eq {p : Int} {f g : Cf} (h : f = g) : Eqm p f g := by rw [h]; exact Eqm.refl p g
/-! ### powers -/
def pw (f : Cf) : Nat → Cf
  | 0 => one
  | n + 1 => cv f (pw f n)
theorem pw_one (f : Cf) : pw f 1 = f := cv1 f
theorem pw_add (f : Cf) (m : Nat) : ∀ n, pw f (m + n) = cv (pw f m) (pw f n)
  | 0 => (cv1 _).symm
  | n + 1 => by
    show cv f (pw f (m + n)) = cv (pw f m) (cv f (pw f n))
    rw [pw_add f m n, ← cvA, ← cvA, cvC f]
theorem pw_cv (f g : Cf) : ∀ n, pw (cv f g) n = cv (pw f n) (pw g n)
  | 0 => (cv1 _).symm
  | n + 1 => by
    show cv (cv f g) (pw (cv f g) n) = cv (cv f (pw f n)) (cv g (pw g n))
    rw [pw_cv f g n, cvA, cvA, ← cvA g, cvC g (pw f n), cvA (pw f n)]
theorem Fi.pw {f : Cf} (h : Fi f) : ∀ n, Fi (pw f n)
  | 0 => Fi.one
  | n + 1 => h.cv (Fi.pw h n)
theorem Eqm.pw {p : Int} {f g : Cf} (h : Eqm p f g) : ∀ n, Eqm p (pw f n) (pw g n)
  | 0 => Eqm.refl p _
  | n + 1 => h.cv (Eqm.pw h n)
/-! ### sums to the power of a prime -/
def row : Nat → List Int
  | 0 => [1]
  | n + 1 => List.zipWith (· + ·) (0 :: row n) (row n ++ [0])
def ch (n k : Nat) : Int := (row n).getD k 0
theorem zw_getD : ∀ (a b : List Int) (k : Nat), a.length = b.length → (List.zipWith (· + ·) a b).getD k 0 = a.getD k 0 + b.getD k 0
  | [], [], k, _ => rfl
  | x :: a, y :: b, 0, _ => rfl
  | x :: a, y :: b, k + 1, h => zw_getD a b k (Nat.succ.inj h)
  | [], _ :: _, _, h => by cases h
  | _ :: _, [], _, h => by cases h
theorem app_getD : ∀ (a : List Int) (k : Nat), (a ++ [0]).getD k 0 = a.getD k 0
  | [], 0 => rfl
  | [], k + 1 => rfl
  | x :: a, 0 => rfl
  | x :: a, k + 1 => app_getD a k
theorem row_len : ∀ n, (row n).length = n + 1
  | 0 => rfl
  | n + 1 => by
    unfold row
    rw [List.length_zipWith, List.length_cons, List.length_append, row_len n]
    show min (n + 1 + 1) (n + 1 + 1) = _
    omega
theorem ch_step (n k : Nat) : ch (n + 1) k = (0 :: row n).getD k 0 + ch n k := by
  unfold ch
  rw [show row (n + 1) = List.zipWith (· + ·) (0 :: row n) (row n ++ [0]) from rfl, zw_getD _ _ _ (by rw [List.length_cons, List.length_append]; rfl), app_getD]
theorem ch_succ (n k : Nat) : ch (n + 1) (k + 1) = ch n k + ch n (k + 1) := ch_step n (k + 1)
theorem ch_head (n : Nat) : ch (n + 1) 0 = ch n 0 := by
  rw [ch_step]
  exact Int.zero_add _
theorem ch_over (n : Nat) : ch n (n + 1) = 0 := by
  unfold ch
  rw [List.getD_eq_getElem?_getD, List.getElem?_eq_none (by rw [row_len]; omega)]
  rfl
theorem ch_zero : ∀ n, ch n 0 = 1
  | 0 => rfl
  | n + 1 => by rw [ch_head, ch_zero n]
theorem ch_last : ∀ n, ch n n = 1
  | 0 => rfl
  | n + 1 => by rw [ch_succ, ch_last n, ch_over]; rfl
theorem cv_sm (f : Cf) (F : Nat → Cf) (k : Nat) : ∀ n, cv f (fun j => sm n fun i => F i j) k = sm n fun i => cv f (F i) k
  | 0 => cv_zero f k
  | n + 1 => by
    show cv f (fun j => (fun j => sm n fun i => F i j) j + F n j) k = _
    rw [cv_add, cv_sm f F k n]
    rfl
theorem binom (f g : Cf) : ∀ n k, pw (ad f g) n k = sm (n + 1) fun i => ch n i * cv (pw f i) (pw g (n - i)) k
  | 0, k => by
    show one k = 0 + ch 0 0 * cv one one k
    rw [cv1, ch_zero, Int.one_mul, Int.zero_add]
  | n + 1, k => by
    have ih : pw (ad f g) n = fun j => sm (n + 1) fun i => ch n i * cv (pw f i) (pw g (n - i)) j := funext (binom f g n)
    show cv (ad f g) (pw (ad f g) n) k = _
    rw [ad_cv]
    show cv f (pw (ad f g) n) k + cv g (pw (ad f g) n) k = _
    have c : ∀ q : Cf, cv q (fun j => sm (n + 1) fun i => ch n i * cv (pw f i) (pw g (n - i)) j) k = sm (n + 1) fun i => cv q (sc (ch n i) (cv (pw f i) (pw g (n - i)))) k := fun q => cv_sm q (fun i => sc (ch n i) (cv (pw f i) (pw g (n - i)))) k (n + 1)
    rw [ih, c f, c g]
    have e1 : (sm (n + 1) fun i => cv f (sc (ch n i) (cv (pw f i) (pw g (n - i)))) k) = sm (n + 1) fun i => ch n i * cv (pw f (i + 1)) (pw g (n + 1 - (i + 1))) k := sm_congr fun i hi => by
      rw [cv_sc, ← cvA, show n + 1 - (i + 1) = n - i by omega]
      rfl
    have e2 : (sm (n + 1) fun i => cv g (sc (ch n i) (cv (pw f i) (pw g (n - i)))) k) = sm (n + 1) fun i => ch n i * cv (pw f i) (pw g (n + 1 - i)) k := sm_congr fun i hi => by
      rw [cv_sc, show n + 1 - i = (n - i) + 1 by omega, show pw g (n - i + 1) = cv g (pw g (n - i)) from rfl, ← cvA, cvC g, cvA]
      rfl
    rw [e1, e2, sm_head _ (n + 1)]
    have e3 : (sm (n + 1) fun i => ch (n + 1) (i + 1) * cv (pw f (i + 1)) (pw g (n + 1 - (i + 1))) k) = (sm (n + 1) fun i => ch n i * cv (pw f (i + 1)) (pw g (n + 1 - (i + 1))) k) + sm (n + 1) fun i => ch n (i + 1) * cv (pw f (i + 1)) (pw g (n + 1 - (i + 1))) k := by
      rw [← sm_add]
      exact sm_congr fun i _ => by rw [ch_succ, Int.add_mul]
    have e4 : (sm (n + 1) fun i => ch n i * cv (pw f i) (pw g (n + 1 - i)) k) = ch n 0 * cv (pw f 0) (pw g (n + 1 - 0)) k + sm (n + 1) fun i => ch n (i + 1) * cv (pw f (i + 1)) (pw g (n + 1 - (i + 1))) k := by
      rw [← sm_head (fun i => ch n i * cv (pw f i) (pw g (n + 1 - i)) k) (n + 1)]
      show _ = sm (n + 1) _ + ch n (n + 1) * _
      rw [ch_over, Int.zero_mul, Int.add_zero]
    rw [e3, e4, ch_head]
    omega
/-- a sum to the power of a prime -/
theorem frob {p : Nat} (hp : 2 ≤ p) (h : ∀ k, 0 < k → k < p → ch p k % (p : Int) = 0) (f g : Cf) : Eqm p (pw (ad f g) p) (ad (pw f p) (pw g p)) := fun k => by
  obtain ⟨q, rfl⟩ : ∃ q, p = q + 1 + 1 := ⟨p - 2, by omega⟩
  rw [binom]
  show (sm (q + 1 + 1) _ + ch (q + 1 + 1) (q + 1 + 1) * _) % _ = _
  rw [sm_head, ch_zero, ch_last, Int.one_mul, Int.one_mul]
  have mid : (sm (q + 1) fun i => ch (q + 1 + 1) (i + 1) * cv (pw f (i + 1)) (pw g (q + 1 + 1 - (i + 1))) k) % ((q + 1 + 1 : Nat) : Int) = 0 := by
    have : ∀ n, n ≤ q + 1 → (sm n fun i => ch (q + 1 + 1) (i + 1) * cv (pw f (i + 1)) (pw g (q + 1 + 1 - (i + 1))) k) % ((q + 1 + 1 : Nat) : Int) = 0 := by
      intro n
      induction n with
      | zero => intro _; exact Int.zero_emod _
      | succ n ih =>
        intro hn
        show (sm n _ + _ * _) % _ = 0
        rw [Int.add_emod, ih (by omega), Int.mul_emod, h (n + 1) (by omega) (by omega), Int.zero_mul, Int.zero_emod]
        rfl
    exact this _ (Nat.le_refl _)
  have e : pw f 0 = one := rfl
  rw [e, one_cv, Nat.sub_zero, Nat.sub_self, show pw g 0 = one from rfl, cv1]
  show _ = (pw f (q + 1 + 1) k + pw g (q + 1 + 1) k) % _
  rw [show ∀ a b c : Int, a + b + c = b + (c + a) from fun a b c => by omega, Int.add_emod, mid, Int.zero_add, Int.emod_emod]
def rowOk (p : Nat) : Bool := (List.range (p - 1)).all fun k => ((row p).getD (k + 1) 0) % (p : Int) == 0
theorem rowOk_ok {p : Nat} (h : rowOk p = true) : ∀ k, 0 < k → k < p → ch p k % (p : Int) = 0 := fun k h0 h1 => by
  have z := List.all_eq_true.mp h (k - 1) (List.mem_range.mpr (by omega))
  rw [show k - 1 + 1 = k by omega] at z
  exact eq_of_beq z
theorem rows_ok : ([2, 3, 5, 7, 11, 13, 17, 19, 23, 29, 31, 37, 41, 43, 47, 53, 59, 61, 67, 71, 73, 79, 83, 89, 97] : List Nat).all rowOk = true := by decide +kernel
/-! ### one put into another -/
def sh (f : Cf) : Cf := fun k => f (k + 1)
def xs (h : Cf) : Cf
  | 0 => 0
  | k + 1 => h k
def hor (o : Cf) : Nat → Cf → Cf
  | 0, _ => nul
  | n + 1, f => ad (sc (f 0) one) (cv o (hor o n (sh f)))
theorem hor_ad (o : Cf) : ∀ n f g, hor o n (ad f g) = ad (hor o n f) (hor o n g)
  | 0, f, g => (ad_nul nul).symm
  | n + 1, f, g => by
    show ad (sc (f 0 + g 0) one) (cv o (hor o n (ad (sh f) (sh g)))) = ad (ad (sc (f 0) one) (cv o (hor o n (sh f)))) (ad (sc (g 0) one) (cv o (hor o n (sh g))))
    rw [hor_ad o n, ad_sc, cv_ad]
    generalize sc (f 0) one = a
    generalize sc (g 0) one = b
    generalize cv o (hor o n (sh f)) = c
    generalize cv o (hor o n (sh g)) = d
    exact funext fun k => by show (a k + b k) + (c k + d k) = (a k + c k) + (b k + d k); omega
theorem hor_sc (o : Cf) (c : Int) : ∀ n f, hor o n (sc c f) = sc c (hor o n f)
  | 0, f => (sc_nul c).symm
  | n + 1, f => by
    show ad (sc (c * f 0) one) (cv o (hor o n (sc c (sh f)))) = sc c (ad (sc (f 0) one) (cv o (hor o n (sh f))))
    rw [hor_sc o c n, sc_ad, sc_sc, cv_sc]
theorem hor_nul (o : Cf) : ∀ n, hor o n nul = nul
  | 0 => rfl
  | n + 1 => by
    show ad (sc 0 one) (cv o (hor o n nul)) = nul
    rw [hor_nul o n, sc_zero, cv_nul, ad_nul]
theorem hor_ext (o : Cf) : ∀ n f, (∀ k, n ≤ k → f k = 0) → ∀ d, hor o (n + d) f = hor o n f
  | 0, f, h, d => by
    rw [show f = nul from funext fun k => h k (Nat.zero_le _), hor_nul, hor_nul]
  | n + 1, f, h, d => by
    rw [show n + 1 + d = (n + d) + 1 by omega]
    show ad _ (cv o (hor o (n + d) (sh f))) = ad _ (cv o (hor o n (sh f)))
    rw [hor_ext o n (sh f) (fun k hk => h (k + 1) (by omega)) d]
theorem hor_eqm {p : Int} (o : Cf) : ∀ n {f g : Cf}, Eqm p f g → Eqm p (hor o n f) (hor o n g)
  | 0, f, g, h => Eqm.refl p _
  | n + 1, f, g, h => (Eqm.sc2 (h 0) one).ad ((Eqm.refl p o).cv (hor_eqm o n fun k => h (k + 1)))
theorem Fi.hor {o : Cf} (ho : Fi o) : ∀ n f, Fi (hor o n f)
  | 0, f => Fi.nul
  | n + 1, f => ((Fi.one).sc _).ad (ho.cv (Fi.hor ho n _))
theorem cv_head (f g : Cf) : cv f g = ad (sc (f 0) g) (xs (cv (sh f) g)) := funext fun k => by
  show sm (k + 1) (fun i => f i * g (k - i)) = f 0 * g k + xs (cv (sh f) g) k
  rw [sm_head]
  show f 0 * g (k - 0) + _ = _
  rw [Nat.sub_zero]
  congr 1
  cases k with
  | zero => rfl
  | succ k =>
    show sm (k + 1) _ = sm (k + 1) _
    exact sm_congr fun i hi => by
      show f (i + 1) * g (k + 1 - (i + 1)) = f (i + 1) * g (k - i)
      rw [show k + 1 - (i + 1) = k - i by omega]
theorem hor_xs (o : Cf) (n : Nat) (h : Cf) : hor o (n + 1) (xs h) = cv o (hor o n h) := by
  show ad (sc 0 one) (cv o (hor o n (sh (xs h)))) = _
  rw [sc_zero, nul_ad]
  rfl
theorem hor_cv (o : Cf) : ∀ n f, (∀ k, n ≤ k → f k = 0) → ∀ g m, (∀ k, m ≤ k → g k = 0) → hor o (n + m) (cv f g) = cv (hor o n f) (hor o m g)
  | 0, f, h, g, m, hg => by
    rw [show f = nul from funext fun k => h k (Nat.zero_le _), nul_cv, hor_nul]
    exact (nul_cv _).symm
  | n + 1, f, h, g, m, hg => by
    rw [cv_head, hor_ad, hor_sc, show n + 1 + m = m + (n + 1) by omega, hor_ext o m g hg (n + 1), show m + (n + 1) = (n + m) + 1 by omega, hor_xs, hor_cv o n (sh f) (fun k hk => h (k + 1) (by omega)) g m hg]
    show _ = cv (ad (sc (f 0) one) (cv o (hor o n (sh f)))) (hor o m g)
    rw [ad_cv, sc_cv, one_cv, cvA]
/-! ### alike by a rule -/
def Cg (p : Int) (r f g : Cf) : Prop := Dv p r (ad f (sc (-1) g))
theorem Cg.of {p : Int} {r f g : Cf} (h : Eqm p f g) : Cg p r f g := (Dv.zero p r).congr fun k => by
  have e := h k
  show 0 % p = (f k + -1 * g k) % p
  rw [show f k + -1 * g k = f k - g k by omega, Int.sub_emod, e, Int.sub_self]
theorem Cg.refl (p : Int) (r f : Cf) : Cg p r f f := Cg.of (Eqm.refl p f)
theorem Cg.symm {p : Int} {r f g : Cf} (h : Cg p r f g) : Cg p r g f := (h.scale (-1)).congr fun k => by
  show (-1 * (f k + -1 * g k)) % p = (g k + -1 * f k) % p
  congr 1
  omega
theorem Cg.trans {p : Int} {r f g h : Cf} (a : Cg p r f g) (b : Cg p r g h) : Cg p r f h := (a.add b).congr fun k => by
  show ((f k + -1 * g k) + (g k + -1 * h k)) % p = (f k + -1 * h k) % p
  congr 1
  omega
theorem Cg.ad {p : Int} {r f g f' g' : Cf} (a : Cg p r f f') (b : Cg p r g g') : Cg p r (ad f g) (Xp.ad f' g') := (a.add b).congr fun k => by
  show ((f k + -1 * f' k) + (g k + -1 * g' k)) % p = ((f k + g k) + -1 * (f' k + g' k)) % p
  congr 1
  omega
theorem Cg.sc {p : Int} {r f g : Cf} (c : Int) (a : Cg p r f g) : Cg p r (sc c f) (Xp.sc c g) := (a.scale c).congr fun k => by
  show (c * (f k + -1 * g k)) % p = (c * f k + -1 * (c * g k)) % p
  rw [Int.mul_add, ← Int.mul_assoc, ← Int.mul_assoc, Int.mul_comm c (-1)]
theorem Cg.cv {p : Int} {r f g f' g' : Cf} (a : Cg p r f f') (b : Cg p r g g') (h1 : Fi g) (h2 : Fi f') : Cg p r (cv f g) (Xp.cv f' g') := by
  have x := Dv.cv h1 a
  have y := Dv.cv h2 b
  rw [cv_ad, cv_sc] at x y
  refine (Dv.add x y).congr fun k => ?_
  show ((Xp.cv g f k + -1 * Xp.cv g f' k) + (Xp.cv f' g k + -1 * Xp.cv f' g' k)) % p = (Xp.cv f g k + -1 * Xp.cv f' g' k) % p
  rw [cv_comm g f, cv_comm g f']
  congr 1
  omega
theorem Cg.pw {p : Int} {r f g : Cf} (h : Cg p r f g) (hf : Fi f) (hg : Fi g) : ∀ n, Cg p r (pw f n) (Xp.pw g n)
  | 0 => Cg.refl p r _
  | n + 1 => h.cv (Cg.pw h hf hg n) (hf.pw n) hg
theorem Cg.dv {p : Int} {r f g : Cf} (h : Cg p r f g) (d : Dv p r g) : Dv p r f := (h.add d).congr fun k => by
  show (f k + -1 * g k + g k) % p = f k % p
  congr 1
  omega
end Xp
end
section
set_option Elab.async false
set_option linter.all false
set_option maxRecDepth 100000
set_option maxHeartbeats 4000000
namespace Xk
open PySem PySem.Spec PyProof.Rows L2 Xh LamX NdefX
/-- the rows' sum is the product's coefficient -/
theorem ou_sm (xs ys : List Int) (k : Nat) : ∀ n, Ou xs ys n k = Xp.sm n fun i => if i ≤ k then xs.getD i 0 * ys.getD (k - i) 0 else 0
  | 0 => rfl
  | n + 1 => by
    rw [Ou_succ, ou_sm xs ys k n]
    show _ = Xp.sm n _ + (if n ≤ k then xs.getD n 0 * ys.getD (k - n) 0 else 0)
    congr 1
    by_cases h : n ≤ k
    · rw [if_pos h]
      by_cases h2 : k < n + ys.length
      · rw [if_pos ⟨h, h2⟩]
      · rw [if_neg (fun z => h2 z.2), getD_over (a := ys) (by omega), Int.mul_zero]
    · rw [if_neg h, if_neg (fun z => h z.1)]
theorem cvf_cv (xs ys : List Int) (k : Nat) : cvf xs ys k = Xp.cv (fun j => xs.getD j 0) (fun j => ys.getD j 0) k := by
  have a : cvf xs ys k = Xp.sm (xs.length + (k + 1)) fun i => if i ≤ k then xs.getD i 0 * ys.getD (k - i) 0 else 0 := by
    rw [Xp.sm_ext (fun i hi => by rw [getD_over (a := xs) hi, Int.zero_mul]; split <;> rfl)]
    exact ou_sm xs ys k _
  rw [a, Nat.add_comm, Xp.sm_ext (fun i hi => if_neg (by omega))]
  exact Xp.sm_congr fun i hi => if_pos (by omega)
end Xk
end
section
set_option Elab.async false
set_option linter.all false
set_option maxRecDepth 100000
set_option maxHeartbeats 4000000
namespace Xk
open PySem PySem.Spec PyProof.Rows L2 Xh LamX NdefX
/-! ### Euclid's turns -/
abbrev co (xs : List Int) : Nat → Int := fun j => xs.getD j 0
theorem fm_em {x p : Int} (h : 0 < p) : x.fmod p = x % p := Int.fmod_eq_emod_of_nonneg _ (by omega)
theorem eqm_of {p : Int} {f : Nat → Int} {n : Nat} {ms : List Int} (hp : 0 < p) (x : Is (fun j => (f j).fmod p) n ms) : Xp.Eqm p (co ms) f := fun k => by
  show ms.getD k 0 % p = f k % p
  rw [x.at_, fm_em hp, Int.emod_emod]
theorem rs_of {p : Int} {f : Nat → Int} {n : Nat} {ms : List Int} (hp : Pm p) (x : Is (fun j => (f j).fmod p) n ms) : Rs p ms := fm_rs hp x.at_
theorem nil_of {p : Int} {ms : List Int} (r : Rs p ms) (t : trim ms = ms) (e : Xp.Eqm p (co ms) (fun _ => 0)) : ms = [] := by
  rw [← t]
  refine trim_nil fun i => ?_
  have z : ms.getD i 0 % p = 0 % p := e i
  obtain ⟨a, b⟩ := r i
  rw [Int.zero_emod, Int.emod_eq_of_lt a b] at z
  exact z
theorem list_of {p : Int} {ms ns : List Int} (r : Rs p ms) (t : trim ms = ms) (r2 : Rs p ns) (t2 : trim ns = ns) (e : Xp.Eqm p (co ms) (co ns)) : ms = ns := by
  rw [← t, ← t2]
  refine trim_congr _ _ fun i => ?_
  have z : ms.getD i 0 % p = ns.getD i 0 % p := e i
  obtain ⟨a, b⟩ := r i
  obtain ⟨c, d⟩ := r2 i
  rw [Int.emod_eq_of_lt a b, Int.emod_eq_of_lt c d] at z
  exact z
theorem cv_eqm (p : Int) (xs ys : List Int) : Xp.Eqm p (cvf xs ys) (Xp.cv (co xs) (co ys)) := fun k => by rw [cvf_cv]
theorem Div.eqm {p : Int} {xs ys qs rs : List Int} (d : Div p xs ys qs rs) (hp : Pm p) (rx : Rs p xs) : Xp.Eqm p (co xs) (fun k => Xp.cv (co qs) (co ys) k + co rs k) := fun k => by
  have e := d.eq hp rx k
  show xs.getD k 0 % p = (Xp.cv (co qs) (co ys) k + rs.getD k 0) % p
  rw [← e, fm_em hp.pos, fm_em hp.pos, Int.emod_emod, Int.one_mul, Int.emod_add_emod, cvf_cv]
theorem Div.rs_r {p : Int} {xs ys qs rs : List Int} (d : Div p xs ys qs rs) (hp : Pm p) (rx : Rs p xs) : Rs p rs := fun j => by
  rw [d.r.at_]
  exact Lf_rs hp.pos rx _ _
/-- what divides without a rest -/
theorem rem_nil {p : Int} {xs ys qs rs : List Int} (d : Div p xs ys qs rs) (y : Dsr p ys) (rx : Rs p xs) (h : Xp.Dv p (co ys) (co xs)) : rs = [] := by
  have hp := pm_of y.pr
  obtain ⟨t, ft, et⟩ := h
  have e := d.eqm hp rx
  have er : Xp.Eqm p (co rs) (Xp.cv (co ys) (fun k => t k + (-1) * co qs k)) := fun k => by
    have e1 := e k
    have e2 := et k
    rw [Xp.cv_add, Xp.cv_mul, Xp.cv_comm (co ys) (co qs)]
    show co rs k % p = (Xp.cv (co ys) t k + (-1) * Xp.cv (co qs) (co ys) k) % p
    have e3 : (Xp.cv (co qs) (co ys) k + co rs k) % p = Xp.cv (co ys) t k % p := e1.symm.trans e2
    rw [show co rs k = (Xp.cv (co qs) (co ys) k + co rs k) + (-1) * Xp.cv (co qs) (co ys) k by omega, Int.add_emod, e3, ← Int.add_emod]
  obtain ⟨l, P, hl, hP, P2, P3, lP, _, _, _, ec, _⟩ := y.last
  rw [fm_em hp.pos] at ec
  have ypos := y.pos
  have less := d.less y
  have z := Xp.short_nought (p := p) (c := scl ys p) (g := co ys) (d := ys.length - 1) (by rw [ec]; exact (Int.emod_eq_of_lt (by decide) (by have := hp.lo; omega)).symm) (fun i hi => getD_over (by omega)) (ft.add ((Xp.Fi.list qs).mul (-1))) (fun k hk => by show rs.getD k 0 % p = 0; rw [getD_over (by omega)]; exact Int.zero_emod p) er
  exact nil_of (d.rs_r hp rx) d.r.tr (er.trans (((Xp.Eqm.refl p (co ys)).cv z).trans fun k => by rw [Xp.cv_zero]))
structure Po (p : Int) (xs : List Int) (n : Nat) : Prop where
  rs : Rs p xs
  tr : trim xs = xs
  len : xs.length ≤ n
/-- what stands while Euclid's turns go on -/
structure Eu (p : Int) (a b h hf hs l lf ls : List Int) : Prop where
  ph : Po p h 25
  pl : Po p l b.length
  f1 : Po p hf 26
  f2 : Po p hs 26
  g1 : Po p lf 26
  g2 : Po p ls 26
  bh : Xp.Eqm p (co h) (fun k => Xp.cv (co hf) (co a) k + Xp.cv (co hs) (co b) k)
  bl : Xp.Eqm p (co l) (fun k => Xp.cv (co lf) (co a) k + Xp.cv (co ls) (co b) k)
  dv : ∀ d, Xp.Dv p d (co h) → Xp.Dv p d (co l) → Xp.Dv p d (co a) ∧ Xp.Dv p d (co b)
  n1 : lf = [] ∨ lf.length + h.length ≤ b.length + 1
  n2 : hf.length + l.length ≤ b.length + 1
  n3 : ls = [] ∨ ls.length + h.length ≤ a.length + 1
  n4 : hs = [] ∨ hs.length + l.length ≤ a.length + 1
theorem po_nil (p : Int) (n : Nat) (h : 0 < p) : Po p [] n := ⟨Rs.nil p h, rfl, Nat.zero_le _⟩
theorem po_one {p : Int} (h : Pm p) {n : Nat} (hn : 1 ≤ n) : Po p [1] n := ⟨(Rs.nil p h.pos).add (by decide) (by have := h.lo; omega), rfl, hn⟩
theorem co_nil (k : Nat) : co [] k = 0 := rfl
theorem co_one : ∀ k : Nat, co [1] k = Xp.one k
  | 0 => rfl
  | k + 1 => rfl
theorem eqv_fun {p : Int} {f g : Nat → Int} (h : ∀ k, f k = g k) : Xp.Eqm p f g := fun k => by rw [h k]
theorem Eu.init {p : Int} {a b : List Int} (hp : Pm p) (ha : Po p a 25) (hb : Po p b 25) : Eu p a b a [1] [] b [] [1] where
  ph := ha
  pl := ⟨hb.rs, hb.tr, Nat.le_refl _⟩
  f1 := po_one hp (by decide)
  f2 := po_nil p _ hp.pos
  g1 := po_nil p _ hp.pos
  g2 := po_one hp (by decide)
  bh := eqv_fun fun k => by rw [show co [1] = Xp.one from funext co_one, Xp.cv_one', show co [] = fun _ => 0 from rfl, Xp.cv_zero', Int.add_zero]
  bl := eqv_fun fun k => by rw [show co [1] = Xp.one from funext co_one, Xp.cv_one', show co [] = fun _ => 0 from rfl, Xp.cv_zero', Int.zero_add]
  dv := fun d h1 h2 => ⟨h1, h2⟩
  n1 := .inl rfl
  n2 := by show 1 + b.length ≤ b.length + 1; omega
  n3 := .inr (by show 1 + a.length ≤ a.length + 1; omega)
  n4 := .inl rfl
theorem times_len {p : Int} {xs ys ms : List Int} {n : Nat} (x : Is (fun j => (cvf xs ys j).fmod p) n ms) : ms = [] ∨ (xs ≠ [] ∧ ys ≠ [] ∧ ms.length + 1 ≤ xs.length + ys.length) := by
  by_cases hx : xs = []
  · subst hx
    exact .inl (by
      rw [← x.tr]
      refine trim_nil fun i => ?_
      rw [x.at_]
      show (Ou [] ys 0 i).fmod p = 0
      exact Int.zero_fmod p)
  · by_cases hy : ys = []
    · subst hy
      exact .inl (by
        rw [← x.tr]
        refine trim_nil fun i => ?_
        rw [x.at_, cvf, Ou_nil]
        exact Int.zero_fmod p)
    · have lx : 0 < xs.length := List.length_pos_iff.mpr hx
      have ly : 0 < ys.length := List.length_pos_iff.mpr hy
      refine .inr ⟨hx, hy, ?_⟩
      have z := x.short (m := xs.length + ys.length - 1) (fun k hk => by
        show (cvf xs ys k).fmod p = 0
        rw [cvf_cv, Xp.cv_over (a := xs.length - 1) (b := ys.length - 1) (fun i hi => getD_over (by omega)) (fun i hi => getD_over (by omega)) (by omega)]
        exact Int.zero_fmod p)
      omega
theorem minus_len {p : Int} {xs ys ms : List Int} {n : Nat} (x : Is (fun j => (xs.getD j 0 + (p - 1) * ys.getD j 0).fmod p) n ms) : ms.length ≤ max xs.length ys.length := x.short fun k hk => by
  show (xs.getD k 0 + (p - 1) * ys.getD k 0).fmod p = 0
  rw [getD_over (a := xs) (by omega), getD_over (a := ys) (by omega), Int.mul_zero]
  exact Int.zero_fmod p
/-- one of the two rows that go with the rests -/
theorem row_step {p : Int} (hp : Pm p) {a b x y u v qs m1 m2 n1 n2 h l r : List Int} {i1 i2 j1 j2 : Nat}
    (bh : Xp.Eqm p (co h) (fun k => Xp.cv (co x) (co a) k + Xp.cv (co y) (co b) k)) (bl : Xp.Eqm p (co l) (fun k => Xp.cv (co u) (co a) k + Xp.cv (co v) (co b) k))
    (e : Xp.Eqm p (co h) (fun k => Xp.cv (co qs) (co l) k + co r k)) (e1 : Is (fun j => (cvf qs u j).fmod p) i1 m1) (e2 : Is (fun j => (cvf qs v j).fmod p) i2 m2)
    (f1 : Is (fun j => (x.getD j 0 + (p - 1) * m1.getD j 0).fmod p) j1 n1) (f2 : Is (fun j => (y.getD j 0 + (p - 1) * m2.getD j 0).fmod p) j2 n2) :
    Xp.Eqm p (co r) (fun k => Xp.cv (co n1) (co a) k + Xp.cv (co n2) (co b) k) := by
  have g : ∀ {x m u n : List Int} {i j : Nat}, Is (fun j => (cvf qs u j).fmod p) i m → Is (fun j => (x.getD j 0 + (p - 1) * m.getD j 0).fmod p) j n → Xp.Eqm p (co n) (fun k => co x k + (-1) * Xp.cv (co qs) (co u) k) := fun {x m u n i j} e f k => by
    have z1 := eqm_of hp.pos f k
    have z2 := (eqm_of hp.pos e).trans (cv_eqm p qs u) k
    rw [z1]
    show (x.getD k 0 + (p - 1) * m.getD k 0) % p = _
    have z3 : ((p - 1) * m.getD k 0) % p = ((-1) * Xp.cv (co qs) (co u) k) % p := by
      have z2' : m.getD k 0 % p = Xp.cv (co qs) (co u) k % p := z2
      rw [show (p - 1) * m.getD k 0 = (-1) * m.getD k 0 + m.getD k 0 * p by rw [Int.sub_mul, Int.mul_comm p]; omega, Int.add_mul_emod_self_right, Int.mul_emod, z2', ← Int.mul_emod]
    rw [Int.add_emod, z3, ← Int.add_emod]
  have w : ∀ {x m u n c : List Int} {i j : Nat}, Is (fun j => (cvf qs u j).fmod p) i m → Is (fun j => (x.getD j 0 + (p - 1) * m.getD j 0).fmod p) j n → Xp.Eqm p (Xp.cv (co n) (co c)) (fun k => Xp.cv (co x) (co c) k + (-1) * Xp.cv (co qs) (Xp.cv (co u) (co c)) k) := fun {x m u n c i j} e f => by
    refine ((g e f).cv (Xp.Eqm.refl p (co c))).trans (eqv_fun fun k => ?_)
    rw [Xp.cv_comm, Xp.cv_add, Xp.cv_mul, Xp.cv_comm, Xp.cv_comm (co c), Xp.cv_assoc]
  have s : Xp.Eqm p (fun k => Xp.cv (co n1) (co a) k + Xp.cv (co n2) (co b) k) (fun k => co h k + (-1) * Xp.cv (co qs) (co l) k) := by
    refine ((w e1 f1).add (w e2 f2)).trans ?_
    have t : Xp.Eqm p (fun k => co h k + (-1) * Xp.cv (co qs) (co l) k) (fun k => (Xp.cv (co x) (co a) k + Xp.cv (co y) (co b) k) + (-1) * Xp.cv (co qs) (fun k => Xp.cv (co u) (co a) k + Xp.cv (co v) (co b) k) k) := bh.add (((Xp.Eqm.refl p (co qs)).cv bl).mul (-1))
    refine Xp.Eqm.trans (eqv_fun fun k => ?_) t.symm
    rw [Xp.cv_add]
    generalize Xp.cv (co x) (co a) k = A
    generalize Xp.cv (co y) (co b) k = B
    generalize Xp.cv (co qs) (Xp.cv (co u) (co a)) k = C
    generalize Xp.cv (co qs) (Xp.cv (co v) (co b)) k = D
    omega
  refine Xp.Eqm.trans (fun k => ?_) s.symm
  have z : co h k % p = (Xp.cv (co qs) (co l) k + co r k) % p := e k
  show co r k % p = (co h k + (-1) * Xp.cv (co qs) (co l) k) % p
  rw [Int.add_emod, z, ← Int.add_emod]
  congr 1
  omega
theorem Eu.step {p : Int} {a b h hf hs l lf ls qs r m1 m2 n1 n2 : List Int} (hp : Pm p) (E : Eu p a b h hf hs l lf ls) (dl : Dsr p l) (la : a.length ≤ 25) (lb : b.length ≤ 25) (d : Div p h l qs r)
    {i1 i2 j1 j2 : Nat} (e1 : Is (fun j => (cvf qs lf j).fmod p) i1 m1) (e2 : Is (fun j => (cvf qs ls j).fmod p) i2 m2) (f1 : Is (fun j => (hf.getD j 0 + (p - 1) * m1.getD j 0).fmod p) j1 n1) (f2 : Is (fun j => (hs.getD j 0 + (p - 1) * m2.getD j 0).fmod p) j2 n2) :
    Eu p a b l lf ls r n1 n2 := by
  have less := d.less dl
  have lr : r.length ≤ h.length := d.r.len
  have lq : qs.length ≤ stp h l := d.q.len
  have lq2 : stp h l = h.length + 1 - l.length := rfl
  have e := d.eqm hp E.ph.rs
  have lpos := dl.pos
  have ll := E.pl.len
  have z1 := times_len e1
  have z2 := times_len e2
  have y1 := minus_len f1
  have y2 := minus_len f2
  have A := E.n1
  have B := E.n2
  have C := E.n3
  have D := E.n4
  have nl : ∀ {xs : List Int}, xs = [] → xs.length = 0 := fun h => by rw [h]; rfl
  have npos : ∀ {xs : List Int}, xs ≠ [] → 0 < xs.length := fun h => List.length_pos_iff.mpr h
  have k1 : n1.length + l.length ≤ b.length + 1 := by
    rcases z1 with z1 | ⟨q1, q2, q3⟩
    · have := nl z1
      omega
    · have := npos q1
      have := npos q2
      rcases A with A | A
      · exact absurd A q2
      · omega
  have k2 : n2 = [] ∨ n2.length + l.length ≤ a.length + 1 := by
    rcases z2 with z2 | ⟨q1, q2, q3⟩
    · have w := nl z2
      rcases D with D | D
      · have w2 := nl D
        exact .inl (List.length_eq_zero_iff.mp (by omega))
      · exact .inr (by omega)
    · have := npos q1
      have := npos q2
      rcases C with C | C
      · exact absurd C q2
      rcases D with D | D
      · have w2 := nl D
        exact .inr (by omega)
      · exact .inr (by omega)
  have k2' : n2.length ≤ 26 := by
    rcases k2 with k | k
    · rw [nl k]; omega
    · omega
  have k3 : lf.length + r.length ≤ b.length + 1 := by
    rcases A with A | A
    · rw [nl A]; omega
    · omega
  have k5 : ls = [] ∨ ls.length + r.length ≤ a.length + 1 := by
    rcases C with C | C
    · exact .inl C
    · exact .inr (by omega)
  exact ⟨⟨E.pl.rs, E.pl.tr, by omega⟩, ⟨d.rs_r hp E.ph.rs, d.r.tr, by omega⟩, E.g1, E.g2, ⟨rs_of hp f1, f1.tr, by omega⟩, ⟨rs_of hp f2, f2.tr, k2'⟩, E.bl, row_step hp E.bh E.bl e e1 e2 f1 f2,
    fun t h1 h2 => E.dv t (((h1.cv (Xp.Fi.list qs)).add h2).congr e.symm) h1, .inr k1, k3, k2, k5⟩
/-- the told three -/
structure Cm (p : Int) (a b g gf gs : List Int) : Prop where
  pg : Po p g 25
  pf : Po p gf 26
  ps : Po p gs 26
  made : Xp.Eqm p (co g) (fun k => Xp.cv (co gf) (co a) k + Xp.cv (co gs) (co b) k)
  dva : Xp.Dv p (co g) (co a)
  dvb : Xp.Dv p (co g) (co b)
  lev : g = [] ∨ (0 < g.length ∧ g.getD (g.length - 1) 0 = 1)
  nil : g = [] → a = [] ∧ b = []
theorem Eu.end_nil {p : Int} {a b hf hs lf ls : List Int} (E : Eu p a b [] hf hs [] lf ls) (ha : Po p a 25) (hb : Po p b 25) : Cm p a b [] hf hs := by
  obtain ⟨d1, d2⟩ := E.dv (co []) (Xp.Dv.self p _) (Xp.Dv.zero p _)
  have ea : a = [] := nil_of ha.rs ha.tr (d1.nought (Xp.Eqm.refl p _))
  have eb : b = [] := nil_of hb.rs hb.tr (d2.nought (Xp.Eqm.refl p _))
  exact ⟨E.ph, E.f1, E.f2, E.bh, d1, d2, .inl rfl, fun _ => ⟨ea, eb⟩⟩
theorem scale_is {p s : Int} (hp : Pm p) {xs ms : List Int} {n : Nat} (x : Is (fun j => (xs.getD j 0 * s).fmod p) n ms) : Xp.Eqm p (co ms) (fun k => s * co xs k) := (eqm_of hp.pos x).trans (eqv_fun fun k => Int.mul_comm _ _)
theorem Eu.end_some {p : Int} {a b h hf hs lf ls g gf gs : List Int} {i j k : Nat} (hp : Pm p) (E : Eu p a b h hf hs [] lf ls) (dh : Dsr p h)
    (x : Is (fun j => (h.getD j 0 * scl h p).fmod p) i g) (y : Is (fun j => (hf.getD j 0 * scl h p).fmod p) j gf) (z : Is (fun j => (hs.getD j 0 * scl h p).fmod p) k gs) (hi : i ≤ 25) (hj : j ≤ 26) (hk : k ≤ 26) : Cm p a b g gf gs := by
  obtain ⟨d1, d2⟩ := E.dv (co h) (Xp.Dv.self p _) (Xp.Dv.zero p _)
  obtain ⟨l, P, hl, hP, P2, P3, lP, _, _, _, ec, _⟩ := dh.last
  have hpos := dh.pos
  have top : g.getD (h.length - 1) 0 = 1 := by
    rw [x.at_, Int.mul_comm]
    exact ec
  have gl : g.length ≤ h.length := x.short fun k hk => by
    show (h.getD k 0 * scl h p).fmod p = 0
    rw [getD_over hk, Int.zero_mul]
    exact Int.zero_fmod p
  have gl2 : h.length ≤ g.length := by
    rcases Nat.lt_or_ge g.length h.length with q | q
    · exfalso
      rw [getD_over (by omega)] at top
      exact absurd top (by decide)
    · exact q
  have el : g.length = h.length := Nat.le_antisymm gl gl2
  -- h is what g times its last rest leaves
  have hg : Xp.Eqm p (co h) (fun k => co h (h.length - 1) * co g k) := fun k => by
    have e1 := scale_is hp x k
    have e2 : (scl h p * co h (h.length - 1)) % p = 1 := by
      rw [← fm_em hp.pos]
      exact ec
    show co h k % p = (co h (h.length - 1) * co g k) % p
    rw [Int.mul_emod, e1, ← Int.mul_emod, ← Int.mul_assoc, Int.mul_comm (co h (h.length - 1)), Int.mul_emod, e2, Int.one_mul, Int.emod_emod]
  have dgh : Xp.Dv p (co g) (co h) := ((Xp.Dv.self p (co g)).scale (co h (h.length - 1))).congr hg.symm
  refine ⟨⟨rs_of hp x, x.tr, Nat.le_trans x.len hi⟩, ⟨rs_of hp y, y.tr, Nat.le_trans y.len hj⟩, ⟨rs_of hp z, z.tr, Nat.le_trans z.len hk⟩, ?_, dgh.trans d1, dgh.trans d2, .inr ⟨by omega, by rw [el]; exact top⟩, fun q => ?_⟩
  · refine (scale_is hp x).trans (((E.bh).mul (scl h p)).trans ?_)
    have s1 : ∀ {u v c : List Int} {n : Nat}, Is (fun j => (u.getD j 0 * scl h p).fmod p) n v → Xp.Eqm p (Xp.cv (co v) (co c)) (fun k => scl h p * Xp.cv (co u) (co c) k) := fun {u v c n} w => ((scale_is hp w).cv (Xp.Eqm.refl p (co c))).trans (eqv_fun fun k => by rw [Xp.cv_comm, Xp.cv_mul, Xp.cv_comm])
    refine Xp.Eqm.trans (eqv_fun fun k => Int.mul_add _ _ _) ((s1 y).add (s1 z)).symm
  · rw [q] at el
    exact absurd el.symm (by show ¬ h.length = 0; omega)
/-! ### what is left by a rule -/
theorem _root_.Xh.Gr.tup {T : List (Addr × Str)} {H H' : Hp} (g : Gr T H H') {a : Addr} {xs : List V} (e : H a = some (.tup xs)) : H' a = some (.tup xs) := g.x _ _ e (fun _ z => by cases z)
theorem Po.dsr {p : Int} {xs : List Int} {n : Nat} (x : Po p xs n) (h : xs ≠ []) (hp : p ∈ primes) : Dsr p xs := ⟨List.length_pos_iff.mpr h, x.tr, x.rs, hp⟩
theorem Po.pol {K : PySem.W.Frag} {H : Hp} {a : Addr} {p : Int} {xs : List Int} (x : Po p xs 25) (e : H a = some (.tup (xs.map V.int))) : Pol K H a p xs := ⟨.inl (.inl e), x.len, x.rs, x.tr⟩
theorem Po.le {p : Int} {xs : List Int} {n m : Nat} (x : Po p xs n) (h : xs.length ≤ m) : Po p xs m := ⟨x.rs, x.tr, h⟩
structure Rem (p : Int) (R : List Int) (f : Xp.Cf) (rs : List Int) : Prop where
  po : Po p rs 24
  less : rs.length < R.length
  cg : Xp.Cg p (co R) f (co rs)
theorem Rem.congr {p : Int} {R rs : List Int} {f g : Xp.Cf} (x : Rem p R f rs) (h : Xp.Cg p (co R) g f) : Rem p R g rs := ⟨x.po, x.less, h.trans x.cg⟩
theorem Rem.uniq {p : Int} {R a b : List Int} {f g : Xp.Cf} (d : Dsr p R) (x : Rem p R f a) (y : Rem p R g b) (h : Xp.Cg p (co R) f g) : a = b := by
  have hp := pm_of d.pr
  have e : Xp.Cg p (co R) (co a) (co b) := (x.cg.symm.trans h).trans y.cg
  obtain ⟨t, ft, et⟩ := e
  obtain ⟨l, P, hl, hP, P2, P3, lP, _, _, _, ec, _⟩ := d.last
  rw [fm_em hp.pos] at ec
  have dpos := d.pos
  have l1 := x.less
  have l2 := y.less
  have z := Xp.short_nought (p := p) (c := scl R p) (g := co R) (d := R.length - 1) (by rw [ec]; exact (Int.emod_eq_of_lt (by decide) (by have := hp.lo; omega)).symm) (fun i hi => getD_over (by omega)) ft (fun k hk => by
    show (a.getD k 0 + -1 * b.getD k 0) % p = 0
    rw [getD_over (a := a) (by omega), getD_over (a := b) (by omega)]
    exact Int.zero_emod p) et
  have w := et.trans (((Xp.Eqm.refl p (co R)).cv z).trans (eqv_fun fun k => by rw [Xp.cv_zero]))
  refine list_of x.po.rs x.po.tr y.po.rs y.po.tr fun k => ?_
  have wk : (co a k + -1 * co b k) % p = 0 % p := w k
  rw [Int.zero_emod] at wk
  show co a k % p = co b k % p
  generalize co a k = u at wk
  generalize co b k = v at wk
  rw [show u = (u + -1 * v) + v by omega, Int.add_emod, wk, Int.zero_add, Int.emod_emod]
theorem Div.rem {p : Int} {xs R qs rs : List Int} (d : Div p xs R qs rs) (y : Dsr p R) (rx : Rs p xs) (hR : R.length ≤ 25) : Rem p R (co xs) rs := by
  have hp := pm_of y.pr
  have less := d.less y
  refine ⟨⟨d.rs_r hp rx, d.r.tr, by omega⟩, less, ⟨co qs, Xp.Fi.list qs, fun k => ?_⟩⟩
  have e : co xs k % p = (Xp.cv (co qs) (co R) k + co rs k) % p := d.eqm hp rx k
  show (co xs k + -1 * co rs k) % p = Xp.cv (co R) (co qs) k % p
  rw [Xp.cv_comm, Int.add_emod, e, ← Int.add_emod]
  congr 1
  omega
theorem Rem.self {p : Int} {R xs : List Int} {n : Nat} (x : Po p xs n) (h : xs.length < R.length) (hR : R.length ≤ 25) : Rem p R (co xs) xs := ⟨⟨x.rs, x.tr, by omega⟩, h, Xp.Cg.refl p _ _⟩
theorem plus_len {p : Int} {xs ys ms : List Int} {n : Nat} (x : Is (fun j => (xs.getD j 0 + ys.getD j 0).fmod p) n ms) : ms.length ≤ max xs.length ys.length := x.short fun k hk => by
  show (xs.getD k 0 + ys.getD k 0).fmod p = 0
  rw [getD_over (a := xs) (by omega), getD_over (a := ys) (by omega)]
  exact Int.zero_fmod p
theorem plus_eqm {p : Int} {xs ys ms : List Int} {n : Nat} (hp : Pm p) (x : Is (fun j => (xs.getD j 0 + ys.getD j 0).fmod p) n ms) : Xp.Eqm p (co ms) (Xp.ad (co xs) (co ys)) := eqm_of hp.pos x
theorem times_eqm {p : Int} {xs ys ms : List Int} {n : Nat} (hp : Pm p) (x : Is (fun j => (cvf xs ys j).fmod p) n ms) : Xp.Eqm p (co ms) (Xp.cv (co xs) (co ys)) := (eqm_of hp.pos x).trans (cv_eqm p xs ys)
theorem Rem.plus {p : Int} {R a b ms : List Int} {f g : Xp.Cf} {n : Nat} (hp : Pm p) (hR : R.length ≤ 25) (x : Rem p R f a) (y : Rem p R g b) (z : Is (fun j => (a.getD j 0 + b.getD j 0).fmod p) n ms) : Rem p R (Xp.ad f g) ms := by
  have l := plus_len z
  have l1 := x.less
  have l2 := y.less
  exact ⟨⟨rs_of hp z, z.tr, by omega⟩, by omega, (x.cg.ad y.cg).trans (Xp.Cg.of (plus_eqm hp z).symm)⟩
theorem Rem.times {p : Int} {R a b ms rs : List Int} {f g : Xp.Cf} {n : Nat} (hp : Pm p) (fg : Xp.Fi g) (x : Rem p R f a) (y : Rem p R g b) (z : Is (fun j => (cvf a b j).fmod p) n ms) (w : Rem p R (co ms) rs) : Rem p R (Xp.cv f g) rs :=
  w.congr ((x.cg.cv y.cg fg (Xp.Fi.list a)).trans (Xp.Cg.of (times_eqm hp z).symm))
theorem co_single (x : Int) : co [x] = Xp.sc x Xp.one := funext fun k => by
  show ([x] : List Int).getD k 0 = x * Xp.one k
  cases k with
  | zero => exact (Int.mul_one x).symm
  | succ k => exact (Int.mul_zero x).symm
theorem walk_revT {K : PySem.W.Frag} {a : Addr} {xs : List V} : Walk (RT.ItvT K a xs.length) xs.length (fun H => SqT K H a xs) (fun i H x H' => H' = H ∧ xs[xs.length - 1 - i]? = some x) :=
  ⟨fun i _ hi q => ⟨hi, xs, xs[xs.length - 1 - i]'(by omega), q, by simp [show xs.length - 1 - i < xs.length by omega]⟩, fun _ _ => Nat.le_refl _, fun _ _ _ _ _ q y => ⟨y.1, y.2 xs q⟩⟩
theorem trim_po {p x : Int} (hp : Pm p) (h0 : 0 ≤ x) (h1 : x < p) : Po p (trim [x]) 1 := ⟨fun j => by rw [trim_getD]; exact (Rs.nil p hp.pos).add h0 h1 j, trim_trim _, trim_length _⟩
theorem co_trim (ms : List Int) : co (trim ms) = co ms := funext fun k => trim_getD ms k

end Xk
end
section
set_option Elab.async false
set_option linter.all false
set_option maxRecDepth 100000
set_option maxHeartbeats 4000000
namespace Xk
open PySem PySem.Spec PyProof.Rows L2 Xh LamX NdefX
theorem sqG {K : PySem.W.Frag} {T : List (Addr × Str)} {H H' : Hp} {a : Addr} {xs : List V} (g : Gr T H H') (h : SqT K H a xs) : SqT K H' a xs := by
  rcases h with (h | ⟨o, h⟩) | h
  · exact .inl (.inl (g.x _ _ h fun _ z => by cases z))
  · exact .inl (.inr ⟨o, g.x _ _ h fun _ z => by cases z⟩)
  · exact .inr h
def spLeft (K : PySem.W.Frag) (T : List (Addr × Str)) : Sp := fun vs H Q _ => ∃ (a b : Addr) (xs R : List Int) (p : Int), vs = [.ref a, .ref b, .int p] ∧ H a = some (.tup (xs.map V.int)) ∧ SqT K H b (R.map V.int) ∧ xs.length ≤ 50 ∧ R.length ≤ 25 ∧ Rs p xs ∧ Dsr p R ∧ Tabs T H ∧
  ∀ (v : Addr) (rs : List Int) (H' : Hp), Gr T H H' → H' v = some (.tup (rs.map V.int)) → Rem p R (co xs) rs → Q (.ref v) H'
def spPut (K : PySem.W.Frag) (T : List (Addr × Str)) : Sp := fun vs H Q _ => ∃ (a o b : Addr) (xs os R : List Int) (p : Int), vs = [.ref a, .ref o, .ref b, .int p] ∧ H a = some (.tup (xs.map V.int)) ∧ H o = some (.tup (os.map V.int)) ∧ H b = some (.tup (R.map V.int)) ∧ Po p xs 25 ∧ Po p os 25 ∧ R.length ≤ 25 ∧ Dsr p R ∧ Tabs T H ∧
  ∀ (v : Addr) (rs : List Int) (H' : Hp), Gr T H H' → H' v = some (.tup (rs.map V.int)) → Rem p R (Xp.hor (co os) xs.length (co xs)) rs → Q (.ref v) H'
def spPowR (K : PySem.W.Frag) (T : List (Addr × Str)) : Sp := fun vs H Q _ => ∃ (a b : Addr) (xs R : List Int) (e : Nat) (p : Int), vs = [.ref a, .int e, .ref b, .int p] ∧ H a = some (.tup (xs.map V.int)) ∧ SqT K H b (R.map V.int) ∧ Po p xs 25 ∧ R.length ≤ 25 ∧ Dsr p R ∧ Tabs T H ∧
  ∀ (v : Addr) (rs : List Int) (H' : Hp), Gr T H H' → H' v = some (.tup (rs.map V.int)) → Rem p R (Xp.pw (co xs) e) rs → Q (.ref v) H'
/-- the lambda's of raw_power -/
def spMulR (K : PySem.W.Frag) (T : List (Addr × Str)) : List (Option V) → Sp := fun ws vs H Q _ => ∃ (b c d : Addr) (R xs ys : List Int) (p : Int), ws = [some (.int p), some (.ref b)] ∧ vs = [.ref c, .ref d] ∧ SqT K H b (R.map V.int) ∧ H c = some (.tup (xs.map V.int)) ∧ H d = some (.tup (ys.map V.int)) ∧ R.length ≤ 25 ∧ Dsr p R ∧ Po p xs 24 ∧ Po p ys 24 ∧ Tabs T H ∧
  ∀ (v : Addr) (rs : List Int) (H' : Hp), Gr T H H' → H' v = some (.tup (rs.map V.int)) → Rem p R (Xp.cv (co xs) (co ys)) rs → Q (.ref v) H'
def pwQ : Str := (envOfC "raw_power" ⟨.function, [], false, false, []⟩ 0 0 .none).qual ++ "<lambda>"
theorem three_of {H : Hp} {K : PySem.W.Frag} {a b c : Addr} {p : Int} {xs ys zs : List Int} (x : Pol K H a p xs) (y : Pol K H b p ys) (z : Pol K H c p zs) : ∀ r ∈ [V.ref a, V.ref b, V.ref c], ∃ a ns, r = .ref a ∧ Pol K H a p ns := fun r hr => by
  rcases List.mem_cons.mp hr with rfl | hr
  · exact ⟨_, _, rfl, x⟩
  · exact two_of y z r hr
def spPPut (K : PySem.W.Frag) (T : List (Addr × Str)) (C : Fin 14 → Addr) : Sp := fun vs H Q E => ∃ (a o b : Addr) (xs os R : List Int) (p : Int), vs = [.ref a, .ref o, .ref b, .int p] ∧ H a = some (.tup (xs.map V.int)) ∧ H o = some (.tup (os.map V.int)) ∧ H b = some (.tup (R.map V.int)) ∧ p ∈ primes ∧ Po p xs 25 ∧ Po p os 25 ∧ Po p R 25 ∧ Tabs T H ∧ (R = [] → Ex H E (C 2) "NoInverse") ∧
  (R ≠ [] → ∀ (v : Addr) (rs : List Int) (H' : Hp), Gr T H H' → H' v = some (.tup (rs.map V.int)) → Rem p R (Xp.hor (co os) xs.length (co xs)) rs → Q (.ref v) H')
def spPLeft (K : PySem.W.Frag) (T : List (Addr × Str)) (C : Fin 14 → Addr) : Sp := fun vs H Q E => ∃ (a b : Addr) (xs R : List Int) (e p : Int), vs = [.ref a, .int e, .ref b, .int p] ∧ H a = some (.tup (xs.map V.int)) ∧ H b = some (.tup (R.map V.int)) ∧ p ∈ primes ∧ Po p xs 25 ∧ Po p R 25 ∧ Tabs T H ∧ (e < 0 → Ex H E (C 3) "BadNumber") ∧ (0 ≤ e → R = [] → Ex H E (C 2) "NoInverse") ∧
  (0 ≤ e → R ≠ [] → ∀ (v : Addr) (rs : List Int) (H' : Hp), Gr T H H' → H' v = some (.tup (rs.map V.int)) → Rem p R (Xp.pw (co xs) e.toNat) rs → Q (.ref v) H')
section
variable {P : Program} {w : World} {K : PySem.W.Frag} {mg : Str → Option Value} {base : Heap}
theorem sc_raw_left : FnScope (["one", "rule", "prime"] : List Str) ["one", "rule", "prime"] (defScope s_raw_left) := ⟨rfl, rfl, rfl, by decide +kernel, rfl, by decide +kernel, by decide +kernel⟩
theorem ok_raw_left {TT : List (Addr × Str)} {f : Addr} {fd : FuncData} (F : FunD K "raw_left" "raw_left" (defArgs s_raw_left) (defBody s_raw_left) (defScope s_raw_left) [] [] f fd) (o_raw_parted : Own P w K mg base CX0 4 "raw_parted" ["one", "other", "prime"] [] (spPartedT K TT)) : FnOk P w K mg base CX0 5 f fd ["one", "rule", "prime"] (spLeft K TT) := by
  refine F.ok sc_raw_left (fun vs H Q E h => ?_) (fun cdv A outer s H vs Q E hr h => ?_)
  · obtain ⟨a, b, xs, R, p, rfl, _⟩ := h
    rfl
  · obtain ⟨a, b, xs, R, p, rfl, ea, eb, la, lb, rA, dB, hT, k⟩ := h
    refine ⟨_, PSs.nox (pss_one (ps_ret (pe_ix ix_tup (pe_own o_raw_parted (hr.mono (by decide)) rfl pass0 (pa_cons (pv 0) (pa_cons (pv 1) (pa_cons (pv 2) pa_nil)))) pe_int (fun _ _ => rfl)))) , ?_⟩
    exact ⟨_, rfl, _, rfl, _, rfl, a, b, xs, R, p, rfl, .inl (.inl ea), eb, la, by omega, rA, dB, hT, fun w' u v qs rs H' g' _ e1 e2 e3 dv => ⟨w', _, 1, .ref v, rfl, rfl, SqT.of e1, rfl, k v rs H' g' e3 (dv.rem dB rA lb)⟩⟩
theorem sc_raw_power : FnScope (["one", "exponent", "rule", "prime"] : List Str) ["one", "exponent", "rule", "prime"] (defScope s_raw_power) := ⟨rfl, rfl, rfl, by decide +kernel, rfl, by decide +kernel, by decide +kernel⟩
abbrev lam_pwL : Arguments × Expr × Scope := (lamP ((defBody s_raw_power).getD 0 (.Pass ⟨0, 0, 0, 0⟩)))
theorem nb_pw : ndefB (defScope s_raw_power) lam_pwL.2.2 ["prime", "rule"] = true := by decide +kernel
theorem ns_pw : NScope ["first", "second", "prime", "rule"] ["first", "second"] ["prime", "rule"] lam_pwL.2.2 := nscope_by (by decide +kernel)
theorem lam_pw {TT : List (Addr × Str)} {f : Addr} {F : NF} (o_raw_times : Own P w K mg base CX0 2 "raw_times" ["one", "other", "prime"] [] (spTimes K)) (o_raw_left : Own P w K mg base CX0 5 "raw_left" ["one", "rule", "prime"] [] (spLeft K TT)) (hp : F.params = lam_pwL.1) (hs : F.scope = lam_pwL.2.2) : NOkL P w K mg base CX0 6 f F lam_pwL.2.1 ["first", "second"] ["prime", "rule"] (spMulR K TT) := by
  obtain ⟨fn, fq, fp, fb, fs, fc, fo⟩ := F
  have hp : fp = _ := hp
  have hs : fs = _ := hs
  subst hp hs
  refine nokL_of (N := ["first", "second", "prime", "rule"]) ns_pw (fun pm ctv us hl => match us, hl with | [_, _], _ => rfl) (fun ws vs H Q E h => ?_) fun A outer s H vs ws Q E hr hw h => ?_
  · obtain ⟨b, c, d, R, xs, ys, p, _, rfl, _⟩ := h
    rfl
  · obtain ⟨b, c, d, R, xs, ys, p, rfl, rfl, eb, ec, ed, lR, dR, px, py, hT, k⟩ := h
    have hpm := pm_of dR.pr
    have l1 := px.len
    have l2 := py.len
    refine ⟨_, (pe_own o_raw_left (hr.mono (by decide)) rfl pass0 (pa_cons (pe_own o_raw_times (hr.mono (by decide)) rfl pass0 (pa_cons (pv 0) (pa_cons (pv 1) (pa_cons (pv 2) pa_nil)))) (pa_cons (pv 3) (pa_cons (pv 2) pa_nil)))), ?_⟩
    refine ⟨_, rfl, _, rfl, _, rfl, c, d, xs, ys, p, rfl, .inl (.inl ec), .inl (.inl ed), by omega, by omega, px.rs, py.rs, hpm, fun ms y q H4 s4 n4 e4 => ?_⟩
    have lms : ms.length ≤ 48 := by
      rcases times_len y with z | ⟨_, _, z⟩
      · rw [z]; decide
      · omega
    exact ⟨_, rfl, _, rfl, q, b, ms, R, p, rfl, e4, sameT s4 eb, by omega, lR, rs_of hpm y, dR, hT.ext s4, fun v rs H' g e rm => k v rs H' ((Gr.of hT s4).trans g) e (rm.congr (Xp.Cg.of (times_eqm hpm y).symm))⟩
theorem ok_raw_power {TT : List (Addr × Str)} {f cR PR g : Addr} {fd : FuncData} (F : FunD K "raw_power" "raw_power" (defArgs s_raw_power) (defBody s_raw_power) (defScope s_raw_power) [] [] f fd) (hcd : fd.code = .ref cR) (TB : TabB base mg cR PR) (hmT : (PR, pwQ) ∈ TT) (hu : ∀ p ∈ TT, p.1 = PR → p.2 = pwQ)
    (G_power_by : GivesV P w K mg base 7 6 "power_by" g TTpow) (o_raw_times : Own P w K mg base CX0 2 "raw_times" ["one", "other", "prime"] [] (spTimes K)) (o_raw_left : Own P w K mg base CX0 5 "raw_left" ["one", "rule", "prime"] [] (spLeft K TT)) : FnOk P w K mg base CX0 8 f fd ["one", "exponent", "rule", "prime"] (spPowR K TT) := by
  refine FunD_okC F hcd sc_raw_power (fun vs H Q E h => ?_) (fun A outer s H vs Q E hr h => ?_)
  · obtain ⟨a, b, xs, R, e, p, rfl, _⟩ := h
    rfl
  · obtain ⟨a, b, xs, R, e, p, rfl, ea, eb, px, lR, dR, hT, k⟩ := h
    have hpm := pm_of dR.pr
    have lx := px.len
    refine ⟨_, PSs.nox (pss_one (ps_ret (pe_giveV (mk := lamF _ lam_pwL.1 lam_pwL.2.2) (js := [3, 2]) G_power_by (fun f c' => lam_pw o_raw_times o_raw_left rfl rfl) (fun _ => rfl) (fun ok => Caps.made ok (ndef_free nb_pw) (ndef_fr nb_pw) rfl) (hr.mono (by decide)) rfl (pa_cons (pe_lamV TB rfl hmT hu rfl (ndef_free nb_pw)) (pa_cons (pe_own o_raw_left (hr.mono (by decide)) rfl pass0 (pa_cons (pe_tup (pa_cons pe_int pa_nil)) (pa_cons (pv 2) (pa_cons (pv 3) pa_nil)))) (pa_cons (pe_own o_raw_left (hr.mono (by decide)) rfl pass0 (pa_cons (pv 0) (pa_cons (pv 2) (pa_cons (pv 3) pa_nil)))) (pa_cons (pv 1) pa_nil))))))) , ?_⟩
    refine ⟨hT, fun fl c' H1 g1 nf e1 e2 _ => ?_⟩
    refine ⟨(by show 1 ≤ sizeLine; decide), fun t ht => ⟨_, rfl, _, rfl, t, b, [1], R, p, rfl, upd_same, sameT (same_upd ht) (sqG g1 eb), by decide, lR, (po_one hpm (n := 1) (Nat.le_refl _)).rs, dR, g1.t.ext (same_upd ht), fun v1 r1 H2 g2 ev1 m1 => ?_⟩⟩
    have g12 := (g1.same (same_upd (o := .tup [.int 1]) ht)).trans g2
    have G2 := (Gr.of g1.t (same_upd (o := .tup [.int 1]) ht)).trans g2
    refine ⟨_, rfl, _, rfl, _, rfl, a, b, xs, R, p, rfl, g12.tup ea, sqG g12 eb, by omega, lR, px.rs, dR, g2.t, fun v2 r2 H3 g3 ev2 m2 => ?_⟩
    have g13 := g12.trans g3
    have G3 := G2.trans g3
    refine ⟨_, rfl, fl, c', G3.x _ _ e1 lamO_ne, ?_⟩
    refine ⟨.ref v1, .ref v2, e, fun i x H => ∃ (v : Addr) (rs : List Int), x = .ref v ∧ H v = some (.tup (rs.map V.int)) ∧ Rem p R (Xp.pw (co xs) i) rs, TT, rfl, g3.t, ⟨v1, r1, rfl, g3.tup ev1, m1.congr (Xp.Cg.of (eqv_fun fun k => by rw [show co [1] = Xp.one from funext co_one]; rfl))⟩, ⟨v2, r2, rfl, ev2, m2.congr (Xp.Cg.of (eqv_fun fun k => by rw [Xp.pw_one]))⟩, ?_, ?_, ?_⟩
    · rintro i x H4 H5 g4 ⟨v, rs, rfl, ev, m⟩
      exact ⟨v, rs, rfl, g4.tup ev, m⟩
    · rintro i j x y H4 g4 ⟨v, rs, rfl, ev, m⟩ ⟨u, us, rfl, eu, n⟩ Q' q
      have g14 := g13.trans g4
      refine ⟨(G3.trans g4).x _ _ e1 lamO_ne, (G3.trans g4).x _ _ e2 codeO_ne, b, v, u, R, rs, us, p, rfl, rfl, sqG g14 eb, ev, eu, lR, dR, m.po, n.po, g4.t, fun z zs H5 g5 ez rz => q _ H5 g5 ⟨z, zs, rfl, ez, rz.congr ?_⟩⟩
      rw [Xp.pw_add]
      exact m.cg.cv n.cg ((Xp.Fi.list xs).pw j) (Xp.Fi.list rs)
    · rintro z H4 g4 ⟨v, rs, rfl, ev, m⟩
      exact k v rs H4 (g13.trans g4) ev m
end
end Xk
end
section
set_option Elab.async false
set_option linter.all false
/-! ### counting tuples of rests -/
namespace Xp
theorem nodup_lenL : ∀ {a b : List (List Int)}, a.Nodup → (∀ s ∈ a, s ∈ b) → a.length ≤ b.length
  | [], b, _, _ => Nat.zero_le _
  | x :: a, b, na, h => by
    obtain ⟨n1, n2⟩ := List.nodup_cons.mp na
    have hx := h x List.mem_cons_self
    have z := nodup_lenL (a := a) (b := b.erase x) n2 fun s hs => by
      have ne : s ≠ x := fun e => n1 (e ▸ hs)
      exact (List.mem_erase_of_ne ne).mpr (h s (List.mem_cons_of_mem _ hs))
    rw [List.length_erase_of_mem hx] at z
    have := List.length_pos_of_mem hx
    rw [List.length_cons]
    omega
theorem nodup_map {f : List Int → List Int} : ∀ {a : List (List Int)}, a.Nodup → (∀ s ∈ a, ∀ t ∈ a, f s = f t → s = t) → (a.map f).Nodup
  | [], _, _ => List.nodup_nil
  | x :: a, na, h => by
    obtain ⟨n1, n2⟩ := List.nodup_cons.mp na
    rw [List.map_cons]
    refine List.nodup_cons.mpr ⟨fun m => ?_, nodup_map n2 fun s hs t ht => h s (List.mem_cons_of_mem _ hs) t (List.mem_cons_of_mem _ ht)⟩
    obtain ⟨y, hy, e⟩ := List.mem_map.mp m
    have := h y (List.mem_cons_of_mem _ hy) x List.mem_cons_self e
    exact n1 (this ▸ hy)
theorem inj_len {f : List Int → List Int} {a b : List (List Int)} (na : a.Nodup) (i : ∀ s ∈ a, ∀ t ∈ a, f s = f t → s = t) (h : ∀ s ∈ a, f s ∈ b) : a.length ≤ b.length := by
  have z := nodup_lenL (nodup_map na i) (b := b) fun s hs => by
    obtain ⟨t, ht, rfl⟩ := List.mem_map.mp hs
    exact h t ht
  rwa [List.length_map] at z
/-- all tuples of m rests, in the order of their making -/
def tp (p : Nat) : Nat → List (List Int)
  | 0 => [[]]
  | m + 1 => (tp p m).flatMap fun t => (List.range p).map fun x => t ++ [((x : Nat) : Int)]
theorem tp_mem {p : Nat} : ∀ {m : Nat} {t : List Int}, t ∈ tp p m ↔ t.length = m ∧ ∀ x ∈ t, 0 ≤ x ∧ x < (p : Int)
  | 0, t => by
    show t ∈ [[]] ↔ _
    rw [List.mem_singleton]
    constructor
    · rintro rfl
      exact ⟨rfl, fun x hx => (nomatch hx)⟩
    · exact fun h => List.length_eq_zero_iff.mp h.1
  | m + 1, t => by
    show t ∈ (tp p m).flatMap _ ↔ _
    rw [List.mem_flatMap]
    constructor
    · rintro ⟨u, hu, ht⟩
      obtain ⟨x, hx, rfl⟩ := List.mem_map.mp ht
      obtain ⟨l, r⟩ := tp_mem.mp hu
      refine ⟨by rw [List.length_append, l]; rfl, fun y hy => ?_⟩
      rcases List.mem_append.mp hy with hy | hy
      · exact r y hy
      · rw [List.mem_singleton.mp hy]
        have := List.mem_range.mp hx
        omega
    · rintro ⟨l, r⟩
      rcases List.eq_nil_or_concat t with rfl | ⟨u, x, rfl⟩
      · cases l
      · rw [List.length_concat] at l
        rw [List.concat_eq_append] at r ⊢
        obtain ⟨x0, x1⟩ := r x (by simp)
        obtain ⟨k, rfl⟩ := Int.eq_ofNat_of_zero_le x0
        exact ⟨u, tp_mem.mpr ⟨by omega, fun y hy => r y (List.mem_append_left _ hy)⟩, List.mem_map.mpr ⟨k, List.mem_range.mpr (by omega), rfl⟩⟩
theorem tp_len (p : Nat) : ∀ m, (tp p m).length = p ^ m
  | 0 => rfl
  | m + 1 => by
    show ((tp p m).flatMap _).length = _
    rw [List.length_flatMap]
    have : ((tp p m).map fun t => ((List.range p).map fun x => t ++ [((x : Nat) : Int)]).length) = List.replicate (p ^ m) p := by
      rw [← tp_len p m]
      generalize tp p m = ts
      induction ts with
      | nil => rfl
      | cons t ts ih =>
        rw [List.map_cons, ih, List.length_map, List.length_range]
        rfl
    rw [this, List.sum_replicate_nat, Nat.pow_succ]
theorem tp_nodup (p : Nat) : ∀ m, (tp p m).Nodup
  | 0 => by simp [tp]
  | m + 1 => by
    show ((tp p m).flatMap _).Nodup
    have ih := tp_nodup p m
    generalize tp p m = ts at ih
    induction ts with
    | nil => exact List.nodup_nil
    | cons t ts ih2 =>
      obtain ⟨n1, n2⟩ := List.nodup_cons.mp ih
      rw [List.flatMap_cons]
      refine List.nodup_append.mpr ⟨?_, ih2 n2, fun a ha b hb e => ?_⟩
      · refine List.pairwise_map.mpr (List.nodup_range.imp fun h e => h ?_)
        have := List.append_cancel_left e
        injection this with h1
        exact Int.ofNat.inj h1
      · obtain ⟨x, _, rfl⟩ := List.mem_map.mp ha
        obtain ⟨u, hu, hb⟩ := List.mem_flatMap.mp hb
        obtain ⟨y, _, rfl⟩ := List.mem_map.mp hb
        have := List.append_inj_left' e rfl
        exact n1 (this ▸ hu)
/-- as many as there are of another kind -/
theorem cnt {p n m : Nat} {P : List Int → Bool} (enc dec : List Int → List Int) (h1 : ∀ t ∈ tp p n, P t = true → enc t ∈ tp p m) (i1 : ∀ s t, s ∈ tp p n → t ∈ tp p n → P s = true → P t = true → enc s = enc t → s = t)
    (h2 : ∀ s ∈ tp p m, dec s ∈ tp p n ∧ P (dec s) = true) (i2 : ∀ s t, s ∈ tp p m → t ∈ tp p m → dec s = dec t → s = t) : ((tp p n).filter P).length = p ^ m := by
  have a := inj_len (f := enc) (a := (tp p n).filter P) (b := tp p m) ((tp_nodup p n).filter _) (fun s hs t ht e => by
    obtain ⟨s1, s2⟩ := List.mem_filter.mp hs
    obtain ⟨t1, t2⟩ := List.mem_filter.mp ht
    exact i1 s t s1 t1 s2 t2 e) (fun s hs => by
    obtain ⟨s1, s2⟩ := List.mem_filter.mp hs
    exact h1 s s1 s2)
  have b := inj_len (f := dec) (a := tp p m) (b := (tp p n).filter P) (tp_nodup p m) (fun s hs t ht e => i2 s t hs ht e) (fun s hs => by
    obtain ⟨d1, d2⟩ := h2 s hs
    exact List.mem_filter.mpr ⟨d1, d2⟩)
  rw [tp_len] at a b
  omega
theorem pow_inj {p a b : Nat} (hp : 2 ≤ p) (h : p ^ a = p ^ b) : a = b := by
  rcases Nat.lt_trichotomy a b with q | q | q
  · exact absurd h (Nat.ne_of_lt (Nat.pow_lt_pow_right (by omega) q))
  · exact q
  · exact absurd h.symm (Nat.ne_of_lt (Nat.pow_lt_pow_right (by omega) q))
end Xp
end
section
set_option linter.all false
/-! Rings, ideals, what they leave; domains with finitely many elements (no program in it). -/
namespace Xp
open Lean.Grind
/-- what makes a ring -/
structure Laws (R : Type) where
  add : R → R → R
  mul : R → R → R
  neg : R → R
  o : R
  e : R
  addC : ∀ a b, add a b = add b a
  addA : ∀ a b c, add (add a b) c = add a (add b c)
  addO : ∀ a, add a o = a
  addN : ∀ a, add (neg a) a = o
  mulC : ∀ a b, mul a b = mul b a
  mulA : ∀ a b c, mul (mul a b) c = mul a (mul b c)
  mulE : ∀ a, mul a e = a
  dis : ∀ a b c, mul a (add b c) = add (mul a b) (mul a c)
namespace Laws
variable {R : Type} (L : Laws R)
def nat : Nat → R
  | 0 => L.o
  | 1 => L.e
  | n + 2 => L.add (nat (n + 1)) L.e
def int : Int → R
  | .ofNat n => L.nat n
  | .negSucc n => L.neg (L.nat (n + 1))
def pow (a : R) : Nat → R
  | 0 => L.e
  | n + 1 => L.mul (pow a n) a
theorem canc {a b c : R} (h : L.add a b = L.add a c) : b = c := by
  have e : ∀ x, L.add (L.neg a) (L.add a x) = x := fun x => by rw [← L.addA, L.addN, L.addC, L.addO]
  rw [← e b, h, e c]
theorem mulO (a : R) : L.mul a L.o = L.o := by
  apply L.canc (a := L.mul a L.o)
  rw [← L.dis, L.addO, L.addO]
theorem negneg (a : R) : L.neg (L.neg a) = a := by
  apply L.canc (a := L.neg a)
  rw [L.addN, L.addC, L.addN]
theorem nego : L.neg L.o = L.o := by
  have h := L.addN L.o
  rwa [L.addO] at h
theorem neg_mul (a b : R) : L.mul (L.neg a) b = L.neg (L.mul a b) := by
  apply L.canc (a := L.mul a b)
  rw [L.addC _ (L.neg _), L.addN, L.mulC a b, L.mulC _ b, ← L.dis, L.addC, L.addN, L.mulO]
theorem int_neg : ∀ i : Int, L.int (-i) = L.neg (L.int i)
  | .ofNat 0 => L.nego.symm
  | .ofNat (n + 1) => rfl
  | .negSucc n => (L.negneg _).symm
@[reducible] def ring : CommRing R :=
  { add := L.add, mul := L.mul, neg := L.neg, sub := fun a b => L.add a (L.neg b)
    natCast := ⟨L.nat⟩, ofNat := fun n => ⟨L.nat n⟩, nsmul := ⟨fun n a => L.mul (L.nat n) a⟩, npow := ⟨fun a n => L.pow a n⟩
    intCast := ⟨L.int⟩, zsmul := ⟨fun i a => L.mul (L.int i) a⟩
    add_zero := L.addO, add_comm := L.addC, add_assoc := L.addA, mul_assoc := L.mulA, mul_one := L.mulE
    one_mul := fun a => (L.mulC _ _).trans (L.mulE a)
    left_distrib := L.dis
    right_distrib := fun a b c => by
      show L.mul (L.add a b) c = L.add (L.mul a c) (L.mul b c)
      rw [L.mulC, L.dis, L.mulC c a, L.mulC c b]
    zero_mul := fun a => (L.mulC _ _).trans (L.mulO a)
    mul_zero := L.mulO
    pow_zero := fun _ => rfl, pow_succ := fun _ _ => rfl
    ofNat_succ := fun n => match n with
      | 0 => ((L.addC _ _).trans (L.addO L.e)).symm
      | n + 1 => rfl
    ofNat_eq_natCast := fun _ => rfl
    nsmul_eq_natCast_mul := fun _ _ => rfl
    neg_add_cancel := L.addN
    sub_eq_add_neg := fun _ _ => rfl
    neg_zsmul := fun i a => by
      show L.mul (L.int (-i)) a = L.neg (L.mul (L.int i) a)
      rw [L.int_neg, L.neg_mul]
    zsmul_natCast_eq_nsmul := fun _ _ => rfl
    intCast_ofNat := fun _ => rfl
    intCast_neg := L.int_neg
    mul_comm := L.mulC }
end Laws
/-! ### ideals -/
structure Idl (R : Type) [CommRing R] where
  mem : R → Prop
  z : mem 0
  a : ∀ {x y}, mem x → mem y → mem (x + y)
  m : ∀ {x} (r : R), mem x → mem (x * r)
namespace Idl
variable {R : Type} [CommRing R] (I : Idl R)
theorem n {x : R} (h : I.mem x) : I.mem (-x) := by
  have := I.m (-1) h
  rwa [show x * -1 = -x from by grind] at this
theorem s {x y : R} (h : I.mem x) (k : I.mem y) : I.mem (x - y) := by
  have := I.a h (I.n k)
  rwa [show x + -y = x - y from by grind] at this
theorem as {x y : R} (h : I.mem x) (e : x = y) : I.mem y := e ▸ h
def setoid : Setoid R where
  r x y := I.mem (x - y)
  iseqv := ⟨fun x => I.as I.z (by grind), fun h => I.as (I.n h) (by grind), fun h k => I.as (I.a h k) (by grind)⟩
end Idl
def Qu {R : Type} [CommRing R] (I : Idl R) := Quotient I.setoid
namespace Qu
variable {R : Type} [CommRing R] {I : Idl R}
def mk (a : R) : Qu I := Quotient.mk I.setoid a
theorem snd {a b : R} (h : I.mem (a - b)) : mk (I := I) a = mk b := Quotient.sound (s := I.setoid) h
theorem ex {a b : R} (h : mk (I := I) a = mk b) : I.mem (a - b) := Quotient.exact (s := I.setoid) h
theorem rep (x : Qu I) : ∃ a, x = mk a := Quotient.inductionOn (s := I.setoid) x fun a => ⟨a, rfl⟩
def un (f : R → R) (h : ∀ a b, I.mem (a - b) → I.mem (f a - f b)) (x : Qu I) : Qu I := Quotient.lift (s := I.setoid) (fun a => mk (f a)) (fun a b e => snd (h a b e)) x
def bi (f : R → R → R) (h : ∀ a b c d, I.mem (a - c) → I.mem (b - d) → I.mem (f a b - f c d)) (x y : Qu I) : Qu I := Quotient.lift₂ (s₁ := I.setoid) (s₂ := I.setoid) (fun a b => mk (f a b)) (fun a b c d e g => snd (h a b c d e g)) x y
def laws (I : Idl R) : Laws (Qu I) where
  add := bi (· + ·) fun a b c d h k => I.as (I.a h k) (by grind)
  mul := bi (· * ·) fun a b c d h k => I.as (I.a (I.m b h) (I.m c k)) (by grind)
  neg := un (- ·) fun a b h => I.as (I.n h) (by grind)
  o := mk 0
  e := mk 1
  addC x y := by
    obtain ⟨a, rfl⟩ := rep x; obtain ⟨b, rfl⟩ := rep y
    exact congrArg mk (Semiring.add_comm a b)
  addA x y z := by
    obtain ⟨a, rfl⟩ := rep x; obtain ⟨b, rfl⟩ := rep y; obtain ⟨c, rfl⟩ := rep z
    exact congrArg mk (Semiring.add_assoc a b c)
  addO x := by
    obtain ⟨a, rfl⟩ := rep x
    exact congrArg mk (Semiring.add_zero a)
  addN x := by
    obtain ⟨a, rfl⟩ := rep x
    exact congrArg mk (Ring.neg_add_cancel a)
  mulC x y := by
    obtain ⟨a, rfl⟩ := rep x; obtain ⟨b, rfl⟩ := rep y
    exact congrArg mk (CommSemiring.mul_comm a b)
  mulA x y z := by
    obtain ⟨a, rfl⟩ := rep x; obtain ⟨b, rfl⟩ := rep y; obtain ⟨c, rfl⟩ := rep z
    exact congrArg mk (Semiring.mul_assoc a b c)
  mulE x := by
    obtain ⟨a, rfl⟩ := rep x
    exact congrArg mk (Semiring.mul_one a)
  dis x y z := by
    obtain ⟨a, rfl⟩ := rep x; obtain ⟨b, rfl⟩ := rep y; obtain ⟨c, rfl⟩ := rep z
    exact congrArg mk (Semiring.left_distrib a b c)
instance : CommRing (Qu I) := (laws I).ring
theorem mk_add (a b : R) : mk (I := I) (a + b) = mk a + mk b := rfl
theorem mk_mul (a b : R) : mk (I := I) (a * b) = mk a * mk b := rfl
theorem mk_neg (a : R) : mk (I := I) (-a) = -mk a := rfl
theorem mk_sub (a b : R) : mk (I := I) (a - b) = mk a - mk b := by
  rw [Ring.sub_eq_add_neg, Ring.sub_eq_add_neg]
  rfl
theorem mk_zero : mk (I := I) 0 = 0 := rfl
theorem mk_one : mk (I := I) 1 = 1 := rfl
theorem mk_pow (a : R) : ∀ n : Nat, mk (I := I) (a ^ n) = mk a ^ n
  | 0 => by rw [Semiring.pow_zero, Semiring.pow_zero, mk_one]
  | n + 1 => by rw [Semiring.pow_succ, Semiring.pow_succ, mk_mul, mk_pow a n]
theorem zero_iff {a : R} : mk (I := I) a = 0 ↔ I.mem a :=
  ⟨fun h => I.as (ex (b := 0) h) (by grind), fun h => snd (b := 0) (I.as h (by grind))⟩
theorem eq_iff {a b : R} : mk (I := I) a = mk b ↔ I.mem (a - b) := ⟨ex, snd⟩
end Qu
/-! ### domains -/
class Dm (R : Type) [CommRing R] : Prop where
  ne : (1 : R) ≠ 0
  int : ∀ {a b : R}, a * b = 0 → a = 0 ∨ b = 0
/-- a list of all elements, each once -/
structure Al (R : Type) (L : List R) : Prop where
  nd : L.Nodup
  all : ∀ a, a ∈ L
def prd {R : Type} [CommRing R] : List R → R
  | [] => 1
  | x :: l => x * prd l
theorem prd_perm {R : Type} [CommRing R] {a b : List R} (h : a.Perm b) : prd a = prd b := by
  induction h with
  | nil => rfl
  | cons x _ ih => exact congrArg (x * ·) ih
  | swap x y l =>
    show y * (x * prd l) = x * (y * prd l)
    grind
  | trans _ _ a b => exact a.trans b
theorem prd_map {R : Type} [CommRing R] (c : R) : ∀ l : List R, prd (l.map (c * ·)) = c ^ l.length * prd l
  | [] => by
    show (1 : R) = c ^ 0 * 1
    rw [Semiring.pow_zero, Semiring.mul_one]
  | x :: l => by
    show c * x * prd (l.map (c * ·)) = c ^ (l.length + 1) * (x * prd l)
    rw [prd_map c l, Semiring.pow_succ]
    grind
theorem prd_ne {R : Type} [CommRing R] [Dm R] : ∀ {l : List R}, (∀ x ∈ l, x ≠ 0) → prd l ≠ 0
  | [], _ => Dm.ne
  | x :: l, h => fun e => (Dm.int e).elim (h x List.mem_cons_self) (prd_ne fun y hy => h y (List.mem_cons_of_mem _ hy))
theorem can {R : Type} [CommRing R] [Dm R] {a b c : R} (ha : a ≠ 0) (h : a * b = a * c) : b = c := by
  have : a * (b - c) = 0 := by grind
  rcases Dm.int this with e | e
  · exact absurd e ha
  · grind
open Classical in
theorem perm_of {R : Type} : ∀ {a b : List R}, a.Nodup → (∀ x ∈ a, x ∈ b) → b.length ≤ a.length → a.Perm b
  | [], b, _, _, l => by
    have : b = [] := List.eq_nil_of_length_eq_zero (Nat.le_zero.mp l)
    rw [this]
  | x :: t, b, nd, h, l => by
    obtain ⟨n1, n2⟩ := List.nodup_cons.mp nd
    have hx := h x List.mem_cons_self
    have pe := List.perm_cons_erase hx
    have le := pe.length_eq
    refine (List.Perm.cons x (perm_of n2 (fun y hy => ?_) ?_)).trans pe.symm
    · have hy2 := pe.subset (h y (List.mem_cons_of_mem _ hy))
      rcases List.mem_cons.mp hy2 with rfl | hy2
      · exact absurd hy n1
      · exact hy2
    · simp only [List.length_cons] at l le
      omega
theorem nodup_mapI {A B : Type} {f : A → B} : ∀ {a : List A}, a.Nodup → (∀ s ∈ a, ∀ t ∈ a, f s = f t → s = t) → (a.map f).Nodup
  | [], _, _ => List.nodup_nil
  | x :: t, nd, h => by
    obtain ⟨n1, n2⟩ := List.nodup_cons.mp nd
    refine List.nodup_cons.mpr ⟨fun m => ?_, nodup_mapI n2 fun s hs u hu => h s (List.mem_cons_of_mem _ hs) u (List.mem_cons_of_mem _ hu)⟩
    obtain ⟨y, hy, e⟩ := List.mem_map.mp m
    have := h x List.mem_cons_self y (List.mem_cons_of_mem _ hy) e.symm
    exact n1 (this ▸ hy)
theorem nodup_le {A : Type} : ∀ {a b : List A}, a.Nodup → (∀ s ∈ a, s ∈ b) → a.length ≤ b.length
  | [], b, _, _ => Nat.zero_le _
  | x :: t, b, nd, h => by
    classical
    obtain ⟨n1, n2⟩ := List.nodup_cons.mp nd
    have pe := List.perm_cons_erase (h x List.mem_cons_self)
    have le := pe.length_eq
    have := nodup_le (b := b.erase x) n2 fun y hy => by
      have hy2 := pe.subset (h y (List.mem_cons_of_mem _ hy))
      rcases List.mem_cons.mp hy2 with rfl | hy2
      · exact absurd hy n1
      · exact hy2
    simp only [List.length_cons] at le ⊢
    omega
open Classical in
/-- the elements that aren't nought -/
noncomputable def nzl {R : Type} [CommRing R] (L : List R) : List R := L.filter fun x => decide (x ≠ 0)
theorem nzl_mem {R : Type} [CommRing R] {L : List R} (h : Al R L) {x : R} : x ∈ nzl L ↔ x ≠ 0 := by
  unfold nzl
  rw [List.mem_filter]
  simp [h.all x]
theorem nzl_len {R : Type} [CommRing R] {L : List R} (h : Al R L) : (nzl L).length + 1 = L.length := by
  have n0 : (0 : R) ∉ nzl L := fun m => (nzl_mem h).mp m rfl
  have nd : (nzl L).Nodup := h.nd.filter _
  have p : (0 :: nzl L).Perm L := (List.perm_ext_iff_of_nodup (List.nodup_cons.mpr ⟨n0, nd⟩) h.nd).mpr fun a => by
    constructor
    · exact fun _ => h.all a
    · intro _
      by_cases e : a = 0
      · rw [e]; exact List.mem_cons_self
      · exact List.mem_cons_of_mem _ ((nzl_mem h).mpr e)
  have := p.length_eq
  simpa using this
theorem fermat1 {R : Type} [CommRing R] [Dm R] {L : List R} (h : Al R L) {a : R} (ha : a ≠ 0) : a ^ (nzl L).length = 1 := by
  have nd : (nzl L).Nodup := h.nd.filter _
  have nm : ((nzl L).map (a * ·)).Nodup := nodup_mapI nd fun s _ t _ e => can ha e
  have pm : ((nzl L).map (a * ·)).Perm (nzl L) := perm_of nm (fun x hx => by
    obtain ⟨y, hy, rfl⟩ := List.mem_map.mp hx
    refine (nzl_mem h).mpr fun e => ?_
    rcases Dm.int e with e | e
    · exact ha e
    · exact (nzl_mem h).mp hy e) (by rw [List.length_map]; exact Nat.le_refl _)
  have e := prd_perm pm
  rw [prd_map] at e
  have pn : prd (nzl L) ≠ 0 := prd_ne fun x hx => (nzl_mem h).mp hx
  exact can pn (by grind)
theorem zero_pow {R : Type} [CommRing R] {n : Nat} (h : 0 < n) : (0 : R) ^ n = 0 := by
  obtain ⟨m, rfl⟩ : ∃ m, n = m + 1 := ⟨n - 1, by omega⟩
  rw [Semiring.pow_succ, Semiring.mul_zero]
/-- each element to the count of all is itself -/
theorem fermat {R : Type} [CommRing R] [Dm R] {L : List R} (h : Al R L) (a : R) : a ^ L.length = a := by
  rw [← nzl_len h]
  by_cases ha : a = 0
  · rw [ha, zero_pow (by omega)]
  · rw [Semiring.pow_succ, fermat1 h ha, Semiring.one_mul]
/-- each but nought can be undone -/
theorem undo {R : Type} [CommRing R] [Dm R] {L : List R} (h : Al R L) {a : R} (ha : a ≠ 0) : ∃ b, a * b = 1 := by
  have e := fermat1 h ha
  have l : 0 < (nzl L).length := List.length_pos_of_mem ((nzl_mem h).mpr ha)
  obtain ⟨m, hm⟩ : ∃ m, (nzl L).length = m + 1 := ⟨(nzl L).length - 1, by omega⟩
  rw [hm, Semiring.pow_succ] at e
  exact ⟨a ^ m, by grind⟩
/-! ### how many roots -/
/-- a polynomial function of a degree below n -/
def Lo {R : Type} [CommRing R] : Nat → (R → R) → Prop
  | 0, g => ∀ x, g x = 0
  | n + 1, g => ∃ (h : R → R) (c : R), Lo n h ∧ ∀ x, g x = x * h x + c
/-- a level polynomial function of degree n -/
def Mo {R : Type} [CommRing R] : Nat → (R → R) → Prop
  | 0, g => ∀ x, g x = 1
  | n + 1, g => ∃ (h : R → R) (c : R), Mo n h ∧ ∀ x, g x = x * h x + c
section
variable {R : Type} [CommRing R]
theorem Lo.up : ∀ {n : Nat} {g : R → R}, Lo n g → Lo (n + 1) g
  | 0, g, h => ⟨fun _ => 0, 0, fun _ => rfl, fun x => by rw [h x]; grind⟩
  | n + 1, g, ⟨h, c, l, e⟩ => ⟨h, c, Lo.up l, e⟩
theorem Lo.to {n m : Nat} (h : n ≤ m) {g : R → R} (l : Lo n g) : Lo m g := by
  induction h with
  | refl => exact l
  | step _ ih => exact ih.up
theorem Mo.lo : ∀ {n : Nat} {g : R → R}, Mo n g → Lo (n + 1) g
  | 0, g, h => ⟨fun _ => 0, 1, fun _ => rfl, fun x => by rw [h x]; grind⟩
  | n + 1, g, ⟨h, c, l, e⟩ => ⟨h, c, Mo.lo l, e⟩
theorem Lo.sc (b : R) : ∀ {n : Nat} {g : R → R}, Lo n g → Lo n fun x => b * g x
  | 0, g, h => fun x => by
    show b * g x = 0
    rw [h x]; grind
  | n + 1, g, ⟨h, c, l, e⟩ => ⟨fun x => b * h x, b * c, Lo.sc b l, fun x => by
    show b * g x = _
    rw [e x]; grind⟩
theorem Lo.ad : ∀ {n : Nat} {g k : R → R}, Lo n g → Lo n k → Lo n fun x => g x + k x
  | 0, g, k, h, h2 => fun x => by
    show g x + k x = 0
    rw [h x, h2 x]; grind
  | n + 1, g, k, ⟨h, c, l, e⟩, ⟨h2, c2, l2, e2⟩ => ⟨fun x => h x + h2 x, c + c2, Lo.ad l l2, fun x => by
    show g x + k x = _
    rw [e x, e2 x]; grind⟩
theorem Mo.ad : ∀ {n : Nat} {g k : R → R}, Mo n g → Lo n k → Mo n fun x => g x + k x
  | 0, g, k, h, h2 => fun x => by
    show g x + k x = 1
    rw [h x, h2 x]; grind
  | n + 1, g, k, ⟨h, c, l, e⟩, ⟨h2, c2, l2, e2⟩ => ⟨fun x => h x + h2 x, c + c2, Mo.ad l l2, fun x => by
    show g x + k x = _
    rw [e x, e2 x]; grind⟩
theorem Mo.pw : ∀ n : Nat, Mo n fun x : R => x ^ n
  | 0 => fun x => Semiring.pow_zero x
  | n + 1 => ⟨fun x => x ^ n, 0, Mo.pw n, fun x => by
    show x ^ (n + 1) = _
    rw [Semiring.pow_succ]; grind⟩
/-- a root's part taken off -/
theorem Mo.off (a : R) : ∀ {n : Nat} {g : R → R}, Mo (n + 1) g → ∃ h, Mo n h ∧ ∀ x, g x = (x - a) * h x + g a
  | 0, g, ⟨h, c, l, e⟩ => ⟨h, l, fun x => by
    have h1 : h x = 1 := l x
    have h2 : h a = 1 := l a
    rw [e x, e a, h1, h2]; grind⟩
  | n + 1, g, ⟨h, c, l, e⟩ => by
    obtain ⟨k, lk, ek⟩ := Mo.off a l
    refine ⟨fun x => h x + a * k x, l.ad (lk.lo.sc a), fun x => ?_⟩
    have := ek x
    show g x = (x - a) * (h x + a * k x) + g a
    rw [e x, e a]
    grind
theorem Mo.roots [Dm R] : ∀ {n : Nat} {g : R → R}, Mo n g → ∀ {l : List R}, l.Nodup → (∀ x ∈ l, g x = 0) → l.length ≤ n
  | 0, g, h, l, _, z => by
    match l with
    | [] => exact Nat.le_refl _
    | x :: _ => exact absurd ((h x).symm.trans (z x List.mem_cons_self)) Dm.ne
  | n + 1, g, h, l, nd, z => by
    match l with
    | [] => exact Nat.zero_le _
    | a :: t =>
      obtain ⟨n1, n2⟩ := List.nodup_cons.mp nd
      obtain ⟨k, lk, ek⟩ := h.off a
      have := Mo.roots lk n2 fun x hx => by
        have e := ek x
        rw [z x (List.mem_cons_of_mem _ hx), z a List.mem_cons_self] at e
        have e2 : (x - a) * k x = 0 := by grind
        rcases Dm.int e2 with e3 | e3
        · refine absurd hx ?_
          have : x = a := by grind
          rw [this]
          exact n1
        · exact e3
      simp only [List.length_cons]
      omega
/-- few are their own power -/
theorem few [Dm R] {q : Nat} (hq : 2 ≤ q) {l : List R} (nd : l.Nodup) (h : ∀ x ∈ l, x ^ q = x) : l.length ≤ q := by
  have lo : Lo q fun x : R => -x := Lo.to hq ⟨fun _ => -1, 0, ⟨fun _ => 0, -1, fun _ => rfl, fun x => by grind⟩, fun x => by grind⟩
  refine Mo.roots ((Mo.pw (R := R) q).ad lo) nd fun x hx => ?_
  show x ^ q + -x = 0
  rw [h x hx]
  grind
end
end Xp
end
section
set_option linter.all false
/-! Polynomials as a ring, what a prime and a rule leave of it, whole rules (no program in it). -/
namespace Xp
open Lean.Grind
structure Po where
  c : Cf
  fi : Fi c
theorem Po.ext {a b : Po} (h : a.c = b.c) : a = b := by
  cases a; cases b
  cases h
  rfl
def poL : Laws Po where
  add a b := ⟨ad a.c b.c, a.fi.ad b.fi⟩
  mul a b := ⟨cv a.c b.c, a.fi.cv b.fi⟩
  neg a := ⟨sc (-1) a.c, a.fi.sc (-1)⟩
  o := ⟨nul, Fi.nul⟩
  e := ⟨one, Fi.one⟩
  addC a b := Po.ext (adC _ _)
  addA a b c := Po.ext (adA _ _ _)
  addO a := Po.ext (ad_nul _)
  addN a := Po.ext ((adC _ _).trans (ad_neg _))
  mulC a b := Po.ext (cvC _ _)
  mulA a b c := Po.ext (cvA _ _ _)
  mulE a := Po.ext (cv1 _)
  dis a b c := Po.ext (cv_ad _ _ _)
instance : CommRing Po := poL.ring
theorem Po.add_c (a b : Po) : (a + b).c = ad a.c b.c := rfl
theorem Po.mul_c (a b : Po) : (a * b).c = cv a.c b.c := rfl
theorem Po.neg_c (a : Po) : (-a).c = sc (-1) a.c := rfl
theorem Po.sub_c (a b : Po) : (a - b).c = ad a.c (sc (-1) b.c) := rfl
theorem Po.zero_c : (0 : Po).c = nul := rfl
theorem Po.one_c : (1 : Po).c = one := rfl
theorem Po.pow_c (a : Po) : ∀ n : Nat, (a ^ n).c = pw a.c n
  | 0 => by rw [Semiring.pow_zero]; rfl
  | n + 1 => by
    rw [Semiring.pow_succ, Po.mul_c, Po.pow_c a n, cvC]
    rfl
/-- a number as a polynomial -/
def Po.C (n : Int) : Po := ⟨sc n one, Fi.one.sc n⟩
def Po.X : Po := ⟨xs one, ⟨2, fun k hk => by
  obtain ⟨j, rfl⟩ : ∃ j, k = j + 2 := ⟨k - 2, by omega⟩
  show one (j + 1) = 0
  exact if_neg (by omega)⟩⟩
theorem Po.C_add (m n : Int) : Po.C (m + n) = Po.C m + Po.C n := Po.ext (ad_sc m n one)
theorem Po.C_one : Po.C 1 = 1 := Po.ext (sc_one one)
theorem Po.C_zero : Po.C 0 = 0 := Po.ext (sc_zero one)
theorem Po.C_mul (m n : Int) : Po.C (m * n) = Po.C m * Po.C n := Po.ext (by
  show sc (m * n) one = cv (sc m one) (sc n one)
  rw [sc_cv, cv_sc, cv1, sc_sc])
/-- multiples of a rule, by a prime -/
def idl (p : Int) (f : Cf) : Idl Po where
  mem x := Dv p f x.c
  z := Dv.zero p f
  a h k := Dv.add h k
  m r h := by
    show Dv p f (cv _ _)
    rw [cvC]
    exact Dv.cv r.fi h
abbrev Fq (p : Int) (f : Cf) := Qu (idl p f)
/-- list as coefficients -/
abbrev cf (ms : List Int) : Cf := fun k => ms.getD k 0
def Po.of (ms : List Int) : Po := ⟨cf ms, Fi.list ms⟩
def el (p : Int) (f : Cf) (ms : List Int) : Fq p f := Qu.mk (Po.of ms)
theorem mk_eq {p : Int} {f : Cf} {a b : Po} : (Qu.mk a : Fq p f) = Qu.mk b ↔ Cg p f a.c b.c := Qu.eq_iff
theorem mk_zero {p : Int} {f : Cf} {a : Po} : (Qu.mk a : Fq p f) = 0 ↔ Dv p f a.c := Qu.zero_iff
theorem el_eq {p : Int} {f : Cf} {a b : List Int} : el p f a = el p f b ↔ Cg p f (cf a) (cf b) := Qu.eq_iff
theorem Dv.cg {p : Int} {f x : Cf} : Dv p f x ↔ Cg p f x nul := by
  unfold Cg
  rw [sc_nul, ad_nul]
/-! ### a rule of a degree -/
/-- p is a prime, in the sense that what isn't nought by it can be undone -/
def Pr (p : Int) : Prop := 2 ≤ p ∧ ∀ a : Int, a % p ≠ 0 → ∃ c, (c * a) % p = 1
/-- of degree d -/
structure Dg (p : Int) (d : Nat) (f : Cf) : Prop where
  top : ∃ c, (c * f d) % p = 1
  out : ∀ k, d < k → f k = 0
def xsn : Nat → Cf → Cf
  | 0, h => h
  | n + 1, h => xs (xsn n h)
theorem cv_xs (h g : Cf) : cv (xs h) g = xs (cv h g) := by
  rw [cv_head]
  show ad (sc 0 g) (xs (cv h g)) = _
  rw [sc_zero, nul_ad]
theorem cv_xsn (g : Cf) : ∀ n h, cv (xsn n h) g = xsn n (cv h g)
  | 0, h => rfl
  | n + 1, h => by
    show cv (xs (xsn n h)) g = xs (xsn n (cv h g))
    rw [cv_xs, cv_xsn g n]
theorem xsn_at : ∀ (n : Nat) (h : Cf) (k : Nat), xsn n h (n + k) = h k
  | 0, h, k => by rw [Nat.zero_add]; rfl
  | n + 1, h, k => by
    rw [Nat.add_right_comm]
    exact xsn_at n h k
theorem Fi.xs {h : Cf} (f : Fi h) : Fi (xs h) := by
  obtain ⟨n, hn⟩ := f
  refine ⟨n + 1, fun k hk => ?_⟩
  match k, hk with
  | k + 1, hk => exact hn k (by omega)
theorem Fi.xsn {h : Cf} (f : Fi h) : ∀ n, Fi (xsn n h)
  | 0 => f
  | n + 1 => (Fi.xsn f n).xs
theorem one_mod {p : Int} (h : 2 ≤ p) : (1 : Int) % p = 1 := Int.emod_eq_of_lt (by omega) (by omega)
/-- what a rule leaves, as rests -/
theorem rem_ex {p : Nat} (hp : 2 ≤ p) {d : Nat} {f : Cf} (D : Dg p d f) : ∀ (N : Nat) (x : Cf), (∀ k, N ≤ k → x k % (p : Int) = 0) → ∃ r ∈ tp p d, Cg p f x (cf r)
  | 0, x, h => by
    refine ⟨(List.range d).map fun _ => 0, tp_mem.mpr ⟨by simp, fun y hy => ?_⟩, Cg.of fun k => ?_⟩
    · obtain ⟨_, _, rfl⟩ := List.mem_map.mp hy
      omega
    · rw [h k (Nat.zero_le _)]
      have : ((List.range d).map fun _ => (0 : Int)).getD k 0 = 0 := by
        rw [List.getD_eq_getElem?_getD, List.getElem?_map]
        cases (List.range d)[k]? <;> rfl
      rw [show cf ((List.range d).map fun _ => (0 : Int)) k = 0 from this, Int.zero_emod]
  | N + 1, x, h => by
    by_cases hd : N < d
    · refine ⟨(List.range d).map fun k => x k % (p : Int), tp_mem.mpr ⟨by simp, fun y hy => ?_⟩, Cg.of fun k => ?_⟩
      · obtain ⟨k, _, rfl⟩ := List.mem_map.mp hy
        exact ⟨Int.emod_nonneg _ (by omega), Int.emod_lt_of_pos _ (by omega)⟩
      · show x k % (p : Int) = (((List.range d).map fun k => x k % (p : Int)).getD k 0) % (p : Int)
        rw [List.getD_eq_getElem?_getD, List.getElem?_map]
        by_cases hk : k < d
        · rw [List.getElem?_range hk]
          show _ = x k % (p : Int) % (p : Int)
          rw [Int.emod_emod_of_dvd _ (Int.dvd_refl _)]
        · rw [List.getElem?_eq_none (by simp; omega)]
          show _ = 0 % (p : Int)
          rw [h k (by omega), Int.zero_emod]
    · obtain ⟨c, hc⟩ := D.top
      have key : Cg p f x (ad x (sc (-(x N * c)) (xsn (N - d) f))) := by
        have e : Dv p f (sc (x N * c) (xsn (N - d) f)) := by
          refine Dv.scale _ ?_
          have := Dv.of p f (Fi.one.xsn (N - d))
          rwa [cvC, cv_xsn, one_cv] at this
        refine Dv.congr e fun k => ?_
        show (x N * c * xsn (N - d) f k) % (p : Int) = (x k + -1 * (x k + -(x N * c) * xsn (N - d) f k)) % (p : Int)
        congr 1
        grind
      obtain ⟨r, hr, cr⟩ := rem_ex hp D N (ad x (sc (-(x N * c)) (xsn (N - d) f))) fun k hk => by
        show (x k + -(x N * c) * xsn (N - d) f k) % (p : Int) = 0
        obtain ⟨j, rfl⟩ : ∃ j, k = (N - d) + j := ⟨k - (N - d), by omega⟩
        rw [xsn_at]
        by_cases hj : j = d
        · rw [hj, show N - d + d = N by omega, show x N + -(x N * c) * f d = x N * (1 - c * f d) by grind, Int.mul_emod, Int.sub_emod, hc, one_mod (by omega)]
          simp
        · rw [D.out j (by omega), Int.mul_zero, Int.add_zero]
          exact h _ (by omega)
      exact ⟨r, hr, key.trans cr⟩
theorem rem_of {p : Nat} (hp : 2 ≤ p) {d : Nat} {f : Cf} (D : Dg p d f) {x : Cf} (h : Fi x) : ∃ r ∈ tp p d, Cg p f x (cf r) := by
  obtain ⟨N, hN⟩ := h
  exact rem_ex hp D N x fun k hk => by rw [hN k hk, Int.zero_emod]
theorem cf_out {r : List Int} {k : Nat} (h : r.length ≤ k) : cf r k = 0 := by
  show r.getD k 0 = 0
  rw [List.getD_eq_getElem?_getD, List.getElem?_eq_none h]
  rfl
theorem cf_in {r : List Int} {p : Int} (h : ∀ x ∈ r, 0 ≤ x ∧ x < p) (hp : 0 < p) (k : Nat) : 0 ≤ cf r k ∧ cf r k < p := by
  show 0 ≤ r.getD k 0 ∧ r.getD k 0 < p
  rw [List.getD_eq_getElem?_getD]
  by_cases hk : k < r.length
  · rw [List.getElem?_eq_getElem hk]
    exact h _ (List.getElem_mem hk)
  · rw [List.getElem?_eq_none (by omega)]
    exact ⟨Int.le_refl _, hp⟩
/-- short and a multiple: nought -/
theorem short_zero {p : Int} (hp : 2 ≤ p) {d : Nat} {f x : Cf} (D : Dg p d f) (hx : ∀ k, d ≤ k → x k % p = 0) (h : Dv p f x) : Eqm p x nul := by
  obtain ⟨t, ft, et⟩ := h
  obtain ⟨c, hc⟩ := D.top
  have z := short_nought (hc.trans (one_mod hp).symm) D.out ft hx et
  intro k
  rw [et k, (Eqm.refl p f).cv z k]
  show cv f nul k % p = _
  rw [cv_nul]
theorem tp_eq {p : Nat} (hp : 2 ≤ p) {d : Nat} {r s : List Int} (hr : r ∈ tp p d) (hs : s ∈ tp p d) (h : Eqm p (cf r) (cf s)) : r = s := by
  obtain ⟨l1, b1⟩ := tp_mem.mp hr
  obtain ⟨l2, b2⟩ := tp_mem.mp hs
  have e : ∀ k, cf r k = cf s k := fun k => by
    obtain ⟨u1, u2⟩ := cf_in b1 (by omega) k
    obtain ⟨v1, v2⟩ := cf_in b2 (by omega) k
    have := h k
    rwa [Int.emod_eq_of_lt u1 u2, Int.emod_eq_of_lt v1 v2] at this
  refine List.ext_getElem (by omega) fun k h1 h2 => ?_
  have := e k
  show r[k] = s[k]
  have a : cf r k = r[k] := by
    show r.getD k 0 = _
    rw [List.getD_eq_getElem?_getD, List.getElem?_eq_getElem h1]
    rfl
  have b : cf s k = s[k] := by
    show s.getD k 0 = _
    rw [List.getD_eq_getElem?_getD, List.getElem?_eq_getElem h2]
    rfl
  rw [← a, ← b, this]
theorem rem_one {p : Nat} (hp : 2 ≤ p) {d : Nat} {f : Cf} (D : Dg p d f) {r s : List Int} (hr : r ∈ tp p d) (hs : s ∈ tp p d) (h : Cg p f (cf r) (cf s)) : r = s := by
  refine tp_eq hp hr hs fun k => ?_
  have z := short_zero (by omega) D (x := ad (cf r) (sc (-1) (cf s))) (fun k hk => by
    show (cf r k + -1 * cf s k) % (p : Int) = 0
    rw [cf_out (by rw [(tp_mem.mp hr).1]; exact hk), cf_out (by rw [(tp_mem.mp hs).1]; exact hk)]
    simp) h k
  have z : (cf r k + -1 * cf s k) % (p : Int) = 0 := z.trans (Int.zero_emod _)
  have z : (cf r k - cf s k) % (p : Int) = 0 := by
    rw [← z]
    congr 1
    grind
  exact Int.emod_eq_emod_iff_emod_sub_eq_zero.mpr z
/-- all elements by a rule -/
def els (p : Nat) (d : Nat) (f : Cf) : List (Fq p f) := (tp p d).map (el p f)
theorem els_al {p : Nat} (hp : 2 ≤ p) {d : Nat} {f : Cf} (D : Dg p d f) : Al (Fq p f) (els p d f) := by
  refine ⟨nodup_mapI (tp_nodup p d) fun r hr s hs e => rem_one hp D hr hs (el_eq.mp e), fun x => ?_⟩
  obtain ⟨a, rfl⟩ := Qu.rep x
  obtain ⟨r, hr, e⟩ := rem_of hp D a.fi
  exact List.mem_map.mpr ⟨r, hr, (mk_eq.mpr e).symm⟩
theorem els_len {p d : Nat} {f : Cf} : (els p d f).length = p ^ d := by
  unfold els
  rw [List.length_map, tp_len]
/-! ### whole rules -/
/-- the level polynomial above a tuple -/
abbrev lv (t : List Int) : Cf := cf (t ++ [1])
theorem lv_dg {p : Nat} (hp : 2 ≤ p) {d : Nat} {t : List Int} (h : t ∈ tp p d) : Dg p d (lv t) := by
  have l := (tp_mem.mp h).1
  refine ⟨⟨1, ?_⟩, fun k hk => cf_out (by rw [List.length_append, l]; exact hk)⟩
  show (1 * (t ++ [1]).getD d 0) % (p : Int) = 1
  rw [List.getD_eq_getElem?_getD, List.getElem?_append_right (by omega), l, Nat.sub_self]
  show (1 * 1 : Int) % (p : Int) = 1
  exact one_mod (by omega)
/-- nothing between divides it -/
def Irr (p : Nat) (d : Nat) (f : Cf) : Prop := ∀ e, 1 ≤ e → e < d → ∀ t ∈ tp p e, ¬ Dv p (lv t) f
/-- the degree of what isn't nought -/
theorem deg_ex {p : Int} : ∀ (N : Nat) {x : Cf}, (∀ k, N ≤ k → x k % p = 0) → ¬ Eqm p x nul → ∃ e, e < N ∧ x e % p ≠ 0 ∧ ∀ k, e < k → x k % p = 0
  | 0, x, h, hx => absurd (fun k => (h k (Nat.zero_le _)).trans (Int.zero_emod p).symm) hx
  | N + 1, x, h, hx => by
    by_cases z : x N % p = 0
    · obtain ⟨e, h1, h2, h3⟩ := deg_ex N (x := x) (fun k hk => by
        by_cases e : k = N
        · rw [e, z]
        · exact h k (by omega)) hx
      exact ⟨e, by omega, h2, h3⟩
    · exact ⟨N, by omega, z, fun k hk => h k (by omega)⟩
/-- made level -/
theorem lv_ex {p : Nat} (hp : Pr p) {e : Nat} {x : Cf} (h : x e % (p : Int) ≠ 0) (o : ∀ k, e < k → x k % (p : Int) = 0) : ∃ t ∈ tp p e, ∃ c, Eqm p (lv t) (sc c x) := by
  obtain ⟨p2, hp⟩ := hp
  obtain ⟨c, hc⟩ := hp _ h
  refine ⟨(List.range e).map fun k => (c * x k) % (p : Int), tp_mem.mpr ⟨by simp, fun y hy => ?_⟩, c, fun k => ?_⟩
  · obtain ⟨k, _, rfl⟩ := List.mem_map.mp hy
    exact ⟨Int.emod_nonneg _ (by omega), Int.emod_lt_of_pos _ (by omega)⟩
  · show (((List.range e).map fun k => (c * x k) % (p : Int)) ++ [1]).getD k 0 % (p : Int) = (c * x k) % (p : Int)
    rw [List.getD_eq_getElem?_getD]
    by_cases hk : k < e
    · rw [List.getElem?_append_left (by simpa using hk), List.getElem?_map, List.getElem?_range hk]
      show (c * x k) % (p : Int) % (p : Int) = _
      rw [Int.emod_emod_of_dvd _ (Int.dvd_refl _)]
    · rw [List.getElem?_append_right (by simpa using hk)]
      by_cases he : k = e
      · rw [he, hc]
        simp only [List.length_map, List.length_range, Nat.sub_self]
        exact one_mod p2
      · rw [List.getElem?_eq_none (by simp; omega)]
        show 0 % (p : Int) = _
        rw [Int.zero_emod, Int.mul_emod, o k (by omega), Int.mul_zero, Int.zero_emod]
theorem least {P : Nat → Prop} : ∀ {n : Nat}, P n → ∃ m, P m ∧ m ≤ n ∧ ∀ k, k < m → ¬ P k := by
  intro n
  induction n using Nat.strongRecOn with
  | ind n ih =>
    intro h
    by_cases z : ∃ k, k < n ∧ P k
    · obtain ⟨k, hk, pk⟩ := z
      obtain ⟨m, h1, h2, h3⟩ := ih k hk pk
      exact ⟨m, h1, by omega, h3⟩
    · exact ⟨n, h, Nat.le_refl _, fun k hk pk => z ⟨k, hk, pk⟩⟩
/-- one that generates what it holds -/
theorem gen {p : Nat} (hp : Pr p) (I : Cf → Prop) (cg : ∀ {x y}, Eqm p x y → I x → I y) (ia : ∀ {x y}, I x → I y → I (ad x y)) (im : ∀ {x} (y : Cf), Fi y → I x → I (cv x y)) {a : Cf} (ha : I a) (fa : Fi a) (nz : ¬ Eqm p a nul) :
    ∃ e, ∃ t ∈ tp p e, I (lv t) ∧ (∀ d, a d % (p : Int) ≠ 0 → (∀ k, d < k → a k % (p : Int) = 0) → e ≤ d) ∧ ∀ y, Fi y → I y → Dv p (lv t) y := by
  have p2 := hp.1
  obtain ⟨N, hN⟩ := fa
  obtain ⟨d, _, hd, od⟩ := deg_ex (p := p) N (fun k hk => by rw [hN k hk, Int.zero_emod]) nz
  obtain ⟨e, ⟨x, ix, hx, ox⟩, le, mi⟩ := least (P := fun e => ∃ x, I x ∧ x e % (p : Int) ≠ 0 ∧ ∀ k, e < k → x k % (p : Int) = 0) (n := d) ⟨a, ha, hd, od⟩
  obtain ⟨t, ht, c, et⟩ := lv_ex hp hx ox
  have it : I (lv t) := cg et.symm (by
    have := im (sc c one) (Fi.one.sc c) ix
    rwa [cv_sc, cv1] at this)
  refine ⟨e, t, ht, it, fun d' h1 h2 => ?_, fun y fy iy => ?_⟩
  · have : d' = d := by
      by_cases g : d' < d
      · exact absurd (h2 d g) hd
      · by_cases g2 : d < d'
        · exact absurd (od d' g2) h1
        · omega
    omega
  · obtain ⟨r, hr, cr⟩ := rem_of (by omega) (lv_dg (by omega) ht) fy
    obtain ⟨q, fq, eq⟩ := cr
    have ir : I (cf r) := by
      have h1 : I (ad y (cv (lv t) (sc (-1) q))) := ia iy (im _ (fq.sc _) it)
      refine cg (fun k => ?_) h1
      show (y k + cv (lv t) (sc (-1) q) k) % (p : Int) = cf r k % (p : Int)
      rw [cv_sc]
      show (y k + -1 * cv (lv t) q k) % (p : Int) = cf r k % (p : Int)
      have := eq k
      have e1 : (y k + -1 * cf r k) % (p : Int) = cv (lv t) q k % (p : Int) := this
      rw [Int.add_emod, Int.mul_emod, ← e1, ← Int.mul_emod, ← Int.add_emod]
      congr 1
      grind
    by_cases z : Eqm p (cf r) nul
    · exact ⟨q, fq, fun k => by
        rw [← eq k]
        show y k % _ = (y k + -1 * cf r k) % (p : Int)
        rw [Int.add_emod, Int.mul_emod, z k]
        show y k % (p : Int) = (y k % (p : Int) + -1 % (p : Int) * (0 % (p : Int)) % (p : Int)) % (p : Int)
        simp⟩
    · obtain ⟨e', h1, h2, h3⟩ := deg_ex (p := p) e (x := cf r) (fun k hk => by rw [cf_out (by rw [(tp_mem.mp hr).1]; exact hk), Int.zero_emod]) z
      exact absurd ⟨cf r, ir, h2, h3⟩ (mi e' h1)
end Xp
end
section
set_option linter.all false
/-! What is whole makes a field; whole or not by x to powers of the prime (no program in it). -/
namespace Xp
open Lean.Grind
theorem Pr.le {p : Nat} (h : Pr p) : 2 ≤ p := by
  have := h.1
  omega
theorem dm_of {p : Nat} (hp : Pr p) {d : Nat} {f : Cf} (D : Dg p d f) (d1 : 1 ≤ d) (ir : Irr p d f) : Dm (Fq p f) where
  ne h := by
    have h : Dv p f one := mk_zero (a := 1).mp h
    have := short_zero hp.1 D (fun k hk => by rw [show one k = 0 from if_neg (by omega)]; exact Int.zero_emod _) h 0
    rw [show one 0 = 1 from rfl, one_mod hp.1, show nul 0 = 0 from rfl, Int.zero_emod] at this
    exact absurd this (by decide)
  int {x y} h := by
    obtain ⟨a, rfl⟩ := Qu.rep x
    obtain ⟨b, rfl⟩ := Qu.rep y
    by_cases hb : Dv p f b.c
    · exact .inr (mk_zero.mpr hb)
    · refine .inl (Classical.byContradiction fun ha => ?_)
      obtain ⟨r, hr, cr⟩ := rem_of hp.le D a.fi
      have er : (Qu.mk a : Fq p f) = el p f r := mk_eq.mpr cr
      have nz : ¬ Eqm p (cf r) nul := fun z => ha (er.trans (mk_zero.mpr ((Dv.zero p f).congr z.symm)))
      have ha2 : Dv p f (cv (cf r) b.c) := by
        rw [er] at h
        exact mk_zero (a := Po.of r * b).mp h
      obtain ⟨e', h1, h2, h3⟩ := deg_ex (p := p) d (x := cf r) (fun k hk => by rw [cf_out (by rw [(tp_mem.mp hr).1]; exact hk), Int.zero_emod]) nz
      obtain ⟨e, t, ht, it, le, all⟩ := gen hp (fun x => Dv p f (cv x b.c)) (fun {x y} g i => i.congr (g.cv (Eqm.refl _ _))) (fun {x y} i j => by
        show Dv p f (cv (ad x y) b.c)
        rw [ad_cv]
        exact i.add j) (fun {x} y fy i => by
        show Dv p f (cv (cv x y) b.c)
        rw [cvC x y, cvA]
        exact i.cv fy) ha2 (Fi.list r) nz
      have df := all f ⟨d + 1, fun k hk => D.out k (by omega)⟩ (Dv.of p f b.fi)
      have led := le e' h2 h3
      have e1 : 1 ≤ e := by
        by_cases z : e = 0
        · subst z
          have : t = [] := List.eq_nil_of_length_eq_zero (tp_mem.mp ht).1
          subst this
          refine absurd ?_ hb
          have e1 : lv [] = one := funext fun k => by
            show ([1] : List Int).getD k 0 = if k = 0 then 1 else 0
            match k with
            | 0 => rfl
            | k + 1 => rfl
          have it : Dv p f (cv (lv []) b.c) := it
          rwa [e1, one_cv] at it
        · omega
      exact ir e e1 (by omega) t ht df
theorem irr_half {p : Nat} (hp : Pr p) {d : Nat} {f : Cf} (D : Dg p d f) (h : ∀ e, 1 ≤ e → 2 * e ≤ d → ∀ t ∈ tp p e, ¬ Dv p (lv t) f) : Irr p d f := by
  intro e e1 ed t ht dv
  have ⟨q, fq, eq⟩ := dv
  by_cases h2 : 2 * e ≤ d
  · exact h e e1 h2 t ht dv
  · obtain ⟨c, hc⟩ := D.top
    have p2 := hp.le
    have fd : f d % (p : Int) ≠ 0 := fun z => by
      rw [Int.mul_emod, z, Int.mul_zero, Int.zero_emod] at hc
      exact absurd hc (by decide)
    have qz : ¬ Eqm p q nul := fun z => fd (by
      rw [eq d, (Eqm.refl _ _).cv z d]
      show cv (lv t) nul d % _ = _
      rw [cv_nul]
      exact Int.zero_emod _)
    obtain ⟨N, hN⟩ := fq
    obtain ⟨m, _, hm, om⟩ := deg_ex (p := p) N (x := q) (fun k hk => by rw [hN k hk, Int.zero_emod]) qz
    have q' : Eqm p q (fun k => if k ≤ m then q k else 0) := fun k => by
      show q k % _ = (if k ≤ m then q k else 0) % _
      by_cases g : k ≤ m
      · rw [if_pos g]
      · rw [if_neg g, om k (by omega), Int.zero_emod]
    have eq' := eq.trans ((Eqm.refl _ _).cv q')
    have lo := (lv_dg p2 ht).out
    have qo : ∀ k, m < k → (fun k => if k ≤ m then q k else 0) k = 0 := fun k hk => if_neg (by omega)
    have l1 : lv t e = 1 := by
      have l := (tp_mem.mp ht).1
      show (t ++ [1]).getD e 0 = 1
      rw [List.getD_eq_getElem?_getD, List.getElem?_append_right (by omega), l, Nat.sub_self]
      rfl
    have top : f (e + m) % (p : Int) = q m % p := by
      rw [eq' (e + m), cv_top lo qo, l1, Int.one_mul, if_pos (Nat.le_refl m)]
    have a1 : e + m ≤ d := by
      by_cases g : e + m ≤ d
      · exact g
      · rw [D.out _ (by omega), Int.zero_emod] at top
        exact absurd top.symm hm
    have a2 : d ≤ e + m := by
      by_cases g : d ≤ e + m
      · exact g
      · rw [eq' d, cv_over lo qo (by omega), Int.zero_emod] at fd
        exact absurd rfl fd
    obtain ⟨t', ht', c', et⟩ := lv_ex hp hm om
    refine h m (by omega) (by omega) t' ht' ?_
    have l2 : lv t' m = 1 := by
      have l := (tp_mem.mp ht').1
      show (t' ++ [1]).getD m 0 = 1
      rw [List.getD_eq_getElem?_getD, List.getElem?_append_right (by omega), l, Nat.sub_self]
      rfl
    have cq : (c' * q m) % (p : Int) = 1 % (p : Int) := by
      have := et m
      rw [l2] at this
      exact this.symm
    have eqq : Eqm p q (sc (q m) (lv t')) := ((et.sc (q m)).trans (by
      rw [← sc_sc]
      have : Eqm p (sc (q m * c') q) (sc 1 q) := Eqm.sc2 (by rw [Int.mul_comm]; exact cq) q
      rwa [sc_one] at this)).symm
    refine ⟨sc (q m) (lv t), (Fi.list _).sc _, (eq.trans ((Eqm.refl _ _).cv eqq)).trans (Eqm.of_eq ?_)⟩
    rw [cv_sc, cv_sc, cvC]
/-! ### the power to the prime -/
theorem pow_mulR {R : Type} [CommRing R] (x : R) (m : Nat) : ∀ n, x ^ (m * n) = (x ^ m) ^ n
  | 0 => by rw [Nat.mul_zero, Semiring.pow_zero, Semiring.pow_zero]
  | n + 1 => by rw [Nat.mul_succ, Semiring.pow_add, pow_mulR x m n, Semiring.pow_succ]
theorem one_powR {R : Type} [CommRing R] : ∀ n : Nat, (1 : R) ^ n = 1
  | 0 => Semiring.pow_zero _
  | n + 1 => by rw [Semiring.pow_succ, one_powR n, Semiring.mul_one]
/-- what makes the power to p keep sums -/
def Fb (p : Nat) : Prop := ∀ k, 0 < k → k < p → ch p k % (p : Int) = 0
theorem frobF {p : Nat} (hp : 2 ≤ p) (h : Fb p) {f : Cf} (x y : Fq p f) : (x + y) ^ p = x ^ p + y ^ p := by
  obtain ⟨a, rfl⟩ := Qu.rep x
  obtain ⟨b, rfl⟩ := Qu.rep y
  rw [← Qu.mk_add, ← Qu.mk_pow, ← Qu.mk_pow, ← Qu.mk_pow, ← Qu.mk_add]
  refine mk_eq.mpr (Cg.of ?_)
  rw [Po.pow_c, Po.add_c, Po.add_c, Po.pow_c, Po.pow_c]
  exact frob hp h _ _
theorem frobN {p : Nat} (hp : 2 ≤ p) (h : Fb p) {f : Cf} (x y : Fq p f) : ∀ k, (x + y) ^ (p ^ k) = x ^ (p ^ k) + y ^ (p ^ k)
  | 0 => by rw [Nat.pow_zero, Semiring.pow_one, Semiring.pow_one, Semiring.pow_one]
  | k + 1 => by rw [Nat.pow_succ, pow_mulR, frobN hp h x y k, frobF hp h, ← pow_mulR, ← pow_mulR]
theorem mul_powR {R : Type} [CommRing R] (x y : R) : ∀ n : Nat, (x * y) ^ n = x ^ n * y ^ n
  | 0 => by rw [Semiring.pow_zero, Semiring.pow_zero, Semiring.pow_zero, Semiring.mul_one]
  | n + 1 => by
    rw [Semiring.pow_succ, Semiring.pow_succ, Semiring.pow_succ, mul_powR x y n]
    grind
theorem Po.ind {P : Po → Prop} (z : P 0) (s : ∀ n a, P a → P (Po.C n + Po.X * a)) (a : Po) : P a := by
  obtain ⟨c, N, hN⟩ := a
  induction N generalizing c with
  | zero =>
    have : (⟨c, 0, hN⟩ : Po) = 0 := Po.ext (funext fun k => hN k (Nat.zero_le _))
    rw [this]
    exact z
  | succ N ih =>
    have h := ih (sh c) fun k hk => hN (k + 1) (by omega)
    have e : (⟨c, N + 1, hN⟩ : Po) = Po.C (c 0) + Po.X * ⟨sh c, N, fun k hk => hN (k + 1) (by omega)⟩ := Po.ext (by
      show c = ad (sc (c 0) one) (cv (xs one) (sh c))
      rw [cv_xs, one_cv]
      refine funext fun k => ?_
      match k with
      | 0 =>
        show c 0 = c 0 * 1 + 0
        omega
      | k + 1 =>
        show c (k + 1) = c 0 * one (k + 1) + c (k + 1)
        rw [show one (k + 1) = 0 from if_neg (by omega)]
        omega)
    rw [e]
    exact s _ _ h
theorem mkC_mod {p : Int} {f : Cf} (n : Int) : (Qu.mk (Po.C n) : Fq p f) = Qu.mk (Po.C (n % p)) :=
  mk_eq.mpr (Cg.of fun k => by
    show (n * one k) % p = (n % p * one k) % p
    rw [Int.mul_emod, ← Int.emod_emod_of_dvd n (Int.dvd_refl p), ← Int.mul_emod, Int.emod_emod_of_dvd _ (Int.dvd_refl p)])
theorem fixC {p : Nat} (hp : 2 ≤ p) (h : Fb p) {f : Cf} (k : Nat) (n : Int) : (Qu.mk (Po.C n) : Fq p f) ^ (p ^ k) = Qu.mk (Po.C n) := by
  rw [mkC_mod]
  obtain ⟨j, hj⟩ := Int.eq_ofNat_of_zero_le (Int.emod_nonneg n (b := (p : Int)) (by omega))
  rw [hj]
  clear hj
  have pp : 0 < p ^ k := Nat.pow_pos (by omega)
  induction j with
  | zero =>
    show (Qu.mk (Po.C 0) : Fq p f) ^ (p ^ k) = Qu.mk (Po.C 0)
    rw [Po.C_zero, Qu.mk_zero, zero_pow pp]
  | succ j ih =>
    rw [show ((j + 1 : Nat) : Int) = (j : Int) + 1 from by omega, Po.C_add, Po.C_one, Qu.mk_add, Qu.mk_one, frobN hp h, ih, one_powR]
/-- where x is its own power, each is -/
theorem fixed {p : Nat} (hp : 2 ≤ p) (h : Fb p) {f : Cf} {k : Nat} (hX : (Qu.mk Po.X : Fq p f) ^ (p ^ k) = Qu.mk Po.X) (x : Fq p f) : x ^ (p ^ k) = x := by
  obtain ⟨a, rfl⟩ := Qu.rep x
  have pp : 0 < p ^ k := Nat.pow_pos (by omega)
  refine Po.ind (P := fun a => (Qu.mk a : Fq p f) ^ (p ^ k) = Qu.mk a) ?_ (fun n a ih => ?_) a
  · rw [Qu.mk_zero, zero_pow pp]
  · show (Qu.mk (Po.C n + Po.X * a) : Fq p f) ^ (p ^ k) = Qu.mk (Po.C n + Po.X * a)
    rw [Qu.mk_add, Qu.mk_mul, frobN hp h, fixC hp h, mul_powR, hX, ih]
/-- x to q, less x -/
abbrev xq (q : Nat) : Cf := ad (pw (xs one) q) (sc (-1) (xs one))
theorem xq_iff {p : Int} {f : Cf} {q : Nat} : Dv p f (xq q) ↔ (Qu.mk Po.X : Fq p f) ^ q = Qu.mk Po.X := by
  rw [← Qu.mk_pow, mk_eq, Po.pow_c]
  exact Iff.rfl
/-- what parts has a part that divides x to a power of the prime, less x -/
theorem has_turn {p : Nat} (hp : Pr p) {d : Nat} {f : Cf} (h : ∃ e, 1 ≤ e ∧ 2 * e ≤ d ∧ ∃ t ∈ tp p e, Dv p (lv t) f) : ∃ k, 1 ≤ k ∧ 2 * k ≤ d ∧ ∃ t ∈ tp p k, Dv p (lv t) f ∧ Dv p (lv t) (xq (p ^ k)) := by
  obtain ⟨e0, h1, h2, h3⟩ := h
  obtain ⟨e, ⟨e1, t, ht, dv⟩, le, mi⟩ := least (P := fun e => 1 ≤ e ∧ ∃ t ∈ tp p e, Dv p (lv t) f) (n := e0) ⟨h1, h3⟩
  refine ⟨e, e1, by omega, t, ht, dv, xq_iff.mpr ?_⟩
  have D := lv_dg hp.le ht
  have ir : Irr p e (lv t) := fun e' g1 g2 t' ht' dv' => mi e' g2 ⟨g1, t', ht', dv'.trans dv⟩
  have := dm_of hp D e1 ir
  have := fermat (els_al hp.le D) (Qu.mk Po.X)
  rwa [els_len] at this
/-- what is whole has none -/
theorem no_turn {p : Nat} (hp : Pr p) (fb : Fb p) {d : Nat} {f : Cf} (D : Dg p d f) (d1 : 1 ≤ d) (h : ∀ e, 1 ≤ e → 2 * e ≤ d → ∀ t ∈ tp p e, ¬ Dv p (lv t) f) {k : Nat} (k1 : 1 ≤ k) (k2 : 2 * k ≤ d) {e : Nat} (e1 : 1 ≤ e) {t : List Int} (ht : t ∈ tp p e) (dv : Dv p (lv t) f) : ¬ Dv p (lv t) (xq (p ^ k)) := by
  intro dx
  have p2 := hp.le
  have ir := irr_half hp D h
  have L := lv_dg p2 ht
  obtain ⟨c, hc⟩ := D.top
  have fd : f d % (p : Int) ≠ 0 := fun z => by
    rw [Int.mul_emod, z, Int.mul_zero, Int.zero_emod] at hc
    exact absurd hc (by decide)
  have ed : e = d := by
    by_cases g : e < d
    · exact absurd dv (ir e e1 g t ht)
    · by_cases g2 : d < e
      · have := short_zero hp.1 L (fun k hk => by rw [D.out k (by omega), Int.zero_emod]) dv d
        rw [show nul d = 0 from rfl, Int.zero_emod] at this
        exact absurd this fd
      · omega
  subst ed
  have l1 : lv t e = 1 := by
    have l := (tp_mem.mp ht).1
    show (t ++ [1]).getD e 0 = 1
    rw [List.getD_eq_getElem?_getD, List.getElem?_append_right (by omega), l, Nat.sub_self]
    rfl
  have y : Eqm p (ad f (sc (-(f e)) (lv t))) nul := short_zero hp.1 L (fun k hk => by
    show (f k + -(f e) * lv t k) % (p : Int) = 0
    by_cases g : k = e
    · rw [g, l1, show f e + -(f e) * 1 = 0 by omega, Int.zero_emod]
    · rw [D.out k (by omega), L.out k (by omega), Int.mul_zero]
      exact Int.zero_emod _) (dv.add ((Dv.self _ _).scale _))
  have fl : Dv p f (lv t) := by
    refine ⟨sc c one, Fi.one.sc c, ?_⟩
    rw [cv_sc, cv1]
    intro k
    show lv t k % (p : Int) = (c * f k) % (p : Int)
    have y1 : (f k + -(f e) * lv t k) % (p : Int) = 0 := (y k).trans (Int.zero_emod _)
    have y2 : f k % (p : Int) = (f e * lv t k) % (p : Int) := Int.emod_eq_emod_iff_emod_sub_eq_zero.mpr (by rw [← y1]; congr 1; grind)
    rw [Int.mul_emod c (f k), y2, ← Int.mul_emod, show c * (f e * lv t k) = (c * f e) * lv t k by grind, Int.mul_emod, hc, Int.one_mul, Int.emod_emod_of_dvd _ (Int.dvd_refl _)]
  have hX := xq_iff.mp (fl.trans dx)
  have dm := dm_of hp D d1 ir
  have q2 : 2 ≤ p ^ k := Nat.le_trans p2 (by
    have := Nat.pow_le_pow_right (n := p) (by omega) k1
    rwa [Nat.pow_one] at this)
  have al := els_al p2 D
  have := few q2 al.nd fun x _ => fixed p2 fb hX x
  rw [els_len] at this
  have := (Nat.pow_le_pow_iff_right (by omega)).mp this
  omega
end Xp
end
section
set_option linter.all false
set_option maxHeartbeats 1000000
/-! How the power to the prime turns what a rule leaves; what a common part's length tells (no program in it). -/
namespace Xp
open Lean.Grind
/-- the same, looked up -/
def rb (p : Nat) : Bool := (((row p).take p).drop 1).all fun x => x % (p : Int) == 0
theorem fb_of {p : Nat} (h : rb p = true) : Fb p := fun k k0 k1 => by
  unfold rb at h
  rw [List.all_eq_true] at h
  unfold ch
  rw [List.getD_eq_getElem?_getD]
  cases e : (row p)[k]? with
  | none => exact Int.zero_emod _
  | some x =>
    refine of_decide_eq_true (h x (List.mem_of_getElem? (i := k - 1) ?_))
    rw [List.getElem?_drop, show 1 + (k - 1) = k by omega, List.getElem?_take_of_lt k1]
    exact e
/-- a row of numbers, put in -/
def hv {R : Type} [CommRing R] (c : Int → R) (y : R) : List Int → R
  | [] => 0
  | t :: ts => c t + y * hv c y ts
abbrev mC (p : Int) (f : Cf) (n : Int) : Fq p f := Qu.mk (Po.C n)
theorem of_cons (t : Int) (ts : List Int) : Po.of (t :: ts) = Po.C t + Po.X * Po.of ts := Po.ext (by
  show cf (t :: ts) = ad (sc t one) (cv (xs one) (cf ts))
  rw [cv_xs, one_cv]
  refine funext fun k => ?_
  match k with
  | 0 =>
    show t = t * 1 + 0
    omega
  | k + 1 =>
    show cf ts k = t * one (k + 1) + cf ts k
    rw [show one (k + 1) = 0 from if_neg (by omega)]
    omega)
theorem of_nil : Po.of [] = 0 := Po.ext (funext fun k => rfl)
theorem el_hv {p : Int} {f : Cf} : ∀ ts : List Int, el p f ts = hv (mC p f) (Qu.mk Po.X) ts
  | [] => by
    show (Qu.mk (Po.of []) : Fq p f) = 0
    rw [of_nil]
    rfl
  | t :: ts => by
    show (Qu.mk (Po.of (t :: ts)) : Fq p f) = _
    rw [of_cons, Qu.mk_add, Qu.mk_mul]
    show mC p f t + Qu.mk Po.X * el p f ts = _
    rw [el_hv ts]
    rfl
theorem hv_turn {p : Nat} (hp : 2 ≤ p) (h : Fb p) {f : Cf} (y : Fq p f) : ∀ ts : List Int, (hv (mC p f) y ts) ^ p = hv (mC p f) (y ^ p) ts
  | [] => zero_pow (by omega)
  | t :: ts => by
    show (mC p f t + y * hv (mC p f) y ts) ^ p = mC p f t + y ^ p * hv (mC p f) (y ^ p) ts
    rw [frobF hp h, mul_powR, hv_turn hp h y ts]
    have e := fixC hp h (f := f) 1 t
    rw [Nat.pow_one] at e
    rw [e]
/-- rows, weighed -/
def wgP : List Int → List (List Int) → Po
  | [], _ => 0
  | _ :: _, [] => 0
  | t :: ts, r :: rs => Po.C t * Po.of r + wgP ts rs
theorem wgP_hv {p : Int} {f : Cf} {z : Fq p f} : ∀ {ts : List Int} {rs : List (List Int)} (y : Fq p f), ts.length ≤ rs.length → (∀ (i : Nat) (r : List Int), rs[i]? = some r → y * z ^ i = el p f r) → (Qu.mk (wgP ts rs) : Fq p f) = y * hv (mC p f) z ts
  | [], rs, y, _, _ => by
    show (Qu.mk 0 : Fq p f) = y * 0
    rw [Qu.mk_zero]
    grind
  | t :: ts, [], y, h, _ => by cases h
  | t :: ts, r :: rs, y, h, g => by
    have g0 := g 0 r rfl
    rw [Semiring.pow_zero, Semiring.mul_one] at g0
    have ih := wgP_hv (z := z) (ts := ts) (rs := rs) (y * z) (Nat.le_of_succ_le_succ h) fun i r' hr => by
      rw [← g (i + 1) r' hr, Semiring.pow_succ]
      grind
    show (Qu.mk (Po.C t * Po.of r + wgP ts rs) : Fq p f) = y * (mC p f t + z * hv (mC p f) z ts)
    rw [Qu.mk_add, Qu.mk_mul, ih]
    show mC p f t * el p f r + _ = _
    rw [← g0]
    grind
theorem cgX {p : Int} {f g : Cf} {n : Nat} {ms : List Int} : Cg p f (pw (xs one) n) (cf ms) ↔ (Qu.mk Po.X : Fq p f) ^ n = el p f ms := by
  rw [← Qu.mk_pow]
  show _ ↔ (Qu.mk (Po.X ^ n) : Fq p f) = Qu.mk (Po.of ms)
  rw [mk_eq, Po.pow_c]
  exact Iff.rfl
/-- one turn more -/
theorem turn_of {p : Nat} (hp : 2 ≤ p) (h : Fb p) {f : Cf} {k : Nat} {ts ms : List Int} {rows : List (List Int)} (lt : ts.length ≤ rows.length) (hr : ∀ (i : Nat) (r : List Int), rows[i]? = some r → Cg p f (pw (xs one) (p * i)) (cf r))
    (ht : Cg p f (pw (xs one) (p ^ k)) (cf ts)) (e : Eqm p (cf ms) (wgP ts rows).c) : Cg p f (pw (xs one) (p ^ (k + 1))) (cf ms) := by
  have a := (cgX (g := nul)).mp ht
  refine (cgX (g := nul)).mpr ?_
  have b : el (p : Int) f ms = Qu.mk (wgP ts rows) := mk_eq.mpr (Cg.of e)
  rw [b, wgP_hv (z := (Qu.mk Po.X : Fq p f) ^ p) 1 lt fun i r hi => ?_, Nat.pow_succ, pow_mulR, a, el_hv, hv_turn hp h]
  · grind
  · rw [Semiring.one_mul, ← pow_mulR]
    exact (cgX (g := nul)).mp (hr i r hi)
/-- no level part of a degree divides a number that isn't nought -/
theorem lv_one {p : Nat} (hp : 2 ≤ p) {e : Nat} (e1 : 1 ≤ e) {t : List Int} (ht : t ∈ tp p e) : ¬ Dv p (lv t) one := fun h => by
  have := short_zero (by exact_mod_cast hp) (lv_dg hp ht) (fun k hk => by
    show one k % (p : Int) = 0
    rw [show one k = 0 from if_neg (by omega)]
    exact Int.zero_emod _) h 0
  rw [show nul 0 = 0 from rfl, Int.zero_emod, show one 0 = 1 from rfl, one_mod (by exact_mod_cast hp)] at this
  exact absurd this (by decide)
end Xp
end
section
set_option Elab.async false
set_option linter.all false
set_option maxRecDepth 100000
set_option maxHeartbeats 4000000
namespace Xk
open PySem PySem.Spec PyProof.Rows L2 Xh LamX NdefX
/-! ### what two polynomials have in common, level -/
theorem dv_cg {p : Int} {d f x y : Xp.Cf} (hd : Xp.Dv p d f) (c : Xp.Cg p f x y) (h : Xp.Dv p d y) : Xp.Dv p d x := by
  have a : Xp.Dv p d _ := hd.trans c
  refine (a.add h).congr (eqv_fun fun k => ?_)
  show (x k + -1 * y k) + y k = x k
  omega
theorem dv_iff {p : Int} {d f x y : Xp.Cf} (hd : Xp.Dv p d f) (c : Xp.Cg p f x y) : Xp.Dv p d x ↔ Xp.Dv p d y := ⟨dv_cg hd c.symm, dv_cg hd c⟩
/-- led to a level one -/
structure Lev (p : Int) (xs g : List Int) : Prop where
  po : Po p g 25
  len : g.length = xs.length
  dv : ∀ d, Xp.Dv p d (co g) ↔ Xp.Dv p d (co xs)
  lev : g = [] ∨ (0 < g.length ∧ g.getD (g.length - 1) 0 = 1)
theorem lev_nil {p : Int} (h : 0 < p) : Lev p [] [] := ⟨po_nil p 25 h, rfl, fun _ => Iff.rfl, .inl rfl⟩
theorem lev_of {p : Int} {xs g : List Int} {i : Nat} (hp : Pm p) (d : Dsr p xs) (l25 : xs.length ≤ 25) (x : Is (fun j => (xs.getD j 0 * scl xs p).fmod p) i g) : Lev p xs g := by
  obtain ⟨l, P, hl, hP, P2, P3, lP, _, _, _, ec, _⟩ := d.last
  have hpos := d.pos
  have top : g.getD (xs.length - 1) 0 = 1 := by
    rw [x.at_, Int.mul_comm]
    exact ec
  have gl : g.length ≤ xs.length := x.short fun k hk => by
    show (xs.getD k 0 * scl xs p).fmod p = 0
    rw [getD_over hk, Int.zero_mul]
    exact Int.zero_fmod p
  have gl2 : xs.length ≤ g.length := by
    rcases Nat.lt_or_ge g.length xs.length with q | q
    · exfalso
      rw [getD_over (by omega)] at top
      exact absurd top (by decide)
    · exact q
  have el : g.length = xs.length := Nat.le_antisymm gl gl2
  have e1 := scale_is hp x
  have hg : Xp.Eqm p (co xs) (fun k => co xs (xs.length - 1) * co g k) := fun k => by
    have e2 : (scl xs p * co xs (xs.length - 1)) % p = 1 := by
      rw [← fm_em hp.pos]
      exact ec
    show co xs k % p = (co xs (xs.length - 1) * co g k) % p
    rw [Int.mul_emod, e1 k, ← Int.mul_emod, ← Int.mul_assoc, Int.mul_comm (co xs (xs.length - 1)), Int.mul_emod, e2, Int.one_mul, Int.emod_emod]
  exact ⟨⟨rs_of hp x, x.tr, by omega⟩, el, fun t => ⟨fun h => (h.scale (co xs (xs.length - 1))).congr hg.symm, fun h => (h.scale (scl xs p)).congr e1.symm⟩, .inr ⟨by omega, by rw [el]; exact top⟩⟩
/-- the level common part -/
structure Gc (p : Int) (xs ys g : List Int) : Prop where
  po : Po p g 25
  dv : ∀ d, Xp.Dv p d (co g) ↔ (Xp.Dv p d (co xs) ∧ Xp.Dv p d (co ys))
  lev : g = [] ∨ (0 < g.length ∧ g.getD (g.length - 1) 0 = 1)
theorem last_app : ∀ {g : List Int} {e : Nat}, g.length = e + 1 → g = g.take e ++ [g.getD e 0] := fun {g e} h => by
  have e2 : g.drop e = [g.getD e 0] := by
    have lt : e < g.length := by omega
    rw [List.drop_eq_getElem_cons lt, List.drop_eq_nil_of_le (by omega), List.getD_eq_getElem?_getD, List.getElem?_eq_getElem lt]
    rfl
  rw [← e2, List.take_append_drop]
theorem Gc.len {q : Nat} (q2 : 2 ≤ q) {xs ys g : List Int} (G : Gc q xs ys g) (py : Po q ys 25) (ne : ys ≠ []) : 1 < g.length ↔ ∃ e, 1 ≤ e ∧ ∃ t ∈ Xp.tp q e, Xp.Dv q (Xp.lv t) (co xs) ∧ Xp.Dv q (Xp.lv t) (co ys) := by
  constructor
  · intro h
    obtain ⟨e, he⟩ : ∃ e, g.length = e + 1 := ⟨g.length - 1, by omega⟩
    rcases G.lev with z | ⟨_, z⟩
    · rw [z] at h
      exact absurd h (by decide)
    rw [he, Nat.add_sub_cancel] at z
    have eg := last_app he
    rw [z] at eg
    refine ⟨e, by omega, g.take e, Xp.tp_mem.mpr ⟨by rw [List.length_take]; omega, fun x hx => ?_⟩, ?_⟩
    · obtain ⟨k, hk⟩ := List.mem_iff_getElem?.mp (List.mem_of_mem_take hx)
      have := G.po.rs k
      rw [List.getD_eq_getElem?_getD, hk] at this
      exact this
    · refine (G.dv _).mp ?_
      have : Xp.lv (g.take e) = co g := by
        show co (g.take e ++ [1]) = co g
        rw [← eg]
      rw [this]
      exact Xp.Dv.self _ _
  · rintro ⟨e, e1, t, ht, d1, d2⟩
    have dg := (G.dv _).mpr ⟨d1, d2⟩
    rcases Nat.lt_or_ge 1 g.length with h | h
    · exact h
    · exfalso
      rcases G.lev with z | ⟨z0, z⟩
      · subst z
        have := ((G.dv (co [])).mp (Xp.Dv.self _ _)).2
        exact ne (nil_of py.rs py.tr (this.nought (Xp.Eqm.refl _ _)))
      · have l1 : g.length = 0 + 1 := by omega
        have eg := last_app l1
        rw [l1] at z
        rw [show g.getD 0 0 = 1 from z, List.take_zero, List.nil_append] at eg
        subst eg
        rw [show co [1] = Xp.one from funext co_one] at dg
        exact Xp.lv_one q2 e1 ht dg
def spLevel (T : List (Addr × Str)) : Sp := fun vs H Q _ => ∃ (a : Addr) (xs : List Int) (p : Int), vs = [.ref a, .int p] ∧ H a = some (.tup (xs.map V.int)) ∧ p ∈ primes ∧ Po p xs 25 ∧ Tabs T H ∧
  ∀ (v : Addr) (g : List Int) (H' : Hp), Gr T H H' → H' v = some (.tup (g.map V.int)) → Lev p xs g → Q (.ref v) H'
def spGreat (T : List (Addr × Str)) : Sp := fun vs H Q _ => ∃ (a b : Addr) (xs ys : List Int) (p : Int), vs = [.ref a, .ref b, .int p] ∧ H a = some (.tup (xs.map V.int)) ∧ H b = some (.tup (ys.map V.int)) ∧ p ∈ primes ∧ Po p xs 25 ∧ Po p ys 25 ∧ Tabs T H ∧
  ∀ (v : Addr) (g : List Int) (H' : Hp), Gr T H H' → H' v = some (.tup (g.map V.int)) → Gc p xs ys g → Q (.ref v) H'
/-- how long the tuple in a slot is -/
def lenS (i : Nat) (σ : L2.St) (H : Hp) : Nat := match σ[i]? with
  | some (some (.ref a)) => (match H a with
    | some (.tup xs) => xs.length
    | _ => 0)
  | _ => 0
theorem lenS_at {i : Nat} {σ : L2.St} {H : Hp} {a : Addr} {xs : List V} (h : σ[i]? = some (some (.ref a))) (e : H a = some (.tup xs)) : lenS i σ H = xs.length := by
  unfold lenS
  rw [h]
  show (match H a with
    | some (.tup xs) => xs.length
    | _ => 0) = _
  rw [e]
section
variable {P : Program} {w : World} {K : PySem.W.Frag} {mg : Str → Option Value} {base : Heap}
theorem sc_raw_level : FnScope (["one", "prime"] : List Str) ["one", "prime"] (defScope s_raw_level) := ⟨rfl, rfl, rfl, by decide +kernel, rfl, by decide +kernel, by decide +kernel⟩
theorem ok_raw_level {TT : List (Addr × Str)} {f : Addr} {fd : FuncData} (F : FunD K "raw_level" "raw_level" (defArgs s_raw_level) (defBody s_raw_level) (defScope s_raw_level) [] [] f fd) (o_raw_scaled : Own P w K mg base CX0 2 "raw_scaled" ["one", "rest", "prime"] [] (spScale K)) (o_rest_power : Own P w K mg base CX0 3 "rest_power" ["rest", "exponent", "prime"] [] (spRPowT TT)) : FnOk P w K mg base CX0 4 f fd ["one", "prime"] (spLevel TT) := by
  refine F.ok sc_raw_level (fun vs H Q E h => ?_) (fun cdv A outer s H vs Q E hr h => ?_)
  · obtain ⟨a, xs, p, rfl, _⟩ := h
    rfl
  · obtain ⟨a, xs, p, rfl, ea, hp, px, hT, k⟩ := h
    have hpm := pm_of hp
    have lx := px.len
    refine ⟨_, PSs.nox (pss_cons (ps_if (pt_not (pt_truth (pv 0) (by intro _; rfl))) (pss_one (ps_ret (pv 0))) pss_nil)
      (pss_one (ps_ret (pe_own o_raw_scaled (hr.mono (by decide)) rfl pass0 (pa_cons (pv 0) (pa_cons (pe_own o_rest_power (hr.mono (by decide)) rfl pass0 (pa_cons (pe_ix ix_tup (pv 0) (pe_un un_neg pe_int) (fun _ _ => rfl)) (pa_cons (pe_un un_neg pe_int) (pa_cons (pv 1) pa_nil)))) (pa_cons (pv 1) pa_nil))))))) , ?_⟩
    refine ⟨_, rfl, _, .inr (.inl ⟨_, .inl (.inl ea), rfl⟩), ?_⟩
    by_cases hx : xs = []
    · subst hx
      refine iteT ?_
      exact ⟨_, rfl, k a [] _ (Gr.refl hT) ea (lev_nil hpm.pos)⟩
    · have dx := px.dsr hx hp
      rw [show (!(xs.map V.int).isEmpty) = true from by cases xs with | nil => exact absurd rfl hx | cons _ _ => rfl]
      refine iteF ?_
      obtain ⟨c, M, hc, hM, M2, M3, cM, _, fr, es, ec, bl⟩ := dx.last
      refine ⟨_, rfl, _, rfl, _, rfl, a, _, _, .int (c : Int), rfl, rfl, .inl (.inl ea), by rw [← hc]; exact atI_last2 dx.pos, _, rfl, _, rfl, c, M, -1, by rw [hM]; rfl, M2, M3, cM, hT, fun H2 g2 => ?_⟩
      rw [fr, ← es]
      exact ⟨_, rfl, a, xs, scl xs p, p, rfl, .inl (.inl (g2.tup ea)), by omega, px.rs, hpm, fun g x q H3 s3 f3 r3 => k q g H3 (g2.same s3) r3 (lev_of hpm dx lx x)⟩
theorem sc_raw_greatest : FnScope (["one", "other", "prime", "held", "low"] : List Str) ["one", "other", "prime"] (defScope s_raw_greatest) := ⟨rfl, rfl, rfl, by decide +kernel, rfl, by decide +kernel, by decide +kernel⟩
theorem ok_raw_greatest {TT : List (Addr × Str)} {f : Addr} {fd : FuncData} (F : FunD K "raw_greatest" "raw_greatest" (defArgs s_raw_greatest) (defBody s_raw_greatest) (defScope s_raw_greatest) [] [] f fd) (o_raw_left : Own P w K mg base CX0 5 "raw_left" ["one", "rule", "prime"] [] (spLeft K TT)) (o_raw_level : Own P w K mg base CX0 4 "raw_level" ["one", "prime"] [] (spLevel TT)) : FnOk P w K mg base CX0 6 f fd ["one", "other", "prime"] (spGreat TT) := by
  refine F.ok sc_raw_greatest (fun vs H Q E h => ?_) (fun cdv A outer s H vs Q E hr h => ?_)
  · obtain ⟨a, b, xs, ys, p, rfl, _⟩ := h
    rfl
  · obtain ⟨a, b, xs, ys, p, rfl, ea, eb, hp, pa, pb, hT, k⟩ := h
    have hpm := pm_of hp
    refine ⟨_, PSs.nox (pss_cons (ps_par (i := 3) (j := 4) (by rfl) sc_raw_greatest.nd rfl rfl (by decide) rfl rfl (pa_cons (pv 0) (pa_cons (pv 1) pa_nil)) (by rfl))
      (pss_cons (ps_while PassesOwn.never (pt_truth (pv 4) (by intro _; rfl)) (pss_one (ps_par (i := 3) (j := 4) (by rfl) sc_raw_greatest.nd rfl rfl (by decide) rfl rfl (pa_cons (pv 4) (pa_cons (pe_own o_raw_left (hr.mono (by decide)) rfl pass0 (pa_cons (pv 3) (pa_cons (pv 4) (pa_cons (pv 2) pa_nil)))) pa_nil)) (by rfl))))
      (pss_one (ps_ret (pe_own o_raw_level (hr.mono (by decide)) rfl pass0 (pa_cons (pv 3) (pa_cons (pv 2) pa_nil))))))) , ?_⟩
    refine ⟨_, rfl, _, rfl, _, _, rfl, ?_⟩
    dsimp only [L2.tSeq]
    refine while_by (fun σ' H' => ∃ (ah al : Addr) (h l : List Int), σ' = [some (.ref a), some (.ref b), some (.int p), some (.ref ah), some (.ref al)] ∧ Gr TT H H' ∧ H' ah = some (.tup (h.map V.int)) ∧ H' al = some (.tup (l.map V.int)) ∧ Po p h 25 ∧ Po p l 25 ∧ ∀ d, (Xp.Dv p d (co h) ∧ Xp.Dv p d (co l)) ↔ (Xp.Dv p d (co xs) ∧ Xp.Dv p d (co ys))) (fun σ' H' => lenS 4 σ' H')
      ⟨a, b, xs, ys, rfl, Gr.refl hT, ea, eb, pa, pb, fun _ => Iff.rfl⟩ ?_ ?_
    · rintro σ' H1 ⟨ah, al, h, l, rfl, g1, eh, el, ph, pl, D⟩
      have lh := ph.len
      have ll := pl.len
      refine ⟨_, rfl, _, .inr (.inl ⟨_, .inl (.inl el), rfl⟩), ?_⟩
      by_cases hl : l = []
      · subst hl
        refine iteF ?_
        refine ⟨_, rfl, _, rfl, ah, h, p, rfl, eh, hp, ph, g1.t, fun v g H2 g2 ev L => k v g H2 (g1.trans g2) ev ⟨L.po, fun d => ?_, L.lev⟩⟩
        rw [L.dv, ← D]
        exact ⟨fun z => ⟨z, Xp.Dv.zero p d⟩, fun z => z.1⟩
      · have dl := pl.dsr hl hp
        rw [show (!(l.map V.int).isEmpty) = true from by cases l with | nil => exact absurd rfl hl | cons _ _ => rfl]
        refine iteT ?_
        refine ⟨_, rfl, _, rfl, _, rfl, _, rfl, ah, al, h, l, p, rfl, eh, SqT.of el, by omega, ll, ph.rs, dl, g1.t, fun v rs H2 g2 ev rm => ⟨_, _, rfl, ?_⟩⟩
        refine ⟨⟨al, v, l, rs, rfl, g1.trans g2, g2.tup el, ev, pl, rm.po.le (by have := rm.po.len; omega), fun d => ?_⟩, ?_⟩
        · rw [← D]
          exact ⟨fun z => ⟨(dv_iff z.1 rm.cg).mpr z.2, z.1⟩, fun z => ⟨z.2, (dv_iff z.2 rm.cg).mp z.1⟩⟩
        · rw [lenS_at (a := v) rfl ev, lenS_at (a := al) rfl el, List.length_map, List.length_map]
          exact rm.less
    · rintro σ H Q Q' m ⟨v, h1, b, h2, q⟩
      exact ⟨v, h1, b, h2, m _ _ q⟩
end
end Xk
end
section
set_option Elab.async false
set_option linter.all false
set_option maxRecDepth 100000
set_option maxHeartbeats 4000000
namespace Xk
open PySem PySem.Spec PyProof.Rows L2 Xh LamX NdefX
/-- t + u, both of rests -/
theorem catA {K : PySem.W.Frag} {H : Hp} {a b : Addr} {xs ys : List Int} {Q : VK} (ha : SqT K H a (xs.map V.int)) (hb : SqT K H b (ys.map V.int)) (l : xs.length ≤ 100) (l2 : ys.length ≤ 100) (k : ∀ r H', Same H H' → SqT K H' r ((xs ++ ys).map V.int) → Q (.ref r) H') : rCatA K (.ref a) (.ref b) H Q := by
  refine ⟨a, b, _, _, rfl, rfl, ha, hb, ?_, fun e => ?_, fun _ e => ?_, fun _ _ p hp => ?_⟩
  · rw [List.length_map, List.length_map]
    exact Nat.le_trans (show xs.length + ys.length ≤ 200 by omega) (by decide)
  · have z : xs = [] := List.map_eq_nil_iff.mp e
    subst z
    exact k b H (fun _ _ z => z) hb
  · have z : ys = [] := List.map_eq_nil_iff.mp e
    subst z
    refine k a H (fun _ _ z => z) ?_
    rw [List.append_nil]
    exact ha
  · refine k p _ (same_upd hp) (.inl (.inl ?_))
    rw [upd_same, List.map_append]
/-! ### the turns of x -/
/-- rows of numbers at the heap -/
def Rws (H : Hp) : List Addr → List (List Int) → Prop
  | [], [] => True
  | l :: ls, r :: rs => H l = some (.tup (r.map V.int)) ∧ Rws H ls rs
  | _, _ => False
theorem Rws.len {H : Hp} : ∀ {ls : List Addr} {rs : List (List Int)}, Rws H ls rs → ls.length = rs.length
  | [], [], _ => rfl
  | _ :: _, _ :: _, h => by rw [List.length_cons, List.length_cons, Rws.len h.2]
theorem Rws.keep {H H' : Hp} (k : ∀ a xs, H a = some (.tup xs) → H' a = some (.tup xs)) : ∀ {ls : List Addr} {rs : List (List Int)}, Rws H ls rs → Rws H' ls rs
  | [], [], _ => trivial
  | _ :: _, _ :: _, h => ⟨k _ _ h.1, Rws.keep k h.2⟩
theorem Rws.snoc {H : Hp} {l : Addr} {r : List Int} (e : H l = some (.tup (r.map V.int))) : ∀ {ls : List Addr} {rs : List (List Int)}, Rws H ls rs → Rws H (ls ++ [l]) (rs ++ [r])
  | [], [], _ => ⟨e, trivial⟩
  | _ :: _, _ :: _, h => ⟨h.1, Rws.snoc e h.2⟩
theorem Rws.at {H : Hp} : ∀ {ls : List Addr} {rs : List (List Int)}, Rws H ls rs → ∀ {i : Nat} {x : V}, (ls.map V.ref)[i]? = some x → ∃ (l : Addr) (r : List Int), x = .ref l ∧ rs[i]? = some r ∧ H l = some (.tup (r.map V.int))
  | [], [], _, i, x, hx => by cases hx
  | l :: ls, r :: rs, h, 0, x, hx => by
    cases hx
    exact ⟨l, r, rfl, rfl, h.1⟩
  | l :: ls, r :: rs, h, i + 1, x, hx => by
    obtain ⟨l', r', a, b, c⟩ := Rws.at h.2 (i := i) (x := x) hx
    exact ⟨l', r', a, b, c⟩
theorem kpS {H H' : Hp} (s : Same H H') : ∀ a (xs : List V), H a = some (.tup xs) → H' a = some (.tup xs) := fun _ _ e => s _ _ e
theorem kpG {T : List (Addr × Str)} {H H' : Hp} (g : Gr T H H') : ∀ a (xs : List V), H a = some (.tup xs) → H' a = some (.tup xs) := fun _ _ e => g.tup e
theorem repZ0 {K : PySem.W.Frag} {H : Hp} {Z : Addr} {k : Int} {Q : VK} (hZ : SqT K H Z [.int 0]) (h1 : -1000 ≤ k) (h2 : k ≤ 1000) (f : ∀ (r : Addr) (H' : Hp), Same H H' → SqT K H' r ((List.replicate k.toNat (0 : Int)).map V.int) → Q (.ref r) H') : rRepZ K (.ref Z) (.int k) H Q :=
  ⟨Z, k, [.int 0], rfl, rfl, hZ, by simp, h1, h2, by decide, fun e => f Z H (fun _ _ z => z) (by subst e; exact hZ), fun _ p hp => f p _ (same_upd hp) (.inl (.inl (by rw [upd_same, rep_zero])))⟩
theorem repB {K : PySem.W.Frag} {H : Hp} {Z : Addr} {k : Int} {Q : VK} (hZ : H Z = some (.tup [.int 0])) (h1 : -1000 ≤ k) (h2 : k ≤ 1000) (f : ∀ (r : Addr) (H' : Hp), Same H H' → H' r = some (.tup ((List.replicate k.toNat (0 : Int)).map V.int)) → Q (.ref r) H') : rRepZ K (.ref Z) (.int k) H Q :=
  ⟨Z, k, [.int 0], rfl, rfl, SqT.of hZ, by simp, h1, h2, by decide, fun e => f Z H (fun _ _ z => z) (by subst e; exact hZ), fun _ p hp => f p _ (same_upd hp) (by rw [upd_same, rep_zero])⟩
theorem catB {K : PySem.W.Frag} {H : Hp} {a b : Addr} {xs ys : List Int} {Q : VK} (ha : H a = some (.tup (xs.map V.int))) (hb : H b = some (.tup (ys.map V.int))) (l : xs.length ≤ 100) (l2 : ys.length ≤ 100) (k : ∀ r H', Same H H' → H' r = some (.tup ((xs ++ ys).map V.int)) → Q (.ref r) H') : rCatA K (.ref a) (.ref b) H Q := by
  refine ⟨a, b, _, _, rfl, rfl, SqT.of ha, SqT.of hb, ?_, fun e => ?_, fun _ e => ?_, fun _ _ p hp => ?_⟩
  · rw [List.length_map, List.length_map]
    exact Nat.le_trans (show xs.length + ys.length ≤ 200 by omega) (by decide)
  · have z : xs = [] := List.map_eq_nil_iff.mp e
    subst z
    exact k b H (fun _ _ z => z) hb
  · have z : ys = [] := List.map_eq_nil_iff.mp e
    subst z
    refine k a H (fun _ _ z => z) ?_
    rw [List.append_nil]
    exact ha
  · refine k p _ (same_upd hp) ?_
    rw [upd_same, List.map_append]
theorem tabsLst {T : List (Addr × Str)} {H : Hp} {D : Addr} {xs ys : List V} (t : Tabs T H) (e : H D = some (.lst xs)) : Tabs T (L2.upd H D (.lst ys)) := fun p hp => by
  obtain ⟨ps, h1, h2, h3⟩ := t p hp
  refine ⟨ps, ?_, h2, fun pos cv hc => ?_⟩
  · rw [upd_ne (fun z => by rw [z, e] at h1; cases h1)]
    exact h1
  · obtain ⟨c', e1, e2⟩ := h3 pos cv hc
    refine ⟨c', e1, ?_⟩
    rw [upd_ne (fun z => by
      rw [z, e] at e2
      unfold CodeO at e2
      cases e2)]
    exact e2
theorem slTail {K : PySem.W.Frag} {H : Hp} {v : Addr} {ms : List Int} {n : Nat} {Q : VK} (ev : H v = some (.tup (ms.map V.int))) (hn : n ≤ ms.length) (k : ∀ a H', Same H H' → H' a = some (.tup ((ms.drop n).map V.int)) → Q (.ref a) H') : rSlA K (.ref v) (some ((n : Nat) : Int)) none H Q := by
  have i2 : HT.sIx (ms.map V.int).length (ms.map V.int).length none = (ms.map V.int).length := rfl
  have i1 : HT.sIx (ms.map V.int).length 0 (some ((n : Nat) : Int)) = n := by
    show (if ((n : Nat) : Int) < 0 then (((n : Nat) : Int) + (((ms.map V.int).length : Nat) : Int)).toNat else min ((n : Nat) : Int).toNat (ms.map V.int).length) = n
    rw [if_neg (by omega), Int.toNat_natCast, List.length_map]
    omega
  refine ⟨v, _, rfl, SqT.of ev, fun h => k v H (fun _ _ z => z) ?_, fun _ p hp => k p _ (same_upd hp) ?_⟩
  · have e := h.1
    rw [i1] at e
    rw [e, List.drop_zero]
    exact ev
  · rw [upd_same]
    unfold cutV
    rw [i1, i2, List.map_drop, List.take_of_length_le (by rw [List.length_drop]; exact Nat.le_refl _)]
theorem slTailS {K : PySem.W.Frag} {H : Hp} {v : Addr} {ms : List Int} {n : Nat} {Q : VK} (ev : SqT K H v (ms.map V.int)) (n1 : 1 ≤ n) (hn : n ≤ ms.length) (k : ∀ a H', Same H H' → H' a = some (.tup ((ms.drop n).map V.int)) → Q (.ref a) H') : rSlA K (.ref v) (some ((n : Nat) : Int)) none H Q := by
  have i2 : HT.sIx (ms.map V.int).length (ms.map V.int).length none = (ms.map V.int).length := rfl
  have i1 : HT.sIx (ms.map V.int).length 0 (some ((n : Nat) : Int)) = n := by
    show (if ((n : Nat) : Int) < 0 then (((n : Nat) : Int) + (((ms.map V.int).length : Nat) : Int)).toNat else min ((n : Nat) : Int).toNat (ms.map V.int).length) = n
    rw [if_neg (by omega), Int.toNat_natCast, List.length_map]
    omega
  refine ⟨v, _, rfl, ev, fun h => k v H (fun _ _ z => z) ?_, fun _ p hp => k p _ (same_upd hp) ?_⟩
  · have e := h.1
    rw [i1] at e
    exact absurd e (by omega)
  · rw [upd_same]
    unfold cutV
    rw [i1, i2, List.map_drop, List.take_of_length_le (by rw [List.length_drop]; exact Nat.le_refl _)]
theorem slHead {K : PySem.W.Frag} {H : Hp} {v : Addr} {ms : List Int} {n : Nat} {Q : VK} (ev : H v = some (.tup (ms.map V.int))) (hn : n ≤ ms.length) (k : ∀ a H', Same H H' → H' a = some (.tup ((ms.take n).map V.int)) → Q (.ref a) H') : rSlA K (.ref v) none (some ((n : Nat) : Int)) H Q := by
  have i1 : HT.sIx (ms.map V.int).length (ms.map V.int).length (some ((n : Nat) : Int)) = n := by
    show (if ((n : Nat) : Int) < 0 then (((n : Nat) : Int) + (((ms.map V.int).length : Nat) : Int)).toNat else min ((n : Nat) : Int).toNat (ms.map V.int).length) = n
    rw [if_neg (by omega), Int.toNat_natCast, List.length_map]
    omega
  refine ⟨v, _, rfl, SqT.of ev, fun h => k v H (fun _ _ z => z) ?_, fun _ p hp => k p _ (same_upd hp) ?_⟩
  · have e := h.2
    rw [i1, List.length_map] at e
    rw [List.take_of_length_le (by omega)]
    exact ev
  · rw [upd_same, cutV_take]
theorem grLst {T : List (Addr × Str)} {H H' : Hp} {D : Addr} {xs ys : List V} (g : Gr T H H') (n : H D = none) (e : H' D = some (.lst xs)) : Gr T H (L2.upd H' D (.lst ys)) := ⟨fun a o h hn => by
  rw [upd_ne (ne_of_none h n)]
  exact g.x a o h hn, fun b hb => by
  by_cases z : b = D
  · rw [z]
    exact n
  · rw [upd_ne z] at hb
    exact g.n b hb, tabsLst g.t e⟩
theorem Rws.lst {H : Hp} {D : Addr} {xs ys : List V} {la : List Addr} {rs : List (List Int)} (h : Rws H la rs) (e : H D = some (.lst xs)) : Rws (L2.upd H D (.lst ys)) la rs := h.keep fun a us z => by
  rw [upd_ne (fun q => by rw [q, e] at z; cases z)]
  exact z
theorem tupL {H : Hp} {D : Addr} {xs ys us : List V} {a : Addr} (e : H D = some (.lst xs)) (h : H a = some (.tup us)) : L2.upd H D (.lst ys) a = some (.tup us) := by
  rw [upd_ne (fun q => by rw [q, e] at h; cases h)]
  exact h
theorem co_x : co [0, 1] = Xp.xs Xp.one := funext fun k => by
  match k with
  | 0 => rfl
  | 1 => rfl
  | k + 2 =>
    show (0 : Int) = Xp.one (k + 1)
    exact (if_neg (by omega)).symm
theorem po_x {p : Int} (h : Pm p) {n : Nat} (hn : 2 ≤ n) : Po p [0, 1] n := ⟨((Rs.nil p h.pos).add (by decide) h.pos).add (by decide) (by have := h.lo; omega), by simp [trim], hn⟩
theorem rb_primes : ∀ p ∈ primes, Xp.rb p.toNat = true := by decide +kernel
theorem fb_primes {q : Nat} (h : (q : Int) ∈ primes) : Xp.Fb q := Xp.fb_of (rb_primes _ h)
theorem pr_of {p : Int} (h : p ∈ primes) : Xp.Pr p := by
  have hm := pm_of h
  have lo := hm.lo
  refine ⟨lo, fun a ha => ?_⟩
  have n0 := Int.emod_nonneg a (show p ≠ 0 by omega)
  have n1 := Int.emod_lt_of_pos a hm.pos
  have d : Dsr p [a % p] := ⟨Nat.succ_pos _, by simp [trim, ha], (Rs.nil p hm.pos).add n0 n1, h⟩
  obtain ⟨l, P, hl, hP, P2, P3, lP, _, _, _, ec, _⟩ := d.last
  refine ⟨scl [a % p] p, ?_⟩
  have e2 : (scl [a % p] p * (a % p)) % p = 1 := by
    rw [← fm_em hm.pos]
    exact ec
  rw [Int.mul_emod, Int.emod_emod_of_dvd a (Int.dvd_refl p)] at e2
  rw [Int.mul_emod]
  exact e2
def spTrimA : Sp := fun vs H Q _ => ∃ (a : Addr) (ns : List Int), vs = [.ref a] ∧ H a = some (.tup (ns.map V.int)) ∧ ns.length ≤ 1000 ∧ ∀ (v : Addr) (H' : Hp), Same H H' → H' v = some (.tup ((trim ns).map V.int)) → Q (.ref v) H'
theorem wgP_take : ∀ (ts : List Int) (rs : List (List Int)), Xp.wgP ts (rs.take ts.length) = Xp.wgP ts rs
  | [], _ => rfl
  | _ :: _, [] => rfl
  | t :: ts, r :: rs => by
    show Xp.Po.C t * Xp.Po.of r + Xp.wgP ts (rs.take ts.length) = _
    rw [wgP_take ts rs]
    rfl
theorem wgP_snoc {t : Int} {r : List Int} (k : Nat) : ∀ {ts : List Int} {rs : List (List Int)} {i : Nat}, ts[i]? = some t → rs[i]? = some r → (Xp.wgP (ts.take (i + 1)) (rs.take (i + 1))).c k = (Xp.wgP (ts.take i) (rs.take i)).c k + t * r.getD k 0
  | [], _, _, h, _ => by cases h
  | _ :: _, [], _, _, h => by cases h
  | t' :: ts, r' :: rs, 0, h, h2 => by
    cases h
    cases h2
    show Xp.ad (Xp.cv (Xp.sc t Xp.one) (co r)) (Xp.wgP [] []).c k = 0 + _
    rw [Xp.sc_cv, Xp.one_cv]
    show t * co r k + 0 = 0 + t * co r k
    omega
  | t' :: ts, r' :: rs, i + 1, h, h2 => by
    have ih := wgP_snoc k (ts := ts) (rs := rs) (i := i) h h2
    show Xp.ad (Xp.cv (Xp.sc t' Xp.one) (co r')) (Xp.wgP (ts.take (i + 1)) (rs.take (i + 1))).c k = Xp.ad (Xp.cv (Xp.sc t' Xp.one) (co r')) (Xp.wgP (ts.take i) (rs.take i)).c k + _
    show _ + (Xp.wgP (ts.take (i + 1)) (rs.take (i + 1))).c k = (_ + (Xp.wgP (ts.take i) (rs.take i)).c k) + _
    rw [ih, Int.add_assoc]
def padL (xs : List Int) (n : Nat) : List Int := xs ++ List.replicate (n - xs.length) 0
theorem padL_len {xs : List Int} {n : Nat} (h : xs.length ≤ n) : (padL xs n).length = n := by
  unfold padL
  rw [List.length_append, List.length_replicate]
  omega
theorem co_pad (xs : List Int) (n : Nat) : co (padL xs n) = co xs := funext fun k => by
  show (xs ++ List.replicate (n - xs.length) 0).getD k 0 = xs.getD k 0
  rw [List.getD_eq_getElem?_getD, List.getD_eq_getElem?_getD]
  rcases Nat.lt_or_ge k xs.length with h | h
  · rw [List.getElem?_append_left h]
  · rw [List.getElem?_append_right h, List.getElem?_eq_none h, List.getElem?_replicate]
    split <;> rfl
def spPad (K : PySem.W.Frag) : Sp := fun vs H Q _ => ∃ (a : Addr) (xs : List Int) (n : Nat), vs = [.ref a, .int n] ∧ H a = some (.tup (xs.map V.int)) ∧ xs.length ≤ n ∧ n ≤ 24 ∧ ∀ (v : Addr) (H' : Hp), Same H H' → H' v = some (.tup ((padL xs n).map V.int)) → Q (.ref v) H'
/-- the powers of x by the prime, one by one -/
structure TRow (q : Nat) (R : List Int) (i : Nat) (r : List Int) : Prop where
  len : r.length = R.length - 1
  rs : Rs q r
  cg : Xp.Cg q (co R) (Xp.pw (Xp.xs Xp.one) (q * i)) (co r)
def spTRows (K : PySem.W.Frag) (T : List (Addr × Str)) : Sp := fun vs H Q _ => ∃ (b : Addr) (R : List Int) (q : Nat), vs = [.ref b, .int q] ∧ SqT K H b (R.map V.int) ∧ R.length ≤ 25 ∧ 2 ≤ R.length ∧ Dsr q R ∧ Tabs T H ∧
  ∀ (D : Addr) (la : List Addr) (rs : List (List Int)) (H' : Hp), Gr T H H' → H D = none → H' D = some (.lst (la.map V.ref)) → Rws H' la rs → rs.length = R.length - 1 → (∀ i r, rs[i]? = some r → TRow q R i r) → Q (.ref D) H'
def spWgh (K : PySem.W.Frag) : Sp := fun vs H Q _ => ∃ (t D s : Addr) (la : List Addr) (ts : List Int) (rs : List (List Int)) (n : Nat) (p : Int), vs = [.ref t, .ref D, .ref s, .int p] ∧ H t = some (.tup (ts.map V.int)) ∧ H D = some (.lst (la.map V.ref)) ∧ Rws H la rs ∧ SqT K H s ((List.replicate n (0 : Int)).map V.int) ∧ n ≤ 24 ∧ ts.length ≤ rs.length ∧ rs.length ≤ 24 ∧ Rs p ts ∧ (∀ r ∈ rs, r.length = n ∧ Rs p r) ∧ Pm p ∧
  ∀ (v : Addr) (ms : List Int) (H' : Hp), Same H H' → H' v = some (.tup (ms.map V.int)) → ms.length = n → Rs p ms → Xp.Eqm p (co ms) (Xp.wgP ts rs).c → Q (.ref v) H'
def spLeftS (K : PySem.W.Frag) (T : List (Addr × Str)) : Sp := fun vs H Q _ => ∃ (a b : Addr) (xs R : List Int) (p : Int), vs = [.ref a, .ref b, .int p] ∧ SqT K H a (xs.map V.int) ∧ SqT K H b (R.map V.int) ∧ xs.length ≤ 50 ∧ R.length ≤ 25 ∧ Rs p xs ∧ Dsr p R ∧ Tabs T H ∧
  ∀ (v : Addr) (rs : List Int) (H' : Hp), Gr T H H' → H' v = some (.tup (rs.map V.int)) → Rem p R (co xs) rs → Q (.ref v) H'
def spTurns (K : PySem.W.Frag) (T : List (Addr × Str)) : Sp := fun vs H Q _ => ∃ (b : Addr) (R : List Int) (n q : Nat), vs = [.ref b, .int n, .int q] ∧ SqT K H b (R.map V.int) ∧ R.length ≤ 25 ∧ 2 ≤ R.length ∧ Dsr q R ∧ n ≤ 24 ∧ Tabs T H ∧
  ∀ (D : Addr) (la : List Addr) (rs : List (List Int)) (H' : Hp), Gr T H H' → H D = none → H' D = some (.lst (la.map V.ref)) → Rws H' la rs → rs.length = n → (∀ i r, rs[i]? = some r → Rem q R (Xp.pw (Xp.xs Xp.one) (q ^ (i + 1))) r) → Q (.ref D) H'
section
variable {P : Program} {w : World} {K : PySem.W.Frag} {mg : Str → Option Value} {base : Heap}
theorem q_raw_left {TT : List (Addr × Str)} {f : Addr} {fd : FuncData} (F : FunD K "raw_left" "raw_left" (defArgs s_raw_left) (defBody s_raw_left) (defScope s_raw_left) [] [] f fd) (o_raw_parted : Own P w K mg base CX0 4 "raw_parted" ["one", "other", "prime"] [] (spPartedT K TT)) : FnOk P w K mg base CX0 5 f fd ["one", "rule", "prime"] (spLeftS K TT) := by
  refine F.ok sc_raw_left (fun vs H Q E h => ?_) (fun cdv A outer s H vs Q E hr h => ?_)
  · obtain ⟨a, b, xs, R, p, rfl, _⟩ := h
    rfl
  · obtain ⟨a, b, xs, R, p, rfl, ea, eb, la, lb, rA, dB, hT, k⟩ := h
    refine ⟨_, PSs.nox (pss_one (ps_ret (pe_ix ix_tup (pe_own o_raw_parted (hr.mono (by decide)) rfl pass0 (pa_cons (pv 0) (pa_cons (pv 1) (pa_cons (pv 2) pa_nil)))) pe_int (fun _ _ => rfl)))) , ?_⟩
    exact ⟨_, rfl, _, rfl, _, rfl, a, b, xs, R, p, rfl, ea, eb, la, by omega, rA, dB, hT, fun w' u v qs rs H' g' _ e1 e2 e3 dv => ⟨w', _, 1, .ref v, rfl, rfl, SqT.of e1, rfl, k v rs H' g' e3 (dv.rem dB rA lb)⟩⟩
theorem q_trimmed {f : Addr} {fd : FuncData} (F : FunD K "trimmed" "trimmed" (defArgs s_trimmed) (defBody s_trimmed) (defScope s_trimmed) [] [] f fd) (T : Fre mg) : FnOk P w K mg base CX0 1 f fd ["rests"] spTrimA := by
  refine F.ok sc_trimmed (fun vs H Q E h => ?_) (fun cdv A outer s H vs Q E hr h => ?_)
  · obtain ⟨a, ns, rfl, _⟩ := h
    rfl
  · obtain ⟨a, ns, rfl, ea, hl, k⟩ := h
    have hS : SqT K H a (ns.map V.int) := SqT.of ea
    refine ⟨_, PSs.nox (pss_cons (ps_set (i := 1) sc_trimmed.nd rfl (Or.inl rfl) (pe_callB call_len_seq (by rfl) T.f_len PySem.boot_len (pa_cons (pv 0) pa_nil)))
      (pss_cons (ps_while PassesOwn.never (PW.pt (pw_and (pt_cmpR op_gt (pv 1) pe_int (nomark _)) (pw_and1 (pt_cmpR op_eq (pe_ix ix_tup (pv 0) (pe_op op_sub (pv 1) pe_int) (fun _ _ => rfl)) pe_int (nomark _))))) (pss_one (ps_aug (i := 1) sc_trimmed.nd rfl (Or.inl rfl) pe_int ip_sub)))
      (pss_one (ps_ret (pe_callTy call_tuple_of (by rfl) T.f_tuple (by decide +kernel) (pa_cons (pe_slice sl_tupA (pv 0) po_none (po_some (pv 1))) pa_nil)))))) , ?_⟩
    refine ⟨_, rfl, _, _, rfl, .inr hS, ?_⟩
    refine while_by (fun σ' H' => ∃ n : Nat, σ' = [some (.ref a), some (.int n)] ∧ H' = H ∧ n ≤ ns.length ∧ ∀ i, n ≤ i → ns.getD i 0 = 0) (fun σ' _ => slotN 1 σ') ⟨ns.length, by rw [List.length_map]; rfl, rfl, Nat.le_refl _, fun i hi => by rw [List.getD_eq_getElem?_getD, List.getElem?_eq_none hi]; rfl⟩ ?_ ?_
    · rintro σ' H' ⟨n, rfl, rfl, hn, hz⟩
      have fin : n = 0 ∨ ns.getD (n - 1) 0 ≠ 0 → ns.take n = trim ns := take_trim hn hz
      have out : (n = 0 ∨ ns.getD (n - 1) 0 ≠ 0) → tRet (tCB (fun xs H Q => ∃ p ys, xs = [V.ref p] ∧ ((SqL K H p ys ∧ ∀ l, H l = none → Q (V.ref l) (L2.upd H l (.tup ys))) ∨ (SqT K H p ys ∧ Q (V.ref p) H))) (tCons (tSl (rSlA K) (tVar 0) tNoPart (tPart (tVar 1))) tNil)) { nx := fun _ H' => Q V.non H', rt := Q } [some (.ref a), some (.int n)] H' := fun hc => by
        refine ⟨_, rfl, ?_⟩
        unfold tNoPart
        refine ⟨_, rfl, n, rfl, ?_⟩
        refine slHead ea hn fun a2 H2 s2 e2 => ⟨a2, _, rfl, .inr ⟨SqT.of e2, k a2 H2 s2 ?_⟩⟩
        rw [← fin hc]
        exact e2
      refine ⟨_, rfl, _, _, rfl, rfl, _, rfl, ite2 (fun hc => ?_) (fun hc => ?_)⟩
      · have h0 : 0 < n := by
          have z := of_decide_eq_true hc
          omega
        refine ⟨_, rfl, _, rfl, _, _, rfl, rfl, a, _, _, .int (ns.getD (n - 1) 0), rfl, rfl, hS, ?_, ?_⟩
        · rw [show (n : Int) - 1 = ((n - 1 : Nat) : Int) by omega]
          exact atI_nat (map_at ns (n - 1) (by omega))
        · refine ⟨rfl, _, rfl, ite2 (fun hb => ?_) (fun hb => ?_)⟩
          · have z := V.int.inj (of_decide_eq_true hb)
            refine ⟨_, rfl, _, _, rfl, rfl, ⟨n - 1, by rw [show ((n - 1 : Nat) : Int) = (n : Int) - 1 by omega]; rfl, rfl, by omega, fun i hi => ?_⟩, ?_⟩
            · by_cases hi2 : i = n - 1
              · rw [hi2]; exact z
              · exact hz i (by omega)
            · show ((n : Int) - 1).toNat < (n : Int).toNat
              omega
          · exact out (.inr fun z => hb (decide_eq_true (by rw [z])))
      · have h0 : n = 0 := by
          by_cases z : n = 0
          · exact z
          · exact absurd (decide_eq_true (show (0 : Int) < (n : Int) by omega)) hc
        exact out (.inl h0)
    · rintro σ H Q Q' m ⟨v, h1, i, j, h2, h3, b, h4, q⟩
      refine ⟨v, h1, i, j, h2, h3, b, h4, ?_⟩
      cases b with
      | true =>
        obtain ⟨x, e1, y, e2, i2, j2, e3, e4, p1, p2, p3, p4, e5, e6, e7, e8, e9, b2, e10, q⟩ := q
        exact ⟨x, e1, y, e2, i2, j2, e3, e4, p1, p2, p3, p4, e5, e6, e7, e8, e9, b2, e10, m _ _ q⟩
      | false => exact m _ _ q
theorem sc_padded : FnScope (["one", "width"] : List Str) ["one", "width"] (defScope s_padded) := ⟨rfl, rfl, rfl, by decide +kernel, rfl, by decide +kernel, by decide +kernel⟩
theorem ok_padded {f : Addr} {fd : FuncData} (F : FunD K "padded" "padded" (defArgs s_padded) (defBody s_padded) (defScope s_padded) [] [] f fd) (T : Fre mg) : FnOk P w K mg base CX0 1 f fd ["one", "width"] (spPad K) := by
  refine F.ok sc_padded (fun vs H Q E h => ?_) (fun cdv A outer s H vs Q E hr h => ?_)
  · obtain ⟨a, xs, n, rfl, _⟩ := h
    rfl
  · obtain ⟨a, xs, n, rfl, ea, hl, hn, k⟩ := h
    refine ⟨_, PSs.nox (pss_one (ps_ret (pe_op op_catA (pv 0) (pe_op op_repZ (pe_tup (pa_cons pe_int pa_nil)) (pe_op op_sub (pv 1) (pe_callB call_len_seq (by rfl) T.f_len PySem.boot_len (pa_cons (pv 0) pa_nil))))))) , ?_⟩
    refine ⟨_, rfl, (by show 1 ≤ sizeLine; decide), fun Z hZ => ⟨_, rfl, _, rfl, a, _, rfl, .inr (SqT.of (same_upd hZ _ _ ea)), _, _, rfl, rfl, repB upd_same ?_ ?_ fun r H1 s1 e1 => ?_⟩⟩
    · rw [List.length_map]
      omega
    · rw [List.length_map]
      omega
    rw [List.length_map, show ((n : Int) - (xs.length : Int)).toNat = n - xs.length by omega] at e1
    exact catB (s1 _ _ (same_upd hZ _ _ ea)) e1 (by omega) (by rw [List.length_replicate]; omega) fun v H2 s2 e2 => k v H2 (((same_upd hZ).trans s1).trans s2) e2
theorem sc_turn_rows : FnScope (["rule", "prime", "row", "turn", "rows", "_"] : List Str) ["rule", "prime"] (defScope s_turn_rows) := ⟨rfl, rfl, rfl, by decide +kernel, rfl, by decide +kernel, by decide +kernel⟩
theorem ok_turn_rows {TT : List (Addr × Str)} {f : Addr} {fd : FuncData} (F : FunD K "turn_rows" "turn_rows" (defArgs s_turn_rows) (defBody s_turn_rows) (defScope s_turn_rows) [] [] f fd) (T : Fre mg) (o_raw_left : Own P w K mg base CX0 5 "raw_left" ["one", "rule", "prime"] [] (spLeft K TT)) (o_raw_power : Own P w K mg base CX0 8 "raw_power" ["one", "exponent", "rule", "prime"] [] (spPowR K TT)) (o_raw_times : Own P w K mg base CX0 2 "raw_times" ["one", "other", "prime"] [] (spTimes K)) (o_padded : Own P w K mg base CX0 1 "padded" ["one", "width"] [] (spPad K)) : FnOk P w K mg base CX0 9 f fd ["rule", "prime"] (spTRows K TT) := by
  refine F.ok sc_turn_rows (fun vs H Q E h => ?_) (fun cdv A outer s H vs Q E hr h => ?_)
  · obtain ⟨b, R, q, rfl, _⟩ := h
    rfl
  · obtain ⟨b, R, q, rfl, eb, lR, l2, dR, hT, k⟩ := h
    refine ⟨_, PSs.nox (pss_cons (ps_set (i := 2) sc_turn_rows.nd rfl (Or.inl rfl) (pe_own o_raw_left (hr.mono (by decide)) rfl pass0 (pa_cons (pe_tup (pa_cons pe_int pa_nil)) (pa_cons (pv 0) (pa_cons (pv 1) pa_nil)))))
      (pss_cons (ps_set (i := 3) sc_turn_rows.nd rfl (Or.inl rfl) (pe_own o_raw_power (hr.mono (by decide)) rfl pass0 (pa_cons (pe_tup (pa_cons pe_int (pa_cons pe_int pa_nil))) (pa_cons (pv 1) (pa_cons (pv 0) (pa_cons (pv 1) pa_nil))))))
      (pss_cons (ps_set (i := 4) sc_turn_rows.nd rfl (Or.inl rfl) (pe_lst pa_nil))
      (pss_cons (ps_for PassesOwn.never rfl (pi_tup (pe_slice sl_tupA (pv 0) (po_some pe_int) po_none)) (pg_name (i := 5) sc_turn_rows.nd rfl (Or.inl rfl)) (pss_cons (ps_expr (pe_bm PySem.F.plainAttrs_list PySem.F.slot_list_append PySem.F.type_list_append mt_append (pv 4) (pa_cons (pe_own o_padded (hr.mono (by decide)) rfl pass0 (pa_cons (pv 2) (pa_cons (pe_op op_sub (pe_callB call_len_seq (by rfl) T.f_len PySem.boot_len (pa_cons (pv 0) pa_nil)) pe_int) pa_nil))) pa_nil)))
      (pss_one (ps_set (i := 2) sc_turn_rows.nd rfl (Or.inl rfl) (pe_own o_raw_left (hr.mono (by decide)) rfl pass0 (pa_cons (pe_own o_raw_times (hr.mono (by decide)) rfl pass0 (pa_cons (pv 2) (pa_cons (pv 3) (pa_cons (pv 1) pa_nil)))) (pa_cons (pv 0) (pa_cons (pv 1) pa_nil))))))))
      (pss_one (ps_ret (pv 4))))))) , ?_⟩
    have hpm := pm_of dR.pr
    refine ⟨(by show 1 ≤ sizeLine; decide), fun t0 h0 => ⟨_, rfl, _, rfl, t0, b, [1], R, q, rfl, upd_same, sameT (same_upd h0) eb, by decide, lR, (po_one hpm (n := 1) (Nat.le_refl _)).rs, dR, hT.ext (same_upd h0), fun r0 w0 H1 g1 er m0 => ?_⟩⟩
    have G1 := (Gr.of hT (same_upd (o := .tup [.int 1]) h0)).trans g1
    refine ⟨(by show 2 ≤ sizeLine; decide), fun t1 h1 => ⟨_, rfl, _, rfl, _, rfl, t1, b, [0, 1], R, q, q, rfl, upd_same, sameT (same_upd h1) (sqG G1 eb), po_x hpm (by decide), lR, dR, G1.t.ext (same_upd h1), fun u us H2 g2 eu mu => ?_⟩⟩
    have G2 := (G1.same (same_upd (o := .tup [.int 0, .int 1]) h1)).trans g2
    rw [co_x] at mu
    refine ⟨(by show 0 ≤ sizeLine; decide), fun D hD => ?_⟩
    have G3 := G2.same (same_upd (o := .lst []) hD)
    refine ⟨_, rfl, 1, rfl, ?_⟩
    unfold tNoPart
    refine slTailS (n := 1) (sqG G3 eb) (Nat.le_refl 1) (by omega) fun A1 H4 s4 e4 => ⟨A1, rfl, ⟨_, SqT.of e4⟩, ?_⟩
    have G4 := G3.same s4
    have nD : H D = none := G2.n _ hD
    refine for_it (walk_tup (xs := (R.drop 1).map V.int)) (fun i σ' H' => ∃ (ar : Addr) (r : List Int) (la : List Addr) (rs : List (List Int)) (x5 : Option V), σ' = [some (.ref b), some (.int q), some (.ref ar), some (.ref u), some (.ref D), x5] ∧ Gr TT H H' ∧ H' D = some (.lst (la.map V.ref)) ∧ Rws H' la rs ∧ rs.length = i ∧ (∀ j r, rs[j]? = some r → TRow q R j r) ∧ H' ar = some (.tup (r.map V.int)) ∧ Rem q R (Xp.pw (Xp.xs Xp.one) (q * i)) r ∧ H' u = some (.tup (us.map V.int)) ∧ H' A1 = some (.tup ((R.drop 1).map V.int)))
      ⟨r0, w0, [], [], none, rfl, G4, s4 _ _ upd_same, trivial, rfl, (fun j r h => by cases h), s4 _ _ (same_upd hD _ _ (g2.tup (same_upd h1 _ _ er))), m0.congr (Xp.Cg.of (eqv_fun fun k => by rw [co_one]; rfl)), s4 _ _ (same_upd hD _ _ eu), e4⟩ (fun i σ' H' _ ⟨_, _, _, _, _, _, _, _, _, _, _, _, _, _, z⟩ => SqT.of z) ?_ ?_
    · rintro i x σ' Ha Hb hi ⟨ar, r, la, rs, x5, rfl, Ga, eD, hD2, lrs, tr, ear, mr, eu2, eA⟩ ⟨rfl, hx⟩
      rw [List.length_map, List.length_drop] at hi
      have lla := hD2.len
      have lr := mr.less
      refine ⟨_, rfl, .inl ⟨rfl, _, SqL.of eD⟩, _, rfl, _, rfl, b, _, rfl, .inr (sqG Ga eb), _, _, rfl, rfl, ar, r, R.length - 1, ?_, ear, by omega, by omega, fun v Hc sc ev => ?_⟩
      · show [V.ref ar, V.int (((R.map V.int).length : Int) - 1)] = _
        rw [List.length_map, show ((R.length : Nat) : Int) - 1 = ((R.length - 1 : Nat) : Int) by omega]
      have eDc := sc _ _ eD
      refine ⟨D, _, _, rfl, rfl, eDc, ?_, ?_⟩
      · rw [List.length_map]
        exact small1000 (by omega)
      have Gd := grLst (ys := la.map V.ref ++ [.ref v]) (Ga.same sc) nD eDc
      have hDd := (Rws.snoc ev (hD2.keep (kpS sc))).lst (ys := la.map V.ref ++ [.ref v]) eDc
      have eDd : L2.upd Hc D (.lst (la.map V.ref ++ [.ref v])) D = some (.lst ((la ++ [v]).map V.ref)) := by
        rw [upd_same, List.map_append]
        rfl
      have ear2 := tupL (ys := la.map V.ref ++ [.ref v]) eDc (sc _ _ ear)
      have eu3 := tupL (ys := la.map V.ref ++ [.ref v]) eDc (sc _ _ eu2)
      have eA3 := tupL (ys := la.map V.ref ++ [.ref v]) eDc (sc _ _ eA)
      refine ⟨_, rfl, _, rfl, _, rfl, ar, u, r, us, q, rfl, .inl (.inl ear2), .inl (.inl eu3), by omega, by have := mu.less; omega, mr.po.rs, mu.po.rs, hpm, fun ms y v2 Hd sd nd ed => ?_⟩
      have lms : ms.length ≤ 50 := by
        have l1 := mu.less
        rcases times_len y with z | ⟨_, _, z⟩
        · rw [z]; decide
        · omega
      refine ⟨_, rfl, _, rfl, v2, b, ms, R, q, rfl, ed, sameT sd (sqG Gd eb), lms, lR, rs_of hpm y, dR, Gd.t.ext sd, fun r2 rs2 He ge er2 m2 => ?_⟩
      have Ge := (Gd.same sd).trans ge
      refine ⟨r2, rs2, la ++ [v], rs ++ [padL r (R.length - 1)], _, rfl, Ge, ge.x _ _ (sd _ _ eDd) (fun _ z => by cases z), (hDd.keep (kpS sd)).keep (kpG ge), by rw [List.length_append, lrs]; rfl, fun j r' hj => ?_, er2, ?_, ge.tup (sd _ _ eu3), ge.tup (sd _ _ eA3)⟩
      · rcases Nat.lt_or_ge j rs.length with h | h
        · rw [List.getElem?_append_left h] at hj
          exact tr j r' hj
        · rw [List.getElem?_append_right h] at hj
          have j0 : j - rs.length = 0 := by
            rcases Nat.eq_zero_or_pos (j - rs.length) with z | z
            · exact z
            · rw [List.getElem?_eq_none (by rw [List.length_singleton]; exact z)] at hj
              cases hj
          rw [j0] at hj
          cases hj
          have ej : j = i := by omega
          subst ej
          refine ⟨padL_len (by omega), fun k => ?_, ?_⟩
          · rw [show (padL r (R.length - 1)).getD k 0 = r.getD k 0 from congrFun (co_pad r _) k]
            exact mr.po.rs k
          · rw [co_pad]
            exact mr.cg
      · rw [show q * (i + 1) = q * i + q from Nat.mul_succ _ _, Xp.pw_add]
        exact Rem.times hpm ((Xp.Fi.xs Xp.Fi.one).pw q) mr mu y m2
    · rintro σ' Ha ⟨ar, r, la, rs, x5, rfl, Ga, eD, hD2, lrs, tr, ear, mr, eu2, eA⟩
      refine ⟨_, rfl, k D la rs Ha Ga nD eD hD2 ?_ tr⟩
      rw [lrs, List.length_map, List.length_drop]
theorem sc_weighed : FnScope (["weights", "rows", "start", "prime", "sums", "weight", "row", "place", "rest", "number"] : List Str) ["weights", "rows", "start", "prime"] (defScope s_weighed) := ⟨rfl, rfl, rfl, by decide +kernel, rfl, by decide +kernel, by decide +kernel⟩
theorem ok_weighed {f : Addr} {fd : FuncData} (F : FunD K "weighed" "weighed" (defArgs s_weighed) (defBody s_weighed) (defScope s_weighed) [] [] f fd) (T : Fre mg) : FnOk P w K mg base CX0 1 f fd ["weights", "rows", "start", "prime"] (spWgh K) := by
  refine F.ok sc_weighed (fun vs H Q E h => ?_) (fun cdv A outer s H vs Q E hr h => ?_)
  · obtain ⟨t, D, s, la, ts, rs, n, p, rfl, _⟩ := h
    rfl
  · obtain ⟨t, D, s0, la, ts, rs, n, p, rfl, et, eD, hD, hs0, hn, lt, lr, rt, hrs, hp, k⟩ := h
    refine ⟨_, PSs.nox (pss_cons (ps_set (i := 4) sc_weighed.nd rfl (Or.inl rfl) (pe_callTy call_list_of (by rfl) T.f_list (by decide +kernel) (pa_cons (pv 2) pa_nil)))
      (pss_cons (ps_for PassesOwn.never rfl (pi_zipTL (by rfl) T.f_zip (pa_cons (pv 0) (pa_cons (pv 1) pa_nil))) (pg_tup rfl (pgs_cons (pg_name (i := 5) sc_weighed.nd rfl (Or.inl rfl)) (pgs_cons (pg_name (i := 6) sc_weighed.nd rfl (Or.inl rfl)) pgs_nil))) (pss_one (ps_if (pt_cmpR op_ne (pv 5) pe_int (nomark _)) (pss_one (ps_for PassesOwn.never rfl (pi_enT (by rfl) T.f_enumerate (pa_cons (pv 6) pa_nil)) (pg_tup rfl (pgs_cons (pg_name (i := 7) sc_weighed.nd rfl (Or.inl rfl)) (pgs_cons (pg_name (i := 8) sc_weighed.nd rfl (Or.inl rfl)) pgs_nil))) (pss_one (ps_augS (pv 4) (pv 7) get_list (pe_op op_mul (pv 5) (pv 8)) ip_add set_list)))) pss_nil)))
      (pss_one (ps_ret (pe_callTy call_tuple_of (by rfl) T.f_tuple (by decide +kernel) (pa_cons (pe_lc (own := [("number", 9)]) rfl sc_weighed.nd (pi_list (pv 4)) (blkOk_by (own := [("number", 9)]) (N := ["weights", "rows", "start", "prime", "sums", "weight", "row", "place", "rest", "number"]) (sc := defScope s_weighed) (by decide +kernel)) (fun _ _ _ _ _ => pg_name (i := 9) sc_weighed.nd rfl (Or.inl rfl) (Or.inr rfl)) (fun _ _ _ _ _ => pts_nil) (fun _ _ _ _ _ => (pe_op op_modN (pv 9) (pv 3)))) pa_nil)))))) , ?_⟩
    have lo := hp.lo
    have hi1000 := hp.hi
    have lla := hD.len
    refine ⟨_, rfl, s0, _, rfl, .inr hs0, fun l hl => ?_⟩
    have sl := same_upd (o := .lst ((List.replicate n (0 : Int)).map V.int)) hl
    have nl : H l = none := hl
    refine ⟨_, rfl, _, rfl, t, D, _, _, rfl, SqT.of (sl _ _ et), SqL.of (sl _ _ eD), ?_⟩
    refine for_it (walk_zipTL (n := ts.length) (xs := ts.map V.int) (ys := la.map V.ref) (by rw [List.length_map, List.length_map]; omega)) (fun i σ' H2 => ∃ (ms : List Int) (x5 x6 x7 x8 : Option V), σ' = [some (.ref t), some (.ref D), some (.ref s0), some (.int p), some (.ref l), x5, x6, x7, x8, none] ∧ Same H H2 ∧ H2 l = some (.lst (ms.map V.int)) ∧ ms.length = n ∧ ∀ k, ms.getD k 0 = (Xp.wgP (ts.take i) (rs.take i)).c k)
      ⟨List.replicate n 0, none, none, none, none, rfl, sl, upd_same, List.length_replicate, fun k => by rw [getD_rep]; rfl⟩ (fun i σ' H2 _ ⟨_, _, _, _, _, _, s2, _⟩ => ⟨SqT.of (s2 _ _ et), SqL.of (s2 _ _ eD)⟩) ?_ ?_
    · rintro i x σ' H2 H3 hi2 ⟨ms, x5, x6, x7, x8, rfl, s2, el, lm, cm⟩ ⟨Tp, x1, y1, rfl, hTp, rfl, g1, g2⟩
      have s3 := s2.trans (same_upd (o := .tup [x1, y1]) hTp)
      obtain ⟨lr', r, rfl, hr2, er0⟩ := hD.at g2
      have er := s3 _ _ er0
      have g3 := (map_at ts i (by omega)).symm.trans g1
      cases g3
      obtain ⟨w0, w1⟩ := rt i
      have el3 := same_upd (o := .tup [.int (ts.getD i 0), .ref lr']) hTp _ _ el
      refine ⟨Tp, _, rfl, .inl (.inl upd_same), rfl, _, _, rfl, _, _, rfl, rfl, ?_⟩
      have tsi : ts[i]? = some (ts.getD i 0) := by
        rw [List.getD_eq_getElem?_getD, List.getElem?_eq_getElem (show i < ts.length by omega)]
        rfl
      have snoc := fun k => wgP_snoc k tsi hr2
      obtain ⟨lrn, rr⟩ := hrs r (List.mem_of_getElem? hr2)
      refine ⟨_, rfl, rfl, _, rfl, ite2 (fun hz => ?_) (fun hz => ?_)⟩
      · refine ⟨_, rfl, lr', _, rfl, SqT.of er, ?_⟩
        refine for_it (walk_enT (xs := r.map V.int)) (fun j σ' H4 => ∃ (ms2 : List Int) (x7 x8 : Option V), σ' = [some (.ref t), some (.ref D), some (.ref s0), some (.int p), some (.ref l), some (.int (ts.getD i 0)), some (.ref lr'), x7, x8, none] ∧ Same H H4 ∧ H4 l = some (.lst (ms2.map V.int)) ∧ ms2.length = n ∧ ∀ k, ms2.getD k 0 = ms.getD k 0 + (if k < j then ts.getD i 0 * r.getD k 0 else 0))
          ⟨ms, x7, x8, rfl, s3, el3, lm, fun k => by rw [if_neg (Nat.not_lt_zero k), Int.add_zero]⟩ (fun j σ' H4 _ ⟨_, _, _, _, s4, _⟩ => SqT.of (s4 _ _ er0)) ?_ ?_
        · rintro j x' σ' H4 H5 hj ⟨ms2, x7, x8, rfl, s4, el4, lm2, cm2⟩ ⟨Tq, u, v, rfl, hTq, rfl, e1, e2⟩
          cases e1
          rw [List.length_map] at hj
          have e3 := (map_at r j hj).symm.trans e2
          cases e3
          have el5 := same_upd (o := .tup [.int (j : Nat), .int (r.getD j 0)]) hTq _ _ el4
          have ho : atI (ms2.map V.int) (j : Int) = some (.int (ms2.getD j 0)) := atI_nat (map_at ms2 j (by omega))
          have hx : ixN (ms2.map V.int).length (j : Int) = some j := ixN_nat (by rw [List.length_map]; omega)
          refine ⟨Tq, _, rfl, .inl (.inl upd_same), rfl, _, _, rfl, _, _, rfl, rfl, ?_⟩
          refine ⟨_, rfl, _, rfl, l, _, _, _, rfl, rfl, SqL.of el5, ho, _, rfl, _, rfl, _, _, rfl, rfl, .inl ⟨by omega, by omega⟩, _, _, rfl, rfl, l, _, _, _, rfl, rfl, el5, hx, ?_⟩
          refine ⟨ms2.set j (ms2.getD j 0 + ts.getD i 0 * r.getD j 0), _, _, rfl, lcs nl (s4.trans (same_upd hTq)), by rw [upd_same, List.map_set], by rw [List.length_set]; exact lm2, fun k => ?_⟩
          rw [getD_set (by omega)]
          by_cases hk : k = j
          · rw [if_pos hk, hk, if_pos (Nat.lt_succ_self j), cm2, if_neg (Nat.lt_irrefl j), Int.add_zero]
          · rw [if_neg hk, cm2]
            by_cases h2 : k < j
            · rw [if_pos h2, if_pos (by omega)]
            · rw [if_neg h2, if_neg (by omega)]
        · rintro σ' H4 ⟨ms2, x7, x8, rfl, s4, el4, lm2, cm2⟩
          refine ⟨ms2, _, _, _, _, rfl, s4, el4, lm2, fun k => ?_⟩
          rw [cm2, snoc, cm, List.length_map]
          by_cases h2 : k < r.length
          · rw [if_pos h2]
          · rw [if_neg h2, getD_over (a := r) (by omega), Int.mul_zero]
      · have z : ts.getD i 0 = 0 := by
          rcases Decidable.em (V.int (ts.getD i 0) = V.int 0) with e | e
          · exact V.int.inj e
          · exact absurd (by rw [decide_eq_false e]; rfl) hz
        refine ⟨ms, _, _, _, _, rfl, s3, el3, lm, fun k => ?_⟩
        rw [snoc, cm, z, Int.zero_mul, Int.add_zero]
    · rintro σ' H2 ⟨ms, x5, x6, x7, x8, rfl, s2, el, lm, cm⟩
      have nz : p ≠ 0 := by omega
      refine ⟨_, rfl, l, rfl, ⟨_, SqL.of el⟩, fun D2 hD2 => ?_⟩
      refine lc_it (walk_list (xs := ms.map V.int)) (fun i H' => Same H2 H' ∧ H' D2 = some (.lst (((ms.take i).map fun x => x.fmod p).map V.int))) ⟨same_upd hD2, upd_same⟩ (fun i H' _ h => SqL.of (h.1 _ _ el)) ?_ ?_
      · rintro i x Ha Hb hi2 ⟨s4, e4⟩ ⟨rfl, hx⟩
        rw [List.length_map] at hi2
        have e5 := (map_at ms i hi2).symm.trans hx
        cases e5
        refine ⟨rfl, _, rfl, _, rfl, _, _, rfl, rfl, nz, _, e4, small1000 (Nat.le_trans (take_len _ _ _) (by omega)), lcs hD2 s4, ?_⟩
        rw [upd_same]
        exact congrArg (fun z => some (HO.lst z)) (take_map (fun x => x.fmod p) hi2)
      rintro H4 ⟨s4, e4⟩
      rw [List.length_map, List.take_length] at e4
      have at_ : ∀ k, (ms.map fun x => x.fmod p).getD k 0 = (ms.getD k 0).fmod p := fun k => by
        rw [List.getD_eq_getElem?_getD, List.getD_eq_getElem?_getD, List.getElem?_map]
        cases ms[k]? with
        | none => exact (Int.zero_fmod p).symm
        | some x => rfl
      refine ⟨D2, _, rfl, .inl ⟨SqL.of e4, fun v hv => ?_⟩⟩
      refine k v (ms.map fun x => x.fmod p) _ ((s2.trans s4).trans (same_upd hv)) upd_same (by rw [List.length_map, lm]) (fm_rs hp at_) fun j => ?_
      show (ms.map fun x => x.fmod p).getD j 0 % p = _
      rw [at_, fm_em hp.pos, Int.emod_emod_of_dvd _ (Int.dvd_refl p), cm, List.take_length, wgP_take]
theorem sc_turns_of_x : FnScope (["poly", "count", "prime", "rows", "nought", "turn", "turns", "_"] : List Str) ["poly", "count", "prime"] (defScope s_turns_of_x) := ⟨rfl, rfl, rfl, by decide +kernel, rfl, by decide +kernel, by decide +kernel⟩
theorem ok_turns_of_x {TT : List (Addr × Str)} {f aX : Addr} {fd : FuncData} (F : FunD K "turns_of_x" "turns_of_x" (defArgs s_turns_of_x) (defBody s_turns_of_x) (defScope s_turns_of_x) [] [] f fd) (T : Fre mg) (mX : mg "X" = some (.ref aX)) (hX : ∀ H, SqT K H aX (([0, 1] : List Int).map V.int)) (o_turn_rows : Own P w K mg base CX0 9 "turn_rows" ["rule", "prime"] [] (spTRows K TT)) (o_raw_left : Own P w K mg base CX0 5 "raw_left" ["one", "rule", "prime"] [] (spLeftS K TT)) (o_weighed : Own P w K mg base CX0 1 "weighed" ["weights", "rows", "start", "prime"] [] (spWgh K)) (o_trimmed : Own P w K mg base CX0 1 "trimmed" ["rests"] [] spTrimA) : FnOk P w K mg base CX0 10 f fd ["poly", "count", "prime"] (spTurns K TT) := by
  refine F.ok sc_turns_of_x (fun vs H Q E h => ?_) (fun cdv A outer s H vs Q E hr h => ?_)
  · obtain ⟨b, R, n, q, rfl, _⟩ := h
    rfl
  · obtain ⟨b, R, n, q, rfl, eb, lR, l2, dR, hn, hT, k⟩ := h
    refine ⟨_, PSs.nox (pss_cons (ps_set (i := 3) sc_turns_of_x.nd rfl (Or.inl rfl) (pe_own o_turn_rows (hr.mono (by decide)) rfl pass0 (pa_cons (pv 0) (pa_cons (pv 2) pa_nil))))
      (pss_cons (ps_set (i := 4) sc_turns_of_x.nd rfl (Or.inl rfl) (pe_op op_repZ (pe_tup (pa_cons pe_int pa_nil)) (pe_callB call_len_seq (by rfl) T.f_len PySem.boot_len (pa_cons (pv 3) pa_nil))))
      (pss_cons (ps_set (i := 5) sc_turns_of_x.nd rfl (Or.inl rfl) (pe_own o_raw_left (hr.mono (by decide)) rfl pass0 (pa_cons (pe_glob (v := .ref aX) rfl mX rfl) (pa_cons (pv 0) (pa_cons (pv 2) pa_nil)))))
      (pss_cons (ps_set (i := 6) sc_turns_of_x.nd rfl (Or.inl rfl) (pe_lst pa_nil))
      (pss_cons (ps_for PassesOwn.never rfl (pi_range1 (by rfl) T.f_range (pa_cons (pv 1) pa_nil)) (pg_name (i := 7) sc_turns_of_x.nd rfl (Or.inl rfl)) (pss_cons (ps_set (i := 5) sc_turns_of_x.nd rfl (Or.inl rfl) (pe_own o_trimmed (hr.mono (by decide)) rfl pass0 (pa_cons (pe_own o_weighed (hr.mono (by decide)) rfl pass0 (pa_cons (pv 5) (pa_cons (pv 3) (pa_cons (pv 4) (pa_cons (pv 2) pa_nil))))) pa_nil)))
      (pss_one (ps_expr (pe_bm PySem.F.plainAttrs_list PySem.F.slot_list_append PySem.F.type_list_append mt_append (pv 6) (pa_cons (pv 5) pa_nil))))))
      (pss_one (ps_ret (pv 6)))))))) , ?_⟩
    have hpm := pm_of dR.pr
    have q2 : 2 ≤ q := by
      have := hpm.lo
      omega
    refine ⟨_, rfl, _, rfl, b, R, q, rfl, eb, lR, l2, dR, hT, fun D la rs H1 g1 nD eD hD lrs tr => ?_⟩
    have lla := hD.len
    refine ⟨(by show 1 ≤ sizeLine; decide), fun Z hZ => ⟨_, rfl, D, _, rfl, .inl (SqL.of (same_upd hZ _ _ eD)), repB upd_same ?_ ?_ fun z H2 s2 ez => ?_⟩⟩
    · rw [List.length_map]
      omega
    · rw [List.length_map]
      omega
    rw [List.length_map, lla, lrs, Int.toNat_natCast] at ez
    have s12 := (same_upd (o := .tup [.int 0]) hZ).trans s2
    have G2 := g1.same s12
    refine ⟨_, rfl, _, rfl, aX, b, [0, 1], R, q, rfl, hX H2, sqG G2 eb, by decide, lR, (po_x hpm (n := 2) (by decide)).rs, dR, G2.t, fun u us H3 g3 eu mu => ?_⟩
    have G3 := G2.trans g3
    rw [co_x] at mu
    have eD3 := g3.x _ _ (s12 _ _ eD) (fun _ z => by cases z)
    have hD3 := (hD.keep (kpS s12)).keep (kpG g3)
    have ez3 := g3.tup ez
    refine ⟨(by show 0 ≤ sizeLine; decide), fun L hL => ?_⟩
    have sL := same_upd (o := .lst []) hL
    have nL : H L = none := G3.n _ hL
    have neD : D ≠ L := ne_of_none eD3 hL
    refine ⟨_, rfl, (n : Int), rfl, by omega, by omega, ?_⟩
    rw [Int.toNat_natCast]
    refine for_range (lo := 0) (n := n) (fun i σ' H' => ∃ (ut : Addr) (r : List Int) (lb : List Addr) (qs : List (List Int)) (x7 : Option V), σ' = [some (.ref b), some (.int n), some (.int q), some (.ref D), some (.ref z), some (.ref ut), some (.ref L), x7] ∧ Gr TT H H' ∧ H' L = some (.lst (lb.map V.ref)) ∧ Rws H' lb qs ∧ qs.length = i ∧ (∀ j r, qs[j]? = some r → Rem q R (Xp.pw (Xp.xs Xp.one) (q ^ (j + 1))) r) ∧ H' ut = some (.tup (r.map V.int)) ∧ Rem q R (Xp.pw (Xp.xs Xp.one) (q ^ i)) r ∧ H' D = some (.lst (la.map V.ref)) ∧ Rws H' la rs ∧ H' z = some (.tup ((List.replicate (R.length - 1) (0 : Int)).map V.int)))
      ⟨u, us, [], [], none, rfl, G3.same sL, upd_same, trivial, rfl, (fun j r h => by cases h), sL _ _ eu, mu.congr (Xp.Cg.of (eqv_fun fun k => by rw [Nat.pow_zero, Xp.pw_one])), sL _ _ eD3, hD3.keep (kpS sL), sL _ _ ez3⟩ ?_ ?_
    · rintro i σ' Ha hi ⟨ut, r, lb, qs, x7, rfl, Ga, eL, hL2, lqs, rr, eut, mr, eDa, hDa, eza⟩
      have lr := mr.less
      have llb := hL2.len
      refine ⟨_, rfl, _, rfl, _, rfl, _, rfl, ut, D, z, la, r, rs, R.length - 1, q, rfl, eut, eDa, hDa, SqT.of eza, by omega, by omega, by omega, mr.po.rs, fun r' hr' => ?_, hpm, fun v ms Hb sb ev lm rm em => ?_⟩
      · obtain ⟨j, hj⟩ := List.mem_iff_getElem?.mp hr'
        have := tr j r' hj
        exact ⟨this.len, this.rs⟩
      refine ⟨v, ms, rfl, ev, by omega, fun wv Hc sc ew => ?_⟩
      have sbc := sb.trans sc
      have eLc := sbc _ _ eL
      refine ⟨_, rfl, .inl ⟨rfl, _, SqL.of eLc⟩, _, rfl, L, _, _, rfl, rfl, eLc, ?_, ?_⟩
      · rw [List.length_map]
        exact small1000 (by omega)
      have tc : Xp.Cg q (co R) (Xp.pw (Xp.xs Xp.one) (q ^ (i + 1))) (co (trim ms)) := by
        rw [co_trim]
        exact Xp.turn_of q2 (fb_primes dR.pr) (by omega) (fun j r' hj => (tr j r' hj).cg) mr.cg em
      have rm2 : Rem q R (Xp.pw (Xp.xs Xp.one) (q ^ (i + 1))) (trim ms) := by
        have lt := trim_length ms
        exact ⟨⟨fun k => by rw [trim_getD]; exact rm k, trim_trim _, by omega⟩, by omega, tc⟩
      have GC := Ga.same sbc
      refine ⟨wv, trim ms, lb ++ [wv], qs ++ [trim ms], _, rfl, grLst GC nL eLc, by rw [upd_same, List.map_append]; rfl, (Rws.snoc ew (hL2.keep (kpS sbc))).lst eLc, by rw [List.length_append, lqs]; rfl, fun j r' hj => ?_, tupL eLc ew, rm2, by rw [upd_ne neD]; exact sbc _ _ eDa, (hDa.keep (kpS sbc)).lst eLc, tupL eLc (sbc _ _ eza)⟩
      rcases Nat.lt_or_ge j qs.length with h | h
      · rw [List.getElem?_append_left h] at hj
        exact rr j r' hj
      · rw [List.getElem?_append_right h] at hj
        have j0 : j - qs.length = 0 := by
          rcases Nat.eq_zero_or_pos (j - qs.length) with z | z
          · exact z
          · rw [List.getElem?_eq_none (by rw [List.length_singleton]; exact z)] at hj
            cases hj
        rw [j0] at hj
        cases hj
        have ej : j = i := by omega
        subst ej
        exact rm2
    · rintro σ' Ha ⟨ut, r, lb, qs, x7, rfl, Ga, eL, hL2, lqs, rr, eut, mr, eDa, hDa, eza⟩
      exact ⟨_, rfl, k L lb qs Ha Ga nL eL hL2 lqs rr⟩
end
end Xk
end
section
set_option Elab.async false
set_option linter.all false
set_option maxRecDepth 100000
set_option maxHeartbeats 4000000
namespace Xk
open PySem PySem.Spec PyProof.Rows L2 Xh LamX NdefX
/-! ### whole or not -/
/-- no level part of at most half its degree -/
def Whole (q : Nat) (xs : List Int) : Prop := 2 ≤ xs.length ∧ ∀ e, 1 ≤ e → 2 * e ≤ xs.length - 1 → ∀ t ∈ Xp.tp q e, ¬ Xp.Dv q (Xp.lv t) (co xs)
/-- a common level part with x to a power of the prime, less x -/
def Tn (q : Nat) (R : List Int) (k : Nat) : Prop := ∃ e, 1 ≤ e ∧ ∃ t ∈ Xp.tp q e, Xp.Dv q (Xp.lv t) (Xp.xq (q ^ k)) ∧ Xp.Dv q (Xp.lv t) (co R)
theorem Dsr.dg {q : Nat} {R : List Int} (d : Dsr q R) : Xp.Dg q (R.length - 1) (co R) := by
  have hp := pm_of d.pr
  obtain ⟨l, P, hl, hP, P2, P3, lP, _, _, _, ec, _⟩ := d.last
  rw [fm_em hp.pos] at ec
  exact ⟨⟨_, ec⟩, fun k hk => getD_over (by omega)⟩
theorem whole_iff {q : Nat} {R : List Int} (d : Dsr q R) (l2 : 2 ≤ R.length) : Whole q R ↔ ∀ k, 1 ≤ k → 2 * k ≤ R.length - 1 → ¬ Tn q R k := by
  constructor
  · rintro ⟨_, h⟩ k k1 k2 ⟨e, e1, t, ht, d1, d2⟩
    exact Xp.no_turn (pr_of d.pr) (fb_primes d.pr) d.dg (by omega) h k1 k2 e1 ht d2 d1
  · intro h
    refine ⟨l2, fun e e1 e2 t ht dv => ?_⟩
    obtain ⟨k, k1, k2, t', ht', a, b⟩ := Xp.has_turn (pr_of d.pr) ⟨e, e1, e2, t, ht, dv⟩
    exact h k k1 k2 ⟨k, k1, t', ht', b, a⟩
theorem minus_x {q : Nat} {R ts ms : List Int} {i k : Nat} (hp : Pm q) (m : Rem q R (Xp.pw (Xp.xs Xp.one) (q ^ k)) ts) (x : Is (fun j => (ts.getD j 0 + ((q : Int) - 1) * ([0, 1] : List Int).getD j 0).fmod q) i ms) : Xp.Cg q (co R) (Xp.xq (q ^ k)) (co ms) := by
  refine (m.cg.ad (Xp.Cg.refl _ _ (Xp.sc (-1) (Xp.xs Xp.one)))).trans (Xp.Cg.of fun j => ?_)
  have e := eqm_of hp.pos x j
  rw [e]
  show (co ts j + -1 * Xp.xs Xp.one j) % (q : Int) = (ts.getD j 0 + ((q : Int) - 1) * co [0, 1] j) % (q : Int)
  rw [co_x, show ((q : Int) - 1) * Xp.xs Xp.one j = -1 * Xp.xs Xp.one j + Xp.xs Xp.one j * (q : Int) by rw [Int.sub_mul, Int.mul_comm (q : Int)]; omega, ← Int.add_assoc, Int.add_mul_emod_self_right]
theorem turn_len {q : Nat} {R ts ms g : List Int} {i k : Nat} (d : Dsr q R) (lR : R.length ≤ 25) (m : Rem q R (Xp.pw (Xp.xs Xp.one) (q ^ k)) ts) (x : Is (fun j => (ts.getD j 0 + ((q : Int) - 1) * ([0, 1] : List Int).getD j 0).fmod q) i ms) (G : Gc q ms R g) : 1 < g.length ↔ Tn q R k := by
  have hp := pm_of d.pr
  have q2 : 2 ≤ q := by
    have := hp.lo
    omega
  have ne : R ≠ [] := fun z => by
    have := d.pos
    rw [z] at this
    exact absurd this (by decide)
  rw [G.len q2 ⟨d.rs, d.tr, lR⟩ ne]
  have c := minus_x hp m x
  constructor
  · rintro ⟨e, e1, t, ht, d1, d2⟩
    exact ⟨e, e1, t, ht, (dv_iff d2 c).mpr d1, d2⟩
  · rintro ⟨e, e1, t, ht, d1, d2⟩
    exact ⟨e, e1, t, ht, (dv_iff d2 c).mp d1, d2⟩
def spWhole (K : PySem.W.Frag) (T : List (Addr × Str)) : Sp := fun vs H Q _ => ∃ (a : Addr) (xs : List Int) (q : Nat), vs = [.ref a, .int q] ∧ SqT K H a (xs.map V.int) ∧ (3 ≤ xs.length → H a = some (.tup (xs.map V.int))) ∧ (q : Int) ∈ primes ∧ Po q xs 25 ∧ Tabs T H ∧
  ∀ (b : Bool) (H' : Hp), Gr T H H' → (b = true ↔ Whole q xs) → Q (.bl b) H'
section
variable {P : Program} {w : World} {K : PySem.W.Frag} {mg : Str → Option Value} {base : Heap}
theorem sc_raw_whole : FnScope (["poly", "prime", "turn"] : List Str) ["poly", "prime"] (defScope s_raw_whole) := ⟨rfl, rfl, rfl, by decide +kernel, rfl, by decide +kernel, by decide +kernel⟩
theorem ok_raw_whole {TT : List (Addr × Str)} {f aX : Addr} {fd : FuncData} (F : FunD K "raw_whole" "raw_whole" (defArgs s_raw_whole) (defBody s_raw_whole) (defScope s_raw_whole) [] [] f fd) (T : Fre mg) (mX : mg "X" = some (.ref aX)) (hX : ∀ H, SqT K H aX (([0, 1] : List Int).map V.int)) (o_turns_of_x : Own P w K mg base CX0 10 "turns_of_x" ["poly", "count", "prime"] [] (spTurns K TT)) (o_raw_greatest : Own P w K mg base CX0 6 "raw_greatest" ["one", "other", "prime"] [] (spGreat TT)) (o_raw_minus : Own P w K mg base CX0 3 "raw_minus" ["one", "other", "prime"] [] (spMinus K)) : FnOk P w K mg base CX0 11 f fd ["poly", "prime"] (spWhole K TT) := by
  refine F.ok sc_raw_whole (fun vs H Q E h => ?_) (fun cdv A outer s H vs Q E hr h => ?_)
  · obtain ⟨a, xs, q, rfl, _⟩ := h
    rfl
  · obtain ⟨a, xs, q, rfl, ea, ea3, hp, px, hT, k⟩ := h
    have hpm := pm_of hp
    have lx := px.len
    refine ⟨_, PSs.nox (pss_cons (ps_if (pt_cmpR op_lt (pe_callB call_len_seq (by rfl) T.f_len PySem.boot_len (pa_cons (pv 0) pa_nil)) pe_int (nomark _)) (pss_one (ps_ret pe_bl)) pss_nil)
      (pss_cons (ps_for PassesOwn.never rfl (pi_list (pe_own o_turns_of_x (hr.mono (by decide)) rfl pass0 (pa_cons (pv 0) (pa_cons (pe_op op_fdivW (pe_op op_sub (pe_callB call_len_seq (by rfl) T.f_len PySem.boot_len (pa_cons (pv 0) pa_nil)) pe_int) pe_int) (pa_cons (pv 1) pa_nil))))) (pg_name (i := 2) sc_raw_whole.nd rfl (Or.inl rfl)) (pss_one (ps_if (pt_cmpR op_gt (pe_callB call_len_seq (by rfl) T.f_len PySem.boot_len (pa_cons (pe_own o_raw_greatest (hr.mono (by decide)) rfl pass0 (pa_cons (pe_own o_raw_minus (hr.mono (by decide)) rfl pass0 (pa_cons (pv 2) (pa_cons (pe_glob (v := .ref aX) rfl mX rfl) (pa_cons (pv 1) pa_nil)))) (pa_cons (pv 0) (pa_cons (pv 1) pa_nil)))) pa_nil)) pe_int (nomark _)) (pss_one (ps_ret pe_bl)) pss_nil)))
      (pss_one (ps_ret pe_bl)))) , ?_⟩
    refine ⟨_, rfl, a, _, rfl, .inr ea, _, _, rfl, rfl, _, rfl, ?_⟩
    rw [List.length_map]
    by_cases l2 : xs.length < 2
    · rw [decide_eq_true (show (xs.length : Int) < 2 by omega)]
      exact iteT (k false _ (Gr.refl hT) ⟨nofun, fun w => absurd w.1 (by omega)⟩)
    · rw [decide_eq_false (show ¬ (xs.length : Int) < 2 by omega)]
      refine iteF ?_
      have hx : xs ≠ [] := fun z => by
        rw [z] at l2
        exact l2 (by decide)
      have dx := px.dsr hx hp
      have wi := whole_iff dx (by omega)
      refine ⟨_, rfl, _, rfl, a, _, rfl, .inr ea, _, _, rfl, rfl, _, _, rfl, rfl, ?_, _, rfl, a, xs, (xs.length - 1) / 2, q, ?_, ea, lx, by omega, dx, by omega, hT, fun D la rs H1 g1 nD eD hD lrs rr => ⟨D, rfl, ⟨_, SqL.of eD⟩, ?_⟩⟩
      · exact ⟨by decide, by decide⟩
      · rw [List.length_map]
        show [V.ref a, V.int (((xs.length : Int) - 1) / 2), V.int q] = _
        rw [show ((xs.length : Int) - 1) / 2 = (((xs.length - 1) / 2 : Nat) : Int) by omega]
      have lla := hD.len
      refine for_it (walk_list (xs := la.map V.ref)) (fun i σ' H' => ∃ x2, σ' = [some (.ref a), some (.int q), x2] ∧ Gr TT H H' ∧ H' D = some (.lst (la.map V.ref)) ∧ Rws H' la rs ∧ ∀ j, j < i → ¬ Tn q xs (j + 1)) ⟨none, rfl, g1, eD, hD, fun j hj => absurd hj (Nat.not_lt_zero j)⟩ (fun i σ' H' _ ⟨_, _, _, e, _⟩ => SqL.of e) ?_ ?_
      · rintro i x σ' Ha Hb hi ⟨x2, rfl, Ga, eDa, hDa, no⟩ ⟨rfl, hx2⟩
        rw [List.length_map] at hi
        obtain ⟨l, r, rfl, hr, er⟩ := hDa.at hx2
        have mr := rr i r hr
        have lr := mr.less
        refine ⟨_, rfl, _, rfl, l, aX, r, [0, 1], q, rfl, SqT.of er, hX Hb, by omega, by decide, mr.po.rs, (po_x hpm (n := 2) (by decide)).rs, hpm, fun ms y v Hc sc nc ec => ?_⟩
        have lms : ms.length ≤ 25 := by
          have z := minus_len y
          have : ([0, 1] : List Int).length = 2 := rfl
          omega
        refine ⟨_, rfl, _, rfl, v, a, ms, xs, q, rfl, ec, sc _ _ (Ga.tup (ea3 (by omega))), hp, ⟨rs_of hpm y, y.tr, lms⟩, px, Ga.t.ext sc, fun u g Hd gd eu G => ⟨u, _, rfl, .inr (SqT.of eu), _, _, rfl, rfl, _, rfl, ?_⟩⟩
        have tl := turn_len dx lx mr y G
        have Gd := (Ga.same sc).trans gd
        rw [List.length_map]
        by_cases lg : 1 < g.length
        · rw [decide_eq_true (show (1 : Int) < (g.length : Int) by omega)]
          refine iteT (k false _ Gd ⟨nofun, fun w => ?_⟩)
          exact absurd (tl.mp lg) (wi.mp w (i + 1) (by omega) (by omega))
        · rw [decide_eq_false (show ¬ (1 : Int) < (g.length : Int) by omega)]
          refine iteF ⟨_, rfl, Gd, gd.x _ _ (sc _ _ eDa) (fun _ z => by cases z), (hDa.keep (kpS sc)).keep (kpG gd), fun j hj => ?_⟩
          rcases Nat.lt_or_ge j i with h | h
          · exact no j h
          · rw [show j = i by omega]
            exact fun z => lg (tl.mpr z)
      · rintro σ' Ha ⟨x2, rfl, Ga, eDa, hDa, no⟩
        rw [List.length_map, lla, lrs] at no
        refine k true _ Ga ⟨fun _ => wi.mpr fun j j1 j2 => ?_, fun _ => rfl⟩
        have := no (j - 1) (by omega)
        rwa [show j - 1 + 1 = j by omega] at this
theorem sc_is_whole : FnScope (["poly", "prime"] : List Str) ["poly", "prime"] (defScope s_is_whole) := ⟨rfl, rfl, rfl, by decide +kernel, rfl, by decide +kernel, by decide +kernel⟩
theorem ok_is_whole {TT : List (Addr × Str)} {f : Addr} {fd : FuncData} {kws : List (Str × V)} (F : FunD K "is_whole" "is_whole" (defArgs s_is_whole) (defBody s_is_whole) (defScope s_is_whole) [] kws f fd) (o_refuse_polys : Own P w K mg base (L2.CX P w) 4 "refuse_polys" ["polys", "prime"] [] (spRefPs K)) (o_raw_whole : Own P w K mg base CX0 11 "raw_whole" ["poly", "prime"] [] (spWhole K TT)) : FnOk P w K mg base (L2.CX P w) 12 f fd ["poly", "prime"] (spWhole K TT) := by
  refine F.ok sc_is_whole (fun vs H Q E h => ?_) (fun cdv A outer s H vs Q E hr h => ?_)
  · obtain ⟨a, xs, q, rfl, _⟩ := h
    rfl
  · obtain ⟨a, xs, q, rfl, ea, ea3, hp, px, hT, k⟩ := h
    refine ⟨_, (pss_cons (ps_expr (pe_own o_refuse_polys (hr.mono (by decide)) rfl (passes_call (takes_of rfl rfl rfl rfl) (fun _ _ _ _ h => h)) (pa_cons (pe_tup (pa_cons (pv 0) pa_nil)) (pa_cons (pv 1) pa_nil))))
      (pss_one (ps_ret (pe_own o_raw_whole (hr.mono (by decide)) rfl pass0 (pa_cons (pv 0) (pa_cons (pv 1) pa_nil)))))) , ?_⟩
    refine ⟨_, rfl, (by show 1 ≤ sizeLine; decide), fun c hc => ⟨_, rfl, c, _, q, rfl, hp, SqT.of upd_same, fun r hr => ?_, fun H1 s1 => ?_⟩⟩
    · rw [List.mem_singleton.mp hr]
      exact ⟨a, xs, rfl, (⟨sameT (same_upd hc) ea, px.len, px.rs, px.tr⟩ : Pol K _ a q xs)⟩
    have s2 := (same_upd hc).trans s1
    exact ⟨_, rfl, _, rfl, a, xs, q, rfl, sameT s2 ea, (fun h => s2 _ _ (ea3 h)), hp, px, hT.ext s2, fun b H' g w => k b H' ((Gr.of hT s2).trans g) w⟩
end
end Xk
end
section
set_option Elab.async false
set_option linter.all false
set_option maxRecDepth 100000
set_option maxHeartbeats 4000000
namespace Xk
open PySem PySem.Spec PyProof.Rows L2 Xh LamX NdefX
/-! ### tuples in their order -/
theorem kpU {H : Hp} {D : Addr} {xs ys : List V} (e : H D = some (.lst xs)) : ∀ a us, H a = some (.tup us) → L2.upd H D (.lst ys) a = some (.tup us) := fun a us h => tupL e h
/-- tuples of values stand at these -/
def Tps (H : Hp) : List Addr → List (List V) → Prop
  | [], [] => True
  | l :: ls, r :: rs => H l = some (.tup r) ∧ Tps H ls rs
  | _, _ => False
theorem Tps.len {H : Hp} : ∀ {ls : List Addr} {rs : List (List V)}, Tps H ls rs → ls.length = rs.length
  | [], [], _ => rfl
  | _ :: _, _ :: _, h => congrArg Nat.succ (Tps.len h.2)
  | [], _ :: _, h => h.elim
  | _ :: _, [], h => h.elim
theorem Tps.keep {H H' : Hp} (k : ∀ a xs, H a = some (.tup xs) → H' a = some (.tup xs)) : ∀ {ls : List Addr} {rs : List (List V)}, Tps H ls rs → Tps H' ls rs
  | [], [], _ => trivial
  | _ :: _, _ :: _, h => ⟨k _ _ h.1, Tps.keep k h.2⟩
  | [], _ :: _, h => h.elim
  | _ :: _, [], h => h.elim
theorem Tps.app {H : Hp} {ls' : List Addr} {rs' : List (List V)} (g : Tps H ls' rs') : ∀ {ls : List Addr} {rs : List (List V)}, Tps H ls rs → Tps H (ls ++ ls') (rs ++ rs')
  | [], [], _ => g
  | _ :: _, _ :: _, h => ⟨h.1, Tps.app g h.2⟩
  | [], _ :: _, h => h.elim
  | _ :: _, [], h => h.elim
theorem Tps.snoc {H : Hp} {l : Addr} {r : List V} (e : H l = some (.tup r)) {ls : List Addr} {rs : List (List V)} (h : Tps H ls rs) : Tps H (ls ++ [l]) (rs ++ [r]) := Tps.app (ls' := [l]) (rs' := [r]) ⟨e, trivial⟩ h
theorem Tps.get {H : Hp} : ∀ {ls : List Addr} {rs : List (List V)}, Tps H ls rs → ∀ (i : Nat) (l : Addr), ls[i]? = some l → ∃ r, rs[i]? = some r ∧ H l = some (.tup r)
  | [], [], _, i, l, e => by cases e
  | _ :: _, r :: _, h, 0, l, e => by
    cases e
    exact ⟨r, rfl, h.1⟩
  | _ :: ls, _ :: rs, h, i + 1, l, e => Tps.get (ls := ls) (rs := rs) h.2 i l e
  | [], _ :: _, h, _, _, _ => h.elim
  | _ :: _, [], h, _, _, _ => h.elim
theorem Tps.at {H : Hp} {ls : List Addr} {rs : List (List V)} (h : Tps H ls rs) {i : Nat} {x : V} (hx : (ls.map V.ref)[i]? = some x) : ∃ (l : Addr) (r : List V), x = .ref l ∧ rs[i]? = some r ∧ H l = some (.tup r) := by
  rw [List.getElem?_map] at hx
  obtain ⟨l, hl, e⟩ := Option.map_eq_some_iff.mp hx
  obtain ⟨r, hr, e2⟩ := h.get i l hl
  exact ⟨l, r, e.symm, hr, e2⟩
/-- each with each rest -/
def prR (q : Nat) (xs : List V) : List (List V) := xs.flatMap fun x => (List.range q).map fun k => [x, .int ((k : Nat) : Int)]
def prC (xs ys : List V) : List (List V) := xs.flatMap fun x => ys.map fun y => [x, y]
theorem len_flat {α β : Type} {f : α → List β} {m : Nat} : ∀ xs : List α, (∀ x ∈ xs, (f x).length = m) → (xs.flatMap f).length = xs.length * m
  | [], _ => (Nat.zero_mul m).symm
  | x :: xs, h => by
    rw [List.flatMap_cons, List.length_append, h x List.mem_cons_self, len_flat xs fun y hy => h y (List.mem_cons_of_mem _ hy), List.length_cons, Nat.succ_mul, Nat.add_comm]
theorem prR_len (q : Nat) (xs : List V) : (prR q xs).length = xs.length * q := len_flat xs fun x _ => by rw [List.length_map, List.length_range]
theorem prC_len (xs ys : List V) : (prC xs ys).length = xs.length * ys.length := len_flat xs fun x _ => by rw [List.length_map]
theorem prC_mem {xs ys : List V} {z : List V} (h : z ∈ prC xs ys) : ∃ x ∈ xs, ∃ y ∈ ys, z = [x, y] := by
  obtain ⟨x, hx, hz⟩ := List.mem_flatMap.mp h
  obtain ⟨y, hy, rfl⟩ := List.mem_map.mp hz
  exact ⟨x, hx, y, hy, rfl⟩
theorem prR_at {H : Hp} {q : Nat} : ∀ {la : List Addr} {rs : List (List Int)}, Rws H la rs → ∀ (i : Nat) (z : List V), (prR q (la.map V.ref))[i]? = some z → ∃ (l : Addr) (t : List Int) (k : Nat), z = [.ref l, .int ((k : Nat) : Int)] ∧ k < q ∧ (rs.flatMap fun t => (List.range q).map fun k => t ++ [((k : Nat) : Int)])[i]? = some (t ++ [((k : Nat) : Int)]) ∧ t ∈ rs ∧ H l = some (.tup (t.map V.int))
  | [], [], _, i, z, h => by cases h
  | l :: la, t :: rs, h, i, z, hz => by
    unfold prR at hz
    rw [List.map_cons, List.flatMap_cons] at hz
    rw [List.flatMap_cons]
    by_cases hi : i < q
    · rw [List.getElem?_append_left (by rw [List.length_map, List.length_range]; exact hi), List.getElem?_map, List.getElem?_range hi] at hz
      rw [List.getElem?_append_left (by rw [List.length_map, List.length_range]; exact hi), List.getElem?_map, List.getElem?_range hi]
      cases hz
      exact ⟨l, t, i, rfl, hi, rfl, List.mem_cons_self, h.1⟩
    · rw [List.getElem?_append_right (by rw [List.length_map, List.length_range]; omega), List.length_map, List.length_range] at hz
      rw [List.getElem?_append_right (by rw [List.length_map, List.length_range]; omega), List.length_map, List.length_range]
      obtain ⟨l', t', k, e1, e2, e3, e4, e5⟩ := prR_at h.2 (i - q) z hz
      exact ⟨l', t', k, e1, e2, e3, List.mem_cons_of_mem _ e4, e5⟩
  | [], _ :: _, h, _, _, _ => h.elim
  | _ :: _, [], h, _, _, _ => h.elim
def spSize : Sp := fun vs H Q _ => ∃ (p : Int) (m : Nat), vs = [.int p, .int m] ∧ Pm p ∧ m ≤ 24 ∧ Q (.int (p ^ m)) H
def spPairs : Sp := fun vs H Q _ => ∃ (R : Addr) (xs : List V) (q : Nat), vs = [.ref R, .int q] ∧ H R = some (.lst xs) ∧ xs.length * q ≤ 200 ∧ q ≤ 200 ∧
  ∀ (F : Addr) (qs : List Addr) (H' : Hp), Same H H' → H F = none → H' F = some (.lst (qs.map V.ref)) → Tps H' qs (prR q xs) → Q (.ref F) H'
def spTuples : Sp := fun vs H Q _ => ∃ (q m : Nat), vs = [.int q, .int m] ∧ 2 ≤ q ∧ q ≤ 200 ∧ m ≤ 24 ∧ q ^ m ≤ 150 ∧
  ∀ (F : Addr) (la : List Addr) (H' : Hp), Same H H' → H F = none → H' F = some (.lst (la.map V.ref)) → Rws H' la (Xp.tp q m) → Q (.ref F) H'
section
variable {P : Program} {w : World} {K : PySem.W.Frag} {mg : Str → Option Value} {base : Heap}

end
end Xk
end
section
set_option Elab.async false
set_option linter.all false
set_option maxRecDepth 100000
set_option maxHeartbeats 4000000
namespace Xk
open PySem PySem.Spec PyProof.Rows L2 Xh LamX NdefX
/-! ### the law's own way to tell what is whole -/
theorem eqvAll_dec : ∀ a b : List Int, PyData.eqvAll (a.map PyData.int) (b.map PyData.int) = decide (a = b)
  | [], [] => rfl
  | [], b :: bs => rfl
  | a :: as, [] => rfl
  | a :: as, b :: bs => by
    have ih := eqvAll_dec as bs
    by_cases h : a = b
    · simp [PyData.eqvAll, PyData.eqv, ih, h]
    · simp [PyData.eqvAll, PyData.eqv, ih, h]
theorem eqv_dec (a b : List Int) : PyData.eqv (.tuple (a.map PyData.int)) (.tuple (b.map PyData.int)) = decide (a = b) := by
  have z := eqvAll_dec a b
  simp [PyData.eqv, z]
def spRemR (K : PySem.W.Frag) : Sp := fun vs H Q _ => ∃ (a b : Addr) (xs R : List Int) (p : Int), vs = [.ref a, .ref b, .int p] ∧ H a = some (.tup (xs.map V.int)) ∧ H b = some (.tup (R.map V.int)) ∧ xs.length ≤ 25 ∧ R.length ≤ 25 ∧ Rs p xs ∧ Dsr p R ∧
  ∀ (v : Addr) (rs : List Int) (H' : Hp), Same H H' → H' v = some (.tup (rs.map V.int)) → (rs = [] ↔ Xp.Dv p (co R) (co xs)) → Q (.ref v) H'
def spLevL : Sp := fun vs H Q _ => ∃ (a : Addr) (xs : List Int) (p : Int), vs = [.ref a, .int p] ∧ H a = some (.tup (xs.map V.int)) ∧ xs.length ≤ 25 ∧ Dsr p xs ∧
  ∀ (v : Addr) (g : List Int) (H' : Hp), Same H H' → H' v = some (.tup (g.map V.int)) → Lev p xs g → Q (.ref v) H'
/-- small enough to try all -/
def Sm (q n : Nat) : Prop := ∀ e, 2 * e ≤ n → q ^ e ≤ 150
def Wh (q : Nat) (xs : List Int) : Prop := ∀ e, 1 ≤ e → 2 * e ≤ xs.length - 1 → ∀ t ∈ Xp.tp q e, ¬ Xp.Dv q (Xp.lv t) (co xs)
def spFirst : Sp := fun vs H Q _ => ∃ (a : Addr) (xs : List Int) (q : Nat), vs = [.ref a, .int q] ∧ H a = some (.tup (xs.map V.int)) ∧ 2 ≤ xs.length ∧ xs.length ≤ 25 ∧ Rs q xs ∧ (q : Int) ∈ primes ∧ Sm q (xs.length - 1) ∧
  ∀ (v : Addr) (ys : List Int) (H' : Hp), Same H H' → H' v = some (.tup (ys.map V.int)) → ((ys = xs ∧ Wh q xs) ∨ (ys.length < xs.length ∧ ¬ Wh q xs)) → Q (.ref v) H'
def spIsWh : Sp := fun vs H Q _ => ∃ (a : Addr) (xs : List Int) (q : Nat), vs = [.ref a, .int q] ∧ H a = some (.tup (xs.map V.int)) ∧ 2 ≤ xs.length ∧ xs.length ≤ 25 ∧ Rs q xs ∧ (q : Int) ∈ primes ∧ Sm q (xs.length - 1) ∧
  ∀ (b : Bool) (H' : Hp), Same H H' → (b = true ↔ Wh q xs) → Q (.bl b) H'
def spNext : Sp := fun vs H Q _ => ∃ (a : Addr) (xs : List Int) (p : Int), vs = [.ref a, .int p] ∧ H a = some (.tup (xs.map V.int)) ∧ xs.length ≤ 24 ∧ Rs p xs ∧ Pm p ∧
  ∀ (v : Addr) (ys : List Int) (H' : Hp), Same H H' → H' v = some (.tup (ys.map V.int)) → ys.length = xs.length → Rs p ys → Q (.ref v) H'
def spRuleF : Sp := fun vs H Q _ => ∃ (a : Addr) (xs : List Int) (q : Nat), vs = [.ref a, .int q] ∧ H a = some (.tup (xs.map V.int)) ∧ 1 ≤ xs.length ∧ xs.length ≤ 24 ∧ Rs q xs ∧ (q : Int) ∈ primes ∧ Sm q xs.length ∧
  ∀ (v : Addr) (ys : List Int) (H' : Hp), Same H H' → H' v = some (.tup ((ys ++ [1]).map V.int)) → ys.length = xs.length → Rs q ys → Q (.ref v) H'
def spRule : Sp := fun vs H Q _ => ∃ (d : Addr) (n q : Nat), vs = [.ref d, .int n, .int q] ∧ Draw H d ∧ 1 ≤ n ∧ n ≤ 24 ∧ (q : Int) ∈ primes ∧ Sm q n ∧
  ∀ (v : Addr) (ys : List Int) (H' : Hp), H' v = some (.tup ((ys ++ [1]).map V.int)) → ys.length = n → Rs q ys → Draw H' d → But d H H' → Q (.ref v) H'
theorem Rs.app1 {p : Int} {xs : List Int} (h : Rs p xs) (hp : Pm p) : Rs p (xs ++ [1]) := fun k => by
  have lo := hp.lo
  rw [List.getD_eq_getElem?_getD]
  rcases Nat.lt_or_ge k xs.length with l | l
  · rw [List.getElem?_append_left l, ← List.getD_eq_getElem?_getD]
    exact h k
  · rw [List.getElem?_append_right l]
    rcases Nat.eq_zero_or_pos (k - xs.length) with z | z
    · rw [z]
      show 0 ≤ (1 : Int) ∧ (1 : Int) < p
      omega
    · rw [List.getElem?_eq_none (by rw [List.length_singleton]; exact z)]
      show 0 ≤ (0 : Int) ∧ (0 : Int) < p
      omega
theorem last1 (xs : List Int) : (xs ++ [1]).getD xs.length 0 = 1 := by
  rw [List.getD_eq_getElem?_getD, List.getElem?_append_right (Nat.le_refl _), Nat.sub_self]
  rfl
theorem dsr_lv {p : Int} {xs : List Int} (h : Rs p xs) (hp : p ∈ primes) : Dsr p (xs ++ [1]) := by
  refine ⟨by rw [List.length_append]; exact Nat.succ_pos _, ?_, h.app1 (pm_of hp), hp⟩
  exact trim_last (xs ++ [1]) xs.length (by rw [List.length_append]; rfl) (by rw [last1]; decide)
theorem tp_rs {q : Nat} (hp : Pm q) {e : Nat} {t : List Int} (h : t ∈ Xp.tp q e) : Rs q t := fun k => by
  obtain ⟨_, h2⟩ := Xp.tp_mem.mp h
  rw [List.getD_eq_getElem?_getD]
  cases z : t[k]? with
  | none =>
    have := hp.lo
    show 0 ≤ (0 : Int) ∧ (0 : Int) < q
    omega
  | some x => exact h2 x (List.mem_of_getElem? z)
theorem prime_le (q : Nat) (h : (q : Int) ∈ primes) : (q : Int) ≤ 97 := (show ∀ p ∈ primes, p ≤ 97 from by decide) _ h
theorem sm_big {q n : Nat} (h : (q : Int) ∈ primes) (sm : Sm q n) : (q : Int) ^ n < 2 ^ 62 := by
  have q97 : q ≤ 97 := by
    have := prime_le q h
    omega
  have q1 : 1 ≤ q := by
    have := (pm_of h).lo
    omega
  have s := sm (n / 2) (by omega)
  have a : q ^ n ≤ q ^ (n / 2 + n / 2 + 1) := Nat.pow_le_pow_right q1 (by omega)
  rw [Nat.pow_succ, Nat.pow_add] at a
  have b : q ^ (n / 2) * q ^ (n / 2) * q ≤ 150 * 150 * 97 := Nat.mul_le_mul (Nat.mul_le_mul s s) q97
  have c : q ^ n < 2 ^ 62 := Nat.lt_of_le_of_lt (Nat.le_trans a b) (by decide)
  exact_mod_cast c
section
variable {P : Program} {w : World} {K : PySem.W.Frag} {mg : Str → Option Value} {base : Heap}

end
end Xk
end
section
set_option linter.all false
/-! Tuples of rests in their order, by their worth read from the first place on (no program in it). -/
namespace Xp
def vlN (q : Int) (f : Nat → Int) : Nat → Int
  | 0 => 0
  | n + 1 => vlN q f n * q + f n
def vl (q : Int) (t : List Int) : Int := vlN q (fun k => t.getD k 0) t.length
theorem vlN_congr {q : Int} {f g : Nat → Int} : ∀ {n : Nat}, (∀ k, k < n → f k = g k) → vlN q f n = vlN q g n
  | 0, _ => rfl
  | n + 1, h => by
    show vlN q f n * q + f n = vlN q g n * q + g n
    rw [vlN_congr (n := n) fun k hk => h k (by omega), h n (by omega)]
/-- one step on -/
theorem vlN_succ {q : Int} {f g : Nat → Int} {j : Nat} (h0 : ∀ k, k < j → g k = f k) (h1 : g j = f j + 1) : ∀ {n : Nat}, j < n → (∀ k, j < k → k < n → f k = q - 1 ∧ g k = 0) → vlN q g n = vlN q f n + 1
  | 0, h, _ => absurd h (Nat.not_lt_zero _)
  | n + 1, h, h2 => by
    show vlN q g n * q + g n = vlN q f n * q + f n + 1
    by_cases e : n = j
    · subst e
      rw [vlN_congr h0, h1]
      omega
    · obtain ⟨a, b⟩ := h2 n (by omega) (by omega)
      rw [vlN_succ h0 h1 (n := n) (by omega) fun k k1 k2 => h2 k k1 (by omega), a, b, Int.add_mul]
      omega
theorem vlN_zero {q : Int} {f : Nat → Int} : ∀ {n : Nat}, (∀ k, k < n → f k = 0) → vlN q f n = 0
  | 0, _ => rfl
  | n + 1, h => by
    show vlN q f n * q + f n = 0
    rw [vlN_zero (n := n) fun k hk => h k (by omega), h n (by omega)]
    omega
theorem vlN_max {q : Int} {f : Nat → Int} : ∀ {n : Nat}, (∀ k, k < n → f k = q - 1) → vlN q f n = q ^ n - 1
  | 0, _ => by
    rw [Int.pow_zero]
    rfl
  | n + 1, h => by
    show vlN q f n * q + f n = _
    rw [vlN_max (n := n) fun k hk => h k (by omega), h n (by omega), Int.pow_succ, Int.sub_mul]
    omega
theorem vlN_in {q : Int} {f : Nat → Int} (hq : 0 < q) : ∀ {n : Nat}, (∀ k, k < n → 0 ≤ f k ∧ f k < q) → 0 ≤ vlN q f n ∧ vlN q f n < q ^ n
  | 0, _ => ⟨Int.le_refl _, by rw [Int.pow_zero]; show (0 : Int) < 1; decide⟩
  | n + 1, h => by
    obtain ⟨a, b⟩ := vlN_in hq (n := n) fun k hk => h k (by omega)
    obtain ⟨c, d⟩ := h n (by omega)
    show 0 ≤ vlN q f n * q + f n ∧ vlN q f n * q + f n < q ^ (n + 1)
    have m : (vlN q f n + 1) * q ≤ q ^ n * q := Int.mul_le_mul_of_nonneg_right (by omega) (by omega)
    have m0 : 0 ≤ vlN q f n * q := Int.mul_nonneg a (by omega)
    rw [Int.add_mul] at m
    rw [Int.pow_succ]
    exact ⟨by omega, by omega⟩
theorem vlN_inj {q : Int} {f g : Nat → Int} (hq : 0 < q) : ∀ {n : Nat}, (∀ k, k < n → 0 ≤ f k ∧ f k < q) → (∀ k, k < n → 0 ≤ g k ∧ g k < q) → vlN q f n = vlN q g n → ∀ k, k < n → f k = g k
  | 0, _, _, _, k, hk => absurd hk (Nat.not_lt_zero _)
  | n + 1, hf, hg, e, k, hk => by
    have e : vlN q f n * q + f n = vlN q g n * q + g n := e
    have z : f n = g n := by
      have a := congrArg (· % q) e
      simp only [Int.add_comm _ (f n), Int.add_comm _ (g n), Int.add_mul_emod_self_right] at a
      obtain ⟨a1, a2⟩ := hf n (by omega)
      obtain ⟨b1, b2⟩ := hg n (by omega)
      rwa [Int.emod_eq_of_lt a1 a2, Int.emod_eq_of_lt b1 b2] at a
    by_cases h : k = n
    · rw [h, z]
    · have e2 : vlN q f n = vlN q g n := by
        have : vlN q f n * q = vlN q g n * q := by omega
        exact Int.eq_of_mul_eq_mul_right (by omega) this
      exact vlN_inj hq (n := n) (fun k hk => hf k (by omega)) (fun k hk => hg k (by omega)) e2 k (by omega)
/-- the first place tells the greatest part -/
theorem vlN_first {q : Int} {f : Nat → Int} (hq : 0 < q) : ∀ {n : Nat}, (∀ k, k < n + 1 → 0 ≤ f k) → f 0 * q ^ n ≤ vlN q f (n + 1)
  | 0, h => by
    rw [Int.pow_zero]
    show f 0 * 1 ≤ 0 * q + f 0
    omega
  | n + 1, h => by
    have ih := vlN_first hq (n := n) fun k hk => h k (by omega)
    have m : f 0 * q ^ n * q ≤ vlN q f (n + 1) * q := Int.mul_le_mul_of_nonneg_right ih (by omega)
    have a := h (n + 1) (by omega)
    show f 0 * q ^ (n + 1) ≤ vlN q f (n + 1) * q + f (n + 1)
    rw [Int.pow_succ, ← Int.mul_assoc]
    omega
/-- and what comes before 1, 0, .. has 0 first -/
theorem vlN_low {q : Int} {f g : Nat → Int} (hq : 0 < q) {n : Nat} (hf : ∀ k, k < n + 1 → 0 ≤ f k) (g0 : g 0 = 1) (gz : ∀ k, 0 < k → k < n + 1 → g k = 0) (h : vlN q f (n + 1) < vlN q g (n + 1)) : f 0 = 0 := by
  have a := vlN_first hq (n := n) hf
  have eg : ∀ m, m ≤ n → vlN q g (m + 1) = q ^ m := by
    intro m
    induction m with
    | zero =>
      intro _
      rw [Int.pow_zero]
      show 0 * q + g 0 = 1
      rw [g0]
      omega
    | succ m ih =>
      intro hm
      show vlN q g (m + 1) * q + g (m + 1) = _
      rw [ih (by omega), gz (m + 1) (by omega) (by omega), Int.pow_succ]
      omega
  rw [eg n (Nat.le_refl _)] at h
  have b := hf 0 (by omega)
  by_cases z : f 0 = 0
  · exact z
  · have : 1 * q ^ n ≤ f 0 * q ^ n := Int.mul_le_mul_of_nonneg_right (by omega) (Int.le_of_lt (Int.pow_pos hq))
    omega
end Xp
end
section
set_option Elab.async false
set_option linter.all false
set_option maxRecDepth 100000
set_option maxHeartbeats 4000000
namespace Xk
open PySem PySem.Spec PyProof.Rows L2 Xh LamX NdefX
/-! ### the law's rules, tried in their order -/
theorem vlr {q : Nat} {n : Nat} {t : List Int} (q0 : 0 < q) (l : t.length = n) (r : Rs q t) : 0 ≤ Xp.vl q t ∧ Xp.vl q t < (q : Int) ^ n := by
  subst l
  exact Xp.vlN_in (by omega) fun k _ => r k
theorem vl_tp {q n : Nat} {s t : List Int} (q0 : 0 < q) (hs : s.length = n) (ht : t.length = n) (rs : Rs q s) (rt : Rs q t) (e : Xp.vl q s = Xp.vl q t) : s = t := by
  unfold Xp.vl at e
  rw [hs, ht] at e
  have := Xp.vlN_inj (q := q) (by omega) (n := n) (fun k _ => rs k) (fun k _ => rt k) e
  refine List.ext_getElem (by omega) fun k h1 h2 => ?_
  have := this k (by omega)
  rw [List.getD_eq_getElem?_getD, List.getD_eq_getElem?_getD, List.getElem?_eq_getElem h1, List.getElem?_eq_getElem h2] at this
  exact this
/-- none that is whole comes before -/
def LeastW (q n : Nat) (ys : List Int) : Prop := ∀ t ∈ Xp.tp q n, Wh q (t ++ [1]) → Xp.vl q ys ≤ Xp.vl q t
def ExW (q n : Nat) : Prop := ∃ t ∈ Xp.tp q n, Wh q (t ++ [1])
def spNextX : Sp := fun vs H Q _ => ∃ (a : Addr) (xs : List Int) (p : Int), vs = [.ref a, .int p] ∧ H a = some (.tup (xs.map V.int)) ∧ xs.length ≤ 24 ∧ Rs p xs ∧ Pm p ∧
  ∀ (v : Addr) (ys : List Int) (H' : Hp), Same H H' → H' v = some (.tup (ys.map V.int)) → ys.length = xs.length → Rs p ys → (Xp.vl p ys = Xp.vl p xs + 1 ∨ (Xp.vl p xs = p ^ xs.length - 1 ∧ Xp.vl p ys = 0)) → Q (.ref v) H'
def spRuleFX : Sp := fun vs H Q _ => ∃ (a : Addr) (xs : List Int) (q : Nat), vs = [.ref a, .int q] ∧ H a = some (.tup (xs.map V.int)) ∧ 1 ≤ xs.length ∧ xs.length ≤ 24 ∧ Rs q xs ∧ (q : Int) ∈ primes ∧ Sm q xs.length ∧ ExW q xs.length ∧
  ∀ (v : Addr) (ys : List Int) (H' : Hp), Same H H' → H' v = some (.tup ((ys ++ [1]).map V.int)) → ys.length = xs.length → Rs q ys → Wh q (ys ++ [1]) → (Xp.vl q xs = 0 → LeastW q xs.length ys) → Q (.ref v) H'
def spOwnRule : Sp := fun vs H Q _ => ∃ (n q : Nat), vs = [.int n, .int q] ∧ 1 ≤ n ∧ n ≤ 24 ∧ (q : Int) ∈ primes ∧ Sm q n ∧ ExW q n ∧
  ∀ (v : Addr) (ys : List Int) (H' : Hp), Same H H' → H' v = some (.tup ((ys ++ [1]).map V.int)) → ys.length = n → Rs q ys → Wh q (ys ++ [1]) → LeastW q n ys → Q (.ref v) H'
def spRuleX : Sp := fun vs H Q _ => ∃ (d : Addr) (n q : Nat), vs = [.ref d, .int n, .int q] ∧ Draw H d ∧ 1 ≤ n ∧ n ≤ 24 ∧ (q : Int) ∈ primes ∧ Sm q n ∧ ExW q n ∧
  ∀ (v : Addr) (ys : List Int) (H' : Hp), H' v = some (.tup ((ys ++ [1]).map V.int)) → ys.length = n → Rs q ys → Wh q (ys ++ [1]) → Draw H' d → But d H H' → Q (.ref v) H'
theorem mod_one {N a b c d r : Int} (a0 : 0 ≤ a) (a1 : a < N) (b0 : 0 ≤ b) (b1 : b < N) (e : r = a + N * c) (f : r = b + N * d) : a = b := by
  have h := congrArg (· % N) (e.symm.trans f)
  simp only [Int.add_mul_emod_self_left] at h
  rwa [Int.emod_eq_of_lt a0 a1, Int.emod_eq_of_lt b0 b1] at h
theorem tp_of {q n : Nat} {ys : List Int} (l : ys.length = n) (r : Rs q ys) : ys ∈ Xp.tp q n := Xp.tp_mem.mpr ⟨l, fun x hx => by
  obtain ⟨k, hk, rfl⟩ := List.mem_iff_getElem.mp hx
  have := r k
  rwa [List.getD_eq_getElem?_getD, List.getElem?_eq_getElem hk] at this⟩
section
variable {P : Program} {w : World} {K : PySem.W.Frag} {mg : Str → Option Value} {base : Heap}

end
end Xk
end
section
set_option Elab.async false
set_option linter.all false
set_option maxRecDepth 100000
set_option maxHeartbeats 4000000
namespace Xk
open PySem PySem.Spec PyProof.Rows L2 Xh LamX NdefX
/-! ### the least whole one -/
def spRefD (C : Addr) : Sp := fun vs H Q E => ∃ n : Int, vs = [.int n] ∧ ((1 ≤ n ∧ n ≤ 12) → Q .non H) ∧ (¬ (1 ≤ n ∧ n ≤ 12) → Ex H E C "BadDegree")
def spCount : Sp := fun vs H Q _ => ∃ (l : Addr) (xs : List Int) (p : Int), vs = [.ref l, .int p] ∧ H l = some (.lst (xs.map V.int)) ∧ 1 ≤ xs.length ∧ xs.length ≤ 24 ∧ Rs p xs ∧ Pm p ∧ (∃ j, j < xs.length ∧ xs.getD j 0 ≠ p - 1) ∧
  ∀ (ys : List Int) (H' : Hp), (∀ b, b ≠ l → H' b = H b) → H' l = some (.lst (ys.map V.int)) → ys.length = xs.length → Rs p ys → Xp.vl p ys = Xp.vl p xs + 1 → Q .non H'
def spLeastW (K : PySem.W.Frag) (T : List (Addr × Str)) (C : Fin 14 → Addr) : Sp := fun vs H Q E => ∃ n p : Int, vs = [.int n, .int p] ∧ Tabs T H ∧ (p ∉ primes → Ex H E (C 0) "BadPrime") ∧ (p ∈ primes → ¬ (1 ≤ n ∧ n ≤ 12) → Ex H E (C 2) "BadDegree") ∧
  (p ∈ primes → 1 ≤ n → n ≤ 12 → ∃ m q : Nat, n = m ∧ p = q ∧ ExW q m ∧ ∀ (v : Addr) (ys : List Int) (H' : Hp), Gr T H H' → SqT K H' v ((ys ++ [1]).map V.int) → (3 ≤ (ys ++ [1]).length → H' v = some (.tup ((ys ++ [1]).map V.int))) → ys.length = m → Rs q ys → Wh q (ys ++ [1]) → LeastW q m ys → Q (.ref v) H')
theorem whole_wh {q : Nat} {ys : List Int} (h : 1 ≤ ys.length) : Whole q (ys ++ [1]) ↔ Wh q (ys ++ [1]) := by
  exact ⟨fun x => x.2, fun x => ⟨by rw [List.length_append, List.length_singleton]; omega, x⟩⟩
/-- x stands in what has 0 first -/
theorem x_in {q n : Nat} (q2 : 2 ≤ q) {t : List Int} (ht : t ∈ Xp.tp q n) (n2 : 2 ≤ n) (z : t.getD 0 0 = 0) : ¬ Wh q (t ++ [1]) := fun h => by
  have l := (Xp.tp_mem.mp ht).1
  refine h 1 (Nat.le_refl 1) (by rw [List.length_append, l, List.length_singleton]; omega) [0] (Xp.tp_mem.mpr ⟨rfl, fun x hx => by rw [List.mem_singleton.mp hx]; omega⟩) ⟨Xp.sh (co (t ++ [1])), ?_, eqv_fun fun k => ?_⟩
  · obtain ⟨N, hN⟩ := Xp.Fi.list (t ++ [1])
    exact ⟨N, fun k hk => hN (k + 1) (by omega)⟩
  · rw [show Xp.lv [0] = Xp.xs Xp.one from co_x, Xp.cv_xs, Xp.one_cv]
    cases k with
    | zero =>
      show (t ++ [1]).getD 0 0 = 0
      rw [List.getD_eq_getElem?_getD, List.getElem?_append_left (by omega), ← List.getD_eq_getElem?_getD]
      exact z
    | succ k => rfl
theorem some_low {q n : Nat} (q0 : 0 < q) {ys t : List Int} (ly : ys.length = n) (ry : Rs q ys) (ht : t ∈ Xp.tp q n) (rt : Rs q t) (h : Xp.vl q ys < Xp.vl q t) : ∃ j, j < ys.length ∧ ys.getD j 0 ≠ q - 1 := by
  refine Classical.byContradiction fun no => ?_
  have a : ∀ k, k < ys.length → ys.getD k 0 = q - 1 := fun k hk => Classical.byContradiction fun z => no ⟨k, hk, z⟩
  have b : Xp.vl q ys = (q : Int) ^ ys.length - 1 := Xp.vlN_max a
  have c := (vlr q0 (Xp.tp_mem.mp ht).1 rt).2
  rw [ly] at b
  omega
def oneL (n : Nat) : List Int := 1 :: List.replicate n 0
theorem oneL_at (n k : Nat) : (oneL n).getD k 0 = if k = 0 then 1 else 0 := by
  cases k with
  | zero => rfl
  | succ k =>
    show (List.replicate n (0 : Int)).getD k 0 = _
    rw [List.getD_eq_getElem?_getD, List.getElem?_replicate, if_neg (show ¬ (k + 1 = 0) by omega)]
    split <;> rfl
theorem whileP {c : TT} {tb : TS} {D : Ends} {σ : L2.St} {H : Hp} (Pv : L2.St → Hp → Prop) (μ : L2.St → Hp → Nat) (h0 : Pv σ H) (hs : ∀ σ H, Pv σ H → c σ H fun b H1 => if b = true then ∃ N : L2.St → Hp → Prop, (∀ σ' H', N σ' H' → ∃ m', m' < μ σ H ∧ (m' = μ σ' H' ∧ Pv σ' H')) ∧ tb { D with nx := N, ct := N, bk := D.nx } σ H1 else D.nx σ H1) : tWhile c tb D σ H :=
  ⟨fun m σ H => m = μ σ H ∧ Pv σ H, ⟨_, rfl, h0⟩, fun m σ H ⟨e, p⟩ => by subst e; exact hs σ H p⟩
theorem grAt {T : List (Addr × Str)} {H H1 H2 : Hp} {l : Addr} {xs ys : List V} (g : Gr T H H1) (n : H l = none) (e : H1 l = some (.lst xs)) (st : ∀ b, b ≠ l → H2 b = H1 b) (e2 : H2 l = some (.lst ys)) : Gr T H H2 := by
  have : H2 = L2.upd H1 l (.lst ys) := funext fun b => by
    by_cases h : b = l
    · subst h
      rw [upd_same, e2]
    · rw [upd_ne h, st b h]
  rw [this]
  exact grLst g n e
def intsOf : List V → List Int := fun xs => xs.map fun v => match v with
  | .int i => i
  | _ => 0
theorem intsOf_map : ∀ ms : List Int, intsOf (ms.map V.int) = ms
  | [] => rfl
  | m :: ms => congrArg (m :: ·) (intsOf_map ms)
def farOf (q : Nat) (t : List Int) (l : Addr) (H : Hp) : Nat := match H l with
  | some (.lst xs) => (Xp.vl q t - Xp.vl q (intsOf xs)).toNat
  | _ => 0
theorem farOf_at {q : Nat} {t ys : List Int} {l : Addr} {H : Hp} (h : H l = some (.lst (ys.map V.int))) : farOf q t l H = (Xp.vl q t - Xp.vl q ys).toNat := by
  unfold farOf
  rw [h]
  show (Xp.vl q t - Xp.vl q (intsOf (ys.map V.int))).toNat = _
  rw [intsOf_map]
theorem flat_zero (n : Nat) : (List.replicate n [V.int 0]).flatten = (List.replicate n (0 : Int)).map V.int := by
  induction n with
  | zero => rfl
  | succ n ih =>
    rw [List.replicate_succ, List.flatten_cons, ih, List.replicate_succ]
    rfl
section
variable {P : Program} {w : World} {K : PySem.W.Frag} {mg : Str → Option Value} {base : Heap}
theorem sc_refuse_degree : FnScope (["told"] : List Str) ["told"] (defScope s_refuse_degree) := ⟨rfl, rfl, rfl, by decide +kernel, rfl, by decide +kernel, by decide +kernel⟩
theorem ok_refuse_degree {f C fI : Addr} {fd : FuncData} (F : FunD K "refuse_degree" "refuse_degree" (defArgs s_refuse_degree) (defBody s_refuse_degree) (defScope s_refuse_degree) [] [] f fd) (mD : ∃ t, mg "MOST_DEGREE" = some (.int 12 t)) (o_is_number : Own P w K mg base CX0 1 "is_number" ["told"] [] spIsNum) (xP : RX K mg C fI "BadDegree") (o_init : FnR P w K mg base (L2.CX P w) 1 fI (spRI1 K)) : FnOk P w K mg base (L2.CX P w) 3 f fd ["told"] (spRefD C) := by
  obtain ⟨tD, mD⟩ := mD
  refine F.ok sc_refuse_degree (fun vs H Q E h => ?_) (fun cdv A outer s H vs Q E hr h => ?_)
  · obtain ⟨n, rfl, _⟩ := h
    rfl
  · obtain ⟨n, rfl, h1, h2⟩ := h
    refine ⟨_, (pss_one (ps_if (PW.pt (pw_or (pt_not (pt_val (pe_own o_is_number (hr.mono (by decide)) rfl pass0 (pa_cons (pv 0) pa_nil)))) (pw_or1 (pt_not (pt_chain op_le op_le pe_int (pv 0) (pe_glob (v := .int 12) rfl mD ⟨_, rfl⟩)))))) (pss_one (ps_raise rfl (takes_of rfl rfl rfl rfl) (pmk_rung xP o_init (hr.mono (by decide)) rfl))) pss_nil)) , ?_⟩
    refine ⟨_, rfl, n, rfl, _, rfl, iteF ⟨_, rfl, _, _, rfl, rfl, _, rfl, ?_⟩⟩
    by_cases a : 1 ≤ n
    · rw [decide_eq_true a]
      refine iteT ⟨_, _, rfl, rfl, _, rfl, ?_⟩
      by_cases b : n ≤ 12
      · rw [decide_eq_true b]
        exact iteF (h1 ⟨a, b⟩)
      · rw [decide_eq_false b]
        exact iteT fun d H' x y z => h2 (fun w => b w.2) d H' x y z
    · rw [decide_eq_false a]
      exact iteF ⟨_, rfl, iteT fun d H' x y z => h2 (fun w => a w.1) d H' x y z⟩
theorem sc_count_on : FnScope (["rests", "prime", "place"] : List Str) ["rests", "prime"] (defScope s_count_on) := ⟨rfl, rfl, rfl, by decide +kernel, rfl, by decide +kernel, by decide +kernel⟩
theorem ok_count_on {f : Addr} {fd : FuncData} (F : FunD K "count_on" "count_on" (defArgs s_count_on) (defBody s_count_on) (defScope s_count_on) [] [] f fd) (T : Fre mg) : FnOk P w K mg base CX0 1 f fd ["rests", "prime"] spCount := by
  refine F.ok sc_count_on (fun vs H Q E h => ?_) (fun cdv A outer s H vs Q E hr h => ?_)
  · obtain ⟨l, xs, p, rfl, _⟩ := h
    rfl
  · obtain ⟨l, xs, p, rfl, el0, l1, lx, rx, hp, ⟨j0, hj0, nj0⟩, k⟩ := h
    have lo := hp.lo
    refine ⟨_, PSs.nox (pss_cons (ps_set (i := 2) sc_count_on.nd rfl (Or.inl rfl) (pe_op op_sub (pe_callB call_len_seq (by rfl) T.f_len PySem.boot_len (pa_cons (pv 0) pa_nil)) pe_int))
      (pss_cons (ps_while PassesOwn.never (pt_cmpR op_eq (pe_ix ix_list (pv 0) (pv 2) (fun _ _ => rfl)) (pe_op op_sub (pv 1) pe_int) (nomark _)) (pss_cons (ps_asg pe_int (pg_sub (pv 0) (pv 2) set_list))
      (pss_one (ps_aug (i := 2) sc_count_on.nd rfl (Or.inl rfl) pe_int ip_sub))))
      (pss_one (ps_augS (pv 0) (pv 2) get_list pe_int ip_add set_list)))) , ?_⟩
    refine ⟨_, rfl, l, _, rfl, .inl (SqL.of el0), _, _, rfl, rfl, ?_⟩
    rw [List.length_map]
    refine while_by (fun σ' H' => ∃ (ys : List Int) (j : Nat), σ' = [some (.ref l), some (.int p), some (.int j)] ∧ (∀ b, b ≠ l → H' b = H b) ∧ H' l = some (.lst (ys.map V.int)) ∧ ys.length = xs.length ∧ Rs p ys ∧ j < xs.length ∧ (∀ k, k ≤ j → ys.getD k 0 = xs.getD k 0) ∧ (∀ k, j < k → k < xs.length → xs.getD k 0 = p - 1 ∧ ys.getD k 0 = 0)) (fun σ' _ => slotN 2 σ')
      ⟨xs, xs.length - 1, by show [some (V.ref l), some (V.int p), some (V.int ((xs.length : Int) - 1))] = _; rw [show ((xs.length : Int) - 1) = ((xs.length - 1 : Nat) : Int) by omega], fun _ _ => rfl, el0, rfl, rx, by omega, fun _ _ => rfl, fun k h1 h2 => by omega⟩ ?_ ?_
    rotate_left
    · exact fun σ H Q Q' m ⟨v1, h1, v2, h2, l, us, i, x, h3, h4, h5, h6, v3, h7, i2, j2, h8, h9, h10, b, h11, q⟩ => ⟨v1, h1, v2, h2, l, us, i, x, h3, h4, h5, h6, v3, h7, i2, j2, h8, h9, h10, b, h11, m _ _ q⟩
    rintro σ' H1 ⟨ys, j, rfl, same, el, ly, ry, hj, lowE, hiE⟩
    refine ⟨_, rfl, _, rfl, l, _, _, .int (ys.getD j 0), rfl, rfl, SqL.of el, atI_nat (map_at ys j (by omega)), _, rfl, _, _, rfl, rfl, rfl, _, rfl, ite2 (fun hb => ?_) (fun hb => ?_)⟩
    · have hb' := V.int.inj (of_decide_eq_true hb)
      have j1 : 1 ≤ j := by
        rcases Nat.eq_zero_or_pos j with z | z
        · exfalso
          subst z
          rcases Nat.eq_zero_or_pos j0 with z2 | z2
          · subst z2
            exact nj0 ((lowE 0 (Nat.le_refl 0)).symm.trans hb')
          · exact nj0 (hiE j0 z2 hj0).1
        · exact z
      refine ⟨_, rfl, _, rfl, l, _, _, j, rfl, rfl, el, ixN_nat (by rw [List.length_map]; omega), ?_⟩
      refine ⟨_, rfl, _, _, rfl, rfl, ?_⟩
      refine ⟨⟨ys.set j 0, j - 1, ?_, fun b hb2 => by rw [upd_ne hb2]; exact same b hb2, by rw [upd_same, List.map_set], by rw [List.length_set]; exact ly, fun k => ?_, by omega, fun k hk => ?_, fun k h1 h2 => ?_⟩, ?_⟩
      · show [some (V.ref l), some (V.int p), some (V.int ((j : Int) - 1))] = _
        rw [show (j : Int) - 1 = ((j - 1 : Nat) : Int) by omega]
      · rw [getD_set (by omega)]
        split
        · omega
        · exact ry k
      · rw [getD_set (by omega), if_neg (by omega)]
        exact lowE k (by omega)
      · rw [getD_set (by omega)]
        by_cases e : k = j
        · subst e
          rw [if_pos rfl, ← lowE k (Nat.le_refl k)]
          exact ⟨hb', rfl⟩
        · rw [if_neg e]
          exact hiE k (by omega) h2
      · show ((j : Int) - 1).toNat < (j : Int).toNat
        omega
    · have nb : ys.getD j 0 ≠ p - 1 := fun z => hb (decide_eq_true (congrArg V.int z))
      obtain ⟨y0, y1⟩ := ry j
      refine ⟨_, rfl, _, rfl, l, _, _, _, rfl, rfl, SqL.of el, atI_nat (map_at ys j (by omega)), _, _, rfl, rfl, l, _, _, _, rfl, rfl, el, ixN_nat (by rw [List.length_map]; omega), ?_⟩
      refine k (ys.set j (ys.getD j 0 + 1)) _ (fun b hb2 => by rw [upd_ne hb2]; exact same b hb2) (by rw [upd_same, List.map_set]) (by rw [List.length_set]; exact ly) (fun k => ?_) ?_
      · rw [getD_set (by omega)]
        split
        · omega
        · exact ry k
      · unfold Xp.vl
        rw [List.length_set, ly]
        refine Xp.vlN_succ (j := j) (fun k hk => ?_) ?_ (by omega) fun k k1 k2 => ?_
        · rw [getD_set (by omega), if_neg (by omega)]
          exact lowE k (by omega)
        · rw [getD_set (by omega), if_pos rfl, lowE j (by omega)]
        · rw [getD_set (by omega), if_neg (by omega)]
          exact hiE k (by omega) k2
theorem sc_least_whole : FnScope (["degree", "prime", "rests"] : List Str) ["degree", "prime"] (defScope s_least_whole) := ⟨rfl, rfl, rfl, by decide +kernel, rfl, by decide +kernel, by decide +kernel⟩
theorem ok_least_whole {TT : List (Addr × Str)} {C : Fin 14 → Addr} {f aX : Addr} {fd : FuncData} {kws : List (Str × V)} (F : FunD K "least_whole" "least_whole" (defArgs s_least_whole) (defBody s_least_whole) (defScope s_least_whole) [] kws f fd) (T : Fre mg) (mX : mg "X" = some (.ref aX)) (hX : ∀ H, SqT K H aX (([0, 1] : List Int).map V.int)) (o_refuse_prime : Own P w K mg base (L2.CX P w) 3 "refuse_prime" ["prime"] [] (spRefP (C 0))) (o_refuse_degree : Own P w K mg base (L2.CX P w) 3 "refuse_degree" ["told"] [] (spRefD (C 2)))
    (o_raw_whole : Own P w K mg base CX0 11 "raw_whole" ["poly", "prime"] [] (spWhole K TT)) (o_count_on : Own P w K mg base CX0 1 "count_on" ["rests", "prime"] [] spCount) : FnOk P w K mg base (L2.CX P w) 12 f fd ["degree", "prime"] (spLeastW K TT C) := by
  refine F.ok sc_least_whole (fun vs H Q E h => ?_) (fun cdv A outer s H vs Q E hr h => ?_)
  · obtain ⟨n, p, rfl, _⟩ := h
    rfl
  · obtain ⟨n, p, rfl, hT, h0, h1, h2⟩ := h
    refine ⟨_, (pss_cons (ps_expr (pe_own o_refuse_prime (hr.mono (by decide)) rfl (passes_call (takes_of rfl rfl rfl rfl) (fun _ _ _ _ h => h)) (pa_cons (pv 1) pa_nil)))
      (pss_cons (ps_expr (pe_own o_refuse_degree (hr.mono (by decide)) rfl (passes_call (takes_of rfl rfl rfl rfl) (fun _ _ _ _ h => h)) (pa_cons (pv 0) pa_nil)))
      (pss_cons (ps_if (pt_cmpR op_eq (pv 0) pe_int (nomark _)) (pss_one (ps_ret (pe_glob (v := .ref aX) rfl mX rfl))) pss_nil)
      (pss_cons (ps_set (i := 2) sc_least_whole.nd rfl (Or.inl rfl) (pe_op op_cat (pe_lst (pa_cons pe_int pa_nil)) (pe_op op_rep (pe_lst (pa_cons pe_int pa_nil)) (pe_op op_sub (pv 0) pe_int))))
      (pss_cons (ps_while (passes_of rfl) (pt_not (pt_val (pe_own o_raw_whole (hr.mono (by decide)) rfl pass0 (pa_cons (pe_op op_catA (pe_callTy call_tuple_of (by rfl) T.f_tuple (by decide +kernel) (pa_cons (pv 2) pa_nil)) (pe_tup (pa_cons pe_int pa_nil))) (pa_cons (pv 1) pa_nil))))) (pss_one (ps_expr (pe_own o_count_on (hr.mono (by decide)) rfl pass0 (pa_cons (pv 2) (pa_cons (pv 1) pa_nil))))))
      (pss_one (ps_ret (pe_op op_catA (pe_callTy call_tuple_of (by rfl) T.f_tuple (by decide +kernel) (pa_cons (pv 2) pa_nil)) (pe_tup (pa_cons pe_int pa_nil)))))))))) , ?_⟩
    refine ⟨_, rfl, p, rfl, fun hp => ?_, fun hn => h0 hn⟩
    refine ⟨_, rfl, n, rfl, fun hd => ?_, fun hn => h1 hp hn⟩
    obtain ⟨m, q, rfl, rfl, ⟨t0, ht0, wt0⟩, k⟩ := h2 hp hd.1 hd.2
    have hpm := pm_of hp
    have q0 : 0 < q := by
      have := hpm.lo
      omega
    refine ⟨_, rfl, rfl, _, rfl, ite2 (fun hb => ?_) (fun hb => ?_)⟩
    · have m1 : m = 1 := by
        have := V.int.inj (of_decide_eq_true hb)
        omega
      subst m1
      refine k aX [0] H (Gr.refl hT) (hX H) (fun z => absurd z (by decide)) rfl (fun k => ?_) (fun e e1 e2 => absurd e2 (by show ¬ 2 * e ≤ 1; omega)) fun t ht wt => ?_
      · have : ([0] : List Int).getD k 0 = 0 := by
          cases k with
          | zero => rfl
          | succ k => rfl
        rw [this]
        omega
      · rw [show Xp.vl (q : Int) [0] = 0 from by show (0 * (q : Int) + 0) = 0; omega]
        exact (vlr q0 (Xp.tp_mem.mp ht).1 (tp_rs hpm ht)).1
    · have m2 : 2 ≤ m := by
        have : (m : Int) ≠ 1 := fun z => hb (decide_eq_true (congrArg V.int z))
        omega
      have e1 : ((m : Int) - 1).toNat = m - 1 := by omega
      have hz : (1 : Nat) * ((m : Int) - 1).toNat ≤ sizeLine := by
        rw [e1]
        exact Nat.le_trans (show 1 * (m - 1) ≤ 12 by omega) (by decide)
      refine ⟨(by show 1 ≤ sizeLine; decide), fun a1 n1 => ⟨(by show 1 ≤ sizeLine; decide), fun a0 n0 => ⟨_, rfl, _, _, rfl, rfl, a0, _, _, rfl, rfl, upd_same, by omega, by omega, hz, fun b nb => ⟨a1, b, _, _, rfl, rfl, same_upd nb _ _ (same_upd n0 _ _ upd_same), upd_same, ?_, fun l nl => ?_⟩⟩⟩⟩
      · rw [flat_zero, List.length_map, List.length_replicate, e1]
        exact Nat.le_trans (show 1 + (m - 1) ≤ 12 by omega) (by decide)
      rw [flat_zero, e1] at nl ⊢
      have S4 := (((same_upd (o := .lst [.int 1]) n1).trans (same_upd (o := .lst [.int 0]) n0)).trans (same_upd (o := .lst ((List.replicate (m - 1) (0 : Int)).map V.int)) nb)).trans (same_upd (o := .lst ([V.int 1] ++ (List.replicate (m - 1) (0 : Int)).map V.int)) nl)
      have nL : H l = none := (((same_upd (o := .lst [.int 1]) n1).trans (same_upd (o := .lst [.int 0]) n0)).trans (same_upd (o := .lst ((List.replicate (m - 1) (0 : Int)).map V.int)) nb)).free nl
      have lo1 : (oneL (m - 1)).length = m := by
        show (List.replicate (m - 1) (0 : Int)).length + 1 = m
        rw [List.length_replicate]
        omega
      refine whileP (fun σ' H' => ∃ ys : List Int, σ' = [some (.int m), some (.int q), some (.ref l)] ∧ Gr TT H H' ∧ H' l = some (.lst (ys.map V.int)) ∧ ys.length = m ∧ Rs q ys ∧ ∀ t ∈ Xp.tp q m, Wh q (t ++ [1]) → Xp.vl q ys ≤ Xp.vl q t) (fun _ H' => farOf q t0 l H')
        ⟨oneL (m - 1), rfl, Gr.of hT S4, upd_same, lo1, fun k => ?_, fun t ht wt => ?_⟩ ?_
      · have lo := hpm.lo
        rw [oneL_at]
        split <;> omega
      · refine Classical.byContradiction fun no => x_in (by have := hpm.lo; omega) ht m2 ?_ wt
        have lt := (Xp.tp_mem.mp ht).1
        unfold Xp.vl at no
        rw [lo1, lt] at no
        obtain ⟨n', rfl⟩ : ∃ n', m = n' + 1 := ⟨m - 1, by omega⟩
        exact Xp.vlN_low (q := q) (n := n') (f := fun k => t.getD k 0) (g := fun k => (oneL (n' + 1 - 1)).getD k 0) (by omega) (fun k _ => (tp_rs hpm ht k).1) (oneL_at _ 0) (fun k k1 _ => by show (oneL (n' + 1 - 1)).getD k 0 = 0; rw [oneL_at, if_neg (by omega)]) (by omega)
      · rintro σ' H1 ⟨ys, rfl, g1, el, ly, ry, le⟩
        refine ⟨_, rfl, l, _, rfl, .inl ⟨SqL.of el, fun b1 nb1 => ⟨(by show 1 ≤ sizeLine; decide), fun c nc => ?_⟩⟩⟩
        have s1 := (same_upd (o := .tup (ys.map V.int)) nb1).trans (same_upd (o := .tup [.int 1]) nc)
        refine catB (ys := [1]) (same_upd nc _ _ upd_same) upd_same (by omega) (by decide) fun r H2 s2 er => ?_
        have G2 := g1.same (s1.trans s2)
        have l1 : (ys ++ [1]).length = m + 1 := by rw [List.length_append, ly]; rfl
        have hw : Whole q (ys ++ [1]) ↔ Wh q (ys ++ [1]) := whole_wh (by omega)
        refine ⟨_, rfl, r, ys ++ [1], q, rfl, SqT.of er, fun _ => er, hp, ⟨ry.app1 hpm, (dsr_lv ry hp).tr, by omega⟩, G2.t, fun bb H3 g3 ib => ⟨bb, rfl, ?_⟩⟩
        have G3 := G2.trans g3
        have el3 := g3.x _ _ ((s1.trans s2) _ _ el) (fun _ z => by cases z)
        cases bb with
        | true =>
          have wy := hw.mp (ib.mp rfl)
          refine iteF ?_
          refine ⟨_, rfl, l, _, rfl, .inl ⟨SqL.of el3, fun b2 nb2 => ⟨(by show 1 ≤ sizeLine; decide), fun c2 nc2 => ?_⟩⟩⟩
          have s3 := (same_upd (o := .tup (ys.map V.int)) nb2).trans (same_upd (o := .tup [.int 1]) nc2)
          exact catB (ys := [1]) (same_upd nc2 _ _ upd_same) upd_same (by omega) (by decide) fun v H4 s4 ev => k v ys H4 (G3.same (s3.trans s4)) (SqT.of ev) (fun _ => ev) ly ry wy le
        | false =>
          have nw : ¬ Wh q (ys ++ [1]) := fun z => absurd (ib.mpr (hw.mpr z)) (by decide)
          refine iteT ⟨fun σ' H' => (∃ ys : List Int, σ' = [some (.int m), some (.int q), some (.ref l)] ∧ Gr TT H H' ∧ H' l = some (.lst (ys.map V.int)) ∧ ys.length = m ∧ Rs q ys ∧ ∀ t ∈ Xp.tp q m, Wh q (t ++ [1]) → Xp.vl q ys ≤ Xp.vl q t) ∧ farOf q t0 l H' < farOf q t0 l H1, fun σ' H' ⟨p, z⟩ => ⟨_, z, rfl, p⟩, ?_⟩
          have lt1 : ∀ t ∈ Xp.tp q m, Wh q (t ++ [1]) → Xp.vl q ys + 1 ≤ Xp.vl q t := fun t ht wt => by
            have a := le t ht wt
            by_cases e : Xp.vl q ys = Xp.vl q t
            · have := vl_tp q0 ly (Xp.tp_mem.mp ht).1 ry (tp_rs hpm ht) e
              subst this
              exact absurd wt nw
            · omega
          have a0 := lt1 t0 ht0 wt0
          refine ⟨_, rfl, _, rfl, l, ys, q, rfl, el3, by omega, by omega, ry, hpm, some_low q0 ly ry ht0 (tp_rs hpm ht0) (by omega), fun zs H4 st ez lz rz vz => ⟨⟨zs, rfl, ?_, ez, by omega, rz, fun t ht wt => ?_⟩, ?_⟩⟩
          · exact grAt G3 nL el3 st ez
          · rw [vz]
            exact lt1 t ht wt
          · rw [farOf_at ez, farOf_at el, vz]
            omega
end
end Xk
end
section
set_option Elab.async false
set_option linter.all false
set_option maxRecDepth 100000
set_option maxHeartbeats 4000000
namespace Xk
open PySem PySem.Spec PyProof.Rows L2 Xh LamX NdefX
/-! ### rows, weighed by any numbers, added to some -/
def spWghL (K : PySem.W.Frag) : Sp := fun vs H Q _ => ∃ (t D s : Addr) (la : List Addr) (ts : List Int) (rs : List (List Int)) (ss : List Int) (n : Nat) (p : Int), vs = [.ref t, .ref D, .ref s, .int p] ∧ H t = some (.lst (ts.map V.int)) ∧ H D = some (.lst (la.map V.ref)) ∧ Rws H la rs ∧ H s = some (.lst (ss.map V.int)) ∧ ss.length = n ∧ n ≤ 24 ∧ ts.length ≤ rs.length ∧ rs.length ≤ 24 ∧ (∀ k, 0 ≤ ts.getD k 0 ∧ ts.getD k 0 < 10000000) ∧ (∀ r ∈ rs, r.length = n ∧ Rs p r) ∧ Pm p ∧
  ∀ (v : Addr) (ms : List Int) (H' : Hp), Same H H' → H' v = some (.tup (ms.map V.int)) → ms.length = n → Rs p ms → Xp.Eqm p (co ms) (fun k => ss.getD k 0 + (Xp.wgP ts rs).c k) → Q (.ref v) H'
section
variable {P : Program} {w : World} {K : PySem.W.Frag} {mg : Str → Option Value} {base : Heap}
theorem l_weighed {f : Addr} {fd : FuncData} (F : FunD K "weighed" "weighed" (defArgs s_weighed) (defBody s_weighed) (defScope s_weighed) [] [] f fd) (T : Fre mg) : FnOk P w K mg base CX0 1 f fd ["weights", "rows", "start", "prime"] (spWghL K) := by
  refine F.ok sc_weighed (fun vs H Q E h => ?_) (fun cdv A outer s H vs Q E hr h => ?_)
  · obtain ⟨t, D, s, la, ts, rs, ss, n, p, rfl, _⟩ := h
    rfl
  · obtain ⟨t, D, s0, la, ts, rs, ss, n, p, rfl, et, eD, hD, hs0, ls, hn, lt, lr, rt, hrs, hp, k⟩ := h
    refine ⟨_, PSs.nox (pss_cons (ps_set (i := 4) sc_weighed.nd rfl (Or.inl rfl) (pe_callTy call_list_of (by rfl) T.f_list (by decide +kernel) (pa_cons (pv 2) pa_nil)))
      (pss_cons (ps_for PassesOwn.never rfl (pi_zip (by rfl) T.f_zip (pa_cons (pv 0) (pa_cons (pv 1) pa_nil))) (pg_tup rfl (pgs_cons (pg_name (i := 5) sc_weighed.nd rfl (Or.inl rfl)) (pgs_cons (pg_name (i := 6) sc_weighed.nd rfl (Or.inl rfl)) pgs_nil))) (pss_one (ps_if (pt_cmpR op_ne (pv 5) pe_int (nomark _)) (pss_one (ps_for PassesOwn.never rfl (pi_enT (by rfl) T.f_enumerate (pa_cons (pv 6) pa_nil)) (pg_tup rfl (pgs_cons (pg_name (i := 7) sc_weighed.nd rfl (Or.inl rfl)) (pgs_cons (pg_name (i := 8) sc_weighed.nd rfl (Or.inl rfl)) pgs_nil))) (pss_one (ps_augS (pv 4) (pv 7) get_list (pe_op op_mul (pv 5) (pv 8)) ip_add set_list)))) pss_nil)))
      (pss_one (ps_ret (pe_callTy call_tuple_of (by rfl) T.f_tuple (by decide +kernel) (pa_cons (pe_lc (own := [("number", 9)]) rfl sc_weighed.nd (pi_list (pv 4)) (blkOk_by (own := [("number", 9)]) (N := ["weights", "rows", "start", "prime", "sums", "weight", "row", "place", "rest", "number"]) (sc := defScope s_weighed) (by decide +kernel)) (fun _ _ _ _ _ => pg_name (i := 9) sc_weighed.nd rfl (Or.inl rfl) (Or.inr rfl)) (fun _ _ _ _ _ => pts_nil) (fun _ _ _ _ _ => (pe_op op_modN (pv 9) (pv 3)))) pa_nil)))))) , ?_⟩
    have lo := hp.lo
    have hi1000 := hp.hi
    have lla := hD.len
    refine ⟨_, rfl, s0, _, rfl, .inl (SqL.of hs0), fun l hl => ?_⟩
    have sl := same_upd (o := .lst (ss.map V.int)) hl
    have nl : H l = none := hl
    refine ⟨_, rfl, _, rfl, t, D, _, _, rfl, SqL.of (sl _ _ et), SqL.of (sl _ _ eD), ?_⟩
    refine for_it (walk_zip (n := ts.length) (xs := ts.map V.int) (ys := la.map V.ref) (by rw [List.length_map, List.length_map]; omega)) (fun i σ' H2 => ∃ (ms : List Int) (x5 x6 x7 x8 : Option V), σ' = [some (.ref t), some (.ref D), some (.ref s0), some (.int p), some (.ref l), x5, x6, x7, x8, none] ∧ Same H H2 ∧ H2 l = some (.lst (ms.map V.int)) ∧ ms.length = n ∧ ∀ k, ms.getD k 0 = ss.getD k 0 + (Xp.wgP (ts.take i) (rs.take i)).c k)
      ⟨ss, none, none, none, none, rfl, sl, upd_same, ls, fun k => by show _ = _ + (0 : Int); rw [Int.add_zero]⟩ (fun i σ' H2 _ ⟨_, _, _, _, _, _, s2, _⟩ => ⟨SqL.of (s2 _ _ et), SqL.of (s2 _ _ eD)⟩) ?_ ?_
    · rintro i x σ' H2 H3 hi2 ⟨ms, x5, x6, x7, x8, rfl, s2, el, lm, cm⟩ ⟨Tp, x1, y1, rfl, hTp, rfl, g1, g2⟩
      have s3 := s2.trans (same_upd (o := .tup [x1, y1]) hTp)
      obtain ⟨lr', r, rfl, hr2, er0⟩ := hD.at g2
      have er := s3 _ _ er0
      have g3 := (map_at ts i (by omega)).symm.trans g1
      cases g3
      obtain ⟨w0, w1⟩ := rt i
      have el3 := same_upd (o := .tup [.int (ts.getD i 0), .ref lr']) hTp _ _ el
      refine ⟨Tp, _, rfl, .inl (.inl upd_same), rfl, _, _, rfl, _, _, rfl, rfl, ?_⟩
      have tsi : ts[i]? = some (ts.getD i 0) := by
        rw [List.getD_eq_getElem?_getD, List.getElem?_eq_getElem (show i < ts.length by omega)]
        rfl
      have snoc := fun k => wgP_snoc k tsi hr2
      obtain ⟨lrn, rr⟩ := hrs r (List.mem_of_getElem? hr2)
      refine ⟨_, rfl, rfl, _, rfl, ite2 (fun hz => ?_) (fun hz => ?_)⟩
      · refine ⟨_, rfl, lr', _, rfl, SqT.of er, ?_⟩
        refine for_it (walk_enT (xs := r.map V.int)) (fun j σ' H4 => ∃ (ms2 : List Int) (x7 x8 : Option V), σ' = [some (.ref t), some (.ref D), some (.ref s0), some (.int p), some (.ref l), some (.int (ts.getD i 0)), some (.ref lr'), x7, x8, none] ∧ Same H H4 ∧ H4 l = some (.lst (ms2.map V.int)) ∧ ms2.length = n ∧ ∀ k, ms2.getD k 0 = ms.getD k 0 + (if k < j then ts.getD i 0 * r.getD k 0 else 0))
          ⟨ms, x7, x8, rfl, s3, el3, lm, fun k => by rw [if_neg (Nat.not_lt_zero k), Int.add_zero]⟩ (fun j σ' H4 _ ⟨_, _, _, _, s4, _⟩ => SqT.of (s4 _ _ er0)) ?_ ?_
        · rintro j x' σ' H4 H5 hj ⟨ms2, x7, x8, rfl, s4, el4, lm2, cm2⟩ ⟨Tq, u, v, rfl, hTq, rfl, e1, e2⟩
          cases e1
          rw [List.length_map] at hj
          have e3 := (map_at r j hj).symm.trans e2
          cases e3
          have el5 := same_upd (o := .tup [.int (j : Nat), .int (r.getD j 0)]) hTq _ _ el4
          have ho : atI (ms2.map V.int) (j : Int) = some (.int (ms2.getD j 0)) := atI_nat (map_at ms2 j (by omega))
          have hx : ixN (ms2.map V.int).length (j : Int) = some j := ixN_nat (by rw [List.length_map]; omega)
          refine ⟨Tq, _, rfl, .inl (.inl upd_same), rfl, _, _, rfl, _, _, rfl, rfl, ?_⟩
          refine ⟨_, rfl, _, rfl, l, _, _, _, rfl, rfl, SqL.of el5, ho, _, rfl, _, rfl, _, _, rfl, rfl, .inl ⟨by omega, by omega⟩, _, _, rfl, rfl, l, _, _, _, rfl, rfl, el5, hx, ?_⟩
          refine ⟨ms2.set j (ms2.getD j 0 + ts.getD i 0 * r.getD j 0), _, _, rfl, lcs nl (s4.trans (same_upd hTq)), by rw [upd_same, List.map_set], by rw [List.length_set]; exact lm2, fun k => ?_⟩
          rw [getD_set (by omega)]
          by_cases hk : k = j
          · rw [if_pos hk, hk, if_pos (Nat.lt_succ_self j), cm2, if_neg (Nat.lt_irrefl j), Int.add_zero]
          · rw [if_neg hk, cm2]
            by_cases h2 : k < j
            · rw [if_pos h2, if_pos (by omega)]
            · rw [if_neg h2, if_neg (by omega)]
        · rintro σ' H4 ⟨ms2, x7, x8, rfl, s4, el4, lm2, cm2⟩
          refine ⟨ms2, _, _, _, _, rfl, s4, el4, lm2, fun k => ?_⟩
          rw [cm2, snoc, cm, List.length_map, Int.add_assoc]
          by_cases h2 : k < r.length
          · rw [if_pos h2]
          · rw [if_neg h2, getD_over (a := r) (by omega), Int.mul_zero, Int.add_zero]
      · have z : ts.getD i 0 = 0 := by
          rcases Decidable.em (V.int (ts.getD i 0) = V.int 0) with e | e
          · exact V.int.inj e
          · exact absurd (by rw [decide_eq_false e]; rfl) hz
        refine ⟨ms, _, _, _, _, rfl, s3, el3, lm, fun k => ?_⟩
        rw [snoc, cm, z, Int.zero_mul, Int.add_zero]
    · rintro σ' H2 ⟨ms, x5, x6, x7, x8, rfl, s2, el, lm, cm⟩
      have nz : p ≠ 0 := by omega
      refine ⟨_, rfl, l, rfl, ⟨_, SqL.of el⟩, fun D2 hD2 => ?_⟩
      refine lc_it (walk_list (xs := ms.map V.int)) (fun i H' => Same H2 H' ∧ H' D2 = some (.lst (((ms.take i).map fun x => x.fmod p).map V.int))) ⟨same_upd hD2, upd_same⟩ (fun i H' _ h => SqL.of (h.1 _ _ el)) ?_ ?_
      · rintro i x Ha Hb hi2 ⟨s4, e4⟩ ⟨rfl, hx⟩
        rw [List.length_map] at hi2
        have e5 := (map_at ms i hi2).symm.trans hx
        cases e5
        refine ⟨rfl, _, rfl, _, rfl, _, _, rfl, rfl, nz, _, e4, small1000 (Nat.le_trans (take_len _ _ _) (by omega)), lcs hD2 s4, ?_⟩
        rw [upd_same]
        exact congrArg (fun z => some (HO.lst z)) (take_map (fun x => x.fmod p) hi2)
      rintro H4 ⟨s4, e4⟩
      rw [List.length_map, List.take_length] at e4
      have at_ : ∀ k, (ms.map fun x => x.fmod p).getD k 0 = (ms.getD k 0).fmod p := fun k => by
        rw [List.getD_eq_getElem?_getD, List.getD_eq_getElem?_getD, List.getElem?_map]
        cases ms[k]? with
        | none => exact (Int.zero_fmod p).symm
        | some x => rfl
      refine ⟨D2, _, rfl, .inl ⟨SqL.of e4, fun v hv => ?_⟩⟩
      refine k v (ms.map fun x => x.fmod p) _ ((s2.trans s4).trans (same_upd hv)) upd_same (by rw [List.length_map, lm]) (fm_rs hp at_) fun j => ?_
      show (ms.map fun x => x.fmod p).getD j 0 % p = _
      rw [at_, fm_em hp.pos, Int.emod_emod_of_dvd _ (Int.dvd_refl p), cm, List.take_length, wgP_take]
end
end Xk
end
section
set_option Elab.async false
set_option linter.all false
set_option maxRecDepth 100000
set_option maxHeartbeats 4000000
namespace Xk
open PySem PySem.Spec PyProof.Rows L2 Xh LamX NdefX
/-! ### fields: what stands in them -/
structure ClsF (K : PySem.W.Frag) (CF CR : Addr) : Prop where
  clF : Cls K CF
  f0 : NoAttr K CF "_rule"
  f1 : NoAttr K CF "_prime"
  f2 : NoAttr K CF "raw"
  f3 : NoAttr K CF "_size"
  clR : Cls K CR
  r0 : NoAttr K CR "divisor"
  r1 : NoAttr K CR "base"
  r2 : NoAttr K CR "width"
  r3 : NoAttr K CR "nought"
  r4 : NoAttr K CR "unit"
  r5 : NoAttr K CR "turn_table"
  r6 : NoAttr K CR "high_table"
def rawFs (rr z u tt ht : Addr) (q n : Nat) : List (Str × V) := [("divisor", .ref rr), ("base", .int q), ("width", .int n), ("nought", .ref z), ("unit", .ref u), ("turn_table", .ref tt), ("high_table", .ref ht)]
def fldFs (rr W : Addr) (q : Nat) (s : Int) : List (Str × V) := [("_rule", .ref rr), ("_prime", .int q), ("raw", .ref W), ("_size", .int s)]
/-- a number of a field -/
structure Num (q n : Nat) (zs : List Int) : Prop where
  len : zs.length = n
  rs : Rs q zs
def oneT (n : Nat) : List Int := 1 :: List.replicate (n - 1) 0
/-- a rule that is one -/
structure RuleOk (q n : Nat) (R : List Int) : Prop where
  len : R.length = n + 1
  n1 : 1 ≤ n
  n12 : n ≤ 12
  hp : (q : Int) ∈ primes
  ex : ∃ t, t.length = n ∧ Rs q t ∧ R = t ++ [1]
  wh : Whole q R
theorem RuleOk.of {q n : Nat} {t : List Int} (l : t.length = n) (n1 : 1 ≤ n) (n12 : n ≤ 12) (hp : (q : Int) ∈ primes) (r : Rs q t) (w : Wh q (t ++ [1])) : RuleOk q n (t ++ [1]) := ⟨by rw [List.length_append, l]; rfl, n1, n12, hp, ⟨t, l, r, rfl⟩, by rw [List.length_append, l]; show 2 ≤ n + 1; omega, w⟩
theorem RuleOk.d {q n : Nat} {R : List Int} (x : RuleOk q n R) : Dsr q R := by
  obtain ⟨t, l, r, rfl⟩ := x.ex
  exact dsr_lv r x.hp
theorem RuleOk.pm {q n : Nat} {R : List Int} (x : RuleOk q n R) : Pm q := pm_of x.hp
theorem RuleOk.q0 {q n : Nat} {R : List Int} (x : RuleOk q n R) : 2 ≤ q := by
  have := x.pm.lo
  omega
theorem RuleOk.po {q n : Nat} {R : List Int} (x : RuleOk q n R) : Po q R 25 := ⟨x.d.rs, x.d.tr, by
  have := x.len
  have := x.n12
  omega⟩
theorem RuleOk.last {q n : Nat} {R : List Int} (x : RuleOk q n R) : R.getD n 0 = 1 := by
  obtain ⟨t, l, r, rfl⟩ := x.ex
  rw [← l, last1]
/-- two numbers that the rule holds alike are one -/
theorem RuleOk.one {q n : Nat} {R xs ys : List Int} (x : RuleOk q n R) (a : Num q n xs) (b : Num q n ys) (h : Xp.Cg q (co R) (co xs) (co ys)) : xs = ys := by
  obtain ⟨t, l, r, rfl⟩ := x.ex
  exact Xp.rem_one x.q0 (Xp.lv_dg x.q0 (tp_of l r)) (tp_of a.len a.rs) (tp_of b.len b.rs) h
structure HRow (q n : Nat) (R : List Int) (i : Nat) (r : List Int) : Prop where
  num : Num q n r
  cg : Xp.Cg q (co R) (Xp.pw (Xp.xs Xp.one) (n + i)) (co r)
/-- the arithmetic of a field stands at W -/
structure RawAt (K : PySem.W.Frag) (CR : Addr) (H : Hp) (W : Addr) (q n : Nat) (R : List Int) : Prop where
  ex : ∃ (dx rr z u tt ht : Addr) (lt lh : List Addr) (ts hs : List (List Int)), H W = some (.ins CR dx (rawFs rr z u tt ht q n)) ∧ SqT K H rr (R.map V.int) ∧ H z = some (.tup ((List.replicate n (0 : Int)).map V.int)) ∧ H u = some (.tup ((oneT n).map V.int)) ∧
    H tt = some (.lst (lt.map V.ref)) ∧ Rws H lt ts ∧ ts.length = n ∧ (∀ i r, ts[i]? = some r → TRow q R i r) ∧ H ht = some (.lst (lh.map V.ref)) ∧ Rws H lh hs ∧ hs.length = n - 1 ∧ ∀ i r, hs[i]? = some r → HRow q n R i r
/-- what fields are made of stays -/
structure Stays (H H' : Hp) : Prop where
  i : ∀ a C dx fs, H a = some (.ins C dx fs) → H' a = some (.ins C dx fs)
  t : ∀ a xs, H a = some (.tup xs) → H' a = some (.tup xs)
  f : ∀ a o u, H a = some (.frz o u) → H' a = some (.frz o u)
  l : ∀ a (xs : List Addr), H a = some (.lst (xs.map V.ref)) → H' a = some (.lst (xs.map V.ref))
theorem Stays.sq {K : PySem.W.Frag} {H H' : Hp} (s : Stays H H') {a : Addr} {xs : List V} (h : SqT K H a xs) : SqT K H' a xs := by
  rcases h with (h | ⟨o, h⟩) | h
  · exact .inl (.inl (s.t _ _ h))
  · exact .inl (.inr ⟨o, s.f _ _ _ h⟩)
  · exact .inr h
theorem Stays.same {H H' : Hp} (s : Same H H') : Stays H H' := ⟨fun _ _ _ _ e => s _ _ e, fun _ _ e => s _ _ e, fun _ _ _ e => s _ _ e, fun _ _ e => s _ _ e⟩
theorem Stays.gr {T : List (Addr × Str)} {H H' : Hp} (g : Gr T H H') : Stays H H' := ⟨fun _ _ _ _ e => g.x _ _ e (fun _ z => by cases z), fun _ _ e => g.x _ _ e (fun _ z => by cases z), fun _ _ _ e => g.x _ _ e (fun _ z => by cases z), fun _ _ e => g.x _ _ e (fun _ z => by cases z)⟩
theorem Stays.trans {H H1 H2 : Hp} (a : Stays H H1) (b : Stays H1 H2) : Stays H H2 := ⟨fun _ _ _ _ e => b.i _ _ _ _ (a.i _ _ _ _ e), fun _ _ e => b.t _ _ (a.t _ _ e), fun _ _ _ e => b.f _ _ _ (a.f _ _ _ e), fun _ _ e => b.l _ _ (a.l _ _ e)⟩
theorem Stays.but {d : Addr} {H H' : Hp} (D : Draw H d) (b : But d H H') : Stays H H' := by
  obtain ⟨c, ns, i, r, g, e2, _⟩ := D
  refine ⟨fun a C dx fs e => b.f _ _ (fun z => ?_) e, fun a xs e => b.f _ _ (fun z => ?_) e, fun a o u e => b.f _ _ (fun z => ?_) e, fun a xs e => b.f _ _ (fun z => ?_) e⟩
  · rw [z, e2] at e; cases e
  · rw [z, e2] at e; cases e
  · rw [z, e2] at e; cases e
  · rw [z, e2] at e
    match xs, e with
    | [], e => cases e
    | [_], e => cases e
    | _ :: _ :: _, e => cases e
theorem RawAt.stay {K : PySem.W.Frag} {CR : Addr} {H H' : Hp} {W : Addr} {q n : Nat} {R : List Int} (x : RawAt K CR H W q n R) (s : Stays H H') : RawAt K CR H' W q n R := by
  obtain ⟨dx, rr, z, u, tt, ht, lt, lh, ts, hs, e1, e2, e3, e4, e5, e6, e7, e8, e9, e10, e11, e12⟩ := x.ex
  exact ⟨dx, rr, z, u, tt, ht, lt, lh, ts, hs, s.i _ _ _ _ e1, s.sq e2, s.t _ _ e3, s.t _ _ e4, s.l _ _ e5, e6.keep s.t, e7, e8, s.l _ _ e9, e10.keep s.t, e11, e12⟩
theorem rawFs_div (rr z u tt ht : Addr) (q n : Nat) : (rawFs rr z u tt ht q n).lookup ("divisor" : Str) = some (.ref rr) := rfl
theorem rawFs_base (rr z u tt ht : Addr) (q n : Nat) : (rawFs rr z u tt ht q n).lookup ("base" : Str) = some (.int q) := rfl
theorem rawFs_width (rr z u tt ht : Addr) (q n : Nat) : (rawFs rr z u tt ht q n).lookup ("width" : Str) = some (.int n) := rfl
theorem rawFs_nought (rr z u tt ht : Addr) (q n : Nat) : (rawFs rr z u tt ht q n).lookup ("nought" : Str) = some (.ref z) := rfl
theorem rawFs_unit (rr z u tt ht : Addr) (q n : Nat) : (rawFs rr z u tt ht q n).lookup ("unit" : Str) = some (.ref u) := rfl
theorem rawFs_turn (rr z u tt ht : Addr) (q n : Nat) : (rawFs rr z u tt ht q n).lookup ("turn_table" : Str) = some (.ref tt) := rfl
theorem rawFs_high (rr z u tt ht : Addr) (q n : Nat) : (rawFs rr z u tt ht q n).lookup ("high_table" : Str) = some (.ref ht) := rfl
theorem rawFs_no (rr z u tt ht : Addr) (q n : Nat) : (rawFs rr z u tt ht q n).lookup ("times" : Str) = none := rfl
end Xk
end
section
set_option Elab.async false
set_option linter.all false
set_option maxRecDepth 100000
set_option maxHeartbeats 4000000
namespace Xk
open PySem PySem.Spec PyProof.Rows L2 Xh LamX NdefX
/-! ### the arithmetic of a field: its methods -/
theorem co_xn : ∀ j, co (List.replicate j 0 ++ [1]) = Xp.pw (Xp.xs Xp.one) j
  | 0 => funext fun k => by
    match k with
    | 0 => rfl
    | k + 1 =>
      show (0 : Int) = Xp.one (k + 1)
      exact (if_neg (by omega)).symm
  | j + 1 => by
    show _ = Xp.cv (Xp.xs Xp.one) (Xp.pw (Xp.xs Xp.one) j)
    rw [Xp.cv_xs, Xp.one_cv, ← co_xn j]
    exact funext fun k => by
      match k with
      | 0 => rfl
      | k + 1 => rfl
def spPlain (CR : Addr) : Sp := fun vs H Q _ => ∃ (W dx : Addr) (fs : List (Str × V)) (n : Nat) (r : Int), vs = [.ref W, .int r] ∧ H W = some (.ins CR dx fs) ∧ fs.lookup ("width" : Str) = some (.int n) ∧ 1 ≤ n ∧ n ≤ 24 ∧
  ∀ (v : Addr) (H' : Hp), Same H H' → H' v = some (.tup ((r :: List.replicate (n - 1) 0).map V.int)) → Q (.ref v) H'
def spXPow (K : PySem.W.Frag) (T : List (Addr × Str)) (CR : Addr) : Sp := fun vs H Q _ => ∃ (W dx rr : Addr) (fs : List (Str × V)) (q n j : Nat) (R : List Int), vs = [.ref W, .int j] ∧ H W = some (.ins CR dx fs) ∧ fs.lookup ("divisor" : Str) = some (.ref rr) ∧ fs.lookup ("base" : Str) = some (.int q) ∧ fs.lookup ("width" : Str) = some (.int n) ∧ SqT K H rr (R.map V.int) ∧ RuleOk q n R ∧ j ≤ 30 ∧ Tabs T H ∧
  ∀ (v : Addr) (r : List Int) (H' : Hp), Gr T H H' → H' v = some (.tup (r.map V.int)) → Num q n r → Xp.Cg q (co R) (Xp.pw (Xp.xs Xp.one) j) (co r) → Q (.ref v) H'
def okR (p x : Int) : Bool := decide (0 ≤ x ∧ x < p)
def numB (q n : Nat) (xs : List Int) : Bool := decide (xs.length = n) && xs.all (okR q)
theorem numB_iff {q n : Nat} (q0 : 0 < q) {xs : List Int} : numB q n xs = true ↔ Num q n xs := by
  unfold numB
  rw [Bool.and_eq_true, List.all_eq_true]
  constructor
  · rintro ⟨a, b⟩
    refine ⟨of_decide_eq_true a, fun k => ?_⟩
    rw [List.getD_eq_getElem?_getD]
    cases e : xs[k]? with
    | none =>
      show 0 ≤ (0 : Int) ∧ (0 : Int) < q
      omega
    | some x => exact of_decide_eq_true (b x (List.mem_of_getElem? e))
  · rintro ⟨a, b⟩
    refine ⟨decide_eq_true a, fun x hx => decide_eq_true ?_⟩
    obtain ⟨k, hk, rfl⟩ := List.mem_iff_getElem.mp hx
    have := b k
    rwa [List.getD_eq_getElem?_getD, List.getElem?_eq_getElem hk] at this
def spHas (K : PySem.W.Frag) (CR : Addr) : Sp := fun vs H Q _ => ∃ (W a : Addr) (q n : Nat) (R xs : List Int), vs = [.ref W, .ref a] ∧ RawAt K CR H W q n R ∧ SqT K H a (xs.map V.int) ∧ xs.length ≤ 100 ∧ ∀ H', Same H H' → Q (.bl (numB q n xs)) H'
def spNum2 (K : PySem.W.Frag) (CR : Addr) (G : Nat → Nat → List Int → List Int → List Int → Xp.Cf) : Sp := fun vs H Q _ => ∃ (W a b : Addr) (q n : Nat) (R xs ys : List Int), vs = [.ref W, .ref a, .ref b] ∧ RuleOk q n R ∧ RawAt K CR H W q n R ∧ SqT K H a (xs.map V.int) ∧ SqT K H b (ys.map V.int) ∧ Num q n xs ∧ Num q n ys ∧
  ∀ (v : Addr) (zs : List Int) (H' : Hp), Same H H' → H' v = some (.tup (zs.map V.int)) → Num q n zs → Xp.Cg q (co R) (G q n R xs ys) (co zs) → Q (.ref v) H'
abbrev gAdd : Nat → Nat → List Int → List Int → List Int → Xp.Cf := fun _ _ _ xs ys => Xp.ad (co xs) (co ys)
abbrev gSub : Nat → Nat → List Int → List Int → List Int → Xp.Cf := fun _ _ _ xs ys => Xp.ad (co xs) (Xp.sc (-1) (co ys))
abbrev gMul : Nat → Nat → List Int → List Int → List Int → Xp.Cf := fun _ _ _ xs ys => Xp.cv (co xs) (co ys)
section
variable {P : Program} {w : World} {K : PySem.W.Frag} {mg : Str → Option Value} {base : Heap}
theorem sc_RawField_plain : FnScope (["self", "rest"] : List Str) ["self", "rest"] (defScope s_RawField_plain) := ⟨rfl, rfl, rfl, by decide +kernel, rfl, by decide +kernel, by decide +kernel⟩
theorem ok_RawField_plain {f CF CR : Addr} {fd : FuncData} (F : FunD K "plain" "RawField.plain" (defArgs s_RawField_plain) (defBody s_RawField_plain) (defScope s_RawField_plain) [] [] f fd) (KC : ClsF K CF CR) : FnOk P w K mg base CX0 1 f fd ["self", "rest"] (spPlain CR) := by
  refine F.ok sc_RawField_plain (fun vs H Q E h => ?_) (fun cdv A outer s H vs Q E hr h => ?_)
  · obtain ⟨W, dx, fs, n, r, rfl, _⟩ := h
    rfl
  · obtain ⟨W, dx, fs, n, r, rfl, eW, lw, n1, n24, k⟩ := h
    refine ⟨_, PSs.nox (pss_one (ps_ret (pe_op op_catA (pe_tup (pa_cons (pv 1) pa_nil)) (pe_op op_repZ (pe_tup (pa_cons pe_int pa_nil)) (pe_op op_sub (pe_fld (pv 0) rfl) pe_int))))) , ?_⟩
    refine ⟨_, rfl, (by show 1 ≤ sizeLine; decide), fun a na => ⟨(by show 1 ≤ sizeLine; decide), fun b nb => ⟨_, rfl, W, CR, dx, fs, _, rfl, same_upd nb _ _ (same_upd na _ _ eW), KC.clR, KC.r2, lw, _, _, rfl, rfl, repB upd_same ?_ ?_ fun z H2 s2 ez => ?_⟩⟩⟩
    · omega
    · omega
    rw [show ((n : Int) - 1).toNat = n - 1 by omega] at ez
    have s12 := ((same_upd (o := .tup [.int r]) na).trans (same_upd (o := .tup [.int 0]) nb)).trans s2
    exact catB (xs := [r]) (ys := List.replicate (n - 1) 0) (s2 _ _ (same_upd nb _ _ upd_same)) ez (by show 1 ≤ 100; decide) (by rw [List.length_replicate]; omega) fun v H3 s3 e3 => k v H3 (s12.trans s3) e3
theorem sc_RawField_x_power : FnScope (["self", "power"] : List Str) ["self", "power"] (defScope s_RawField_x_power) := ⟨rfl, rfl, rfl, by decide +kernel, rfl, by decide +kernel, by decide +kernel⟩
theorem ok_RawField_x_power {TT : List (Addr × Str)} {f CF CR : Addr} {fd : FuncData} (F : FunD K "x_power" "RawField.x_power" (defArgs s_RawField_x_power) (defBody s_RawField_x_power) (defScope s_RawField_x_power) [] [] f fd) (KC : ClsF K CF CR) (o_raw_left : Own P w K mg base CX0 5 "raw_left" ["one", "rule", "prime"] [] (spLeft K TT)) (o_padded : Own P w K mg base CX0 1 "padded" ["one", "width"] [] (spPad K)) : FnOk P w K mg base CX0 6 f fd ["self", "power"] (spXPow K TT CR) := by
  refine F.ok sc_RawField_x_power (fun vs H Q E h => ?_) (fun cdv A outer s H vs Q E hr h => ?_)
  · obtain ⟨W, dx, rr, fs, q, n, j, R, rfl, _⟩ := h
    rfl
  · obtain ⟨W, dx, rr, fs, q, n, j, R, rfl, eW, l0, l1, l2, eR, hR, hj, hT, k⟩ := h
    have hpm := hR.pm
    refine ⟨_, PSs.nox (pss_one (ps_ret (pe_own o_padded (hr.mono (by decide)) rfl pass0 (pa_cons (pe_own o_raw_left (hr.mono (by decide)) rfl pass0 (pa_cons (pe_op op_catA (pe_op op_repZ (pe_tup (pa_cons pe_int pa_nil)) (pv 1)) (pe_tup (pa_cons pe_int pa_nil))) (pa_cons (pe_fld (pv 0) rfl) (pa_cons (pe_fld (pv 0) rfl) pa_nil)))) (pa_cons (pe_fld (pv 0) rfl) pa_nil))))) , ?_⟩
    refine ⟨(by show 1 ≤ sizeLine; decide), fun a na => ⟨_, rfl, repB upd_same ?_ ?_ fun z H2 s2 ez => ⟨(by show 1 ≤ sizeLine; decide), fun b nb => ?_⟩⟩⟩
    · omega
    · omega
    rw [Int.toNat_natCast] at ez
    have s12 := ((same_upd (o := .tup [.int 0]) na).trans s2).trans (same_upd (o := .tup [.int 1]) nb)
    refine catB (xs := List.replicate j 0) (ys := [1]) (same_upd nb _ _ ez) upd_same (by rw [List.length_replicate]; omega) (by decide) fun v H3 s3 e3 => ?_
    have s13 := s12.trans s3
    have lv : (List.replicate j (0 : Int) ++ [1]).length = j + 1 := by rw [List.length_append, List.length_replicate]; rfl
    have rv : Rs q (List.replicate j (0 : Int) ++ [1]) := Rs.app1 (fun k => by rw [getD_rep]; have := hpm.lo; omega) hpm
    refine ⟨_, rfl, W, CR, dx, fs, _, rfl, s13 _ _ eW, KC.clR, KC.r0, l0, _, rfl, W, CR, dx, fs, _, rfl, s13 _ _ eW, KC.clR, KC.r1, l1, v, rr, _, R, (q : Int), rfl, e3, sameT s13 eR, by omega, by have := hR.len; have := hR.n12; omega, rv, hR.d, hT.ext s13, fun u rs H4 g4 e4 m => ?_⟩
    have G4 := (Gr.of hT s13).trans g4
    have lr := m.less
    have lR := hR.len
    have n12 := hR.n12
    refine ⟨_, rfl, W, CR, dx, fs, _, rfl, g4.x _ _ (s13 _ _ eW) (fun _ z => by cases z), KC.clR, KC.r2, l2, u, rs, n, rfl, e4, by omega, by omega, fun v2 H5 s5 e5 => ?_⟩
    refine k v2 (padL rs n) H5 (G4.same s5) e5 ⟨padL_len (by omega), fun i => ?_⟩ ?_
    · show 0 ≤ co (padL rs n) i ∧ co (padL rs n) i < q
      rw [co_pad]
      exact m.po.rs i
    · rw [co_pad, ← co_xn]
      exact m.cg
theorem sc_RawField_has : FnScope (["self", "told", "rest"] : List Str) ["self", "told"] (defScope s_RawField_has) := ⟨rfl, rfl, rfl, by decide +kernel, rfl, by decide +kernel, by decide +kernel⟩
theorem ok_RawField_has {f CF CR : Addr} {fd : FuncData} (F : FunD K "has" "RawField.has" (defArgs s_RawField_has) (defBody s_RawField_has) (defScope s_RawField_has) [] [] f fd) (KC : ClsF K CF CR) (T : Fre mg) (o_is_rest : Own P w K mg base CX0 2 "is_rest" ["told", "prime"] [] spIsRest) : FnOk P w K mg base CX0 3 f fd ["self", "told"] (spHas K CR) := by
  refine F.ok sc_RawField_has (fun vs H Q E h => ?_) (fun cdv A outer s H vs Q E hr h => ?_)
  · obtain ⟨W, a, q, n, R, xs, rfl, _⟩ := h
    rfl
  · obtain ⟨W, a, q, n, R, ns, rfl, hW, hS, hl, k⟩ := h
    obtain ⟨dx, rr, z, u, tt, ht, lt, lh, ts, hs, eW, _⟩ := hW.ex
    refine ⟨_, PSs.nox (pss_cons (ps_if (PW.pt (pw_or (pt_not (pt_val (pe_callB call_isi (by rfl) T.f_isinstance PyProof.Rows.boot_isinstance (pa_cons (pv 1) (pa_cons (pe_bltn (v := .ty "tuple") rfl T.f_tuple boot_tuple rfl) pa_nil))))) (pw_or1 (pt_cmpR op_ne (pe_callB call_len_seq (by rfl) T.f_len PySem.boot_len (pa_cons (pv 1) pa_nil)) (pe_fld (pv 0) rfl) (nomark _))))) (pss_one (ps_ret pe_bl)) pss_nil)
      (pss_one (ps_ret (pe_callB (cr_all rfl) (by rfl) T.f_all (by decide +kernel) (pa_cons (pe_lc (own := [("rest", 2)]) (te := (tCall _ _ _ (tCons (tVar 2) (tCons (tFld K (tVar 0) "base") tNil)))) rfl sc_RawField_has.nd (pi_tup (pv 1)) (blkOk_by (own := [("rest", 2)]) (N := ["self", "told", "rest"]) (sc := defScope s_RawField_has) (by decide +kernel)) (fun _ _ _ _ _ => pg_name (i := 2) sc_RawField_has.nd rfl (Or.inl rfl) (Or.inr rfl)) (fun _ _ _ _ _ => pts_nil) (fun _ _ _ _ _ => (pe_own o_is_rest (hr.mono (by decide)) rfl pass0 (pa_cons (pv 2) (pa_cons (pe_fld (pv 0) rfl) pa_nil))))) pa_nil))))) , ?_⟩
    refine ⟨_, rfl, .ref a, _, _, _, true, rfl, .ty _, tyT hS, kit_ty (by decide +kernel), _, rfl, iteF ?_⟩
    refine ⟨_, rfl, a, _, rfl, .inr hS, _, rfl, W, CR, dx, _, _, rfl, eW, KC.clR, KC.r2, rawFs_width _ _ _ _ _ _ _, rfl, _, rfl, ?_⟩
    rw [List.length_map]
    by_cases hn : ns.length = n
    · rw [show decide (V.int ((ns.length : Nat) : Int) = V.int ((n : Nat) : Int)) = true from decide_eq_true (by rw [hn])]
      refine iteF ?_
      refine ⟨_, rfl, a, rfl, ⟨_, hS⟩, fun D hD => ?_⟩
      refine lc_it (walk_tup (xs := ns.map V.int)) (fun i H1 => Same H H1 ∧ H1 D = some (.lst (((ns.take i).map (okR q)).map V.bl)) ∧ i ≤ ns.length) ⟨same_upd hD, upd_same, Nat.zero_le _⟩ (fun i H1 _ h => sameT h.1 hS) ?_ ?_
      · rintro i x H1 H2 hi ⟨s1, e1, _⟩ ⟨rfl, hx⟩
        rw [List.length_map] at hi
        have e3 := (map_at ns i hi).symm.trans hx
        cases e3
        refine ⟨rfl, _, rfl, _, rfl, W, CR, dx, _, _, rfl, s1 _ _ eW, KC.clR, KC.r1, rawFs_base _ _ _ _ _ _ _, _, _, rfl, _, e1, ?_, lcs hD s1, ?_, hi⟩
        · rw [List.length_map, List.length_map, List.length_take]
          exact small1000 (by omega)
        · rw [upd_same, List.take_add_one, List.getElem?_eq_getElem hi, List.map_append, List.map_append]
          have eg : ns.getD i 0 = ns[i] := by rw [List.getD_eq_getElem?_getD, List.getElem?_eq_getElem hi]; rfl
          rw [eg]
          rfl
      · rintro H1 ⟨s1, e1, _⟩
        rw [List.length_map, List.take_length] at e1
        refine ⟨D, _, rfl, SqL.of e1, ?_⟩
        have e : numB q n ns = (ns.map (okR q)).all id := by
          unfold numB
          rw [decide_eq_true hn, Bool.true_and, List.all_map]
          rfl
        rw [← e]
        exact k _ s1
    · rw [show decide (V.int ((ns.length : Nat) : Int) = V.int ((n : Nat) : Int)) = false from decide_eq_false (fun z => hn (by have := V.int.inj z; omega))]
      refine iteT ?_
      have e : numB q n ns = false := by
        unfold numB
        rw [decide_eq_false hn, Bool.false_and]
      rw [← e]
      exact k _ (fun _ _ z => z)
end
end Xk
end
section
set_option linter.all false
set_option maxHeartbeats 1000000
/-! A product by a table of what the higher powers of x leave (no program in it). -/
namespace Xp
open Lean.Grind
theorem split_of : ∀ (n : Nat) (ms : List Int), Po.of ms = Po.of (ms.take n) + Po.X ^ n * Po.of (ms.drop n)
  | 0, ms => by
    rw [List.take_zero, List.drop_zero, of_nil, Semiring.pow_zero]
    grind
  | n + 1, [] => by
    rw [List.take_nil, List.drop_nil, of_nil]
    grind
  | n + 1, t :: ms => by
    rw [List.take_succ_cons, List.drop_succ_cons, of_cons, of_cons, split_of n ms, Semiring.pow_succ]
    grind
theorem tab_mul {p : Int} {f : Cf} {n : Nat} {ms zs : List Int} {hs : List (List Int)} (hr : ∀ (i : Nat) (r : List Int), hs[i]? = some r → Cg p f (pw (xs one) (n + i)) (cf r)) (l : (ms.drop n).length ≤ hs.length)
    (e : Eqm p (cf zs) (fun k => (ms.take n).getD k 0 + (wgP (ms.drop n) hs).c k)) : Cg p f (cf ms) (cf zs) := by
  refine el_eq.mp ?_
  show (Qu.mk (Po.of ms) : Fq p f) = el p f zs
  have a : (el p f zs : Fq p f) = Qu.mk (Po.of (ms.take n) + wgP (ms.drop n) hs) := mk_eq.mpr (Cg.of e)
  rw [a, split_of n ms, Qu.mk_add, Qu.mk_add, Qu.mk_mul, Qu.mk_pow, wgP_hv (z := Qu.mk Po.X) ((Qu.mk Po.X : Fq p f) ^ n) l fun i r hi => ?_, ← el_hv]
  · rfl
  · rw [← Semiring.pow_add]
    exact (cgX (g := nul)).mp (hr i r hi)
/-- the first i of one, times another -/
def lowC (x : Cf) (i : Nat) : Cf := fun k => if k < i then x k else 0
theorem xsn_val : ∀ (i : Nat) (g : Cf) (k : Nat), xsn i g k = if i ≤ k then g (k - i) else 0
  | 0, g, k => by
    rw [if_pos (Nat.zero_le k)]
    rfl
  | i + 1, g, 0 => by
    rw [if_neg (by omega)]
    rfl
  | i + 1, g, k + 1 => by
    show xsn i g k = _
    rw [xsn_val i g k, show k + 1 - (i + 1) = k - i by omega]
    by_cases h : i ≤ k
    · rw [if_pos h, if_pos (by omega)]
    · rw [if_neg h, if_neg (by omega)]
theorem cv_low (x y : Cf) (i k : Nat) : cv (lowC x (i + 1)) y k = cv (lowC x i) y k + if i ≤ k then x i * y (k - i) else 0 := by
  have e : lowC x (i + 1) = ad (lowC x i) (sc (x i) (xsn i one)) := funext fun j => by
    show (if j < i + 1 then x j else 0) = (if j < i then x j else 0) + x i * xsn i one j
    rw [xsn_val]
    by_cases h : j < i
    · rw [if_pos h, if_pos (by omega), if_neg (by omega)]
      omega
    · rw [if_neg h]
      by_cases h2 : j = i
      · subst h2
        rw [if_pos (by omega), if_pos (Nat.le_refl _), Nat.sub_self]
        show x j = 0 + x j * 1
        omega
      · rw [if_neg (by omega), if_pos (by omega), show one (j - i) = 0 from if_neg (by omega)]
        omega
  rw [e, ad_cv, sc_cv, cv_xsn, one_cv]
  show cv (lowC x i) y k + x i * xsn i y k = _
  rw [xsn_val]
  split
  · rfl
  · omega
theorem cv_low0 (x y : Cf) (k : Nat) : cv (lowC x 0) y k = 0 := by
  have : lowC x 0 = nul := funext fun j => if_neg (Nat.not_lt_zero j)
  rw [this, nul_cv]
  rfl
theorem low_all {x : Cf} {n : Nat} (h : ∀ k, n ≤ k → x k = 0) : lowC x n = x := funext fun j => by
  show (if j < n then x j else 0) = x j
  split
  · rfl
  · exact (h j (by omega)).symm
end Xp
end
section
set_option Elab.async false
set_option linter.all false
set_option maxRecDepth 100000
set_option maxHeartbeats 4000000
namespace Xk
open PySem PySem.Spec PyProof.Rows L2 Xh LamX NdefX
/-! ### sums and products of numbers -/
theorem num_of {q n : Nat} (hp : Pm q) {ms : List Int} {f : Nat → Int} (l : ms.length = n) (c : ∀ j, ms.getD j 0 = (f j).fmod q) : Num q n ms := ⟨l, fm_rs hp c⟩
theorem cut_drop {ms : List Int} {n : Nat} (h : n ≤ ms.length) : cutV (ms.map V.int) (some (n : Int)) none = (ms.drop n).map V.int := by
  have i1 : HT.sIx (ms.map V.int).length 0 (some ((n : Nat) : Int)) = n := by
    show (if ((n : Nat) : Int) < 0 then (((n : Nat) : Int) + (((ms.map V.int).length : Nat) : Int)).toNat else min ((n : Nat) : Int).toNat (ms.map V.int).length) = n
    rw [if_neg (by omega), Int.toNat_natCast, List.length_map]
    omega
  unfold cutV
  rw [i1, show HT.sIx (ms.map V.int).length (ms.map V.int).length none = (ms.map V.int).length from rfl, List.map_drop, List.take_of_length_le (by rw [List.length_drop]; exact Nat.le_refl _)]
theorem cut_take {ms : List Int} {n : Nat} (h : n ≤ ms.length) : cutV (ms.map V.int) none (some (n : Int)) = (ms.take n).map V.int := by
  have i1 : HT.sIx (ms.map V.int).length (ms.map V.int).length (some ((n : Nat) : Int)) = n := by
    show (if ((n : Nat) : Int) < 0 then (((n : Nat) : Int) + (((ms.map V.int).length : Nat) : Int)).toNat else min ((n : Nat) : Int).toNat (ms.map V.int).length) = n
    rw [if_neg (by omega), Int.toNat_natCast, List.length_map]
    omega
  unfold cutV
  rw [i1, show HT.sIx (ms.map V.int).length 0 none = 0 from rfl, List.drop_zero, Nat.sub_zero, List.map_take]
section
variable {P : Program} {w : World} {K : PySem.W.Frag} {mg : Str → Option Value} {base : Heap}
theorem sc_RawField_plus : FnScope (["self", "one", "other", "rest", "by"] : List Str) ["self", "one", "other"] (defScope s_RawField_plus) := ⟨rfl, rfl, rfl, by decide +kernel, rfl, by decide +kernel, by decide +kernel⟩
theorem ok_RawField_plus {f CF CR : Addr} {fd : FuncData} (F : FunD K "plus" "RawField.plus" (defArgs s_RawField_plus) (defBody s_RawField_plus) (defScope s_RawField_plus) [] [] f fd) (KC : ClsF K CF CR) (T : Fre mg) : FnOk P w K mg base CX0 1 f fd ["self", "one", "other"] (spNum2 K CR gAdd) := by
  refine F.ok sc_RawField_plus (fun vs H Q E h => ?_) (fun cdv A outer s H vs Q E hr h => ?_)
  · obtain ⟨W, a, b, q, n, R, xs, ys, rfl, _⟩ := h
    rfl
  · obtain ⟨W, a, b, q, n, R, xs, ys, rfl, hR, hW, ha, hb, wx, wy, k⟩ := h
    obtain ⟨dx, rr, z, u, tt, ht, lt, lh, ts, hs, eW, _⟩ := hW.ex
    have hpm := hR.pm
    have lo := hpm.lo
    have nz : (q : Int) ≠ 0 := by omega
    have n12 := hR.n12
    have lx := wx.len
    have ly := wy.len
    refine ⟨_, PSs.nox (pss_one (ps_ret (pe_callTy call_tuple_of (by rfl) T.f_tuple (by decide +kernel) (pa_cons (pe_lc (own := [("rest", 3), ("by", 4)]) (g := (gTup K 2 (gCons (gName 3) (gCons (gName 4) gNil)))) (te := (tOp _ (tOp _ (tVar 3) (tVar 4)) (tFld K (tVar 0) "base"))) rfl sc_RawField_plus.nd (RZ.pi_zipA (by rfl) T.f_zip (pa_cons (pv 1) (pa_cons (pv 2) pa_nil))) (blkOk_by (own := [("rest", 3), ("by", 4)]) (N := ["self", "one", "other", "rest", "by"]) (sc := defScope s_RawField_plus) (by decide +kernel)) (fun _ _ _ _ _ => pg_tup rfl (pgs_cons (pg_name (i := 3) sc_RawField_plus.nd rfl (Or.inl rfl) (Or.inr rfl)) (pgs_cons (pg_name (i := 4) sc_RawField_plus.nd rfl (Or.inl rfl) (Or.inr rfl)) pgs_nil))) (fun _ _ _ _ _ => pts_nil) (fun _ _ _ _ _ => (pe_op op_modN (pe_op op_add (pv 3) (pv 4)) (pe_fld (pv 0) rfl)))) pa_nil)))) , ?_⟩
    refine ⟨_, rfl, _, rfl, a, b, _, _, rfl, .inr ⟨ha, hb, fun D hD => ?_⟩⟩
    refine lc_it (walk_zipT (xs := xs.map V.int) (ys := ys.map V.int) (by rw [List.length_map, List.length_map]; omega)) (fun i H1 => Same H H1 ∧ ∃ ms : List Int, H1 D = some (.lst (ms.map V.int)) ∧ ms.length = i ∧ ∀ j, j < i → ms.getD j 0 = (xs.getD j 0 + ys.getD j 0).fmod q)
      ⟨same_upd hD, [], upd_same, rfl, fun j hj => absurd hj (Nat.not_lt_zero j)⟩ (fun i H1 _ h => ⟨sameT h.1 ha, sameT h.1 hb⟩) ?_ ?_
    · rintro i x H1 H2 hi2 ⟨s3, ms, e3, l3, c3⟩ ⟨Tp, x1, y1, rfl, hTp, rfl, g1, g2⟩
      rw [List.length_map] at hi2
      have h1 := (map_at xs i (by omega)).symm.trans g1
      have h2 := (map_at ys i (by omega)).symm.trans g2
      cases h1
      cases h2
      have s4 := s3.trans (same_upd (o := .tup [.int (xs.getD i 0), .int (ys.getD i 0)]) hTp)
      refine ⟨Tp, _, rfl, .inl (.inl upd_same), rfl, _, _, rfl, _, _, rfl, rfl, rfl, _, rfl, _, rfl, _, _, rfl, rfl, _, rfl, W, CR, dx, _, _, rfl, s4 _ _ eW, KC.clR, KC.r1, rawFs_base _ _ _ _ _ _ _, _, _, rfl, rfl, nz, _, by rw [upd_ne (ne_of_none e3 hTp)]; exact e3, ?_, lcs hD s4, ms ++ [(xs.getD i 0 + ys.getD i 0).fmod q], ?_, ?_, fun j hj => ?_⟩
      · rw [List.length_map]
        exact small1000 (by omega)
      · rw [upd_same, List.map_append]
        rfl
      · rw [List.length_append, l3]
        rfl
      · rw [getD_app, l3]
        by_cases hj2 : j < i
        · rw [if_pos hj2]
          exact c3 j hj2
        · rw [if_neg hj2, show j = i by omega, if_pos rfl]
    · rintro H1 ⟨s3, ms, e3, l3, c3⟩
      rw [List.length_map] at l3 c3
      refine ⟨D, _, rfl, .inl ⟨SqL.of e3, fun v hv => ?_⟩⟩
      have cf : ∀ j, ms.getD j 0 = (xs.getD j 0 + ys.getD j 0).fmod q := fun j => by
        by_cases hj : j < xs.length
        · exact c3 j hj
        · rw [getD_over (by omega), getD_over (a := xs) (by omega), getD_over (a := ys) (by omega), Int.add_zero, Int.zero_fmod]
      refine k v ms _ (s3.trans (same_upd hv)) upd_same (num_of hpm (by omega) cf) (Xp.Cg.of fun j => ?_)
      show (xs.getD j 0 + ys.getD j 0) % (q : Int) = ms.getD j 0 % (q : Int)
      rw [cf, fm_em hpm.pos, Int.emod_emod]
theorem sc_RawField_minus : FnScope (["self", "one", "other", "rest", "by"] : List Str) ["self", "one", "other"] (defScope s_RawField_minus) := ⟨rfl, rfl, rfl, by decide +kernel, rfl, by decide +kernel, by decide +kernel⟩
theorem ok_RawField_minus {f CF CR : Addr} {fd : FuncData} (F : FunD K "minus" "RawField.minus" (defArgs s_RawField_minus) (defBody s_RawField_minus) (defScope s_RawField_minus) [] [] f fd) (KC : ClsF K CF CR) (T : Fre mg) : FnOk P w K mg base CX0 1 f fd ["self", "one", "other"] (spNum2 K CR gSub) := by
  refine F.ok sc_RawField_minus (fun vs H Q E h => ?_) (fun cdv A outer s H vs Q E hr h => ?_)
  · obtain ⟨W, a, b, q, n, R, xs, ys, rfl, _⟩ := h
    rfl
  · obtain ⟨W, a, b, q, n, R, xs, ys, rfl, hR, hW, ha, hb, wx, wy, k⟩ := h
    obtain ⟨dx, rr, z, u, tt, ht, lt, lh, ts, hs, eW, _⟩ := hW.ex
    have hpm := hR.pm
    have lo := hpm.lo
    have nz : (q : Int) ≠ 0 := by omega
    have n12 := hR.n12
    have lx := wx.len
    have ly := wy.len
    refine ⟨_, PSs.nox (pss_one (ps_ret (pe_callTy call_tuple_of (by rfl) T.f_tuple (by decide +kernel) (pa_cons (pe_lc (own := [("rest", 3), ("by", 4)]) (g := (gTup K 2 (gCons (gName 3) (gCons (gName 4) gNil)))) (te := (tOp _ (tOp _ (tVar 3) (tVar 4)) (tFld K (tVar 0) "base"))) rfl sc_RawField_minus.nd (RZ.pi_zipA (by rfl) T.f_zip (pa_cons (pv 1) (pa_cons (pv 2) pa_nil))) (blkOk_by (own := [("rest", 3), ("by", 4)]) (N := ["self", "one", "other", "rest", "by"]) (sc := defScope s_RawField_minus) (by decide +kernel)) (fun _ _ _ _ _ => pg_tup rfl (pgs_cons (pg_name (i := 3) sc_RawField_minus.nd rfl (Or.inl rfl) (Or.inr rfl)) (pgs_cons (pg_name (i := 4) sc_RawField_minus.nd rfl (Or.inl rfl) (Or.inr rfl)) pgs_nil))) (fun _ _ _ _ _ => pts_nil) (fun _ _ _ _ _ => (pe_op op_modN (pe_op op_sub (pv 3) (pv 4)) (pe_fld (pv 0) rfl)))) pa_nil)))) , ?_⟩
    refine ⟨_, rfl, _, rfl, a, b, _, _, rfl, .inr ⟨ha, hb, fun D hD => ?_⟩⟩
    refine lc_it (walk_zipT (xs := xs.map V.int) (ys := ys.map V.int) (by rw [List.length_map, List.length_map]; omega)) (fun i H1 => Same H H1 ∧ ∃ ms : List Int, H1 D = some (.lst (ms.map V.int)) ∧ ms.length = i ∧ ∀ j, j < i → ms.getD j 0 = (xs.getD j 0 - ys.getD j 0).fmod q)
      ⟨same_upd hD, [], upd_same, rfl, fun j hj => absurd hj (Nat.not_lt_zero j)⟩ (fun i H1 _ h => ⟨sameT h.1 ha, sameT h.1 hb⟩) ?_ ?_
    · rintro i x H1 H2 hi2 ⟨s3, ms, e3, l3, c3⟩ ⟨Tp, x1, y1, rfl, hTp, rfl, g1, g2⟩
      rw [List.length_map] at hi2
      have h1 := (map_at xs i (by omega)).symm.trans g1
      have h2 := (map_at ys i (by omega)).symm.trans g2
      cases h1
      cases h2
      have s4 := s3.trans (same_upd (o := .tup [.int (xs.getD i 0), .int (ys.getD i 0)]) hTp)
      refine ⟨Tp, _, rfl, .inl (.inl upd_same), rfl, _, _, rfl, _, _, rfl, rfl, rfl, _, rfl, _, rfl, _, _, rfl, rfl, _, rfl, W, CR, dx, _, _, rfl, s4 _ _ eW, KC.clR, KC.r1, rawFs_base _ _ _ _ _ _ _, _, _, rfl, rfl, nz, _, by rw [upd_ne (ne_of_none e3 hTp)]; exact e3, ?_, lcs hD s4, ms ++ [(xs.getD i 0 - ys.getD i 0).fmod q], ?_, ?_, fun j hj => ?_⟩
      · rw [List.length_map]
        exact small1000 (by omega)
      · rw [upd_same, List.map_append]
        rfl
      · rw [List.length_append, l3]
        rfl
      · rw [getD_app, l3]
        by_cases hj2 : j < i
        · rw [if_pos hj2]
          exact c3 j hj2
        · rw [if_neg hj2, show j = i by omega, if_pos rfl]
    · rintro H1 ⟨s3, ms, e3, l3, c3⟩
      rw [List.length_map] at l3 c3
      refine ⟨D, _, rfl, .inl ⟨SqL.of e3, fun v hv => ?_⟩⟩
      have cf : ∀ j, ms.getD j 0 = (xs.getD j 0 - ys.getD j 0).fmod q := fun j => by
        by_cases hj : j < xs.length
        · exact c3 j hj
        · rw [getD_over (by omega), getD_over (a := xs) (by omega), getD_over (a := ys) (by omega), Int.sub_zero, Int.zero_fmod]
      refine k v ms _ (s3.trans (same_upd hv)) upd_same (num_of hpm (by omega) cf) (Xp.Cg.of fun j => ?_)
      show (xs.getD j 0 + -1 * ys.getD j 0) % (q : Int) = ms.getD j 0 % (q : Int)
      rw [cf, fm_em hpm.pos, Int.emod_emod]
      congr 1
      omega
theorem sc_RawField_times : FnScope (["self", "one", "other", "sums", "low", "rest", "high", "by"] : List Str) ["self", "one", "other"] (defScope s_RawField_times) := ⟨rfl, rfl, rfl, by decide +kernel, rfl, by decide +kernel, by decide +kernel⟩
theorem ok_RawField_times {f CF CR : Addr} {fd : FuncData} (F : FunD K "times" "RawField.times" (defArgs s_RawField_times) (defBody s_RawField_times) (defScope s_RawField_times) [] [] f fd) (KC : ClsF K CF CR) (T : Fre mg) (o_weighedL : Own P w K mg base CX0 1 "weighed" ["weights", "rows", "start", "prime"] [] (spWghL K)) : FnOk P w K mg base CX0 2 f fd ["self", "one", "other"] (spNum2 K CR gMul) := by
  refine F.ok sc_RawField_times (fun vs H Q E h => ?_) (fun cdv A outer s H vs Q E hr h => ?_)
  · obtain ⟨W, a, b, q, n, R, xs, ys, rfl, _⟩ := h
    rfl
  · obtain ⟨W, a, b, q, n, R, xs, ys, rfl, hR, hW, ha, hb, wx, wy, k⟩ := h
    have hW0 := hW
    obtain ⟨dx, rr, z, u, tt, ht, lt, lh, ts, hs, eW, _, _, _, _, _, _, _, eht, hht, lhs, hrw⟩ := hW.ex
    have hpm := hR.pm
    have lo := hpm.lo
    have q97 := prime_le q hR.hp
    have nz : (q : Int) ≠ 0 := by omega
    have n12 := hR.n12
    have n1 := hR.n1
    have lx := wx.len
    have ly := wy.len
    refine ⟨_, PSs.nox (pss_cons (ps_set (i := 3) sc_RawField_times.nd rfl (Or.inl rfl) (pe_op op_rep (pe_lst (pa_cons pe_int pa_nil)) (pe_op op_sub (pe_op op_mul pe_int (pe_fld (pv 0) rfl)) pe_int)))
      (pss_cons (ps_for PassesOwn.never rfl (pi_enT (by rfl) T.f_enumerate (pa_cons (pv 1) pa_nil)) (pg_tup rfl (pgs_cons (pg_name (i := 4) sc_RawField_times.nd rfl (Or.inl rfl)) (pgs_cons (pg_name (i := 5) sc_RawField_times.nd rfl (Or.inl rfl)) pgs_nil))) (pss_one (ps_if (pt_cmpR op_ne (pv 5) pe_int (nomark _)) (pss_one (ps_for PassesOwn.never rfl (pi_enT (by rfl) T.f_enumerate (pa_cons (pv 2) pa_nil)) (pg_tup rfl (pgs_cons (pg_name (i := 6) sc_RawField_times.nd rfl (Or.inl rfl)) (pgs_cons (pg_name (i := 7) sc_RawField_times.nd rfl (Or.inl rfl)) pgs_nil))) (pss_one (ps_augS (pv 3) (pe_op op_add (pv 4) (pv 6)) get_list (pe_op op_mul (pv 5) (pv 7)) ip_add set_list)))) pss_nil)))
      (pss_one (ps_ret (pe_own o_weighedL (hr.mono (by decide)) rfl pass0 (pa_cons (pe_slice sl_list (pv 3) (po_some (pe_fld (pv 0) rfl)) po_none) (pa_cons (pe_fld (pv 0) rfl) (pa_cons (pe_slice sl_list (pv 3) po_none (po_some (pe_fld (pv 0) rfl))) (pa_cons (pe_fld (pv 0) rfl) pa_nil))))))))) , ?_⟩
    refine ⟨(by show 1 ≤ sizeLine; decide), fun l0 nl0 => ⟨_, rfl, W, CR, dx, _, _, rfl, same_upd nl0 _ _ eW, KC.clR, KC.r2, rawFs_width _ _ _ _ _ _ _, _, _, rfl, rfl, .inl ⟨by decide, by decide⟩, _, _, rfl, rfl, l0, _, _, rfl, rfl, upd_same, by omega, by omega, ?_, fun l nl => ?_⟩⟩
    · exact Nat.le_trans (show 1 * ((2 : Int) * (n : Int) - 1).toNat ≤ 100 by omega) (by decide)
    have e0 : ((2 : Int) * (n : Int) - 1).toNat = 2 * n - 1 := by omega
    rw [flat_zero, e0]
    have S1 := (same_upd (o := .lst [.int 0]) nl0).trans (same_upd (o := .lst ((List.replicate (2 * n - 1) (0 : Int)).map V.int)) nl)
    have nL : H l = none := (same_upd (o := .lst [.int 0]) nl0).free nl
    have S1a := sameT S1 ha
    have S1b := sameT S1 hb
    refine ⟨_, rfl, a, _, rfl, S1a, ?_⟩
    refine for_it (walk_enT (xs := xs.map V.int)) (fun i σ' H2 => ∃ (ms : List Int) (x4 x5 x6 x7 : Option V), σ' = [some (.ref W), some (.ref a), some (.ref b), some (.ref l), x4, x5, x6, x7] ∧ Same H H2 ∧ H2 l = some (.lst (ms.map V.int)) ∧ ms.length = 2 * n - 1 ∧ (∀ k, ms.getD k 0 = Xp.cv (Xp.lowC (co xs) i) (co ys) k) ∧ ∀ k, 0 ≤ ms.getD k 0 ∧ ms.getD k 0 ≤ 10000 * (i : Int))
      ⟨List.replicate (2 * n - 1) 0, none, none, none, none, rfl, S1, upd_same, List.length_replicate, fun k => by rw [getD_rep, Xp.cv_low0], fun k => by rw [getD_rep]; omega⟩ (fun i σ' H2 _ ⟨_, _, _, _, _, _, s2, _⟩ => sameT s2 ha) ?_ ?_
    · rintro i x σ' H2 H3 hi ⟨ms, x4, x5, x6, x7, rfl, s2, el, lm, cm, bm⟩ ⟨Tp, u1, v1, rfl, hTp, rfl, g1, g2⟩
      cases g1
      rw [List.length_map] at hi
      have g3 := (map_at xs i hi).symm.trans g2
      cases g3
      obtain ⟨w0, w1⟩ := wx.rs i
      have s3 := s2.trans (same_upd (o := .tup [.int (i : Nat), .int (xs.getD i 0)]) hTp)
      have el3 := same_upd (o := .tup [.int (i : Nat), .int (xs.getD i 0)]) hTp _ _ el
      refine ⟨Tp, _, rfl, .inl (.inl upd_same), rfl, _, _, rfl, _, _, rfl, rfl, ?_⟩
      refine ⟨_, rfl, rfl, _, rfl, ite2 (fun hz => ?_) (fun hz => ?_)⟩
      · refine ⟨_, rfl, b, _, rfl, sameT s3 hb, ?_⟩
        refine for_it (walk_enT (xs := ys.map V.int)) (fun j σ' H4 => ∃ (ms2 : List Int) (x6 x7 : Option V), σ' = [some (.ref W), some (.ref a), some (.ref b), some (.ref l), some (.int (i : Nat)), some (.int (xs.getD i 0)), x6, x7] ∧ Same H H4 ∧ H4 l = some (.lst (ms2.map V.int)) ∧ ms2.length = 2 * n - 1 ∧ (∀ k, ms2.getD k 0 = ms.getD k 0 + (if i ≤ k ∧ k < i + j then xs.getD i 0 * ys.getD (k - i) 0 else 0)) ∧ ∀ k, 0 ≤ ms2.getD k 0 ∧ ms2.getD k 0 ≤ 10000 * ((i : Int) + 1))
          ⟨ms, x6, x7, rfl, s3, el3, lm, fun k => by rw [if_neg (by omega), Int.add_zero], fun k => by have := bm k; omega⟩ (fun j σ' H4 _ ⟨_, _, _, _, s4, _⟩ => sameT s4 hb) ?_ ?_
        · rintro j x' σ' H4 H5 hj ⟨ms2, x6, x7, rfl, s4, el4, lm2, cm2, bm2⟩ ⟨Tq, u2, v2, rfl, hTq, rfl, e1, e2⟩
          cases e1
          rw [List.length_map] at hj
          have e3 := (map_at ys j hj).symm.trans e2
          cases e3
          obtain ⟨y0, y1⟩ := wy.rs j
          have el5 := same_upd (o := .tup [.int (j : Nat), .int (ys.getD j 0)]) hTq _ _ el4
          have ho : atI (ms2.map V.int) ((i : Int) + (j : Int)) = some (.int (ms2.getD (i + j) 0)) := by
            rw [show (i : Int) + (j : Int) = ((i + j : Nat) : Int) by omega]
            exact atI_nat (map_at ms2 (i + j) (by omega))
          have hx : ixN (ms2.map V.int).length ((i : Int) + (j : Int)) = some (i + j) := by
            rw [show (i : Int) + (j : Int) = ((i + j : Nat) : Int) by omega]
            exact ixN_nat (by rw [List.length_map]; omega)
          have p0 : 0 ≤ xs.getD i 0 * ys.getD j 0 := Int.mul_nonneg w0 y0
          have p1 : xs.getD i 0 * ys.getD j 0 ≤ 97 * 97 := Int.mul_le_mul (by omega) (by omega) y0 (by decide)
          refine ⟨Tq, _, rfl, .inl (.inl upd_same), rfl, _, _, rfl, _, _, rfl, rfl, ?_⟩
          refine ⟨_, rfl, _, rfl, _, rfl, _, _, rfl, rfl, l, _, _, _, rfl, rfl, SqL.of el5, ho, _, rfl, _, rfl, _, _, rfl, rfl, .inl ⟨by omega, by omega⟩, _, _, rfl, rfl, l, _, _, _, rfl, rfl, el5, hx, ?_⟩
          have old : ms2.getD (i + j) 0 = ms.getD (i + j) 0 := by rw [cm2, if_neg (by omega), Int.add_zero]
          refine ⟨ms2.set (i + j) (ms2.getD (i + j) 0 + xs.getD i 0 * ys.getD j 0), _, _, rfl, lcs nL (s4.trans (same_upd hTq)), by rw [upd_same, List.map_set], by rw [List.length_set]; exact lm2, fun k => ?_, fun k => ?_⟩
          · rw [getD_set (by omega)]
            by_cases hk : k = i + j
            · rw [if_pos hk, old, hk, if_pos (by omega), show i + j - i = j by omega]
            · rw [if_neg hk, cm2]
              by_cases h2 : i ≤ k ∧ k < i + j
              · rw [if_pos h2, if_pos (by omega)]
              · rw [if_neg h2, if_neg (by omega)]
          · rw [getD_set (by omega)]
            by_cases hk : k = i + j
            · rw [if_pos hk, old]
              have := bm (i + j)
              omega
            · rw [if_neg hk]
              exact bm2 k
        · rintro σ' H4 ⟨ms2, x6, x7, rfl, s4, el4, lm2, cm2, bm2⟩
          refine ⟨ms2, _, _, _, _, rfl, s4, el4, lm2, fun k => ?_, fun k => by have := bm2 k; omega⟩
          rw [cm2, cm, Xp.cv_low, List.length_map]
          by_cases h2 : i ≤ k
          · rw [if_pos h2]
            by_cases h3 : k < i + ys.length
            · rw [if_pos ⟨h2, h3⟩]
            · rw [if_neg (fun z => h3 z.2)]
              show _ = _ + xs.getD i 0 * ys.getD (k - i) 0
              rw [getD_over (a := ys) (by omega), Int.mul_zero]
          · rw [if_neg h2, if_neg (fun z => h2 z.1)]
      · have z : xs.getD i 0 = 0 := by
          rcases Decidable.em (V.int (xs.getD i 0) = V.int 0) with e | e
          · exact V.int.inj e
          · exact absurd (by rw [decide_eq_false e]; rfl) hz
        refine ⟨ms, _, _, _, _, rfl, s3, el3, lm, fun k => ?_, fun k => by have := bm k; omega⟩
        rw [cm, Xp.cv_low]
        split
        · show _ = _ + xs.getD i 0 * ys.getD (k - i) 0
          rw [z, Int.zero_mul, Int.add_zero]
        · rw [Int.add_zero]
    · rintro σ' H2 ⟨ms, x4, x5, x6, x7, rfl, s2, el, lm, cm, bm⟩
      rw [List.length_map, lx] at bm
      rw [List.length_map, Xp.low_all (fun k hk => getD_over (by omega))] at cm
      refine ⟨_, rfl, _, rfl, W, CR, dx, _, _, rfl, s2 _ _ eW, KC.clR, KC.r2, rawFs_width _ _ _ _ _ _ _, (n : Int), rfl, ?_⟩
      refine ⟨l, _, rfl, SqL.of el, fun l2 nl2 => ?_⟩
      rw [cut_drop (by omega)]
      have s3 := s2.trans (same_upd (o := .lst ((ms.drop n).map V.int)) nl2)
      have el3 := same_upd (o := .lst ((ms.drop n).map V.int)) nl2 _ _ el
      refine ⟨_, rfl, W, CR, dx, _, _, rfl, s3 _ _ eW, KC.clR, KC.r6, rawFs_high _ _ _ _ _ _ _, ?_⟩
      refine ⟨_, rfl, _, rfl, W, CR, dx, _, _, rfl, s3 _ _ eW, KC.clR, KC.r2, rawFs_width _ _ _ _ _ _ _, (n : Int), rfl, ?_⟩
      refine ⟨l, _, rfl, SqL.of el3, fun l3 nl3 => ?_⟩
      rw [cut_take (by omega)]
      have s4 := s3.trans (same_upd (o := .lst ((ms.take n).map V.int)) nl3)
      have el2 := same_upd (o := .lst ((ms.take n).map V.int)) nl3 _ _ (upd_same (H := H2) (a := l2) (o := .lst ((ms.drop n).map V.int)))
      refine ⟨_, rfl, W, CR, dx, _, _, rfl, s4 _ _ eW, KC.clR, KC.r1, rawFs_base _ _ _ _ _ _ _, ?_⟩
      refine ⟨l2, ht, l3, lh, ms.drop n, hs, ms.take n, n, (q : Int), rfl, el2, s4 _ _ eht, hht.keep (kpS s4), upd_same, by rw [List.length_take]; omega, by omega, by rw [List.length_drop]; omega, by omega, fun k => ?_, fun r hr' => ?_, hpm, fun v zs H5 s5 e5 lz rz ez => ?_⟩
      · rw [List.getD_eq_getElem?_getD, List.getElem?_drop, ← List.getD_eq_getElem?_getD]
        have := bm (n + k)
        omega
      · obtain ⟨i, hi⟩ := List.mem_iff_getElem?.mp hr'
        have := (hrw i r hi).num
        exact ⟨this.len, this.rs⟩
      · refine k v zs H5 (s4.trans s5) e5 ⟨lz, rz⟩ ?_
        have cg := Xp.tab_mul (f := co R) (fun i r hi => (hrw i r hi).cg) (by rw [List.length_drop]; omega) ez
        exact (Xp.Cg.of (eqv_fun fun k => (cm k).symm)).trans cg
end
end Xk
end
section
set_option Elab.async false
set_option linter.all false
set_option maxRecDepth 100000
set_option maxHeartbeats 4000000
namespace Xk
open PySem PySem.Spec PyProof.Rows L2 Xh LamX NdefX
/-! ### a field is made -/
theorem Tabs.updI {T : List (Addr × Str)} {H : Hp} {D C dx : Addr} {fs : List (Str × V)} {o : HO} (t : Tabs T H) (e : H D = some (.ins C dx fs)) : Tabs T (L2.upd H D o) := fun p hp => by
  obtain ⟨ps, h1, h2, h3⟩ := t p hp
  refine ⟨ps, ?_, h2, fun pos cv hc => ?_⟩
  · rw [upd_ne (fun z => by rw [z, e] at h1; cases h1)]
    exact h1
  · obtain ⟨c', e1, e2⟩ := h3 pos cv hc
    refine ⟨c', e1, ?_⟩
    rw [upd_ne (fun z => by
      rw [z, e] at e2
      unfold CodeO at e2
      cases e2)]
    exact e2
/-- all but what stands at x grows -/
structure GrX (T : List (Addr × Str)) (x : Addr) (H H' : Hp) : Prop where
  k : ∀ b o, b ≠ x → H b = some o → (∀ ps, o ≠ .tbl ps) → H' b = some o
  n : ∀ b, H' b = none → H b = none
  t : Tabs T H'
section
variable {T : List (Addr × Str)} {x : Addr} {H H1 H2 : Hp}
theorem GrX.refl (t : Tabs T H) : GrX T x H H := ⟨fun _ _ _ e _ => e, fun _ e => e, t⟩
theorem GrX.gr (a : GrX T x H H1) (g : Gr T H1 H2) : GrX T x H H2 := ⟨fun b o h e n => g.x _ _ (a.k b o h e n) n, fun b e => a.n b (g.n b e), g.t⟩
theorem GrX.same (a : GrX T x H H1) (s : Same H1 H2) : GrX T x H H2 := a.gr (.of a.t s)
theorem GrX.upd {C dx : Addr} {fs : List (Str × V)} {o : HO} (a : GrX T x H H1) (e : H1 x = some (.ins C dx fs)) : GrX T x H (L2.upd H1 x o) := ⟨fun b u h e1 n => by rw [upd_ne h]; exact a.k b u h e1 n, fun b h => by
  by_cases z : b = x
  · rw [z, upd_same] at h
    cases h
  · rw [upd_ne z] at h
    exact a.n b h, Tabs.updI a.t e⟩
theorem GrX.sq {K : PySem.W.Frag} {C dx r : Addr} {fs : List (Str × V)} {us : List V} (a : GrX T x H H1) (e : H x = some (.ins C dx fs)) (h : SqT K H r us) : SqT K H1 r us := by
  rcases h with (h | ⟨o, h⟩) | h
  · exact .inl (.inl (a.k _ _ (fun z => by rw [z, e] at h; cases h) h (fun _ z => by cases z)))
  · exact .inl (.inr ⟨o, a.k _ _ (fun z => by rw [z, e] at h; cases h) h (fun _ z => by cases z)⟩)
  · exact .inr h
end
def spInitR (K : PySem.W.Frag) (T : List (Addr × Str)) (CR : Addr) : Sp := fun vs H Q _ => ∃ (x dx rr : Addr) (q n : Nat) (R : List Int), vs = [.ref x, .ref rr, .int q] ∧ H x = some (.ins CR dx []) ∧ SqT K H rr (R.map V.int) ∧ RuleOk q n R ∧ Tabs T H ∧
  ∀ H', GrX T x H H' → RawAt K CR H' x q n R → Q .non H'
section
variable {P : Program} {w : World} {K : PySem.W.Frag} {mg : Str → Option Value} {base : Heap}
theorem sc_RawField___init : FnScope (["self", "rule", "prime", "power"] : List Str) ["self", "rule", "prime"] (defScope s_RawField___init) := ⟨rfl, rfl, rfl, by decide +kernel, rfl, by decide +kernel, by decide +kernel⟩
theorem ok_RawField___init {TT : List (Addr × Str)} {f CF CR : Addr} {fd : FuncData} (F : FunD K "__init__" "RawField.__init__" (defArgs s_RawField___init) (defBody s_RawField___init) (defScope s_RawField___init) [] [] f fd) (KC : ClsF K CF CR) (T : Fre mg) (o_RawField_plain : OwnM P w K mg base CX0 1 CR "plain" ["self", "rest"] [] (spPlain CR)) (o_RawField_x_power : OwnM P w K mg base CX0 6 CR "x_power" ["self", "power"] [] (spXPow K TT CR)) (o_turn_rows : Own P w K mg base CX0 9 "turn_rows" ["rule", "prime"] [] (spTRows K TT)) : FnOk P w K mg base CX0 10 f fd ["self", "rule", "prime"] (spInitR K TT CR) := by
  refine F.ok sc_RawField___init (fun vs H Q E h => ?_) (fun cdv A outer s H vs Q E hr h => ?_)
  · obtain ⟨x, dx, rr, q, n, R, rfl, _⟩ := h
    rfl
  · obtain ⟨x, dx, rr, q, n, R, rfl, hx, eR, hR, hT, k⟩ := h
    have hpm := hR.pm
    have n1 := hR.n1
    have n12 := hR.n12
    have lR := hR.len
    refine ⟨_, PSs.nox (pss_cons (ps_fld (pv 0) (pv 1) rfl)
      (pss_cons (ps_fld (pv 0) (pv 2) rfl)
      (pss_cons (ps_fld (pv 0) (pe_op op_sub (pe_callB call_len_seq (by rfl) T.f_len PySem.boot_len (pa_cons (pv 1) pa_nil)) pe_int) rfl)
      (pss_cons (ps_fld (pv 0) (pe_op op_repZ (pe_tup (pa_cons pe_int pa_nil)) (pe_fld (pv 0) rfl)) rfl)
      (pss_cons (ps_fld (pv 0) (pe_ownM o_RawField_plain (hr.mono (by decide)) pass0 (pv 0) (pa_cons pe_int pa_nil)) rfl)
      (pss_cons (ps_fld (pv 0) (pe_own o_turn_rows (hr.mono (by decide)) rfl pass0 (pa_cons (pv 1) (pa_cons (pv 2) pa_nil))) rfl)
      (pss_one (ps_fld (pv 0) (pe_lc (own := [("power", 3)]) (te := (tMeth _ "x_power" _ _ _ (tVar 0) (tCons (tVar 3) tNil))) rfl sc_RawField___init.nd (pi_range2 (by rfl) T.f_range (pa_cons (pe_fld (pv 0) rfl) (pa_cons (pe_op op_sub (pe_op op_mul pe_int (pe_fld (pv 0) rfl)) pe_int) pa_nil))) (blkOk_by (own := [("power", 3)]) (N := ["self", "rule", "prime", "power"]) (sc := defScope s_RawField___init) (by decide +kernel)) (fun _ _ _ _ _ => pg_name (i := 3) sc_RawField___init.nd rfl (Or.inl rfl) (Or.inr rfl)) (fun _ _ _ _ _ => pts_nil) (fun _ _ _ _ _ => (pe_ownM o_RawField_x_power (hr.mono (by decide)) pass0 (pv 0) (pa_cons (pv 3) pa_nil)))) rfl)))))))) , ?_⟩
    refine ⟨_, rfl, _, rfl, x, CR, dx, [], rfl, hx, KC.clR, KC.r0, (by decide), ?_⟩
    have G1 := (GrX.refl (x := x) hT).upd (o := .ins CR dx (putF "divisor" (.ref rr) [])) hx
    refine ⟨_, rfl, _, rfl, x, CR, dx, _, rfl, upd_same, KC.clR, KC.r1, (by show 1 < 1000; decide), ?_⟩
    have G2 := G1.upd (o := .ins CR dx (putF "base" (.int q) (putF "divisor" (.ref rr) []))) upd_same
    refine ⟨_, rfl, rr, _, rfl, .inr (G2.sq hx eR), _, _, rfl, rfl, _, rfl, x, CR, dx, _, rfl, upd_same, KC.clR, KC.r2, (by show 2 < 1000; decide), ?_⟩
    rw [List.length_map, show (fun i j => V.int (i - j)) ((R.length : Nat) : Int) 1 = V.int (n : Int) by show V.int (((R.length : Nat) : Int) - 1) = _; rw [show ((R.length : Nat) : Int) - 1 = (n : Int) by omega]]
    have G3 := G2.upd (o := .ins CR dx [("divisor", .ref rr), ("base", .int q), ("width", .int n)]) upd_same
    -- nought
    refine ⟨(by show 1 ≤ sizeLine; decide), fun a na => ⟨_, rfl, x, CR, dx, _, .int n, rfl, same_upd na _ _ upd_same, KC.clR, KC.r2, rfl, repB upd_same ?_ ?_ fun z H3 s3 ez => ?_⟩⟩
    · omega
    · omega
    rw [Int.toNat_natCast] at ez
    have G3' := (G3.same (same_upd (o := .tup [.int 0]) na)).same s3
    have ex3 := s3 _ _ (same_upd na _ _ (upd_same (o := .ins CR dx [("divisor", .ref rr), ("base", .int q), ("width", .int n)])))
    refine ⟨_, rfl, x, CR, dx, _, rfl, ex3, KC.clR, KC.r3, (by show 3 < 1000; decide), ?_⟩
    have G4 := G3'.upd (o := .ins CR dx [("divisor", .ref rr), ("base", .int q), ("width", .int n), ("nought", .ref z)]) ex3
    have nzx : z ≠ x := fun e => by rw [e, ex3] at ez; cases ez
    -- unit
    refine ⟨_, rfl, x, dx, _, rfl, upd_same, rfl, x, dx, _, n, 1, rfl, upd_same, rfl, n1, by omega, fun u H5 s5 eu => ?_⟩
    have ez5 := s5 _ _ ((upd_ne (H := H3) (o := .ins CR dx [("divisor", .ref rr), ("base", .int q), ("width", .int n), ("nought", .ref z)]) nzx).trans ez)
    have G5' := G4.same s5
    have ex5 := s5 _ _ (upd_same (a := x) (H := H3) (o := .ins CR dx [("divisor", .ref rr), ("base", .int q), ("width", .int n), ("nought", .ref z)]))
    refine ⟨_, rfl, x, CR, dx, _, rfl, ex5, KC.clR, KC.r4, (by show 4 < 1000; decide), ?_⟩
    have G5 := G5'.upd (o := .ins CR dx [("divisor", .ref rr), ("base", .int q), ("width", .int n), ("nought", .ref z), ("unit", .ref u)]) ex5
    have nux : u ≠ x := fun e => by rw [e, ex5] at eu; cases eu
    -- turn_table
    refine ⟨_, rfl, _, rfl, rr, R, q, rfl, G5.sq hx eR, by omega, by omega, hR.d, G5.t, fun tt lt ts H6 g6 nt et ht lts htr => ?_⟩
    have G6' := G5.gr g6
    have ex6 := g6.x _ _ (upd_same (a := x) (H := H5) (o := .ins CR dx [("divisor", .ref rr), ("base", .int q), ("width", .int n), ("nought", .ref z), ("unit", .ref u)])) (fun _ z => by cases z)
    have ez6 := g6.tup ((upd_ne (H := H5) (o := .ins CR dx [("divisor", .ref rr), ("base", .int q), ("width", .int n), ("nought", .ref z), ("unit", .ref u)]) nzx).trans ez5)
    have eu6 := g6.tup ((upd_ne (H := H5) (o := .ins CR dx [("divisor", .ref rr), ("base", .int q), ("width", .int n), ("nought", .ref z), ("unit", .ref u)]) nux).trans eu)
    refine ⟨_, rfl, x, CR, dx, _, rfl, ex6, KC.clR, KC.r5, (by show 5 < 1000; decide), ?_⟩
    have G7 := G6'.upd (o := .ins CR dx [("divisor", .ref rr), ("base", .int q), ("width", .int n), ("nought", .ref z), ("unit", .ref u), ("turn_table", .ref tt)]) ex6
    have ntx : tt ≠ x := fun e => by rw [e, ex6] at et; cases et
    rw [show putF ("turn_table" : Str) (V.ref tt) ([(("divisor" : Str), V.ref rr), ("base", V.int q), ("width", V.int n), ("nought", V.ref z), ("unit", V.ref u)] : List (Str × V)) = ([(("divisor" : Str), V.ref rr), ("base", V.int q), ("width", V.int n), ("nought", V.ref z), ("unit", V.ref u), ("turn_table", V.ref tt)] : List (Str × V)) from rfl]
    generalize hH7 : L2.upd H6 x (.ins CR dx [("divisor", .ref rr), ("base", .int q), ("width", .int n), ("nought", .ref z), ("unit", .ref u), ("turn_table", .ref tt)]) = H7 at *
    have ex7 : H7 x = some (.ins CR dx [("divisor", .ref rr), ("base", .int q), ("width", .int n), ("nought", .ref z), ("unit", .ref u), ("turn_table", .ref tt)]) := by rw [← hH7]; exact upd_same
    have k7 : ∀ a us, H6 a = some (.tup us) → H7 a = some (.tup us) := fun a us e => by
      rw [← hH7, upd_ne (fun z => by rw [z, ex6] at e; cases e)]
      exact e
    have et7 : H7 tt = some (.lst (lt.map V.ref)) := by rw [← hH7, upd_ne ntx]; exact et
    have ht7 := ht.keep k7
    have ez7 := k7 _ _ ez6
    have eu7 := k7 _ _ eu6
    have eR7 := G7.sq hx eR
    refine ⟨_, rfl, x, CR, dx, _, .int n, rfl, ex7, KC.clR, KC.r2, rfl, _, rfl, x, CR, dx, _, .int n, rfl, ex7, KC.clR, KC.r2, rfl, _, _, rfl, rfl, .inl ⟨by decide, by decide⟩, _, _, rfl, rfl, (n : Int), _, rfl, ⟨by omega, by omega, by omega, by omega⟩, fun D hD => ?_⟩
    rw [show ((2 : Int) * (n : Int) - 1 - (n : Int)).toNat = n - 1 by omega]
    refine lc_range (lo := (n : Int)) (n := n - 1) (fun i H' => Gr TT H7 H' ∧ ∃ (la : List Addr) (rs : List (List Int)), H' D = some (.lst (la.map V.ref)) ∧ Rws H' la rs ∧ rs.length = i ∧ ∀ j r, rs[j]? = some r → HRow q n R j r)
      ⟨(Gr.refl G7.t).same (same_upd hD), [], [], upd_same, trivial, rfl, fun j r h => by cases h⟩ ?_ ?_
    · rintro i H8 hi ⟨g8, la, rs, e8, h8, l8, r8⟩
      refine ⟨rfl, _, rfl, x, dx, _, rfl, g8.x _ _ ex7 (fun _ z => by cases z), rfl, _, rfl, x, dx, rr, _, q, n, n + i, R, ?_, g8.x _ _ ex7 (fun _ z => by cases z), rfl, rfl, rfl, sqG g8 eR7, hR, by omega, g8.t, fun v r H9 g9 ev nr cr => ?_⟩
      · show [V.ref x, V.int ((n : Int) + (i : Int))] = _
        rw [show (n : Int) + (i : Int) = ((n + i : Nat) : Int) by omega]
      have e9 := g9.x _ _ e8 (fun _ z => by cases z)
      have lla := h8.len
      have G9 := g8.trans g9
      refine ⟨_, e9, ?_, grLst G9 hD e9, la ++ [v], rs ++ [r], by rw [upd_same, List.map_append]; rfl, ?_, by rw [List.length_append, l8]; rfl, fun j r' hj => ?_⟩
      · rw [List.length_map]
        exact small1000 (by omega)
      · exact (Rws.snoc ev (h8.keep (kpG g9))).lst e9
      · rcases Nat.lt_or_ge j rs.length with h | h
        · rw [List.getElem?_append_left h] at hj
          exact r8 j r' hj
        · rw [List.getElem?_append_right h] at hj
          have j0 : j - rs.length = 0 := by
            rcases Nat.eq_zero_or_pos (j - rs.length) with z | z
            · exact z
            · rw [List.getElem?_eq_none (by rw [List.length_singleton]; exact z)] at hj
              cases hj
          rw [j0] at hj
          cases hj
          rw [show j = i by omega]
          exact ⟨nr, cr⟩
    · rintro H8 ⟨g8, la, rs, e8, h8, l8, r8⟩
      have ex8 := g8.x _ _ ex7 (fun _ z => by cases z)
      have G8 := G7.gr g8
      refine ⟨_, rfl, x, CR, dx, _, rfl, ex8, KC.clR, KC.r6, (by show 6 < 1000; decide), ?_⟩
      have kx : ∀ a o, (∀ C dx fs, o ≠ .ins C dx fs) → H8 a = some o → L2.upd H8 x (.ins CR dx (rawFs rr z u tt D q n)) a = some o := fun a o ho e => by
        rw [upd_ne (fun zz => by rw [zz, ex8] at e; cases e; exact ho _ _ _ rfl)]
        exact e
      refine k _ (G8.upd ex8) ⟨dx, rr, z, u, tt, D, lt, la, ts, rs, upd_same, (G8.upd ex8).sq hx eR, kx _ _ (fun _ _ _ z => by cases z) (g8.tup ez7), kx _ _ (fun _ _ _ z => by cases z) (g8.tup eu7), kx _ _ (fun _ _ _ z => by cases z) (g8.x _ _ et7 (fun _ z => by cases z)), (ht7.keep (kpG g8)).keep (fun a us e => kx _ _ (fun _ _ _ z => by cases z) e), by omega, htr, kx _ _ (fun _ _ _ z => by cases z) e8, h8.keep (fun a us e => kx _ _ (fun _ _ _ z => by cases z) e), l8, r8⟩
end
end Xk
end
section
set_option Elab.async false
set_option linter.all false
set_option maxRecDepth 100000
set_option maxHeartbeats 4000000
namespace Xk
open PySem PySem.Spec PyProof.Rows L2 Xh LamX NdefX
/-! ### fields -/
theorem psNoF {X : Cx} {st : Stmt} : PS X st (fun _ _ _ => False) := ⟨fun _ _ _ _ _ _ h => h.elim⟩
/-- a field stands at F0 -/
structure FldAt (K : PySem.W.Frag) (CF CR : Addr) (H : Hp) (F0 : Addr) (q n : Nat) (R : List Int) : Prop where
  ex : ∃ (dx rr W : Addr), H F0 = some (.ins CF dx (fldFs rr W q ((q : Int) ^ n))) ∧ SqT K H rr (R.map V.int) ∧ RawAt K CR H W q n R
theorem FldAt.stay {K : PySem.W.Frag} {CF CR : Addr} {H H' : Hp} {F0 : Addr} {q n : Nat} {R : List Int} (x : FldAt K CF CR H F0 q n R) (s : Stays H H') : FldAt K CF CR H' F0 q n R := by
  obtain ⟨dx, rr, W, e1, e2, e3⟩ := x.ex
  exact ⟨dx, rr, W, s.i _ _ _ _ e1, s.sq e2, e3.stay s⟩
theorem fldFs_rule (rr W : Addr) (q : Nat) (s : Int) : (fldFs rr W q s).lookup ("_rule" : Str) = some (.ref rr) := rfl
theorem fldFs_prime (rr W : Addr) (q : Nat) (s : Int) : (fldFs rr W q s).lookup ("_prime" : Str) = some (.int q) := rfl
theorem fldFs_raw (rr W : Addr) (q : Nat) (s : Int) : (fldFs rr W q s).lookup ("raw" : Str) = some (.ref W) := rfl
theorem fldFs_size (rr W : Addr) (q : Nat) (s : Int) : (fldFs rr W q s).lookup ("_size" : Str) = some (.int s) := rfl
/-- a new thing that another one's making keeps -/
theorem GrX.new {T : List (Addr × Str)} {x dx C : Addr} {H H' : Hp} (hx : H x = none) (hd : H dx = none) (g : GrX T x (L2.upd (L2.upd H dx (.own x)) x (.ins C dx [])) H') : Gr T H H' := ⟨fun b o e n => g.k b o (fun z => by rw [z, hx] at e; cases e) (by rw [upd_ne (ne_of_none e hx), upd_ne (ne_of_none e hd)]; exact e) n, fun b e => by
  have z := g.n b e
  by_cases h1 : b = x
  · rw [h1]; exact hx
  · rw [upd_ne h1] at z
    by_cases h2 : b = dx
    · rw [h2]; exact hd
    · rw [upd_ne h2] at z
      exact z, g.t⟩
theorem new_tabs {T : List (Addr × Str)} {x dx C : Addr} {H : Hp} (t : Tabs T H) (hx : H x = none) (hd : H dx = none) (ne : dx ≠ x) : Tabs T (L2.upd (L2.upd H dx (.own x)) x (.ins C dx [])) := by
  have s1 := same_upd (o := .own x) hd
  exact t.ext (s1.trans (same_upd (by rw [upd_ne (fun z => ne z.symm)]; exact hx)))
theorem new_same {x dx C : Addr} {H : Hp} (hx : H x = none) (hd : H dx = none) (ne : dx ≠ x) : Same H (L2.upd (L2.upd H dx (.own x)) x (.ins C dx [])) := (same_upd (o := .own x) hd).trans (same_upd (by rw [upd_ne (fun z => ne z.symm)]; exact hx))
theorem RawAt.ins {K : PySem.W.Frag} {CR : Addr} {H : Hp} {W x C dx : Addr} {fs : List (Str × V)} {o : HO} {q n : Nat} {R : List Int} (h : RawAt K CR H W q n R) (e : H x = some (.ins C dx fs)) (l : fs.length ≠ 7) : RawAt K CR (L2.upd H x o) W q n R := by
  obtain ⟨dw, rr, z, u, tt, ht, lt, lh, ts, hs, e1, e2, e3, e4, e5, e6, e7, e8, e9, e10, e11, e12⟩ := h.ex
  have kt : ∀ a us, H a = some (.tup us) → L2.upd H x o a = some (.tup us) := fun a us ea => by
    rw [upd_ne (fun zz => by rw [zz, e] at ea; cases ea)]
    exact ea
  have kl : ∀ a us, H a = some (.lst us) → L2.upd H x o a = some (.lst us) := fun a us ea => by
    rw [upd_ne (fun zz => by rw [zz, e] at ea; cases ea)]
    exact ea
  have wx : W ≠ x := fun zz => by
    rw [zz, e] at e1
    cases e1
    exact l rfl
  refine ⟨dw, rr, z, u, tt, ht, lt, lh, ts, hs, by rw [upd_ne wx]; exact e1, ?_, kt _ _ e3, kt _ _ e4, kl _ _ e5, e6.keep kt, e7, e8, kl _ _ e9, e10.keep kt, e11, e12⟩
  rcases e2 with (h | ⟨o', h⟩) | h
  · exact .inl (.inl (kt _ _ h))
  · exact .inl (.inr ⟨o', by rw [upd_ne (fun zz => by rw [zz, e] at h; cases h)]; exact h⟩)
  · exact .inr h
theorem oneT_len {n : Nat} (h : 1 ≤ n) : (oneT n).length = n := by
  show (List.replicate (n - 1) (0 : Int)).length + 1 = n
  rw [List.length_replicate]
  omega
def spRefRule (K : PySem.W.Frag) (T : List (Addr × Str)) : Sp := fun vs H Q _ => ∃ (rr : Addr) (q n : Nat) (R : List Int), vs = [.ref rr, .int q] ∧ SqT K H rr (R.map V.int) ∧ (3 ≤ R.length → H rr = some (.tup (R.map V.int))) ∧ RuleOk q n R ∧ Tabs T H ∧ ∀ H', Gr T H H' → Q .non H'
def spInitF (K : PySem.W.Frag) (T : List (Addr × Str)) (CF CR : Addr) : Sp := fun vs H Q _ => ∃ (x dx rr : Addr) (q n : Nat) (R : List Int), vs = [.ref x, .ref rr, .int q] ∧ H x = some (.ins CF dx []) ∧ SqT K H rr (R.map V.int) ∧ (3 ≤ R.length → H rr = some (.tup (R.map V.int))) ∧ RuleOk q n R ∧ Tabs T H ∧
  ∀ H', GrX T x H H' → FldAt K CF CR H' x q n R → Q .non H'
def spRefNs (K : PySem.W.Frag) (CR C : Addr) : Sp := fun vs H Q E => ∃ (W c : Addr) (as : List Addr) (xss : List (List Int)) (q n : Nat) (R : List Int), vs = [.ref W, .ref c] ∧ RuleOk q n R ∧ RawAt K CR H W q n R ∧ SqT K H c (as.map V.ref) ∧ as.length = xss.length ∧ (∀ (i : Nat) (a : Addr) (xs : List Int), as[i]? = some a → xss[i]? = some xs → SqT K H a (xs.map V.int) ∧ xs.length ≤ 100) ∧
  ((∀ xs ∈ xss, Num q n xs) → ∀ H', Same H H' → Q .non H') ∧ ((¬ ∀ xs ∈ xss, Num q n xs) → Ex H E C "BadNumber")
def spFld2 (K : PySem.W.Frag) (CF CR C : Addr) (G : Nat → Nat → List Int → List Int → List Int → Xp.Cf) : Sp := fun vs H Q E => ∃ (F0 a b : Addr) (q n : Nat) (R xs ys : List Int), vs = [.ref F0, .ref a, .ref b] ∧ RuleOk q n R ∧ FldAt K CF CR H F0 q n R ∧ SqT K H a (xs.map V.int) ∧ SqT K H b (ys.map V.int) ∧ xs.length ≤ 100 ∧ ys.length ≤ 100 ∧
  (Num q n xs → Num q n ys → ∀ (v : Addr) (zs : List Int) (H' : Hp), Same H H' → H' v = some (.tup (zs.map V.int)) → Num q n zs → Xp.Cg q (co R) (G q n R xs ys) (co zs) → Q (.ref v) H') ∧ (¬ (Num q n xs ∧ Num q n ys) → Ex H E C "BadNumber")
section
variable {P : Program} {w : World} {K : PySem.W.Frag} {mg : Str → Option Value} {base : Heap}
theorem sc_refuse_numbers : FnScope (["raw", "told", "number"] : List Str) ["raw", "told"] (defScope s_refuse_numbers) := ⟨rfl, rfl, rfl, by decide +kernel, rfl, by decide +kernel, by decide +kernel⟩
theorem ok_refuse_numbers {f fI CF CR C : Addr} {fd : FuncData} (F : FunD K "refuse_numbers" "refuse_numbers" (defArgs s_refuse_numbers) (defBody s_refuse_numbers) (defScope s_refuse_numbers) [] [] f fd) (o_RawField_has : OwnM P w K mg base CX0 3 CR "has" ["self", "told"] [] (spHas K CR)) (xP : RX K mg C fI "BadNumber") (o_init : FnR P w K mg base (L2.CX P w) 1 fI (spRI1 K)) : FnOk P w K mg base (L2.CX P w) 4 f fd ["raw", "told"] (spRefNs K CR C) := by
  refine F.ok sc_refuse_numbers (fun vs H Q E h => ?_) (fun cdv A outer s H vs Q E hr h => ?_)
  · obtain ⟨W, c, as, xss, q, n, R, rfl, _⟩ := h
    rfl
  · obtain ⟨W, c, as, xss, q, n, R, rfl, hR, hW, hS, hl, hx, h1, h2⟩ := h
    refine ⟨_, (pss_one (ps_for (passes_of rfl) rfl (pi_tup (pv 1)) (pg_name (i := 2) sc_refuse_numbers.nd rfl (Or.inl rfl)) (pss_one (ps_if (pt_not (pt_val (pe_ownM o_RawField_has (hr.mono (by decide)) pass0 (pv 0) (pa_cons (pv 2) pa_nil)))) (pss_one (ps_raise rfl (takes_of rfl rfl rfl rfl) (pmk_rung xP o_init (hr.mono (by decide)) rfl))) pss_nil)))) , ?_⟩
    refine ⟨_, rfl, c, rfl, ⟨_, hS⟩, ?_⟩
    have q0 : 0 < q := by
      have := hR.q0
      omega
    refine for_it (walk_tup (xs := as.map V.ref)) (fun i σ' H2 => ∃ x : Option V, σ' = [some (.ref W), some (.ref c), x] ∧ Same H H2 ∧ ∀ j xs, j < i → xss[j]? = some xs → Num q n xs) ⟨none, rfl, fun _ _ h => h, fun j xs hj => absurd hj (Nat.not_lt_zero j)⟩ (fun i σ' H2 _ ⟨_, _, s2, _⟩ => sameT s2 hS) ?_ ?_
    · rintro i x σ' H2 H3 hi ⟨x0, rfl, s2, no⟩ ⟨rfl, hx2⟩
      rw [List.length_map] at hi
      rw [List.getElem?_map] at hx2
      obtain ⟨a, ha, rfl⟩ := Option.map_eq_some_iff.mp hx2
      have hxi : xss[i]? = some (xss[i]'(by omega)) := List.getElem?_eq_getElem (by omega)
      generalize xss[i]'(by omega) = xs at hxi
      obtain ⟨ea, la⟩ := hx i a xs ha hxi
      have W2 := hW.stay (.same s2)
      obtain ⟨dx, rr, z, u, tt, ht, lt, lh, ts, hs, eW, _⟩ := W2.ex
      refine ⟨_, rfl, W, dx, _, rfl, eW, rfl, _, rfl, W, a, q, n, R, xs, rfl, W2, sameT s2 ea, la, fun H4 s4 => ⟨_, rfl, ?_⟩⟩
      by_cases hb : numB q n xs = true
      · rw [hb]
        refine iteF ⟨_, rfl, s2.trans s4, fun j ys hj hy => ?_⟩
        rcases Nat.lt_or_ge j i with g | g
        · exact no j ys g hy
        · rw [show j = i by omega, hxi] at hy
          cases hy
          exact (numB_iff q0).mp hb
      · rw [Bool.eq_false_iff.mpr hb]
        refine iteT fun d H' a1 b1 c1 => h2 (fun z => hb ((numB_iff q0).mpr (z xs (List.mem_of_getElem? hxi)))) d H' ((s2.trans s4).trans a1) b1 ((s2.trans s4).free c1)
    · rintro σ' H2 ⟨x, rfl, s2, no⟩
      rw [List.length_map] at no
      refine h1 (fun xs hxs => ?_) _ s2
      obtain ⟨j, hj⟩ := List.mem_iff_getElem?.mp hxs
      exact no j xs (by have := (List.getElem?_eq_some_iff.mp hj).1; omega) hj
theorem sc_refuse_rule : FnScope (["rule", "prime"] : List Str) ["rule", "prime"] (defScope s_refuse_rule) := ⟨rfl, rfl, rfl, by decide +kernel, rfl, by decide +kernel, by decide +kernel⟩
theorem ok_refuse_rule {TT : List (Addr × Str)} {f : Addr} {fd : FuncData} (F : FunD K "refuse_rule" "refuse_rule" (defArgs s_refuse_rule) (defBody s_refuse_rule) (defScope s_refuse_rule) [] [] f fd) (T : Fre mg) (mD : ∃ t, mg "MOST_DEGREE" = some (.int 12 t)) (o_refuse_polys : Own P w K mg base (L2.CX P w) 4 "refuse_polys" ["polys", "prime"] [] (spRefPs K)) (o_raw_whole : Own P w K mg base CX0 11 "raw_whole" ["poly", "prime"] [] (spWhole K TT)) : FnOk P w K mg base (L2.CX P w) 12 f fd ["rule", "prime"] (spRefRule K TT) := by
  obtain ⟨tD, mD⟩ := mD
  refine F.ok sc_refuse_rule (fun vs H Q E h => ?_) (fun cdv A outer s H vs Q E hr h => ?_)
  · obtain ⟨rr, q, n, R, rfl, _⟩ := h
    rfl
  · obtain ⟨rr, q, n, R, rfl, eR, e3, hR, hT, k⟩ := h
    have lR := hR.len
    have n1 := hR.n1
    have n12 := hR.n12
    refine ⟨_, (pss_cons (ps_expr (pe_own o_refuse_polys (hr.mono (by decide)) rfl (passes_call (takes_of rfl rfl rfl rfl) (fun _ _ _ _ h => h)) (pa_cons (pe_tup (pa_cons (pv 0) pa_nil)) (pa_cons (pv 1) pa_nil))))
      (pss_cons (ps_if (PW.pt (pw_or (pt_not (pt_chain op_le op_le pe_int (pe_callB call_len_seq (by rfl) T.f_len PySem.boot_len (pa_cons (pv 0) pa_nil)) (pe_op op_add (pe_glob (v := .int 12) rfl mD ⟨_, rfl⟩) pe_int))) (pw_or1 (pt_cmpR op_ne (pe_ix ix_tup (pv 0) (pe_un un_neg pe_int) (fun _ _ => rfl)) pe_int (nomark _))))) (pss_one psNoF) pss_nil)
      (pss_one (ps_if (pt_not (pt_val (pe_own o_raw_whole (hr.mono (by decide)) rfl pass0 (pa_cons (pv 0) (pa_cons (pv 1) pa_nil))))) (pss_one psNoF) pss_nil)))) , ?_⟩
    refine ⟨_, rfl, (by show 1 ≤ sizeLine; decide), fun c hc => ⟨_, rfl, c, _, q, rfl, hR.hp, SqT.of upd_same, fun r hr => ?_, fun H1 s1 => ?_⟩⟩
    · rw [List.mem_singleton.mp hr]
      exact ⟨rr, R, rfl, (⟨sameT (same_upd hc) eR, hR.po.len, hR.po.rs, hR.po.tr⟩ : Pol K _ rr q R)⟩
    have s2 := (same_upd hc).trans s1
    have eR1 := sameT s2 eR
    refine ⟨_, rfl, rr, _, rfl, .inr eR1, _, _, rfl, rfl, _, rfl, ?_⟩
    rw [List.length_map, lR, decide_eq_true (show (2 : Int) ≤ ((n + 1 : Nat) : Int) by omega)]
    refine iteT ⟨_, _, rfl, rfl, _, _, rfl, rfl, _, rfl, ?_⟩
    rw [decide_eq_true (show ((n + 1 : Nat) : Int) ≤ 12 + 1 by omega)]
    refine iteF ⟨_, rfl, _, rfl, rr, _, _, .int 1, rfl, rfl, eR1, ?_, rfl, _, rfl, iteF ?_⟩
    · rw [atI_last2 (by omega), lR, Nat.add_sub_cancel, hR.last]
    refine ⟨_, rfl, _, rfl, rr, R, q, rfl, eR1, (fun z => s2 _ _ (e3 z)), hR.hp, hR.po, hT.ext s2, fun b H2 g2 ib => ⟨b, rfl, ?_⟩⟩
    rw [ib.mpr hR.wh]
    exact iteF (k _ ((Gr.of hT s2).trans g2))
theorem sc_Field___init : FnScope (["self", "rule", "prime", "_"] : List Str) ["self", "rule", "prime"] (defScope s_Field___init) := ⟨rfl, rfl, rfl, by decide +kernel, rfl, by decide +kernel, by decide +kernel⟩
theorem ok_Field___init {TT : List (Addr × Str)} {f CF CR : Addr} {fd : FuncData} {kws : List (Str × V)} (F : FunD K "__init__" "Field.__init__" (defArgs s_Field___init) (defBody s_Field___init) (defScope s_Field___init) [] kws f fd) (KC : ClsF K CF CR) (o_refuse_rule : Own P w K mg base (L2.CX P w) 12 "refuse_rule" ["rule", "prime"] [] (spRefRule K TT)) (d_RawField : OwnC P w K mg base CX0 10 "RawField" CR ["self", "rule", "prime"] [] (spInitR K TT CR)) : FnOk P w K mg base (L2.CX P w) 13 f fd ["self", "rule", "prime"] (spInitF K TT CF CR) := by
  refine F.ok sc_Field___init (fun vs H Q E h => ?_) (fun cdv A outer s H vs Q E hr h => ?_)
  · obtain ⟨x, dx, rr, q, n, R, rfl, _⟩ := h
    rfl
  · obtain ⟨x, dx, rr, q, n, R, rfl, hx, eR, e3, hR, hT, k⟩ := h
    refine ⟨_, (pss_cons (ps_expr (pe_own o_refuse_rule (hr.mono (by decide)) rfl (passes_call (takes_of rfl rfl rfl rfl) (fun _ _ _ _ h => h)) (pa_cons (pv 1) (pa_cons (pv 2) pa_nil))))
      (pss_cons (ps_fld (pv 0) (pv 1) rfl)
      (pss_cons (ps_fld (pv 0) (pv 2) rfl)
      (pss_cons (ps_fld (pv 0) (pe_ownC d_RawField (hr.mono (by decide)) rfl pass0 (pa_cons (pv 1) (pa_cons (pv 2) pa_nil))) rfl)
      (pss_cons (ps_fld (pv 0) pe_int rfl)
      (pss_one (ps_for (passes_of rfl) rfl (pi_tup (pe_fld (pe_fld (pv 0) rfl) rfl)) (pg_name (i := 3) sc_Field___init.nd rfl (Or.inl rfl)) (pss_one (ps_fldaug (pv 0) (pv 2) iop_mul))))))))) , ?_⟩
    refine ⟨_, rfl, _, rfl, rr, q, n, R, rfl, eR, e3, hR, hT, fun H1 g1 => ?_⟩
    have G1 := (GrX.refl (x := x) hT).gr g1
    have hx1 := g1.x _ _ hx (fun _ z => by cases z)
    refine ⟨_, rfl, _, rfl, x, CF, dx, [], rfl, hx1, KC.clF, KC.f0, (by decide), ?_⟩
    have G2 := G1.upd (o := .ins CF dx (putF "_rule" (.ref rr) [])) hx1
    refine ⟨_, rfl, _, rfl, x, CF, dx, _, rfl, upd_same, KC.clF, KC.f1, (by show 1 < 1000; decide), ?_⟩
    have G3 := G2.upd (o := .ins CF dx [("_rule", .ref rr), ("_prime", .int q)]) upd_same
    refine ⟨_, rfl, _, rfl, fun W dw nW ndw newW => ⟨W, dw, rr, q, n, R, rfl, upd_same, sameT (new_same nW ndw newW) (G3.sq hx eR), hR, new_tabs G3.t nW ndw newW, fun H4 g4 hW => ⟨rfl, ?_⟩⟩⟩
    have g4' := GrX.new nW ndw g4
    have G4 := G3.gr g4'
    have ex4 := g4'.x _ _ (upd_same (a := x) (o := .ins CF dx [("_rule", .ref rr), ("_prime", .int q)])) (fun _ z => by cases z)
    refine ⟨_, rfl, x, CF, dx, _, rfl, ex4, KC.clF, KC.f2, (by show 2 < 1000; decide), ?_⟩
    have G5 := G4.upd (o := .ins CF dx [("_rule", .ref rr), ("_prime", .int q), ("raw", .ref W)]) ex4
    refine ⟨_, rfl, x, CF, dx, _, rfl, upd_same, KC.clF, KC.f3, (by show 3 < 1000; decide), ?_⟩
    have G6 := G5.upd (o := .ins CF dx (fldFs rr W q 1)) upd_same
    have W5 := hW.ins (o := .ins CF dx [("_rule", .ref rr), ("_prime", .int q), ("raw", .ref W)]) ex4 (by show (2 : Nat) ≠ 7; decide)
    have W6 := W5.ins (x := x) (o := .ins CF dx (fldFs rr W q 1)) upd_same (by show (3 : Nat) ≠ 7; decide)
    have ex6 : L2.upd (L2.upd H4 x (.ins CF dx [("_rule", .ref rr), ("_prime", .int q), ("raw", .ref W)])) x (.ins CF dx (fldFs rr W q 1)) x = some (.ins CF dx (fldFs rr W q ((q : Int) ^ 0))) := by
      rw [upd_same, Int.pow_zero]
    have lo := hR.pm.lo
    have hi := hR.pm.hi
    have n1 := hR.n1
    obtain ⟨dw2, rr2, z2, u2, tt2, ht2, lt2, lh2, ts2, hs2, eW, _, _, eu, _⟩ := id W6.ex
    refine ⟨_, rfl, x, CF, dx, _, .ref W, rfl, ex6, KC.clF, KC.f2, rfl, W, CR, dw2, _, .ref u2, rfl, eW, KC.clR, KC.r4, rfl, u2, rfl, ⟨_, SqT.of eu⟩, ?_⟩
    refine for_it (walk_tup (xs := (oneT n).map V.int)) (fun i σ' H' => ∃ x3 : Option V, σ' = [some (.ref x), some (.ref rr), some (.int q), x3] ∧ GrX TT x H H' ∧ H' x = some (.ins CF dx (fldFs rr W q ((q : Int) ^ i))) ∧ RawAt K CR H' W q n R ∧ H' u2 = some (.tup ((oneT n).map V.int))) ⟨none, rfl, G6, ex6, W6, eu⟩ (fun i σ' H' _ ⟨_, _, _, _, _, e⟩ => SqT.of e) ?_ ?_
    · rintro i y σ' H8 H9 hi2 ⟨x3, rfl, G8, ex8, W8, eu8⟩ ⟨rfl, hy⟩
      refine ⟨_, rfl, x, CF, dx, _, _, rfl, ex8, KC.clF, KC.f3, rfl, _, rfl, _, _, rfl, rfl, .inr ⟨by omega, by omega⟩, dx, _, ex8, (by show 4 < 1000; decide), ?_⟩
      refine ⟨_, rfl, G8.upd ex8, ?_, W8.ins ex8 (by show (4 : Nat) ≠ 7; decide), ?_⟩
      · rw [upd_same, Int.pow_succ]
        rfl
      · rw [upd_ne (fun zz => by rw [zz, ex8] at eu8; cases eu8)]
        exact eu8
    · rintro σ' H8 ⟨x3, rfl, G8, ex8, W8, eu8⟩
      rw [List.length_map, oneT_len n1] at ex8
      exact k _ G8 ⟨dx, rr, W, ex8, G8.sq hx eR, W8⟩
theorem sc_Field_plus : FnScope (["self", "one", "other"] : List Str) ["self", "one", "other"] (defScope s_Field_plus) := ⟨rfl, rfl, rfl, by decide +kernel, rfl, by decide +kernel, by decide +kernel⟩
theorem ok_Field_plus {f CF CR : Addr} {C : Fin 14 → Addr} {fd : FuncData} (F : FunD K "plus" "Field.plus" (defArgs s_Field_plus) (defBody s_Field_plus) (defScope s_Field_plus) [] [] f fd) (KC : ClsF K CF CR) (o_refuse_numbers : Own P w K mg base (L2.CX P w) 4 "refuse_numbers" ["raw", "told"] [] (spRefNs K CR (C 3))) (o_RawField_plus : OwnM P w K mg base CX0 1 CR "plus" ["self", "one", "other"] [] (spNum2 K CR gAdd)) : FnOk P w K mg base (L2.CX P w) 5 f fd ["self", "one", "other"] (spFld2 K CF CR (C 3) gAdd) := by
  refine F.ok sc_Field_plus (fun vs H Q E h => ?_) (fun cdv A outer s H vs Q E hr h => ?_)
  · obtain ⟨F0, a, b, q, n, R, xs, ys, rfl, _⟩ := h
    rfl
  · obtain ⟨F0, a, b, q, n, R, xs, ys, rfl, hR, hF, ha, hb, la, lb, h1, h2⟩ := h
    refine ⟨_, (pss_cons (ps_expr (pe_own o_refuse_numbers (hr.mono (by decide)) rfl (passes_call (takes_of rfl rfl rfl rfl) (fun _ _ _ _ h => h)) (pa_cons (pe_fld (pv 0) rfl) (pa_cons (pe_tup (pa_cons (pv 1) (pa_cons (pv 2) pa_nil))) pa_nil))))
      (pss_one (ps_ret (pe_ownM o_RawField_plus (hr.mono (by decide)) pass0 (pe_fld (pv 0) rfl) (pa_cons (pv 1) (pa_cons (pv 2) pa_nil)))))) , ?_⟩
    obtain ⟨dx, rr, W, eF, eR, hW⟩ := id hF.ex
    refine ⟨_, rfl, F0, CF, dx, _, .ref W, rfl, eF, KC.clF, KC.f2, rfl, _, rfl, _, rfl, (by show 2 ≤ sizeLine; decide), fun c hc => ⟨W, c, [a, b], [xs, ys], q, n, R, rfl, hR, hW.stay (.same (same_upd hc)), SqT.of upd_same, rfl, fun i a' xs' h1' h2' => ?_, fun hn H1 s1 => ?_, fun hn => ?_⟩⟩
    · match i, h1', h2' with
      | 0, h1', h2' => cases h1'; cases h2'; exact ⟨sameT (same_upd hc) ha, la⟩
      | 1, h1', h2' => cases h1'; cases h2'; exact ⟨sameT (same_upd hc) hb, lb⟩
    · have s2 := (same_upd hc).trans s1
      have nx := hn xs List.mem_cons_self
      have ny := hn ys (List.mem_cons_of_mem _ List.mem_cons_self)
      have W2 := hW.stay (.same s2)
      obtain ⟨dw, rr2, z2, u2, tt2, ht2, lt2, lh2, ts2, hs2, eW, _⟩ := id W2.ex
      refine ⟨_, rfl, F0, CF, dx, _, .ref W, rfl, s2 _ _ eF, KC.clF, KC.f2, rfl, W, dw, _, rfl, eW, rfl, _, rfl, _, rfl, W, a, b, q, n, R, xs, ys, rfl, hR, W2, sameT s2 ha, sameT s2 hb, nx, ny, fun v zs H3 s3 ev nz cg => h1 nx ny v zs H3 (s2.trans s3) ev nz cg⟩
    · refine (h2 (fun z => hn fun zs hzs => ?_)).same (same_upd hc)
      rcases List.mem_cons.mp hzs with rfl | hzs
      · exact z.1
      · rw [List.mem_singleton.mp hzs]
        exact z.2
theorem sc_Field_minus : FnScope (["self", "one", "other"] : List Str) ["self", "one", "other"] (defScope s_Field_minus) := ⟨rfl, rfl, rfl, by decide +kernel, rfl, by decide +kernel, by decide +kernel⟩
theorem ok_Field_minus {f CF CR : Addr} {C : Fin 14 → Addr} {fd : FuncData} (F : FunD K "minus" "Field.minus" (defArgs s_Field_minus) (defBody s_Field_minus) (defScope s_Field_minus) [] [] f fd) (KC : ClsF K CF CR) (o_refuse_numbers : Own P w K mg base (L2.CX P w) 4 "refuse_numbers" ["raw", "told"] [] (spRefNs K CR (C 3))) (o_RawField_minus : OwnM P w K mg base CX0 1 CR "minus" ["self", "one", "other"] [] (spNum2 K CR gSub)) : FnOk P w K mg base (L2.CX P w) 5 f fd ["self", "one", "other"] (spFld2 K CF CR (C 3) gSub) := by
  refine F.ok sc_Field_minus (fun vs H Q E h => ?_) (fun cdv A outer s H vs Q E hr h => ?_)
  · obtain ⟨F0, a, b, q, n, R, xs, ys, rfl, _⟩ := h
    rfl
  · obtain ⟨F0, a, b, q, n, R, xs, ys, rfl, hR, hF, ha, hb, la, lb, h1, h2⟩ := h
    refine ⟨_, (pss_cons (ps_expr (pe_own o_refuse_numbers (hr.mono (by decide)) rfl (passes_call (takes_of rfl rfl rfl rfl) (fun _ _ _ _ h => h)) (pa_cons (pe_fld (pv 0) rfl) (pa_cons (pe_tup (pa_cons (pv 1) (pa_cons (pv 2) pa_nil))) pa_nil))))
      (pss_one (ps_ret (pe_ownM o_RawField_minus (hr.mono (by decide)) pass0 (pe_fld (pv 0) rfl) (pa_cons (pv 1) (pa_cons (pv 2) pa_nil)))))) , ?_⟩
    obtain ⟨dx, rr, W, eF, eR, hW⟩ := id hF.ex
    refine ⟨_, rfl, F0, CF, dx, _, .ref W, rfl, eF, KC.clF, KC.f2, rfl, _, rfl, _, rfl, (by show 2 ≤ sizeLine; decide), fun c hc => ⟨W, c, [a, b], [xs, ys], q, n, R, rfl, hR, hW.stay (.same (same_upd hc)), SqT.of upd_same, rfl, fun i a' xs' h1' h2' => ?_, fun hn H1 s1 => ?_, fun hn => ?_⟩⟩
    · match i, h1', h2' with
      | 0, h1', h2' => cases h1'; cases h2'; exact ⟨sameT (same_upd hc) ha, la⟩
      | 1, h1', h2' => cases h1'; cases h2'; exact ⟨sameT (same_upd hc) hb, lb⟩
    · have s2 := (same_upd hc).trans s1
      have nx := hn xs List.mem_cons_self
      have ny := hn ys (List.mem_cons_of_mem _ List.mem_cons_self)
      have W2 := hW.stay (.same s2)
      obtain ⟨dw, rr2, z2, u2, tt2, ht2, lt2, lh2, ts2, hs2, eW, _⟩ := id W2.ex
      refine ⟨_, rfl, F0, CF, dx, _, .ref W, rfl, s2 _ _ eF, KC.clF, KC.f2, rfl, W, dw, _, rfl, eW, rfl, _, rfl, _, rfl, W, a, b, q, n, R, xs, ys, rfl, hR, W2, sameT s2 ha, sameT s2 hb, nx, ny, fun v zs H3 s3 ev nz cg => h1 nx ny v zs H3 (s2.trans s3) ev nz cg⟩
    · refine (h2 (fun z => hn fun zs hzs => ?_)).same (same_upd hc)
      rcases List.mem_cons.mp hzs with rfl | hzs
      · exact z.1
      · rw [List.mem_singleton.mp hzs]
        exact z.2
theorem sc_Field_times : FnScope (["self", "one", "other"] : List Str) ["self", "one", "other"] (defScope s_Field_times) := ⟨rfl, rfl, rfl, by decide +kernel, rfl, by decide +kernel, by decide +kernel⟩
theorem ok_Field_times {f CF CR : Addr} {C : Fin 14 → Addr} {fd : FuncData} (F : FunD K "times" "Field.times" (defArgs s_Field_times) (defBody s_Field_times) (defScope s_Field_times) [] [] f fd) (KC : ClsF K CF CR) (o_refuse_numbers : Own P w K mg base (L2.CX P w) 4 "refuse_numbers" ["raw", "told"] [] (spRefNs K CR (C 3))) (o_RawField_times : OwnM P w K mg base CX0 2 CR "times" ["self", "one", "other"] [] (spNum2 K CR gMul)) : FnOk P w K mg base (L2.CX P w) 5 f fd ["self", "one", "other"] (spFld2 K CF CR (C 3) gMul) := by
  refine F.ok sc_Field_times (fun vs H Q E h => ?_) (fun cdv A outer s H vs Q E hr h => ?_)
  · obtain ⟨F0, a, b, q, n, R, xs, ys, rfl, _⟩ := h
    rfl
  · obtain ⟨F0, a, b, q, n, R, xs, ys, rfl, hR, hF, ha, hb, la, lb, h1, h2⟩ := h
    refine ⟨_, (pss_cons (ps_expr (pe_own o_refuse_numbers (hr.mono (by decide)) rfl (passes_call (takes_of rfl rfl rfl rfl) (fun _ _ _ _ h => h)) (pa_cons (pe_fld (pv 0) rfl) (pa_cons (pe_tup (pa_cons (pv 1) (pa_cons (pv 2) pa_nil))) pa_nil))))
      (pss_one (ps_ret (pe_ownM o_RawField_times (hr.mono (by decide)) pass0 (pe_fld (pv 0) rfl) (pa_cons (pv 1) (pa_cons (pv 2) pa_nil)))))) , ?_⟩
    obtain ⟨dx, rr, W, eF, eR, hW⟩ := id hF.ex
    refine ⟨_, rfl, F0, CF, dx, _, .ref W, rfl, eF, KC.clF, KC.f2, rfl, _, rfl, _, rfl, (by show 2 ≤ sizeLine; decide), fun c hc => ⟨W, c, [a, b], [xs, ys], q, n, R, rfl, hR, hW.stay (.same (same_upd hc)), SqT.of upd_same, rfl, fun i a' xs' h1' h2' => ?_, fun hn H1 s1 => ?_, fun hn => ?_⟩⟩
    · match i, h1', h2' with
      | 0, h1', h2' => cases h1'; cases h2'; exact ⟨sameT (same_upd hc) ha, la⟩
      | 1, h1', h2' => cases h1'; cases h2'; exact ⟨sameT (same_upd hc) hb, lb⟩
    · have s2 := (same_upd hc).trans s1
      have nx := hn xs List.mem_cons_self
      have ny := hn ys (List.mem_cons_of_mem _ List.mem_cons_self)
      have W2 := hW.stay (.same s2)
      obtain ⟨dw, rr2, z2, u2, tt2, ht2, lt2, lh2, ts2, hs2, eW, _⟩ := id W2.ex
      refine ⟨_, rfl, F0, CF, dx, _, .ref W, rfl, s2 _ _ eF, KC.clF, KC.f2, rfl, W, dw, _, rfl, eW, rfl, _, rfl, _, rfl, W, a, b, q, n, R, xs, ys, rfl, hR, W2, sameT s2 ha, sameT s2 hb, nx, ny, fun v zs H3 s3 ev nz cg => h1 nx ny v zs H3 (s2.trans s3) ev nz cg⟩
    · refine (h2 (fun z => hn fun zs hzs => ?_)).same (same_upd hc)
      rcases List.mem_cons.mp hzs with rfl | hzs
      · exact z.1
      · rw [List.mem_singleton.mp hzs]
        exact z.2
end
end Xk
end
section
set_option Elab.async false
set_option linter.all false
set_option maxRecDepth 100000
set_option maxHeartbeats 4000000
namespace Xk
open PySem PySem.Spec PyProof.Rows L2 Xh LamX NdefX
/-! ### the law's numbers -/
theorem Rs.padL {p : Int} {xs : List Int} (n : Nat) (h : Rs p xs) : Rs p (padL xs n) := fun k => by
  show 0 ≤ co (Xk.padL xs n) k ∧ co (Xk.padL xs n) k < p
  rw [co_pad]
  exact h k
def spRem (K : PySem.W.Frag) : Sp := fun vs H Q _ => ∃ (a b : Addr) (xs ys : List Int) (p : Int), vs = [.ref a, .ref b, .int p] ∧ SqT K H a (xs.map V.int) ∧ SqT K H b (ys.map V.int) ∧ xs.length ≤ 50 ∧ ys.length ≤ 25 ∧ Rs p xs ∧ Dsr p ys ∧
  ∀ (v : Addr) (rs : List Int) (H' : Hp), Same H H' → H' v = some (.tup (rs.map V.int)) → Rem p ys (co xs) rs → Q (.ref v) H'
def spWide (K : PySem.W.Frag) : Sp := fun vs H Q _ => ∃ (a : Addr) (xs : List Int) (n : Nat), vs = [.ref a, .int n] ∧ SqT K H a (xs.map V.int) ∧ xs.length ≤ n ∧ n ≤ 24 ∧ ∀ (v : Addr) (H' : Hp), Same H H' → H' v = some (.tup ((padL xs n).map V.int)) → Q (.ref v) H'
def spProd (K : PySem.W.Frag) : Sp := fun vs H Q _ => ∃ (rr a b : Addr) (q n : Nat) (R xs ys : List Int), vs = [.ref rr, .ref a, .ref b, .int q] ∧ RuleOk q n R ∧ SqT K H rr (R.map V.int) ∧ SqT K H a (xs.map V.int) ∧ SqT K H b (ys.map V.int) ∧ xs.length ≤ n + 1 ∧ ys.length ≤ n + 1 ∧ Rs q xs ∧ Rs q ys ∧
  ∀ (v : Addr) (zs : List Int) (H' : Hp), Same H H' → H' v = some (.tup (zs.map V.int)) → Num q n zs → Xp.Cg q (co R) (Xp.cv (co xs) (co ys)) (co zs) → Q (.ref v) H'
def spSumN (K : PySem.W.Frag) : Sp := fun vs H Q _ => ∃ (a b : Addr) (q n : Nat) (w : Int) (xs ys : List Int), vs = [.ref a, .ref b, .int w, .int q] ∧ SqT K H a (xs.map V.int) ∧ SqT K H b (ys.map V.int) ∧ Num q n xs ∧ Num q n ys ∧ n ≤ 24 ∧ 0 ≤ w ∧ w ≤ 1000 ∧ Pm q ∧
  ∀ (v : Addr) (zs : List Int) (H' : Hp), Same H H' → H' v = some (.tup (zs.map V.int)) → Num q n zs → Xp.Eqm q (co zs) (Xp.ad (co xs) (Xp.sc w (co ys))) → Q (.ref v) H'
def spNumD : Sp := fun vs H Q _ => ∃ (d : Addr) (q n : Nat), vs = [.ref d, .int n, .int q] ∧ Draw H d ∧ n ≤ 24 ∧ Pm q ∧ ∀ (v : Addr) (xs : List Int) (H' : Hp), H' v = some (.tup (xs.map V.int)) → Num q n xs → Draw H' d → But d H H' → Q (.ref v) H'
section
variable {P : Program} {w : World} {K : PySem.W.Frag} {mg : Str → Option Value} {base : Heap}
theorem sc_law_number : FnScope (["_law_draw", "_law_degree", "_law_p", "_law_found", "_law_number_here"] : List Str) ["_law_draw", "_law_degree", "_law_p"] (defScope s_law_number) := ⟨rfl, rfl, rfl, by decide +kernel, rfl, by decide +kernel, by decide +kernel⟩
theorem ok_law_number {f : Addr} {fd : FuncData} (F : FunD K "_law_number" "_law_number" (defArgs s_law_number) (defBody s_law_number) (defScope s_law_number) [] [] f fd) (T : Fre mg) (o_law_take : Own P w K mg base CX0 1 "_law_take" ["_law_draw", "_law_sides"] [] spTake) (o_law_rests : Own P w K mg base CX0 2 "_law_rests" ["_law_draw", "_law_many", "_law_p"] [] spRestsD) : FnOk P w K mg base CX0 3 f fd ["_law_draw", "_law_degree", "_law_p"] spNumD := by
  refine F.ok sc_law_number (fun vs H Q E h => ?_) (fun cdv A outer s H vs Q E hr h => ?_)
  · obtain ⟨d, q, n, rfl, _⟩ := h
    rfl
  · obtain ⟨d, q, n, rfl, Dr, hn, hp, k⟩ := h
    have lo := hp.lo
    have hi := hp.hi
    refine ⟨_, PSs.nox (pss_cons (ps_set (i := 3) sc_law_number.nd rfl (Or.inl rfl) (pe_own o_law_rests (hr.mono (by decide)) rfl pass0 (pa_cons (pv 0) (pa_cons (pv 1) (pa_cons (pv 2) pa_nil)))))
      (C8.pss_cut (ps_if (pt_cmpR op_eq (pe_own o_law_take (hr.mono (by decide)) rfl pass0 (pa_cons (pv 0) (pa_cons pe_int pa_nil))) pe_int (nomark _)) (pss_one (ps_setLc (i := 3) (own := [("_law_number_here", 4)]) rfl sc_law_number.nd rfl rfl (sw_true rfl rfl rfl (by decide +kernel)) (pi_list (pv 3)) (blkOk_by (own := [("_law_number_here", 4)]) (N := ["_law_draw", "_law_degree", "_law_p", "_law_found", "_law_number_here"]) (sc := defScope s_law_number) (by decide +kernel)) (fun _ _ _ _ _ => pg_name (i := 4) sc_law_number.nd rfl (Or.inl rfl) (Or.inr rfl)) (fun _ _ _ _ _ => pts_nil) (fun _ _ _ _ _ => (pe_op op_mul (pv 4) (pe_callTy call_int1 (by rfl) T.f_int (by decide +kernel) (pa_cons (pe_cmpR op_eq (pe_own o_law_take (hr.mono (by decide)) rfl pass0 (pa_cons (pv 0) (pa_cons pe_int pa_nil))) pe_int (nomark _)) pa_nil)))))) pss_nil)
      (pss_one (ps_ret (pe_callTy call_tuple_of (by rfl) T.f_tuple (by decide +kernel) (pa_cons (pv 3) pa_nil)))))) , ?_⟩
    refine ⟨_, rfl, _, rfl, _, rfl, d, n, (q : Int), rfl, Dr, by omega, hp, fun ms b H2 lm rm D2 B2 e2 hbd nb => ?_⟩
    refine ⟨fun σ' H' => ∃ (ms : List Int) (b : Addr), σ' = [some (.ref d), some (.int n), some (.int q), some (.ref b), none] ∧ ms.length = n ∧ Rs q ms ∧ Draw H' d ∧ But d H H' ∧ H' b = some (.lst (ms.map V.int)) ∧ b ≠ d ∧ H b = none, ?_, ?_⟩
    · refine ⟨_, rfl, d, 5, rfl, D2, by decide, by decide, fun m2 H3 _ _ D3 B3 => ?_⟩
      have e3 := B3 _ _ hbd e2
      refine ⟨rfl, _, rfl, ite2 (fun hc => ?_) (fun hc => ?_)⟩
      · refine ⟨_, rfl, b, rfl, ⟨_, SqL.of e3⟩, fun D hD => ?_⟩
        have hDd : D ≠ d := D3.ne hD
        have B0 : But d H H3 := B2.trans B3
        refine lc_it (walk_list (xs := ms.map V.int)) (fun i H4 => ∃ ws : List Int, H4 D = some (.lst (ws.map V.int)) ∧ ws.length = i ∧ Rs q ws ∧ Draw H4 d ∧ But d H3 H4) ⟨[], upd_same, rfl, Rs.nil q hp.pos, D3.same (same_upd hD), But.updN hD⟩ (fun i H4 _ ⟨_, _, _, _, _, B4⟩ => SqL.of (B4 _ _ hbd e3)) ?_ ?_
        · rintro i x H4 H5 hi2 ⟨ws, e4, l4, r4, D4, B4⟩ ⟨rfl, hx⟩
          rw [List.length_map] at hi2
          have e5 := (map_at ms i hi2).symm.trans hx
          cases e5
          obtain ⟨x0, x1⟩ := rm i
          refine ⟨rfl, _, rfl, _, rfl, d, 2, rfl, D4, by decide, by decide, fun m3 H6 _ _ D6 B6 => ⟨rfl, .inr ⟨_, rfl, _, _, rfl, rfl, ?_, _, B6 _ _ hDd e4, ?_, ws ++ [ms.getD i 0 * (if decide (V.int m3 = V.int 0) = true then 1 else 0)], ?_, ?_, r4.add ?_ ?_, ?_, But.lcs hD (B4.trans B6)⟩⟩⟩
          · exact .inl ⟨by omega, by omega⟩
          · rw [List.length_map]
            exact small1000 (by omega)
          · rw [upd_same, List.map_append]
            rfl
          · rw [List.length_append, l4]
            rfl
          · split <;> omega
          · split <;> omega
          · have z := D6.updL (p := D) (ms := ws ++ [ms.getD i 0 * (if decide (V.int m3 = V.int 0) = true then 1 else 0)]) hDd
            rw [List.map_append] at z
            exact z
        · rintro H4 ⟨ws, e4, l4, r4, D4, B4⟩
          rw [List.length_map] at l4
          exact ⟨ws, D, rfl, by omega, r4, D4, B0.trans B4, e4, hDd, B0.free hD hDd⟩
      · exact ⟨ms, b, rfl, by omega, rm, D3, B2.trans B3, e3, hbd, nb⟩
    · rintro σ' H3 ⟨ms, b, rfl, lm, rm, D3, B3, e3, hbd, nb⟩
      refine ⟨_, rfl, b, _, rfl, .inl ⟨SqL.of e3, fun v hv => ?_⟩⟩
      have sv := same_upd (o := .tup (ms.map V.int)) hv
      exact k v ms _ upd_same ⟨lm, rm⟩ (D3.same sv) (B3.trans (But.same sv))
end
end Xk
end
section
set_option Elab.async false
set_option linter.all false
set_option maxRecDepth 100000
set_option maxHeartbeats 4000000
namespace Xk
open PySem PySem.Spec PyProof.Rows L2 Xh LamX NdefX
/-! ### pairs that are drawn, the tuple before -/
/-- a display of pairs of numbers -/
inductive IsP : TA → List (Int × Int) → Prop
  | nil : IsP tNil []
  | cons {t : TA} {a b : Int} {L : List (Int × Int)} (h : IsP t L) : IsP (tCons (tTup (tCons (tC (.int a)) (tCons (tC (.int b)) tNil))) t) ((a, b) :: L)
def Prs (H : Hp) (as : List Addr) (L : List (Int × Int)) : Prop := ∀ a ∈ as, ∃ q ∈ L, H a = some (.tup [.int q.1, .int q.2])
theorem Prs.same {H H' : Hp} {as : List Addr} {L : List (Int × Int)} (x : Prs H as L) (s : Same H H') : Prs H' as L := fun a ha => by
  obtain ⟨q, hq, e⟩ := x a ha
  exact ⟨q, hq, s _ _ e⟩
theorem Prs.sub {H : Hp} {as : List Addr} {L L' : List (Int × Int)} (x : Prs H as L) (h : ∀ q ∈ L, q ∈ L') : Prs H as L' := fun a ha => by
  obtain ⟨q, hq, e⟩ := x a ha
  exact ⟨q, h q hq, e⟩
theorem pairs_at {t : TA} {L : List (Int × Int)} (h : IsP t L) : ∀ {σ : L2.St} {H : Hp} {Q : List V → Hp → Prop}, (∀ (as : List Addr) (H' : Hp), Same H H' → as.length = L.length → Prs H' as L → Q (as.map V.ref) H') → t σ H Q := by
  induction h with
  | nil => exact fun {σ H Q} k => k [] H (fun _ _ z => z) rfl fun a ha => nomatch ha
  | @cons t a b L h ih =>
    intro σ H Q k
    refine ⟨(by show 2 ≤ sizeLine; decide), fun p np => ih fun as H' s l x => ?_⟩
    have s0 := same_upd (o := .tup [.int a, .int b]) np
    refine k (p :: as) H' (s0.trans s) (congrArg (· + 1) l) fun c ha => ?_
    rcases List.mem_cons.mp ha with rfl | ha
    · exact ⟨(a, b), List.mem_cons_self, s _ _ upd_same⟩
    · obtain ⟨r, hr, e⟩ := x c ha
      exact ⟨r, List.mem_cons_of_mem _ hr, e⟩
theorem pairsL {t : TA} {L : List (Int × Int)} (h : IsP t L) (hl : L.length ≤ 100) {σ : L2.St} {H : Hp} {Q : VK} (k : ∀ (p : Addr) (as : List Addr) (H' : Hp), Same H H' → H p = none → H' p = some (.lst (as.map V.ref)) → as.length = L.length → Prs H' as L → Q (.ref p) H') : tLst t σ H Q :=
  pairs_at h fun as H' s l x => ⟨by rw [List.length_map]; exact Nat.le_trans (show as.length ≤ 100 by omega) (by decide), fun p np => k p as _ (s.trans (same_upd np)) (s.free np) upd_same l (x.same (same_upd np))⟩
def spPairD (L : List (Int × Int)) : Sp := fun vs H Q _ => ∃ d : Addr, vs = [.ref d] ∧ Draw H d ∧ ∀ (x : Addr) (q : Int × Int) (H' : Hp), q ∈ L → H' x = some (.tup [.int q.1, .int q.2]) → Draw H' d → But d H H' → Q (.ref x) H'
def smallL : List (Int × Int) := [(2, 1), (2, 2), (2, 3), (2, 4), (2, 5), (2, 6), (2, 7), (2, 8), (3, 1), (3, 2), (3, 3), (3, 4)]
def smallM : List (Int × Int) := [(3, 5), (5, 1), (5, 2), (5, 3), (7, 1), (7, 2), (11, 2), (13, 2), (97, 1)]
def greatL : List (Int × Int) := [(2, 12), (2, 11), (2, 9), (3, 12), (3, 8), (5, 6), (5, 10), (7, 6), (11, 5), (13, 4), (31, 4)]
def greatM : List (Int × Int) := [(89, 3), (97, 2), (97, 6), (53, 1), (17, 7)]
def greatN : List (Int × Int) := [(7, 8), (11, 9), (13, 12)]
theorem Draw.tup_ne {H : Hp} {d a : Addr} {xs : List V} (D : Draw H d) (e : H a = some (.tup xs)) : a ≠ d := fun z => by
  obtain ⟨c, ns, i, r, g, e2, _⟩ := D
  rw [z, e2] at e
  cases e
/-- one drawn of a list of pairs -/
theorem of_pairs {K : PySem.W.Frag} {d : Addr} {as : List Addr} {L : List (Int × Int)} {H : Hp} {p : Addr} {Q : VK} {E : XK} (D : Draw H d) (ep : H p = some (.lst (as.map V.ref))) (hd : p ≠ d) (l0 : 0 < as.length) (l1 : as.length ≤ 1000) (x : Prs H as L) (k : ∀ (x : Addr) (q : Int × Int) (H' : Hp), q ∈ L → H' x = some (.tup [.int q.1, .int q.2]) → Draw H' d → But d H H' → Q (.ref x) H') : spOf K [.ref d, .ref p] H Q E :=
  ⟨d, p, _, rfl, D, SqL.of ep, hd, by rw [List.length_map]; exact l0, by rw [List.length_map]; exact l1, fun v H' hv D' B' => by
    obtain ⟨a, ha, rfl⟩ := List.mem_map.mp hv
    obtain ⟨q, hq, e⟩ := x a ha
    exact k a q H' hq (B' _ _ (D.tup_ne e) e) D' B'⟩
def spAhead : Sp := fun vs H Q _ => ∃ (a : Addr) (xs : List Int) (p : Int), vs = [.ref a, .int p] ∧ H a = some (.tup (xs.map V.int)) ∧ xs.length ≤ 24 ∧ Rs p xs ∧ Pm p ∧ (∃ j, 1 ≤ j ∧ j < xs.length ∧ xs.getD j 0 ≠ 0) ∧
  ∀ (v : Addr) (ys : List Int) (H' : Hp), Same H H' → H' v = some (.tup (ys.map V.int)) → ys.length = xs.length → Rs p ys → Xp.vl p xs = Xp.vl p ys + 1 → Q (.ref v) H'
section
variable {P : Program} {w : World} {K : PySem.W.Frag} {mg : Str → Option Value} {base : Heap}
theorem sc_law_great : FnScope (["_law_draw", "_law_some"] : List Str) ["_law_draw"] (defScope s_law_great) := ⟨rfl, rfl, rfl, by decide +kernel, rfl, by decide +kernel, by decide +kernel⟩
theorem ok_law_great {f : Addr} {fd : FuncData} (F : FunD K "_law_great" "_law_great" (defArgs s_law_great) (defBody s_law_great) (defScope s_law_great) [] [] f fd) (o_law_of : Own P w K mg base CX0 2 "_law_of" ["_law_draw", "_law_row"] [] (spOf K)) : FnOk P w K mg base CX0 3 f fd ["_law_draw"] (spPairD (greatL ++ greatM)) := by
  refine F.ok sc_law_great (fun vs H Q E h => ?_) (fun cdv A outer s H vs Q E hr h => ?_)
  · obtain ⟨d, rfl, _⟩ := h
    rfl
  · obtain ⟨d, rfl, D, k⟩ := h
    refine ⟨_, PSs.nox (pss_cons (ps_set (i := 1) sc_law_great.nd rfl (Or.inl rfl) (pe_lst (pa_cons (pe_tup (pa_cons pe_int (pa_cons pe_int pa_nil))) (pa_cons (pe_tup (pa_cons pe_int (pa_cons pe_int pa_nil))) (pa_cons (pe_tup (pa_cons pe_int (pa_cons pe_int pa_nil))) (pa_cons (pe_tup (pa_cons pe_int (pa_cons pe_int pa_nil))) (pa_cons (pe_tup (pa_cons pe_int (pa_cons pe_int pa_nil))) (pa_cons (pe_tup (pa_cons pe_int (pa_cons pe_int pa_nil))) (pa_cons (pe_tup (pa_cons pe_int (pa_cons pe_int pa_nil))) (pa_cons (pe_tup (pa_cons pe_int (pa_cons pe_int pa_nil))) (pa_cons (pe_tup (pa_cons pe_int (pa_cons pe_int pa_nil))) (pa_cons (pe_tup (pa_cons pe_int (pa_cons pe_int pa_nil))) (pa_cons (pe_tup (pa_cons pe_int (pa_cons pe_int pa_nil))) pa_nil)))))))))))))
      (pss_one (ps_ret (pe_own o_law_of (hr.mono (by decide)) rfl pass0 (pa_cons (pv 0) (pa_cons (pe_op op_cat (pv 1) (pe_lst (pa_cons (pe_tup (pa_cons pe_int (pa_cons pe_int pa_nil))) (pa_cons (pe_tup (pa_cons pe_int (pa_cons pe_int pa_nil))) (pa_cons (pe_tup (pa_cons pe_int (pa_cons pe_int pa_nil))) (pa_cons (pe_tup (pa_cons pe_int (pa_cons pe_int pa_nil))) (pa_cons (pe_tup (pa_cons pe_int (pa_cons pe_int pa_nil))) pa_nil))))))) pa_nil)))))) , ?_⟩
    dsimp only [L2.tSeq, L2.tAsg, L2.tRet, L2.tOp, L2.tCall]
    refine pairsL (L := greatL) (by repeat constructor) (by decide) fun p1 as1 H1 s1 n1 e1 l1 x1 => ?_
    refine ⟨_, rfl, _, rfl, ?_⟩
    refine pairsL (L := greatM) (by repeat constructor) (by decide) fun p2 as2 H2 s2 n2 e2 l2 x2 => ?_
    refine ⟨p1, p2, _, _, rfl, rfl, s2 _ _ e1, e2, ?_, fun p3 n3 => ?_⟩
    · rw [List.length_map, List.length_map, l1, l2]
      decide
    rw [← List.map_append]
    have s3 := same_upd (o := .lst ((as1 ++ as2).map V.ref)) n3
    have S := (s1.trans s2).trans s3
    refine of_pairs (E := E0) (L := greatL ++ greatM) (D.same S) upd_same ((D.same (s1.trans s2)).ne n3) (by rw [List.length_append, l1]; exact Nat.lt_of_lt_of_le (by decide) (Nat.le_add_right _ _)) (by rw [List.length_append, l1, l2]; decide) (fun a ha => ?_) fun x q H' hq e D' B' => k x q H' hq e D' ((But.same S).trans B')
    rcases List.mem_append.mp ha with h | h
    · exact ((x1.same s2).same s3).sub (fun q hq => List.mem_append_left _ hq) a h
    · exact (x2.same s3).sub (fun q hq => List.mem_append_right _ hq) a h
end
end Xk
end
section
set_option linter.all false
set_option maxHeartbeats 1000000
/-! Turns of what a rule leaves, by rows; how often (no program in it). -/
namespace Xp
open Lean.Grind
theorem turn_el {p : Nat} (hp : 2 ≤ p) (h : Fb p) {f : Cf} {ts ms : List Int} {rows : List (List Int)} (lt : ts.length ≤ rows.length) (hr : ∀ (i : Nat) (r : List Int), rows[i]? = some r → Cg p f (pw (xs one) (p * i)) (cf r))
    (e : Eqm p (cf ms) (wgP ts rows).c) : el (p : Int) f ms = (el (p : Int) f ts) ^ p := by
  have b : el (p : Int) f ms = Qu.mk (wgP ts rows) := mk_eq.mpr (Cg.of e)
  rw [b, wgP_hv (z := (Qu.mk Po.X : Fq p f) ^ p) 1 lt fun i r hi => ?_, el_hv, hv_turn hp h]
  · grind
  · rw [Semiring.one_mul, ← pow_mulR]
    exact (cgX (g := nul)).mp (hr i r hi)
theorem pow_pow {R : Type} [CommRing R] (x : R) (q a b : Nat) : (x ^ (q ^ a)) ^ (q ^ b) = x ^ (q ^ (a + b)) := by
  rw [← pow_mulR, ← Nat.pow_add]
theorem pow_succ' {R : Type} [CommRing R] (x : R) (q a : Nat) : (x ^ (q ^ a)) ^ q = x ^ (q ^ (a + 1)) := by
  rw [← pow_mulR, ← Nat.pow_succ]
theorem pow_many {R : Type} [CommRing R] {x : R} {q n : Nat} (h : x ^ (q ^ n) = x) : ∀ m, x ^ (q ^ (n * m)) = x
  | 0 => by rw [Nat.mul_zero, Nat.pow_zero, Semiring.pow_one]
  | m + 1 => by rw [Nat.mul_succ, ← pow_pow, pow_many h m, h]
/-- the least count of turns -/
def LeastT {R : Type} [CommRing R] (q : Nat) (x : R) (m : Nat) : Prop := 1 ≤ m ∧ x ^ (q ^ m) = x ∧ ∀ j, 1 ≤ j → j < m → x ^ (q ^ j) ≠ x
theorem LeastT.uniq {R : Type} [CommRing R] {q : Nat} {x : R} {m n : Nat} (a : LeastT q x m) (b : LeastT q x n) : m = n := by
  rcases Nat.lt_trichotomy m n with h | h | h
  · exact absurd a.2.1 (b.2.2 m a.1 h)
  · exact h
  · exact absurd b.2.1 (a.2.2 n b.1 h)
theorem el_pw {p : Int} {f : Cf} {ms zs : List Int} {e : Nat} : el p f zs = (el p f ms) ^ e ↔ Cg p f (pw (cf ms) e) (cf zs) := by
  show (Qu.mk (Po.of zs) : Fq p f) = (Qu.mk (Po.of ms)) ^ e ↔ _
  rw [← Qu.mk_pow]
  constructor
  · intro h
    have := (mk_eq.mp h).symm
    rwa [Po.pow_c] at this
  · intro h
    refine (mk_eq.mpr ?_)
    rw [Po.pow_c]
    exact h.symm
end Xp
end
section
set_option Elab.async false
set_option linter.all false
set_option maxRecDepth 100000
set_option maxHeartbeats 4000000
namespace Xk
open PySem PySem.Spec PyProof.Rows L2 Xh LamX NdefX
/-! ### turns -/
/-- what a number is, by the rule -/
abbrev El (q : Nat) (R xs : List Int) : Xp.Fq (q : Int) (co R) := Xp.el (q : Int) (co R) xs
theorem RuleOk.all {q n : Nat} {R : List Int} (x : RuleOk q n R) (y : Xp.Fq (q : Int) (co R)) : y ^ (q ^ n) = y := by
  have hw := x.wh.2
  have lR := x.len
  obtain ⟨t, l, r, rfl⟩ := x.ex
  have D := Xp.lv_dg x.q0 (tp_of l r)
  have := Xp.dm_of (pr_of x.hp) D x.n1 (Xp.irr_half (pr_of x.hp) D fun e e1 e2 t' ht' => hw e e1 (by omega) t' ht')
  have f := Xp.fermat (Xp.els_al x.q0 D) y
  rwa [Xp.els_len] at f
theorem RuleOk.eq {q n : Nat} {R xs ys : List Int} (x : RuleOk q n R) (a : Num q n xs) (b : Num q n ys) (h : El q R xs = El q R ys) : xs = ys := x.one a b (Xp.el_eq.mp h)
theorem RuleOk.least {q n : Nat} {R : List Int} (x : RuleOk q n R) (y : Xp.Fq (q : Int) (co R)) : ∃ m, Xp.LeastT q y m ∧ m ≤ n := by
  obtain ⟨m, ⟨h1, h2⟩, h3, h4⟩ := Xp.least (P := fun m => 1 ≤ m ∧ y ^ (q ^ m) = y) (n := n) ⟨x.n1, x.all y⟩
  exact ⟨m, ⟨h1, h2, fun j j1 j2 z => h4 j j2 ⟨j1, z⟩⟩, h3⟩
theorem RuleOk.red {q n : Nat} {R : List Int} (x : RuleOk q n R) (y : Xp.Fq (q : Int) (co R)) (s : Nat) : y ^ (q ^ (((s : Nat) : Int).fmod (n : Int)).toNat) = y ^ (q ^ s) := by
  rw [fmodN s n, Int.toNat_natCast]
  have e : s = n * (s / n) + s % n := (Nat.div_add_mod s n).symm
  have h := Xp.pow_pow y q (n * (s / n)) (s % n)
  rw [← e, Xp.pow_many (x.all y)] at h
  exact h
theorem whileQ {c : TT} {tb : TS} {D : Ends} {σ : L2.St} {H : Hp} (Pv : L2.St → Hp → Prop) (μ : L2.St → Hp → Nat) (h0 : Pv σ H) (hs : ∀ σ H, Pv σ H → c σ H fun b H1 => if b = true then ∃ N : L2.St → Hp → Prop, (∀ σ' H', N σ' H' → ∃ m', m' < μ σ H ∧ (m' = μ σ' H' ∧ Pv σ' H')) ∧ tb { D with nx := N, ct := N, bk := D.nx } σ H1 else D.nx σ H1) : tWhile c tb D σ H :=
  ⟨fun m σ H => m = μ σ H ∧ Pv σ H, ⟨_, rfl, h0⟩, fun m σ H ⟨e, p⟩ => by subst e; exact hs σ H p⟩
def restL (n : Nat) (D : Addr) (H : Hp) : Nat := match H D with
  | some (.lst xs) => n + 1 - xs.length
  | _ => 0
theorem restL_at {n : Nat} {D : Addr} {H : Hp} {xs : List V} (h : H D = some (.lst xs)) : restL n D H = n + 1 - xs.length := by
  unfold restL
  rw [h]
def spTurnR (K : PySem.W.Frag) (CR : Addr) : Sp := fun vs H Q _ => ∃ (W a : Addr) (q n : Nat) (R xs : List Int) (s : Int), vs = [.ref W, .ref a, .int s] ∧ RuleOk q n R ∧ RawAt K CR H W q n R ∧ H a = some (.tup (xs.map V.int)) ∧ Num q n xs ∧
  ∀ (v : Addr) (zs : List Int) (H' : Hp), Same H H' → H' v = some (.tup (zs.map V.int)) → Num q n zs → El q R zs = El q R xs ^ (q ^ (s.fmod n).toNat) → Q (.ref v) H'
def spOrbit (K : PySem.W.Frag) (CR : Addr) : Sp := fun vs H Q _ => ∃ (W a : Addr) (q n : Nat) (R xs : List Int), vs = [.ref W, .ref a] ∧ RuleOk q n R ∧ RawAt K CR H W q n R ∧ H a = some (.tup (xs.map V.int)) ∧ Num q n xs ∧
  ∀ (D : Addr) (la : List Addr) (rs : List (List Int)) (H' : Hp), Same H H' → H D = none → H' D = some (.lst (la.map V.ref)) → Rws H' la rs → Xp.LeastT q (El q R xs) rs.length → rs.length ≤ n → (∀ i r, rs[i]? = some r → Num q n r ∧ El q R r = El q R xs ^ (q ^ i)) → Q (.ref D) H'
def spTurnF (K : PySem.W.Frag) (CF CR C : Addr) : Sp := fun vs H Q X => ∃ (F0 a : Addr) (q n : Nat) (R xs : List Int) (s : Int), vs = [.ref F0, .ref a, .int s] ∧ RuleOk q n R ∧ FldAt K CF CR H F0 q n R ∧ H a = some (.tup (xs.map V.int)) ∧ xs.length ≤ 100 ∧
  (Num q n xs → ∀ (v : Addr) (zs : List Int) (H' : Hp), Same H H' → H' v = some (.tup (zs.map V.int)) → Num q n zs → El q R zs = El q R xs ^ (q ^ (s.fmod n).toNat) → Q (.ref v) H') ∧ (¬ Num q n xs → Ex H X C "BadNumber")
def spDegF (K : PySem.W.Frag) (CF CR C : Addr) : Sp := fun vs H Q X => ∃ (F0 a : Addr) (q n : Nat) (R xs : List Int), vs = [.ref F0, .ref a] ∧ RuleOk q n R ∧ FldAt K CF CR H F0 q n R ∧ H a = some (.tup (xs.map V.int)) ∧ xs.length ≤ 100 ∧
  (Num q n xs → ∀ (m : Nat) (H' : Hp), Same H H' → Xp.LeastT q (El q R xs) m → Q (.int m) H') ∧ (¬ Num q n xs → Ex H X C "BadNumber")
def spRefC : Sp := fun vs H Q _ => ∃ s : Int, vs = [.int s] ∧ Q .non H
section
variable {P : Program} {w : World} {K : PySem.W.Frag} {mg : Str → Option Value} {base : Heap}
theorem sc_RawField_turned : FnScope (["self", "number", "steps", "_"] : List Str) ["self", "number", "steps"] (defScope s_RawField_turned) := ⟨rfl, rfl, rfl, by decide +kernel, rfl, by decide +kernel, by decide +kernel⟩
theorem ok_RawField_turned {f CF CR : Addr} {fd : FuncData} (F : FunD K "turned" "RawField.turned" (defArgs s_RawField_turned) (defBody s_RawField_turned) (defScope s_RawField_turned) [] [] f fd) (KC : ClsF K CF CR) (T : Fre mg) (o_weighed : Own P w K mg base CX0 1 "weighed" ["weights", "rows", "start", "prime"] [] (spWgh K)) : FnOk P w K mg base CX0 2 f fd ["self", "number", "steps"] (spTurnR K CR) := by
  refine F.ok sc_RawField_turned (fun vs H Q E h => ?_) (fun cdv A outer s H vs Q E hr h => ?_)
  · obtain ⟨W, a, q, n, R, xs, s, rfl, _⟩ := h
    rfl
  · obtain ⟨W, a, q, n, R, xs, st, rfl, hR, hW, ha, nx, k⟩ := h
    have n1 := hR.n1
    have n12 := hR.n12
    have hpm := hR.pm
    have lR := hR.len
    refine ⟨_, PSs.nox (pss_cons (ps_for PassesOwn.never rfl (pi_range1 (by rfl) T.f_range (pa_cons (pe_op op_modN (pv 2) (pe_fld (pv 0) rfl)) pa_nil)) (pg_name (i := 3) sc_RawField_turned.nd rfl (Or.inl rfl)) (pss_one (ps_set (i := 1) sc_RawField_turned.nd rfl (Or.inl rfl) (pe_own o_weighed (hr.mono (by decide)) rfl pass0 (pa_cons (pv 1) (pa_cons (pe_fld (pv 0) rfl) (pa_cons (pe_fld (pv 0) rfl) (pa_cons (pe_fld (pv 0) rfl) pa_nil))))))))
      (pss_one (ps_ret (pv 1)))) , ?_⟩
    obtain ⟨dx, rr, z, u, tt, ht, lt, lh, ts, hs, eW, _, ez, _, ett, htt, lts, htr, _⟩ := id hW.ex
    have m0 := Int.fmod_nonneg_of_pos st (show (0 : Int) < n by omega)
    have m1 := Int.fmod_lt_of_pos st (show (0 : Int) < n by omega)
    refine ⟨_, rfl, _, rfl, W, CR, dx, _, _, rfl, eW, KC.clR, KC.r2, rawFs_width _ _ _ _ _ _ _, _, _, rfl, rfl, (by show (n : Int) ≠ 0; omega), ?_⟩
    refine ⟨st.fmod n, rfl, by omega, by omega, ?_⟩
    refine for_range (lo := 0) (n := (st.fmod n).toNat) (fun i σ' H' => ∃ (c : Addr) (ys : List Int) (x3 : Option V), σ' = [some (.ref W), some (.ref c), some (.int st), x3] ∧ Same H H' ∧ H' c = some (.tup (ys.map V.int)) ∧ Num q n ys ∧ El q R ys = El q R xs ^ (q ^ i)) ⟨a, xs, none, rfl, fun _ _ z => z, ha, nx, by rw [Nat.pow_zero, Lean.Grind.Semiring.pow_one]⟩ ?_ ?_
    · rintro i σ' H1 hi ⟨c, ys, x3, rfl, s1, ec, ny, ey⟩
      have ly := ny.len
      refine ⟨_, rfl, _, rfl, W, CR, dx, _, _, rfl, s1 _ _ eW, KC.clR, KC.r5, rawFs_turn _ _ _ _ _ _ _, _, rfl, W, CR, dx, _, _, rfl, s1 _ _ eW, KC.clR, KC.r3, rawFs_nought _ _ _ _ _ _ _, _, rfl, W, CR, dx, _, _, rfl, s1 _ _ eW, KC.clR, KC.r1, rawFs_base _ _ _ _ _ _ _, ?_⟩
      refine ⟨c, tt, z, lt, ys, ts, n, (q : Int), rfl, ec, s1 _ _ ett, htt.keep (kpS s1), SqT.of (s1 _ _ ez), by omega, by omega, by omega, ny.rs, fun r hr' => ?_, hpm, fun v ms H2 s2 ev lm rm em => ?_⟩
      · obtain ⟨j, hj⟩ := List.mem_iff_getElem?.mp hr'
        have := htr j r hj
        exact ⟨by have := this.len; omega, this.rs⟩
      · refine ⟨v, ms, _, rfl, s1.trans s2, ev, ⟨lm, rm⟩, ?_⟩
        rw [show El q R ms = El q R ys ^ q from Xp.turn_el hR.q0 (fb_primes hR.hp) (by omega) (fun j r hj => (htr j r hj).cg) em, ey, Xp.pow_succ']
    · rintro σ' H1 ⟨c, ys, x3, rfl, s1, ec, ny, ey⟩
      exact ⟨_, rfl, k c ys H1 s1 ec ny ey⟩
theorem sc_refuse_count : FnScope (["told"] : List Str) ["told"] (defScope s_refuse_count) := ⟨rfl, rfl, rfl, by decide +kernel, rfl, by decide +kernel, by decide +kernel⟩
theorem ok_refuse_count {f : Addr} {fd : FuncData} (F : FunD K "refuse_count" "refuse_count" (defArgs s_refuse_count) (defBody s_refuse_count) (defScope s_refuse_count) [] [] f fd) (o_is_number : Own P w K mg base CX0 1 "is_number" ["told"] [] spIsNum) : FnOk P w K mg base (L2.CX P w) 2 f fd ["told"] spRefC := by
  refine F.ok sc_refuse_count (fun vs H Q E h => ?_) (fun cdv A outer s H vs Q E hr h => ?_)
  · obtain ⟨s, rfl, _⟩ := h
    rfl
  · obtain ⟨st, rfl, k⟩ := h
    refine ⟨_, (pss_one (ps_if (pt_not (pt_val (pe_own o_is_number (hr.mono (by decide)) rfl pass0 (pa_cons (pv 0) pa_nil)))) (pss_one psNoF) pss_nil)) , ?_⟩
    exact ⟨_, rfl, st, rfl, _, rfl, iteF k⟩
theorem sc_RawField_orbit : FnScope (["self", "number", "told", "turn"] : List Str) ["self", "number"] (defScope s_RawField_orbit) := ⟨rfl, rfl, rfl, by decide +kernel, rfl, by decide +kernel, by decide +kernel⟩
theorem ok_RawField_orbit {f CF CR : Addr} {fd : FuncData} (F : FunD K "orbit" "RawField.orbit" (defArgs s_RawField_orbit) (defBody s_RawField_orbit) (defScope s_RawField_orbit) [] [] f fd) (KC : ClsF K CF CR) (o_RawField_turned : OwnM P w K mg base CX0 2 CR "turned" ["self", "number", "steps"] [] (spTurnR K CR)) : FnOk P w K mg base CX0 3 f fd ["self", "number"] (spOrbit K CR) := by
  refine F.ok sc_RawField_orbit (fun vs H Q E h => ?_) (fun cdv A outer s H vs Q E hr h => ?_)
  · obtain ⟨W, a, q, n, R, xs, rfl, _⟩ := h
    rfl
  · obtain ⟨W, a, q, n, R, xs, rfl, hR, hW, ha, nx, k⟩ := h
    have n1 := hR.n1
    have n12 := hR.n12
    refine ⟨_, PSs.nox (pss_cons (ps_set (i := 2) sc_RawField_orbit.nd rfl (Or.inl rfl) (pe_lst (pa_cons (pv 1) pa_nil)))
      (pss_cons (ps_set (i := 3) sc_RawField_orbit.nd rfl (Or.inl rfl) (pe_ownM o_RawField_turned (hr.mono (by decide)) pass0 (pv 0) (pa_cons (pv 1) (pa_cons pe_int pa_nil))))
      (pss_cons (ps_while PassesOwn.never (pt_cmpR (op_neD hr.units) (pv 3) (pv 1) (nomark _)) (pss_cons (ps_expr (pe_bm PySem.F.plainAttrs_list PySem.F.slot_list_append PySem.F.type_list_append mt_append (pv 2) (pa_cons (pv 3) pa_nil)))
      (pss_one (ps_set (i := 3) sc_RawField_orbit.nd rfl (Or.inl rfl) (pe_ownM o_RawField_turned (hr.mono (by decide)) pass0 (pv 0) (pa_cons (pv 3) (pa_cons pe_int pa_nil)))))))
      (pss_one (ps_ret (pv 2)))))) , ?_⟩
    refine ⟨_, rfl, (by show 1 ≤ sizeLine; decide), fun D nD => ?_⟩
    have sD := same_upd (o := .lst [.ref a]) nD
    obtain ⟨dx, rr, z, u, tt, ht, lt, lh, ts0, hs, eW, _⟩ := id hW.ex
    refine ⟨_, rfl, W, dx, _, rfl, sD _ _ eW, rfl, _, rfl, W, a, q, n, R, xs, 1, rfl, hR, hW.stay (.same sD), sD _ _ ha, nx, fun t ts H1 s1 et nt e_t => ?_⟩
    have r1 := hR.red (El q R xs) 1
    rw [show (((1 : Nat) : Int).fmod (n : Int)).toNat = ((1 : Int).fmod (n : Int)).toNat from rfl, ← e_t] at r1
    refine whileQ (fun σ' H' => ∃ (la : List Addr) (rs : List (List Int)) (t : Addr) (ts : List Int), σ' = [some (.ref W), some (.ref a), some (.ref D), some (.ref t)] ∧ Same H H' ∧ H' D = some (.lst (la.map V.ref)) ∧ Rws H' la rs ∧ 1 ≤ rs.length ∧ rs.length ≤ n ∧ (∀ i r, rs[i]? = some r → Num q n r ∧ El q R r = El q R xs ^ (q ^ i)) ∧ H' t = some (.tup (ts.map V.int)) ∧ Num q n ts ∧ El q R ts = El q R xs ^ (q ^ rs.length) ∧ ∀ j, 1 ≤ j → j < rs.length → El q R xs ^ (q ^ j) ≠ El q R xs) (fun _ H' => restL n D H')
      ⟨[a], [xs], t, ts, rfl, sD.trans s1, s1 _ _ upd_same, ⟨s1 _ _ (sD _ _ ha), trivial⟩, Nat.le_refl 1, n1, fun i r hi => ?_, et, nt, r1, fun j j1 j2 => absurd j2 (by show ¬ j < 1; omega)⟩ ?_
    · match i, hi with
      | 0, hi =>
        cases hi
        exact ⟨nx, by rw [Nat.pow_zero, Lean.Grind.Semiring.pow_one]⟩
    · rintro σ' H2 ⟨la, rs, t, ts, rfl, s2, eD, hD, l1, ln, hr2, et, nt, e_t, no⟩
      have lla := hD.len
      refine ⟨_, rfl, _, rfl, _, _, dp_tup (SqT.of et), dp_tup (SqT.of (s2 _ _ ha)), sh_ints _, sh_ints _, _, rfl, ?_⟩
      rw [eqv_dec]
      by_cases h : ts = xs
      · rw [decide_eq_true h]
        refine iteF ⟨_, rfl, k D la rs H2 s2 nD eD hD ⟨l1, ?_, no⟩ ln hr2⟩
        rw [← e_t, h]
      · rw [decide_eq_false h]
        have lt2 : rs.length < n := by
          rcases Nat.lt_or_ge rs.length n with g | g
          · exact g
          · exfalso
            refine h (hR.eq nt nx ?_)
            rw [e_t, show rs.length = n by omega, hR.all]
        refine iteT ⟨fun σ' H' => (∃ (la : List Addr) (rs : List (List Int)) (t : Addr) (ts : List Int), σ' = [some (.ref W), some (.ref a), some (.ref D), some (.ref t)] ∧ Same H H' ∧ H' D = some (.lst (la.map V.ref)) ∧ Rws H' la rs ∧ 1 ≤ rs.length ∧ rs.length ≤ n ∧ (∀ i r, rs[i]? = some r → Num q n r ∧ El q R r = El q R xs ^ (q ^ i)) ∧ H' t = some (.tup (ts.map V.int)) ∧ Num q n ts ∧ El q R ts = El q R xs ^ (q ^ rs.length) ∧ ∀ j, 1 ≤ j → j < rs.length → El q R xs ^ (q ^ j) ≠ El q R xs) ∧ restL n D H' < restL n D H2, fun σ' H' ⟨p, z⟩ => ⟨_, z, rfl, p⟩, ?_⟩
        refine ⟨_, rfl, .inl ⟨rfl, _, SqL.of eD⟩, _, rfl, D, _, _, rfl, rfl, eD, ?_, ?_⟩
        · rw [List.length_map]
          exact small1000 (by omega)
        have S3 : Same H (L2.upd H2 D (.lst (la.map V.ref ++ [.ref t]))) := lcs nD s2
        have et3 := tupL (ys := la.map V.ref ++ [.ref t]) eD et
        refine ⟨_, rfl, W, dx, _, rfl, S3 _ _ eW, rfl, _, rfl, W, t, q, n, R, ts, 1, rfl, hR, hW.stay (.same S3), et3, nt, fun v zs H4 s4 ev nz ez => ?_⟩
        have r2 := hR.red (El q R ts) 1
        rw [show (((1 : Nat) : Int).fmod (n : Int)).toNat = ((1 : Int).fmod (n : Int)).toNat from rfl, ← ez, Nat.pow_one, e_t, Xp.pow_succ'] at r2
        have eD4 : H4 D = some (.lst ((la ++ [t]).map V.ref)) := by
          rw [s4 _ _ upd_same, List.map_append]
          rfl
        have lrs : (rs ++ [ts]).length = rs.length + 1 := List.length_append
        refine ⟨⟨la ++ [t], rs ++ [ts], v, zs, rfl, S3.trans s4, eD4, ((Rws.snoc et hD).lst eD).keep (kpS s4), by omega, by omega, fun i r hi => ?_, ev, nz, by rw [lrs]; exact r2, fun j j1 j2 => ?_⟩, ?_⟩
        · rcases Nat.lt_or_ge i rs.length with g | g
          · rw [List.getElem?_append_left g] at hi
            exact hr2 i r hi
          · rw [List.getElem?_append_right g] at hi
            have j0 : i - rs.length = 0 := by
              rcases Nat.eq_zero_or_pos (i - rs.length) with zz | zz
              · exact zz
              · rw [List.getElem?_eq_none (by rw [List.length_singleton]; exact zz)] at hi
                cases hi
            rw [j0] at hi
            cases hi
            rw [show i = rs.length by omega]
            exact ⟨nt, e_t⟩
        · rcases Nat.lt_or_ge j rs.length with g | g
          · exact no j j1 g
          · have ej : j = rs.length := by omega
            rw [ej, ← e_t]
            exact fun zz => h (hR.eq nt nx zz)
        · rw [restL_at eD4, restL_at eD, List.length_map, List.length_map, List.length_append, List.length_singleton]
          omega
theorem sc_Field_turned : FnScope (["self", "number", "steps"] : List Str) ["self", "number", "steps"] (defScope s_Field_turned) := ⟨rfl, rfl, rfl, by decide +kernel, rfl, by decide +kernel, by decide +kernel⟩
theorem ok_Field_turned {f CF CR : Addr} {C : Fin 14 → Addr} {fd : FuncData} {kws : List (Str × V)} (F : FunD K "turned" "Field.turned" (defArgs s_Field_turned) (defBody s_Field_turned) (defScope s_Field_turned) [] kws f fd) (KC : ClsF K CF CR) (o_refuse_numbers : Own P w K mg base (L2.CX P w) 4 "refuse_numbers" ["raw", "told"] [] (spRefNs K CR (C 3))) (o_refuse_count : Own P w K mg base (L2.CX P w) 2 "refuse_count" ["told"] [] spRefC) (o_RawField_turned : OwnM P w K mg base CX0 2 CR "turned" ["self", "number", "steps"] [] (spTurnR K CR)) : FnOk P w K mg base (L2.CX P w) 5 f fd ["self", "number", "steps"] (spTurnF K CF CR (C 3)) := by
  refine F.ok sc_Field_turned (fun vs H Q E h => ?_) (fun cdv A outer s H vs Q E hr h => ?_)
  · obtain ⟨F0, a, q, n, R, xs, s, rfl, _⟩ := h
    rfl
  · obtain ⟨F0, a, q, n, R, xs, st, rfl, hR, hF, ha, la, h1, h2⟩ := h
    refine ⟨_, (pss_cons (ps_expr (pe_own o_refuse_numbers (hr.mono (by decide)) rfl (passes_call (takes_of rfl rfl rfl rfl) (fun _ _ _ _ h => h)) (pa_cons (pe_fld (pv 0) rfl) (pa_cons (pe_tup (pa_cons (pv 1) pa_nil)) pa_nil))))
      (pss_cons (ps_expr (pe_own o_refuse_count (hr.mono (by decide)) rfl (passes_call (takes_of rfl rfl rfl rfl) (fun _ _ _ _ h => h)) (pa_cons (pv 2) pa_nil)))
      (pss_one (ps_ret (pe_ownM o_RawField_turned (hr.mono (by decide)) pass0 (pe_fld (pv 0) rfl) (pa_cons (pv 1) (pa_cons (pv 2) pa_nil))))))) , ?_⟩
    obtain ⟨dx, rr, W, eF, eR, hW⟩ := id hF.ex
    refine ⟨_, rfl, F0, CF, dx, _, .ref W, rfl, eF, KC.clF, KC.f2, rfl, _, rfl, (by show 1 ≤ sizeLine; decide), fun c hc => ⟨W, c, [a], [xs], q, n, R, rfl, hR, hW.stay (.same (same_upd hc)), SqT.of upd_same, rfl, fun i a' xs' h1' h2' => ?_, fun hn H1 s1 => ?_, fun hn => ?_⟩⟩
    · match i, h1', h2' with
      | 0, h1', h2' => cases h1'; cases h2'; exact ⟨sameT (same_upd hc) (SqT.of ha), la⟩
    · have s2 := (same_upd hc).trans s1
      have nx := hn xs List.mem_cons_self
      have W2 := hW.stay (.same s2)
      obtain ⟨dw, rr2, z2, u2, tt2, ht2, lt2, lh2, ts2, hs2, eW, _⟩ := id W2.ex
      refine ⟨_, rfl, st, rfl, ?_⟩
      refine ⟨_, rfl, F0, CF, dx, _, .ref W, rfl, s2 _ _ eF, KC.clF, KC.f2, rfl, W, dw, _, rfl, eW, rfl, _, rfl, _, rfl, W, a, q, n, R, xs, st, rfl, hR, W2, s2 _ _ ha, nx, fun v zs H3 s3 ev nz ez => h1 nx v zs H3 (s2.trans s3) ev nz ez⟩
    · refine (h2 (fun z => hn fun zs hzs => ?_)).same (same_upd hc)
      rw [List.mem_singleton.mp hzs]
      exact z
theorem sc_Field_degree : FnScope (["self", "number"] : List Str) ["self", "number"] (defScope s_Field_degree) := ⟨rfl, rfl, rfl, by decide +kernel, rfl, by decide +kernel, by decide +kernel⟩
theorem ok_Field_degree {f CF CR : Addr} {C : Fin 14 → Addr} {fd : FuncData} (F : FunD K "degree" "Field.degree" (defArgs s_Field_degree) (defBody s_Field_degree) (defScope s_Field_degree) [] [] f fd) (T : Fre mg) (KC : ClsF K CF CR) (o_refuse_numbers : Own P w K mg base (L2.CX P w) 4 "refuse_numbers" ["raw", "told"] [] (spRefNs K CR (C 3))) (o_RawField_orbit : OwnM P w K mg base CX0 3 CR "orbit" ["self", "number"] [] (spOrbit K CR)) : FnOk P w K mg base (L2.CX P w) 5 f fd ["self", "number"] (spDegF K CF CR (C 3)) := by
  refine F.ok sc_Field_degree (fun vs H Q E h => ?_) (fun cdv A outer s H vs Q E hr h => ?_)
  · obtain ⟨F0, a, q, n, R, xs, rfl, _⟩ := h
    rfl
  · obtain ⟨F0, a, q, n, R, xs, rfl, hR, hF, ha, la, h1, h2⟩ := h
    refine ⟨_, (pss_cons (ps_expr (pe_own o_refuse_numbers (hr.mono (by decide)) rfl (passes_call (takes_of rfl rfl rfl rfl) (fun _ _ _ _ h => h)) (pa_cons (pe_fld (pv 0) rfl) (pa_cons (pe_tup (pa_cons (pv 1) pa_nil)) pa_nil))))
      (pss_one (ps_ret (pe_callB call_len_seq (by rfl) T.f_len PySem.boot_len (pa_cons (pe_ownM o_RawField_orbit (hr.mono (by decide)) pass0 (pe_fld (pv 0) rfl) (pa_cons (pv 1) pa_nil)) pa_nil))))) , ?_⟩
    obtain ⟨dx, rr, W, eF, eR, hW⟩ := id hF.ex
    refine ⟨_, rfl, F0, CF, dx, _, .ref W, rfl, eF, KC.clF, KC.f2, rfl, _, rfl, (by show 1 ≤ sizeLine; decide), fun c hc => ⟨W, c, [a], [xs], q, n, R, rfl, hR, hW.stay (.same (same_upd hc)), SqT.of upd_same, rfl, fun i a' xs' h1' h2' => ?_, fun hn H1 s1 => ?_, fun hn => ?_⟩⟩
    · match i, h1', h2' with
      | 0, h1', h2' => cases h1'; cases h2'; exact ⟨sameT (same_upd hc) (SqT.of ha), la⟩
    · have s2 := (same_upd hc).trans s1
      have nx := hn xs List.mem_cons_self
      have W2 := hW.stay (.same s2)
      obtain ⟨dw, rr2, z2, u2, tt2, ht2, lt2, lh2, ts2, hs2, eW, _⟩ := id W2.ex
      refine ⟨_, rfl, F0, CF, dx, _, .ref W, rfl, s2 _ _ eF, KC.clF, KC.f2, rfl, W, dw, _, rfl, eW, rfl, _, rfl, W, a, q, n, R, xs, rfl, hR, W2, s2 _ _ ha, nx, fun D ld rs H3 s3 nD eD hD lt le hr3 => ⟨D, _, rfl, .inl (SqL.of eD), ?_⟩⟩
      rw [List.length_map, hD.len]
      exact h1 nx rs.length H3 (s2.trans s3) lt
    · refine (h2 (fun z => hn fun zs hzs => ?_)).same (same_upd hc)
      rw [List.mem_singleton.mp hzs]
      exact z
end
end Xk
end
section
set_option linter.all false
set_option maxHeartbeats 1000000
/-! What a level rule leaves, reckoned from the top (no program in it). -/
namespace Xp
/-- x is put before what is left -/
def rmS (p : Int) (t : List Int) (x : Int) (r : List Int) : List Int := List.zipWith (fun a b => (a - r.getD (r.length - 1) 0 * b) % p) (x :: r.take (r.length - 1)) t
def rm (p : Int) (t : List Int) : List Int → List Int
  | [] => List.replicate t.length 0
  | x :: xs => rmS p t x (rm p t xs)
theorem rm_len {p : Int} {t : List Int} (ht : 1 ≤ t.length) : ∀ xs, (rm p t xs).length = t.length
  | [] => List.length_replicate
  | x :: xs => by
    have ih := rm_len (p := p) ht xs
    show (List.zipWith _ _ _).length = _
    rw [List.length_zipWith, List.length_cons, List.length_take, ih]
    omega
theorem zw_at (f : Int → Int → Int) : ∀ (a b : List Int) (k : Nat), k < a.length → k < b.length → (List.zipWith f a b).getD k 0 = f (a.getD k 0) (b.getD k 0)
  | x :: a, y :: b, 0, _, _ => rfl
  | x :: a, y :: b, k + 1, h, h2 => zw_at f a b k (Nat.lt_of_succ_lt_succ h) (Nat.lt_of_succ_lt_succ h2)
  | [], _, _, h, _ => absurd h (Nat.not_lt_zero _)
  | _ :: _, [], _, _, h => absurd h (Nat.not_lt_zero _)
theorem cf_app (a : List Int) (x : Int) (k : Nat) : cf (a ++ [x]) k = if k < a.length then cf a k else if k = a.length then x else 0 := by
  show (a ++ [x]).getD k 0 = _
  rw [List.getD_eq_getElem?_getD]
  by_cases h : k < a.length
  · rw [if_pos h, List.getElem?_append_left h]
    rfl
  · rw [if_neg h, List.getElem?_append_right (by omega)]
    by_cases e : k = a.length
    · rw [if_pos e, e, Nat.sub_self]
      rfl
    · rw [if_neg e, List.getElem?_eq_none (by rw [List.length_singleton]; omega)]
      rfl
theorem cf_cons (x : Int) (r : List Int) : cf (x :: r) = ad (sc x one) (xs (cf r)) := funext fun k => by
  match k with
  | 0 =>
    show x = x * 1 + 0
    omega
  | k + 1 =>
    show cf r k = x * one (k + 1) + cf r k
    rw [show one (k + 1) = 0 from if_neg (by omega)]
    omega
theorem rmS_cg {p : Int} {t : List Int} (ht : 1 ≤ t.length) (x : Int) {r : List Int} (hr : r.length = t.length) : Cg p (lv t) (cf (x :: r)) (cf (rmS p t x r)) := by
  have l := r.getD (r.length - 1) 0
  refine ⟨sc (r.getD (r.length - 1) 0) one, Fi.one.sc _, fun k => ?_⟩
  rw [cv_sc, cv1]
  show (cf (x :: r) k + -1 * cf (rmS p t x r) k) % p = (r.getD (r.length - 1) 0 * lv t k) % p
  rw [show lv t k = _ from cf_app t 1 k]
  have ln : (x :: r.take (r.length - 1)).length = t.length := by
    rw [List.length_cons, List.length_take]
    omega
  by_cases h : k < t.length
  · rw [if_pos h]
    have e : cf (rmS p t x r) k = ((x :: r.take (r.length - 1)).getD k 0 - r.getD (r.length - 1) 0 * t.getD k 0) % p := zw_at _ _ _ k (by omega) h
    have e2 : (x :: r.take (r.length - 1)).getD k 0 = cf (x :: r) k := by
      match k, h with
      | 0, _ => rfl
      | k + 1, h =>
        show (r.take (r.length - 1)).getD k 0 = r.getD k 0
        rw [List.getD_eq_getElem?_getD, List.getD_eq_getElem?_getD, List.getElem?_take_of_lt (by omega)]
    rw [e, e2]
    show (cf (x :: r) k + -1 * ((cf (x :: r) k - r.getD (r.length - 1) 0 * t.getD k 0) % p)) % p = (r.getD (r.length - 1) 0 * t.getD k 0) % p
    generalize cf (x :: r) k = A
    generalize r.getD (r.length - 1) 0 * t.getD k 0 = B
    rw [show A + -1 * ((A - B) % p) = A - (A - B) % p by omega, Int.sub_emod, Int.emod_emod_of_dvd _ (Int.dvd_refl p), ← Int.sub_emod]
    congr 1
    omega
  · rw [if_neg h]
    have e : cf (rmS p t x r) k = 0 := by
      show (rmS p t x r).getD k 0 = 0
      rw [List.getD_eq_getElem?_getD, List.getElem?_eq_none (by
        show (List.zipWith _ _ _).length ≤ k
        rw [List.length_zipWith]
        omega)]
      rfl
    rw [e]
    by_cases h2 : k = t.length
    · rw [if_pos h2, h2]
      obtain ⟨j, hj⟩ : ∃ j, t.length = j + 1 := ⟨t.length - 1, by omega⟩
      rw [hj, hr, hj]
      show (r.getD j 0 + -1 * 0) % p = (r.getD (j + 1 - 1) 0 * 1) % p
      rw [Nat.add_sub_cancel, Int.mul_one, Int.mul_zero, Int.add_zero]
    · rw [if_neg h2]
      have : cf (x :: r) k = 0 := by
        show (x :: r).getD k 0 = 0
        rw [List.getD_eq_getElem?_getD, List.getElem?_eq_none (by rw [List.length_cons]; omega)]
        rfl
      rw [this, Int.mul_zero, Int.mul_zero]
      rfl
theorem rm_cg {p : Int} {t : List Int} (ht : 1 ≤ t.length) : ∀ xs, Cg p (lv t) (cf xs) (cf (rm p t xs))
  | [] => Cg.of fun k => by
    have : cf (List.replicate t.length 0) k = 0 := by
      show (List.replicate t.length (0 : Int)).getD k 0 = 0
      rw [List.getD_eq_getElem?_getD, List.getElem?_replicate]
      split <;> rfl
    show (0 : Int) % p = cf (List.replicate t.length 0) k % p
    rw [this]
  | x :: xs => by
    refine Cg.trans ?_ (rmS_cg ht x (rm_len ht xs))
    rw [cf_cons, cf_cons]
    refine (Cg.refl _ _ _).ad ?_
    have e : ∀ f : Cf, Xp.xs f = cv (Xp.xs one) f := fun f => by rw [cv_xs, one_cv]
    rw [e (cf xs), e (cf _)]
    exact (Cg.refl p (lv t) (Xp.xs one)).cv (rm_cg ht xs) (Fi.list _) Po.X.fi
/-- a level rule divides just where nothing is left -/
theorem rm_dv {p : Nat} (hp : 2 ≤ p) {e : Nat} (e1 : 1 ≤ e) {t : List Int} (ht : t ∈ tp p e) {xs : List Int} (h : Dv p (lv t) (cf xs)) : ∀ k, (rm p t xs).getD k 0 % (p : Int) = 0 := fun k => by
  have lt := (tp_mem.mp ht).1
  have d : Dv p (lv t) (cf (rm p t xs)) := (rm_cg (by omega) xs).symm.dv h
  have := short_zero (by exact_mod_cast hp) (lv_dg hp ht) (fun j hj => by
    rw [cf_out (by rw [rm_len (by omega)]; omega)]
    exact Int.zero_emod _) d k
  rw [show nul k = 0 from rfl, Int.zero_emod] at this
  exact this
/-- no level rule of these degrees divides, tried out -/
def noneB (p : Nat) (n : Nat) (xs : List Int) : Bool := (List.range n).all fun e => (tp p (e + 1)).all fun t => (rm p t xs).any fun x => x % (p : Int) != 0
theorem none_of {p : Nat} (hp : 2 ≤ p) {n : Nat} {xs : List Int} (h : noneB p n xs = true) {e : Nat} (e1 : 1 ≤ e) (e2 : e ≤ n) {t : List Int} (ht : t ∈ tp p e) : ¬ Dv p (lv t) (cf xs) := fun d => by
  unfold noneB at h
  rw [List.all_eq_true] at h
  have h1 := h (e - 1) (List.mem_range.mpr (by omega))
  rw [List.all_eq_true, show e - 1 + 1 = e by omega] at h1
  obtain ⟨x, hx, hn⟩ := List.any_eq_true.mp (h1 t ht)
  obtain ⟨k, hk⟩ := List.mem_iff_getElem?.mp hx
  have := rm_dv hp e1 ht d k
  rw [List.getD_eq_getElem?_getD, hk] at this
  have z : x % (p : Int) = 0 := this
  rw [z] at hn
  exact absurd hn (by decide)
end Xp
end
section
set_option linter.all false
set_option maxHeartbeats 1000000
/-! Whole ones shown by what undoes x to powers of the prime, less x (no program in it). -/
namespace Xp
open Lean.Grind
def addL : List Int → List Int → List Int
  | [], b => b
  | x :: a, [] => x :: a
  | x :: a, y :: b => (x + y) :: addL a b
def mulL : List Int → List Int → List Int
  | [], _ => []
  | x :: a, b => addL (b.map (x * ·)) (0 :: mulL a b)
theorem of_addL : ∀ a b : List Int, Po.of (addL a b) = Po.of a + Po.of b
  | [], b => by
    show Po.of b = _
    rw [of_nil]
    grind
  | x :: a, [] => by
    show Po.of (x :: a) = _
    rw [of_nil]
    grind
  | x :: a, y :: b => by
    show Po.of ((x + y) :: addL a b) = _
    rw [of_cons, of_cons, of_cons, of_addL a b, Po.C_add]
    grind
theorem of_scL (c : Int) : ∀ b : List Int, Po.of (b.map (c * ·)) = Po.C c * Po.of b
  | [] => by
    show Po.of [] = _
    rw [of_nil]
    grind
  | y :: b => by
    show Po.of ((c * y) :: b.map (c * ·)) = _
    rw [of_cons, of_cons, of_scL c b, Po.C_mul]
    grind
theorem of_mulL : ∀ a b : List Int, Po.of (mulL a b) = Po.of a * Po.of b
  | [], b => by
    show Po.of [] = _
    rw [of_nil]
    grind
  | x :: a, b => by
    show Po.of (addL (b.map (x * ·)) (0 :: mulL a b)) = _
    rw [of_addL, of_scL, of_cons, of_cons, of_mulL a b, Po.C_zero]
    grind
theorem el_rm {p : Int} {t : List Int} (ht : 1 ≤ t.length) (xs : List Int) : el p (lv t) (rm p t xs) = el p (lv t) xs := el_eq.mpr (rm_cg ht xs).symm
theorem el_mul {p : Int} {f : Cf} (a b : List Int) : el p f (mulL a b) = el p f a * el p f b := by
  show (Qu.mk (Po.of (mulL a b)) : Fq p f) = _
  rw [of_mulL]
  rfl
theorem el_add {p : Int} {f : Cf} (a b : List Int) : el p f (addL a b) = el p f a + el p f b := by
  show (Qu.mk (Po.of (addL a b)) : Fq p f) = _
  rw [of_addL]
  rfl
theorem el_cons0 {p : Int} {f : Cf} (a : List Int) : el p f (0 :: a) = Qu.mk Po.X * el p f a := by
  show (Qu.mk (Po.of (0 :: a)) : Fq p f) = _
  rw [of_cons, Po.C_zero, show (0 : Po) + Po.X * Po.of a = Po.X * Po.of a from by grind]
  rfl
theorem el_one {p : Int} {f : Cf} : el p f [1] = 1 := by
  show (Qu.mk (Po.of [1]) : Fq p f) = _
  rw [of_cons, of_nil, Po.C_one, show (1 : Po) + Po.X * 0 = 1 from by grind]
  rfl
theorem el_C {p : Int} {f : Cf} (c : Int) : el p f [c] = mC p f c := by
  show (Qu.mk (Po.of [c]) : Fq p f) = _
  rw [of_cons, of_nil, show Po.C c + Po.X * 0 = Po.C c from by grind]
/-- what x to a power leaves -/
def xpL (p : Int) (t : List Int) : Nat → List Int
  | 0 => rm p t [1]
  | n + 1 => rm p t (0 :: xpL p t n)
theorem el_xp {p : Int} {t : List Int} (ht : 1 ≤ t.length) : ∀ n, el p (lv t) (xpL p t n) = Qu.mk Po.X ^ n
  | 0 => by
    show el p (lv t) (rm p t [1]) = _
    rw [el_rm ht, el_one, Semiring.pow_zero]
  | n + 1 => by
    show el p (lv t) (rm p t (0 :: xpL p t n)) = _
    rw [el_rm ht, el_cons0, el_xp ht n, Semiring.pow_succ]
    grind
def hvL (p : Int) (t y : List Int) : List Int → List Int
  | [] => []
  | c :: cs => rm p t (addL [c] (mulL y (hvL p t y cs)))
theorem el_hvL {p : Int} {t : List Int} (ht : 1 ≤ t.length) (y : List Int) : ∀ cs, el p (lv t) (hvL p t y cs) = hv (mC p (lv t)) (el p (lv t) y) cs
  | [] => by
    show (Qu.mk (Po.of []) : Fq p (lv t)) = 0
    rw [of_nil]
    rfl
  | c :: cs => by
    show el p (lv t) (rm p t (addL [c] (mulL y (hvL p t y cs)))) = mC p (lv t) c + el p (lv t) y * hv (mC p (lv t)) (el p (lv t) y) cs
    rw [el_rm ht, el_add, el_C, el_mul, el_hvL ht y cs]
def pwL (p : Int) (t s : List Int) : Nat → List Int
  | 0 => rm p t [1]
  | n + 1 => rm p t (mulL s (pwL p t s n))
theorem el_pwL {p : Int} {t : List Int} (ht : 1 ≤ t.length) (s : List Int) : ∀ n, el p (lv t) (pwL p t s n) = el p (lv t) s ^ n
  | 0 => by
    show el p (lv t) (rm p t [1]) = _
    rw [el_rm ht, el_one, Semiring.pow_zero]
  | n + 1 => by
    show el p (lv t) (rm p t (mulL s (pwL p t s n))) = _
    rw [el_rm ht, el_mul, el_pwL ht s n, Semiring.pow_succ]
    grind
/-- one turn more, the shorter way -/
def nxL (p : Nat) (t y s : List Int) : List Int := if p < t.length then pwL p t s p else hvL p t y s
def chk (p : Nat) (t y : List Int) : List (List Int) → List Int → Bool
  | [], _ => true
  | u :: us, s => decide (rm p t (mulL (addL (nxL p t y s) [0, -1]) u) = 1 :: List.replicate (t.length - 1) 0) && chk p t y us (nxL p t y s)
theorem el_unit {p : Int} {f : Cf} (n : Nat) : el p f (1 :: List.replicate n 0) = 1 := by
  have z : ∀ n, Po.of (List.replicate n 0) = 0 := fun n => by
    induction n with
    | zero => exact of_nil
    | succ n ih =>
      rw [List.replicate_succ, of_cons, ih, Po.C_zero]
      grind
  show (Qu.mk (Po.of (1 :: List.replicate n 0)) : Fq p f) = _
  rw [of_cons, z, Po.C_one, show (1 : Po) + Po.X * 0 = 1 from by grind]
  rfl
theorem el_negx {p : Int} {f : Cf} : el p f [0, -1] = -Qu.mk Po.X := by
  rw [el_cons0, el_C]
  have : (mC p f (-1) : Fq p f) = -1 := by
    have h : Po.C (-1) = -1 := Po.ext rfl
    show (Qu.mk (Po.C (-1)) : Fq p f) = _
    rw [h, Qu.mk_neg, Qu.mk_one]
  rw [this]
  grind
theorem chk_ok {p : Nat} (hp : 2 ≤ p) (fb : Fb p) {t y : List Int} (ht : 1 ≤ t.length) (hy : el (p : Int) (lv t) y = Qu.mk Po.X ^ p) : ∀ {us : List (List Int)} {s : List Int} {k : Nat}, el (p : Int) (lv t) s = Qu.mk Po.X ^ (p ^ k) → chk p t y us s = true → ∀ j, j < us.length → ∃ z : Fq p (lv t), (Qu.mk Po.X ^ (p ^ (k + j + 1)) - Qu.mk Po.X) * z = 1
  | [], s, k, _, _, j, hj => absurd hj (Nat.not_lt_zero _)
  | u :: us, s, k, es, h, j, hj => by
    unfold chk at h
    obtain ⟨h1, h2⟩ := Bool.and_eq_true_iff.mp h
    have h1 := _root_.of_decide_eq_true h1
    have e1 : el (p : Int) (lv t) (nxL p t y s) = Qu.mk Po.X ^ (p ^ (k + 1)) := by
      unfold nxL
      split
      · rw [el_pwL ht, es, Nat.pow_succ, pow_mulR]
      · rw [el_hvL ht, hy, ← hv_turn hp fb, ← el_hv, es, Nat.pow_succ, pow_mulR]
    match j with
    | 0 =>
      refine ⟨el p (lv t) u, ?_⟩
      have e := congrArg (el (p : Int) (lv t)) h1
      rw [el_rm ht, el_mul, el_add, el_negx, el_unit, e1] at e
      rw [← e]
      grind
    | j + 1 =>
      have := chk_ok hp fb ht hy (k := k + 1) e1 h2 j (Nat.lt_of_succ_lt_succ hj)
      rwa [show k + (j + 1) + 1 = k + 1 + j + 1 by omega]
/-- a rule with its witnesses -/
def certB (p : Nat) (t : List Int) (us : List (List Int)) : Bool := decide (1 ≤ t.length) && (t.all fun x => decide (0 ≤ x) && decide (x < (p : Int))) && decide (t.length ≤ 2 * us.length + 1) && chk p t (xpL p t p) us [0, 1]
theorem cert_ok {p : Nat} (hp : Pr p) (fb : Fb p) {t : List Int} {us : List (List Int)} (h : certB p t us = true) : t ∈ tp p t.length ∧ ∀ e, 1 ≤ e → 2 * e ≤ t.length → ∀ t' ∈ tp p e, ¬ Dv p (lv t') (lv t) := by
  unfold certB at h
  obtain ⟨h, hc⟩ := Bool.and_eq_true_iff.mp h
  obtain ⟨h, hl⟩ := Bool.and_eq_true_iff.mp h
  obtain ⟨h1, ha⟩ := Bool.and_eq_true_iff.mp h
  have h1 := _root_.of_decide_eq_true h1
  have hl := _root_.of_decide_eq_true hl
  have p2 := hp.le
  refine ⟨tp_mem.mpr ⟨rfl, fun x hx => ?_⟩, fun e e1 e2 t' ht' dv => ?_⟩
  · obtain ⟨a, b⟩ := Bool.and_eq_true_iff.mp (List.all_eq_true.mp ha x hx)
    exact ⟨_root_.of_decide_eq_true a, _root_.of_decide_eq_true b⟩
  · obtain ⟨k, k1, k2, s, hs, d1, d2⟩ := has_turn hp (d := t.length) ⟨e, e1, e2, t', ht', dv⟩
    have e0 : el (p : Int) (lv t) [0, 1] = Qu.mk Po.X ^ (p ^ 0) := by
      rw [el_cons0, el_one, Nat.pow_zero, Semiring.pow_one]
      grind
    obtain ⟨z, hz⟩ := chk_ok p2 fb h1 (el_xp h1 p) e0 hc (k - 1) (by omega)
    rw [show 0 + (k - 1) + 1 = k by omega] at hz
    obtain ⟨b, rfl⟩ := Qu.rep z
    rw [← Qu.mk_pow, ← Qu.mk_sub, ← Qu.mk_mul, ← Qu.mk_one] at hz
    have hz := Qu.eq_iff.mp hz
    have q : Dv p (lv s) ((Po.X ^ (p ^ k) - Po.X) * b - 1).c := d1.trans hz
    have r : Dv p (lv s) ((Po.X ^ (p ^ k) - Po.X) * b).c := by
      show Dv p (lv s) (cv (Po.X ^ (p ^ k) - Po.X).c b.c)
      rw [cvC]
      refine Dv.cv b.fi ?_
      rw [Po.sub_c, Po.pow_c]
      exact d2
    refine lv_one p2 k1 hs ?_
    have := (q.scale (-1)).add r
    refine this.congr (Eqm.of_eq (funext fun j => ?_))
    show -1 * (((Po.X ^ (p ^ k) - Po.X) * b).c j + -1 * one j) + ((Po.X ^ (p ^ k) - Po.X) * b).c j = one j
    omega
end Xp
end
section
set_option linter.all false
set_option maxHeartbeats 1000000
/-! Sums and products of turns; what a turn leaves as it is (no program in it). -/
namespace Xp
open Lean.Grind
section
variable {R : Type} [CommRing R]
/-- sums and products of the first of a row -/
def sumN (f : Nat → R) : Nat → R
  | 0 => 0
  | m + 1 => sumN f m + f m
def prdN (f : Nat → R) : Nat → R
  | 0 => 1
  | m + 1 => prdN f m * f m
theorem sumN_sh (f : Nat → R) : ∀ m, sumN (fun i => f (i + 1)) m + f 0 = sumN f (m + 1)
  | 0 => by
    show (0 : R) + f 0 = 0 + f 0
    rfl
  | m + 1 => by
    have := sumN_sh f m
    show sumN (fun i => f (i + 1)) m + f (m + 1) + f 0 = sumN f (m + 1) + f (m + 1)
    grind
theorem prdN_sh (f : Nat → R) : ∀ m, prdN (fun i => f (i + 1)) m * f 0 = prdN f (m + 1)
  | 0 => by
    show (1 : R) * f 0 = 1 * f 0
    rfl
  | m + 1 => by
    have := prdN_sh f m
    show prdN (fun i => f (i + 1)) m * f (m + 1) * f 0 = prdN f (m + 1) * f (m + 1)
    grind
theorem prdN_pow (f : Nat → R) (q : Nat) : ∀ m, prdN f m ^ q = prdN (fun i => f i ^ q) m
  | 0 => one_powR q
  | m + 1 => by
    show (prdN f m * f m) ^ q = prdN (fun i => f i ^ q) m * f m ^ q
    rw [mul_powR, prdN_pow f q m]
theorem prdN_zero {f : Nat → R} {m i : Nat} (h : i < m) (z : f i = 0) : prdN f m = 0 := by
  induction m with
  | zero => omega
  | succ m ih =>
    show prdN f m * f m = 0
    by_cases e : i = m
    · rw [← e, z]
      grind
    · rw [ih (by omega)]
      grind
end
theorem sumN_pow {p : Nat} (hp : 2 ≤ p) (h : Fb p) {f : Cf} (g : Nat → Fq p f) : ∀ m, sumN g m ^ p = sumN (fun i => g i ^ p) m
  | 0 => zero_pow (by omega)
  | m + 1 => by
    show (sumN g m + g m) ^ p = sumN (fun i => g i ^ p) m + g m ^ p
    rw [frobF hp h, sumN_pow hp h g m]
/-- the sum of all turns is its own turn -/
theorem sum_fix {p : Nat} (hp : 2 ≤ p) (h : Fb p) {f : Cf} {y : Fq p f} {n : Nat} (c : y ^ (p ^ n) = y) : sumN (fun i => y ^ (p ^ i)) n ^ p = sumN (fun i => y ^ (p ^ i)) n := by
  rw [sumN_pow hp h]
  have e : (fun i => (y ^ (p ^ i)) ^ p) = fun i => y ^ (p ^ (i + 1)) := funext fun i => pow_succ' y p i
  have a := sumN_sh (fun i => y ^ (p ^ i)) n
  rw [e]
  have b : sumN (fun i => y ^ (p ^ i)) (n + 1) = sumN (fun i => y ^ (p ^ i)) n + y := by
    show _ + y ^ (p ^ n) = _
    rw [c]
  rw [b, Nat.pow_zero, Semiring.pow_one] at a
  grind
theorem prd_fix {p : Nat} (hp : 2 ≤ p) {f : Cf} [Dm (Fq p f)] {y : Fq p f} {n : Nat} (n1 : 1 ≤ n) (c : y ^ (p ^ n) = y) : prdN (fun i => y ^ (p ^ i)) n ^ p = prdN (fun i => y ^ (p ^ i)) n := by
  by_cases z : y = 0
  · have : prdN (fun i => y ^ (p ^ i)) n = 0 := prdN_zero (i := 0) (by omega) (by rw [Nat.pow_zero, Semiring.pow_one, z])
    rw [this]
    exact zero_pow (by omega)
  rw [prdN_pow]
  have e : (fun i => (y ^ (p ^ i)) ^ p) = fun i => y ^ (p ^ (i + 1)) := funext fun i => pow_succ' y p i
  have a := prdN_sh (fun i => y ^ (p ^ i)) n
  rw [e]
  have b : prdN (fun i => y ^ (p ^ i)) (n + 1) = prdN (fun i => y ^ (p ^ i)) n * y := by
    show _ * y ^ (p ^ n) = _
    rw [c]
  rw [b, Nat.pow_zero, Semiring.pow_one] at a
  refine can z ?_
  grind
theorem el_plain {p : Int} {f : Cf} (c : Int) (n : Nat) : el p f (c :: List.replicate n 0) = mC p f c := by
  have z : ∀ n, Po.of (List.replicate n 0) = 0 := fun n => by
    induction n with
    | zero => exact of_nil
    | succ n ih =>
      rw [List.replicate_succ, of_cons, ih, Po.C_zero]
      grind
  show (Qu.mk (Po.of (c :: List.replicate n 0)) : Fq p f) = Qu.mk (Po.C c)
  rw [of_cons, z, show Po.C c + Po.X * 0 = Po.C c from by grind]
end Xp
end
section
set_option Elab.async false
set_option linter.all false
set_option maxRecDepth 100000
set_option maxHeartbeats 4000000
namespace Xk
open PySem PySem.Spec PyProof.Rows L2 Xh LamX NdefX
/-! ### sums and products of turns -/
theorem RuleOk.dm {q n : Nat} {R : List Int} (x : RuleOk q n R) : Xp.Dm (Xp.Fq (q : Int) (co R)) := by
  have hw := x.wh.2
  have lR := x.len
  obtain ⟨t, l, r, rfl⟩ := x.ex
  have D := Xp.lv_dg x.q0 (tp_of l r)
  exact Xp.dm_of (pr_of x.hp) D x.n1 (Xp.irr_half (pr_of x.hp) D fun e e1 e2 t' ht' => hw e e1 (by omega) t' ht')
/-- a rest as a number -/
abbrev plainL (n : Nat) (c : Int) : List Int := c :: List.replicate (n - 1) 0
theorem num_plain {q n : Nat} {c : Int} (n1 : 1 ≤ n) (c0 : 0 ≤ c) (c1 : c < q) : Num q n (plainL n c) := ⟨by
  show (List.replicate (n - 1) (0 : Int)).length + 1 = n
  rw [List.length_replicate]
  omega, fun k => by
  match k with
  | 0 => exact ⟨c0, c1⟩
  | k + 1 =>
    have : (plainL n c).getD (k + 1) 0 = 0 := by
      show (List.replicate (n - 1) (0 : Int)).getD k 0 = 0
      rw [List.getD_eq_getElem?_getD, List.getElem?_replicate]
      split
      all_goals rfl
    rw [this]
    omega⟩
theorem RuleOk.plain_fix {q n : Nat} {R : List Int} (x : RuleOk q n R) (c : Int) : El q R (plainL n c) ^ q = El q R (plainL n c) := by
  have := Xp.fixC x.q0 (fb_primes x.hp) (f := co R) 1 c
  rw [Nat.pow_one] at this
  rw [show El q R (plainL n c) = Xp.mC q (co R) c from Xp.el_plain c (n - 1)]
  exact this
theorem RuleOk.const {q n : Nat} {R xs : List Int} (x : RuleOk q n R) (nx : Num q n xs) (h : El q R xs ^ q = El q R xs) : ∃ c : Int, 0 ≤ c ∧ c < q ∧ xs = plainL n c := by
  have n1 := x.n1
  have := x.dm
  rcases Classical.em (∃ c : Nat, c < q ∧ xs = plainL n c) with ⟨c, c1, e⟩ | no
  · exact ⟨c, by omega, by omega, e⟩
  exfalso
  have nd : (El q R xs :: (List.range q).map fun c : Nat => El q R (plainL n c)).Nodup := by
    refine List.nodup_cons.mpr ⟨fun hm => ?_, Xp.nodup_mapI List.nodup_range fun s hs t ht e => ?_⟩
    · obtain ⟨c, hc, e⟩ := List.mem_map.mp hm
      have hc := List.mem_range.mp hc
      exact no ⟨c, hc, (x.eq (num_plain n1 (by omega) (by omega)) nx e).symm⟩
    · have hs := List.mem_range.mp hs
      have ht := List.mem_range.mp ht
      have := x.eq (num_plain n1 (by omega) (by omega)) (num_plain n1 (by omega) (by omega)) e
      injection this with a b
      omega
  have := Xp.few x.q0 nd fun y hy => by
    rcases List.mem_cons.mp hy with rfl | hy
    · exact h
    · obtain ⟨c, _, rfl⟩ := List.mem_map.mp hy
      exact x.plain_fix c
  rw [List.length_cons, List.length_map, List.length_range] at this
  omega
theorem el_add2 {q : Nat} {R xs ys zs : List Int} (h : Xp.Cg q (co R) (Xp.ad (co xs) (co ys)) (co zs)) : El q R zs = El q R xs + El q R ys := ((Xp.mk_eq (a := Xp.Po.of xs + Xp.Po.of ys) (b := Xp.Po.of zs)).mpr h).symm
theorem el_mul2 {q : Nat} {R xs ys zs : List Int} (h : Xp.Cg q (co R) (Xp.cv (co xs) (co ys)) (co zs)) : El q R zs = El q R xs * El q R ys := ((Xp.mk_eq (a := Xp.Po.of xs * Xp.Po.of ys) (b := Xp.Po.of zs)).mpr h).symm
theorem el_nought {q n : Nat} {R : List Int} : El q R (List.replicate n 0) = 0 := by
  have z : Xp.Po.of (List.replicate n 0) = 0 := by
    induction n with
    | zero => exact Xp.of_nil
    | succ n ih =>
      rw [List.replicate_succ, Xp.of_cons, ih, Xp.Po.C_zero]
      grind
  show Xp.Qu.mk (Xp.Po.of (List.replicate n 0)) = _
  rw [z]
  rfl
theorem num_nought {q n : Nat} (q0 : 0 < q) : Num q n (List.replicate n 0) := ⟨List.length_replicate, fun k => by
  have : (List.replicate n (0 : Int)).getD k 0 = 0 := by
    rw [List.getD_eq_getElem?_getD, List.getElem?_replicate]
    split
    all_goals rfl
  rw [this]
  omega⟩
theorem el_one2 {q n : Nat} {R : List Int} : El q R (oneT n) = 1 := Xp.el_unit (n - 1)
theorem num_one {q n : Nat} (n1 : 1 ≤ n) (q0 : 2 ≤ q) : Num q n (oneT n) := num_plain n1 (by omega) (by omega)
def spTSum (K : PySem.W.Frag) (CR : Addr) : Sp := fun vs H Q _ => ∃ (W a : Addr) (q n e : Nat) (R xs : List Int), vs = [.ref W, .ref a, .int e] ∧ RuleOk q n R ∧ RawAt K CR H W q n R ∧ H a = some (.tup (xs.map V.int)) ∧ Num q n xs ∧ 1 ≤ e ∧ e ≤ 24 ∧
  ∀ (v : Addr) (zs : List Int) (H' : Hp), Same H H' → H' v = some (.tup (zs.map V.int)) → Num q n zs → El q R zs = Xp.sumN (fun i => El q R xs ^ (q ^ (e * i))) (n / e) → Q (.ref v) H'
def spTPrd (K : PySem.W.Frag) (CR : Addr) : Sp := fun vs H Q _ => ∃ (W a : Addr) (q n e : Nat) (R xs : List Int), vs = [.ref W, .ref a, .int e] ∧ RuleOk q n R ∧ RawAt K CR H W q n R ∧ H a = some (.tup (xs.map V.int)) ∧ Num q n xs ∧ 1 ≤ e ∧ e ≤ 24 ∧
  ∀ (v : Addr) (zs : List Int) (H' : Hp), Same H H' → H' v = some (.tup (zs.map V.int)) → Num q n zs → El q R zs = Xp.prdN (fun i => El q R xs ^ (q ^ (e * i))) (n / e) → Q (.ref v) H'
def spTraF (K : PySem.W.Frag) (CF CR C : Addr) (G : ∀ (q n : Nat) (R : List Int), Xp.Fq (q : Int) (co R) → Xp.Fq (q : Int) (co R)) : Sp := fun vs H Q X => ∃ (F0 a : Addr) (q n : Nat) (R xs : List Int), vs = [.ref F0, .ref a] ∧ RuleOk q n R ∧ FldAt K CF CR H F0 q n R ∧ H a = some (.tup (xs.map V.int)) ∧ xs.length ≤ 100 ∧
  (Num q n xs → ∀ (c : Int) (H' : Hp), Same H H' → 0 ≤ c → c < q → El q R (plainL n c) = G q n R (El q R xs) → Q (.int c) H') ∧ (¬ Num q n xs → Ex H X C "BadNumber")
abbrev gTr : ∀ (q n : Nat) (R : List Int), Xp.Fq (q : Int) (co R) → Xp.Fq (q : Int) (co R) := fun q n _ y => Xp.sumN (fun i => y ^ (q ^ i)) n
abbrev gNo : ∀ (q n : Nat) (R : List Int), Xp.Fq (q : Int) (co R) → Xp.Fq (q : Int) (co R) := fun q n _ y => Xp.prdN (fun i => y ^ (q ^ i)) n
section
variable {P : Program} {w : World} {K : PySem.W.Frag} {mg : Str → Option Value} {base : Heap}
theorem sc_RawField_turn_sum : FnScope (["self", "number", "degree", "total", "_"] : List Str) ["self", "number", "degree"] (defScope s_RawField_turn_sum) := ⟨rfl, rfl, rfl, by decide +kernel, rfl, by decide +kernel, by decide +kernel⟩
theorem ok_RawField_turn_sum {f CF CR : Addr} {fd : FuncData} (F : FunD K "turn_sum" "RawField.turn_sum" (defArgs s_RawField_turn_sum) (defBody s_RawField_turn_sum) (defScope s_RawField_turn_sum) [] [] f fd) (KC : ClsF K CF CR) (T : Fre mg) (o_RawField_plus : OwnM P w K mg base CX0 1 CR "plus" ["self", "one", "other"] [] (spNum2 K CR gAdd)) (o_RawField_turned : OwnM P w K mg base CX0 2 CR "turned" ["self", "number", "steps"] [] (spTurnR K CR)) : FnOk P w K mg base CX0 3 f fd ["self", "number", "degree"] (spTSum K CR) := by
  refine F.ok sc_RawField_turn_sum (fun vs H Q E h => ?_) (fun cdv A outer s H vs Q E hr h => ?_)
  · obtain ⟨W, a, q, n, e, R, xs, rfl, _⟩ := h
    rfl
  · obtain ⟨W, a, q, n, e, R, xs, rfl, hR, hW, ha, nx, e1, e24, k⟩ := h
    have n1 := hR.n1
    have n12 := hR.n12
    have q0 := hR.q0
    refine ⟨_, PSs.nox (pss_cons (ps_set (i := 3) sc_RawField_turn_sum.nd rfl (Or.inl rfl) (pe_fld (pv 0) rfl))
      (pss_cons (ps_for PassesOwn.never rfl (pi_range1 (by rfl) T.f_range (pa_cons (pe_op op_fdivW (pe_fld (pv 0) rfl) (pv 2)) pa_nil)) (pg_name (i := 4) sc_RawField_turn_sum.nd rfl (Or.inl rfl)) (pss_cons (ps_set (i := 3) sc_RawField_turn_sum.nd rfl (Or.inl rfl) (pe_ownM o_RawField_plus (hr.mono (by decide)) pass0 (pv 0) (pa_cons (pv 3) (pa_cons (pv 1) pa_nil))))
      (pss_one (ps_set (i := 1) sc_RawField_turn_sum.nd rfl (Or.inl rfl) (pe_ownM o_RawField_turned (hr.mono (by decide)) pass0 (pv 0) (pa_cons (pv 1) (pa_cons (pv 2) pa_nil)))))))
      (pss_one (ps_ret (pv 3))))) , ?_⟩
    obtain ⟨dx, rr, z, u, tt, ht, lt, lh, ts, hs, eW, _, ez, eu, _⟩ := id hW.ex
    have hd : ((n : Int) / (e : Int)) = ((n / e : Nat) : Int) := rfl
    have hle : n / e ≤ n := Nat.div_le_self n e
    refine ⟨_, rfl, W, CR, dx, _, _, rfl, eW, KC.clR, KC.r3, rawFs_nought _ _ _ _ _ _ _, ?_⟩
    refine ⟨_, rfl, W, CR, dx, _, _, rfl, eW, KC.clR, KC.r2, rawFs_width _ _ _ _ _ _ _, _, rfl, _, _, rfl, rfl, wide_div (b := 200) (by omega) (big (by omega)) (by decide) (by decide), ?_⟩
    have hm0 : 0 ≤ (n : Int) / (e : Int) := Int.ediv_nonneg (by omega) (by omega)
    have hm1 : (n : Int) / (e : Int) ≤ n := Int.ediv_le_self _ (by omega)
    refine ⟨(n : Int) / (e : Int), rfl, by omega, by omega, ?_⟩
    refine for_range (lo := 0) (n := ((n : Int) / (e : Int)).toNat) (fun i σ' H' => ∃ (c t : Addr) (ys zs : List Int) (x4 : Option V), σ' = [some (.ref W), some (.ref c), some (.int e), some (.ref t), x4] ∧ Same H H' ∧ H' c = some (.tup (ys.map V.int)) ∧ Num q n ys ∧ El q R ys = El q R xs ^ (q ^ (e * i)) ∧ H' t = some (.tup (zs.map V.int)) ∧ Num q n zs ∧ El q R zs = Xp.sumN (fun i => El q R xs ^ (q ^ (e * i))) i) ⟨a, z, xs, List.replicate n 0, none, rfl, fun _ _ z => z, ha, nx, by rw [Nat.mul_zero, Nat.pow_zero, Lean.Grind.Semiring.pow_one], ez, num_nought (by omega), el_nought⟩ ?_ ?_
    · rintro i σ' H1 hi ⟨c, t, ys, zs, x4, rfl, s1, ec, ny, ey, et, nt, e_t⟩
      refine ⟨_, rfl, W, dx, _, rfl, s1 _ _ eW, rfl, _, rfl, _, rfl, W, t, c, q, n, R, zs, ys, rfl, hR, hW.stay (.same s1), SqT.of et, SqT.of ec, nt, ny, fun v vs' H2 s2 ev nv cg => ?_⟩
      have S2 := s1.trans s2
      refine ⟨_, rfl, W, dx, _, rfl, S2 _ _ eW, rfl, _, rfl, _, rfl, W, c, q, n, R, ys, (e : Int), rfl, hR, hW.stay (.same S2), s2 _ _ ec, ny, fun u us H3 s3 eu nu e_u => ⟨u, v, us, vs', _, rfl, S2.trans s3, eu, nu, ?_, s3 _ _ ev, nv, ?_⟩⟩
      · rw [e_u, hR.red, ey, Xp.pow_pow]
        rfl
      · rw [el_add2 cg, e_t, ey]
        rfl
    · rintro σ' H1 ⟨c, t, ys, zs, x4, rfl, s1, ec, ny, ey, et, nt, e_t⟩
      refine ⟨_, rfl, k t zs H1 s1 et nt ?_⟩
      rw [e_t, hd, Int.toNat_natCast]
theorem sc_RawField_turn_product : FnScope (["self", "number", "degree", "total", "_"] : List Str) ["self", "number", "degree"] (defScope s_RawField_turn_product) := ⟨rfl, rfl, rfl, by decide +kernel, rfl, by decide +kernel, by decide +kernel⟩
theorem ok_RawField_turn_product {f CF CR : Addr} {fd : FuncData} (F : FunD K "turn_product" "RawField.turn_product" (defArgs s_RawField_turn_product) (defBody s_RawField_turn_product) (defScope s_RawField_turn_product) [] [] f fd) (KC : ClsF K CF CR) (T : Fre mg) (o_RawField_times : OwnM P w K mg base CX0 2 CR "times" ["self", "one", "other"] [] (spNum2 K CR gMul)) (o_RawField_turned : OwnM P w K mg base CX0 2 CR "turned" ["self", "number", "steps"] [] (spTurnR K CR)) : FnOk P w K mg base CX0 3 f fd ["self", "number", "degree"] (spTPrd K CR) := by
  refine F.ok sc_RawField_turn_product (fun vs H Q E h => ?_) (fun cdv A outer s H vs Q E hr h => ?_)
  · obtain ⟨W, a, q, n, e, R, xs, rfl, _⟩ := h
    rfl
  · obtain ⟨W, a, q, n, e, R, xs, rfl, hR, hW, ha, nx, e1, e24, k⟩ := h
    have n1 := hR.n1
    have n12 := hR.n12
    have q0 := hR.q0
    refine ⟨_, PSs.nox (pss_cons (ps_set (i := 3) sc_RawField_turn_product.nd rfl (Or.inl rfl) (pe_fld (pv 0) rfl))
      (pss_cons (ps_for PassesOwn.never rfl (pi_range1 (by rfl) T.f_range (pa_cons (pe_op op_fdivW (pe_fld (pv 0) rfl) (pv 2)) pa_nil)) (pg_name (i := 4) sc_RawField_turn_product.nd rfl (Or.inl rfl)) (pss_cons (ps_set (i := 3) sc_RawField_turn_product.nd rfl (Or.inl rfl) (pe_ownM o_RawField_times (hr.mono (by decide)) pass0 (pv 0) (pa_cons (pv 3) (pa_cons (pv 1) pa_nil))))
      (pss_one (ps_set (i := 1) sc_RawField_turn_product.nd rfl (Or.inl rfl) (pe_ownM o_RawField_turned (hr.mono (by decide)) pass0 (pv 0) (pa_cons (pv 1) (pa_cons (pv 2) pa_nil)))))))
      (pss_one (ps_ret (pv 3))))) , ?_⟩
    obtain ⟨dx, rr, z, u, tt, ht, lt, lh, ts, hs, eW, _, ez, eu, _⟩ := id hW.ex
    have hd : ((n : Int) / (e : Int)) = ((n / e : Nat) : Int) := rfl
    have hle : n / e ≤ n := Nat.div_le_self n e
    refine ⟨_, rfl, W, CR, dx, _, _, rfl, eW, KC.clR, KC.r4, rawFs_unit _ _ _ _ _ _ _, ?_⟩
    refine ⟨_, rfl, W, CR, dx, _, _, rfl, eW, KC.clR, KC.r2, rawFs_width _ _ _ _ _ _ _, _, rfl, _, _, rfl, rfl, wide_div (b := 200) (by omega) (big (by omega)) (by decide) (by decide), ?_⟩
    have hm0 : 0 ≤ (n : Int) / (e : Int) := Int.ediv_nonneg (by omega) (by omega)
    have hm1 : (n : Int) / (e : Int) ≤ n := Int.ediv_le_self _ (by omega)
    refine ⟨(n : Int) / (e : Int), rfl, by omega, by omega, ?_⟩
    refine for_range (lo := 0) (n := ((n : Int) / (e : Int)).toNat) (fun i σ' H' => ∃ (c t : Addr) (ys zs : List Int) (x4 : Option V), σ' = [some (.ref W), some (.ref c), some (.int e), some (.ref t), x4] ∧ Same H H' ∧ H' c = some (.tup (ys.map V.int)) ∧ Num q n ys ∧ El q R ys = El q R xs ^ (q ^ (e * i)) ∧ H' t = some (.tup (zs.map V.int)) ∧ Num q n zs ∧ El q R zs = Xp.prdN (fun i => El q R xs ^ (q ^ (e * i))) i) ⟨a, u, xs, oneT n, none, rfl, fun _ _ z => z, ha, nx, by rw [Nat.mul_zero, Nat.pow_zero, Lean.Grind.Semiring.pow_one], eu, num_one n1 q0, el_one2⟩ ?_ ?_
    · rintro i σ' H1 hi ⟨c, t, ys, zs, x4, rfl, s1, ec, ny, ey, et, nt, e_t⟩
      refine ⟨_, rfl, W, dx, _, rfl, s1 _ _ eW, rfl, _, rfl, _, rfl, W, t, c, q, n, R, zs, ys, rfl, hR, hW.stay (.same s1), SqT.of et, SqT.of ec, nt, ny, fun v vs' H2 s2 ev nv cg => ?_⟩
      have S2 := s1.trans s2
      refine ⟨_, rfl, W, dx, _, rfl, S2 _ _ eW, rfl, _, rfl, _, rfl, W, c, q, n, R, ys, (e : Int), rfl, hR, hW.stay (.same S2), s2 _ _ ec, ny, fun u us H3 s3 eu nu e_u => ⟨u, v, us, vs', _, rfl, S2.trans s3, eu, nu, ?_, s3 _ _ ev, nv, ?_⟩⟩
      · rw [e_u, hR.red, ey, Xp.pow_pow]
        rfl
      · rw [el_mul2 cg, e_t, ey]
        rfl
    · rintro σ' H1 ⟨c, t, ys, zs, x4, rfl, s1, ec, ny, ey, et, nt, e_t⟩
      refine ⟨_, rfl, k t zs H1 s1 et nt ?_⟩
      rw [e_t, hd, Int.toNat_natCast]
theorem sc_Field_trace : FnScope (["self", "number"] : List Str) ["self", "number"] (defScope s_Field_trace) := ⟨rfl, rfl, rfl, by decide +kernel, rfl, by decide +kernel, by decide +kernel⟩
theorem ok_Field_trace {f CF CR : Addr} {C : Fin 14 → Addr} {fd : FuncData} (F : FunD K "trace" "Field.trace" (defArgs s_Field_trace) (defBody s_Field_trace) (defScope s_Field_trace) [] [] f fd) (KC : ClsF K CF CR) (o_refuse_numbers : Own P w K mg base (L2.CX P w) 4 "refuse_numbers" ["raw", "told"] [] (spRefNs K CR (C 3))) (o_RawField_turn_sum : OwnM P w K mg base CX0 3 CR "turn_sum" ["self", "number", "degree"] [] (spTSum K CR)) : FnOk P w K mg base (L2.CX P w) 5 f fd ["self", "number"] (spTraF K CF CR (C 3) gTr) := by
  refine F.ok sc_Field_trace (fun vs H Q E h => ?_) (fun cdv A outer s H vs Q E hr h => ?_)
  · obtain ⟨F0, a, q, n, R, xs, rfl, _⟩ := h
    rfl
  · obtain ⟨F0, a, q, n, R, xs, rfl, hR, hF, ha, la, h1, h2⟩ := h
    refine ⟨_, (pss_cons (ps_expr (pe_own o_refuse_numbers (hr.mono (by decide)) rfl (passes_call (takes_of rfl rfl rfl rfl) (fun _ _ _ _ h => h)) (pa_cons (pe_fld (pv 0) rfl) (pa_cons (pe_tup (pa_cons (pv 1) pa_nil)) pa_nil))))
      (pss_one (ps_ret (pe_ix ix_tup (pe_ownM o_RawField_turn_sum (hr.mono (by decide)) pass0 (pe_fld (pv 0) rfl) (pa_cons (pv 1) (pa_cons pe_int pa_nil))) pe_int (fun _ _ => rfl))))) , ?_⟩
    obtain ⟨dx, rr, W, eF, eR, hW⟩ := id hF.ex
    have n1 := hR.n1
    refine ⟨_, rfl, F0, CF, dx, _, .ref W, rfl, eF, KC.clF, KC.f2, rfl, _, rfl, (by show 1 ≤ sizeLine; decide), fun c hc => ⟨W, c, [a], [xs], q, n, R, rfl, hR, hW.stay (.same (same_upd hc)), SqT.of upd_same, rfl, fun i a' xs' h1' h2' => ?_, fun hn H1 s1 => ?_, fun hn => ?_⟩⟩
    · match i, h1', h2' with
      | 0, h1', h2' => cases h1'; cases h2'; exact ⟨sameT (same_upd hc) (SqT.of ha), la⟩
    · have s2 := (same_upd hc).trans s1
      have nx := hn xs List.mem_cons_self
      have W2 := hW.stay (.same s2)
      obtain ⟨dw, rr2, z2, u2, tt2, ht2, lt2, lh2, ts2, hs2, eW, _⟩ := id W2.ex
      refine ⟨_, rfl, F0, CF, dx, _, .ref W, rfl, s2 _ _ eF, KC.clF, KC.f2, rfl, W, dw, _, rfl, eW, rfl, _, rfl, W, a, q, n, 1, R, xs, rfl, hR, W2, s2 _ _ ha, nx, by decide, by decide, fun v zs H3 s3 ev nz ez => ?_⟩
      have e1 : El q R zs = gTr q n R (El q R xs) := by
        have hf : (fun i => El q R xs ^ (q ^ (1 * i))) = fun i => El q R xs ^ (q ^ i) := funext fun i => by rw [Nat.one_mul]
        rw [ez, hf, Nat.div_one]
      have := hR.dm
      obtain ⟨cc, c0, c1, rfl⟩ := hR.const nz (by
        rw [e1]
        exact Xp.sum_fix hR.q0 (fb_primes hR.hp) (hR.all _))
      exact ⟨v, _, 0, .int cc, rfl, rfl, SqT.of ev, atI_nat (j := 0) rfl, h1 nx cc H3 (s2.trans s3) c0 c1 e1⟩
    · refine (h2 (fun z => hn fun zs hzs => ?_)).same (same_upd hc)
      rw [List.mem_singleton.mp hzs]
      exact z
theorem sc_Field_norm : FnScope (["self", "number"] : List Str) ["self", "number"] (defScope s_Field_norm) := ⟨rfl, rfl, rfl, by decide +kernel, rfl, by decide +kernel, by decide +kernel⟩
theorem ok_Field_norm {f CF CR : Addr} {C : Fin 14 → Addr} {fd : FuncData} (F : FunD K "norm" "Field.norm" (defArgs s_Field_norm) (defBody s_Field_norm) (defScope s_Field_norm) [] [] f fd) (KC : ClsF K CF CR) (o_refuse_numbers : Own P w K mg base (L2.CX P w) 4 "refuse_numbers" ["raw", "told"] [] (spRefNs K CR (C 3))) (o_RawField_turn_product : OwnM P w K mg base CX0 3 CR "turn_product" ["self", "number", "degree"] [] (spTPrd K CR)) : FnOk P w K mg base (L2.CX P w) 5 f fd ["self", "number"] (spTraF K CF CR (C 3) gNo) := by
  refine F.ok sc_Field_norm (fun vs H Q E h => ?_) (fun cdv A outer s H vs Q E hr h => ?_)
  · obtain ⟨F0, a, q, n, R, xs, rfl, _⟩ := h
    rfl
  · obtain ⟨F0, a, q, n, R, xs, rfl, hR, hF, ha, la, h1, h2⟩ := h
    refine ⟨_, (pss_cons (ps_expr (pe_own o_refuse_numbers (hr.mono (by decide)) rfl (passes_call (takes_of rfl rfl rfl rfl) (fun _ _ _ _ h => h)) (pa_cons (pe_fld (pv 0) rfl) (pa_cons (pe_tup (pa_cons (pv 1) pa_nil)) pa_nil))))
      (pss_one (ps_ret (pe_ix ix_tup (pe_ownM o_RawField_turn_product (hr.mono (by decide)) pass0 (pe_fld (pv 0) rfl) (pa_cons (pv 1) (pa_cons pe_int pa_nil))) pe_int (fun _ _ => rfl))))) , ?_⟩
    obtain ⟨dx, rr, W, eF, eR, hW⟩ := id hF.ex
    have n1 := hR.n1
    refine ⟨_, rfl, F0, CF, dx, _, .ref W, rfl, eF, KC.clF, KC.f2, rfl, _, rfl, (by show 1 ≤ sizeLine; decide), fun c hc => ⟨W, c, [a], [xs], q, n, R, rfl, hR, hW.stay (.same (same_upd hc)), SqT.of upd_same, rfl, fun i a' xs' h1' h2' => ?_, fun hn H1 s1 => ?_, fun hn => ?_⟩⟩
    · match i, h1', h2' with
      | 0, h1', h2' => cases h1'; cases h2'; exact ⟨sameT (same_upd hc) (SqT.of ha), la⟩
    · have s2 := (same_upd hc).trans s1
      have nx := hn xs List.mem_cons_self
      have W2 := hW.stay (.same s2)
      obtain ⟨dw, rr2, z2, u2, tt2, ht2, lt2, lh2, ts2, hs2, eW, _⟩ := id W2.ex
      refine ⟨_, rfl, F0, CF, dx, _, .ref W, rfl, s2 _ _ eF, KC.clF, KC.f2, rfl, W, dw, _, rfl, eW, rfl, _, rfl, W, a, q, n, 1, R, xs, rfl, hR, W2, s2 _ _ ha, nx, by decide, by decide, fun v zs H3 s3 ev nz ez => ?_⟩
      have e1 : El q R zs = gNo q n R (El q R xs) := by
        have hf : (fun i => El q R xs ^ (q ^ (1 * i))) = fun i => El q R xs ^ (q ^ i) := funext fun i => by rw [Nat.one_mul]
        rw [ez, hf, Nat.div_one]
      have := hR.dm
      obtain ⟨cc, c0, c1, rfl⟩ := hR.const nz (by
        rw [e1]
        exact Xp.prd_fix hR.q0 n1 (hR.all _))
      exact ⟨v, _, 0, .int cc, rfl, rfl, SqT.of ev, atI_nat (j := 0) rfl, h1 nx cc H3 (s2.trans s3) c0 c1 e1⟩
    · refine (h2 (fun z => hn fun zs hzs => ?_)).same (same_upd hc)
      rw [List.mem_singleton.mp hzs]
      exact z
end
end Xk
end
section
set_option linter.all false
set_option maxHeartbeats 1000000
/-! Rows over a ring with all its elements told: worth, roots, the row that roots build; least rows (no program in it). -/
namespace Xp
open Lean.Grind
section
variable {R : Type} [CommRing R]
/-- the worth of a row at y -/
def hvR (y : R) : List R → R
  | [] => 0
  | c :: cs => c + y * hvR y cs
/-- a row times x less r, with what is carried -/
def offR (r : R) : List R → R → List R
  | [], c => [c]
  | a :: as, c => (c - r * a) :: offR r as a
def builtR (rs : List R) : List R := rs.foldl (fun t r => offR r t 0) [1]
theorem offR_len (r : R) : ∀ (as : List R) (c : R), (offR r as c).length = as.length + 1
  | [], c => rfl
  | a :: as, c => by
    show (offR r as a).length + 1 = as.length + 1 + 1
    rw [offR_len r as a]
theorem offR_hv (r y : R) : ∀ (as : List R) (c : R), hvR y (offR r as c) = c + (y - r) * hvR y as
  | [], c => by
    show c + y * 0 = c + (y - r) * 0
    grind
  | a :: as, c => by
    show (c - r * a) + y * hvR y (offR r as a) = c + (y - r) * (a + y * hvR y as)
    rw [offR_hv r y as a]
    grind
theorem offR_snoc (r : R) : ∀ (as : List R) (c b : R), ∃ ds, offR r (as ++ [b]) c = ds ++ [b]
  | [], c, b => ⟨[c - r * b], rfl⟩
  | a :: as, c, b => by
    obtain ⟨ds, e⟩ := offR_snoc r as a b
    exact ⟨(c - r * a) :: ds, by show (c - r * a) :: offR r (as ++ [b]) a = _; rw [e]; rfl⟩
theorem built_go (y : R) : ∀ (rs t : List R) (ds : List R), t = ds ++ [1] → (∃ es, rs.foldl (fun t r => offR r t 0) t = es ++ [1] ∧ es.length = ds.length + rs.length) ∧ (hvR y t = 0 ∨ y ∈ rs → hvR y (rs.foldl (fun t r => offR r t 0) t) = 0)
  | [], t, ds, e => ⟨⟨ds, e, rfl⟩, fun h => h.elim id fun h => nomatch h⟩
  | r :: rs, t, ds, e => by
    obtain ⟨es, e2⟩ := offR_snoc r ds 0 1
    rw [← e] at e2
    have l : es.length = ds.length + 1 := by
      have := congrArg List.length e2
      rw [offR_len, e, List.length_append, List.length_append] at this
      exact (Nat.add_right_cancel this).symm
    obtain ⟨⟨fs, e3, l3⟩, h3⟩ := built_go y rs _ es e2
    refine ⟨⟨fs, e3, by rw [l3, l, List.length_cons]; omega⟩, fun h => h3 ?_⟩
    rcases h with h | h
    · left
      rw [offR_hv, h]
      grind
    · rcases List.mem_cons.mp h with rfl | h
      · left
        rw [offR_hv]
        grind
      · exact .inr h
theorem builtR_ex (rs : List R) : ∃ es, builtR rs = es ++ [1] ∧ es.length = rs.length := by
  obtain ⟨⟨es, e, l⟩, _⟩ := built_go (0 : R) rs [1] [] rfl
  exact ⟨es, e, by rw [l]; exact Nat.zero_add _⟩
theorem builtR_root {rs : List R} {y : R} (h : y ∈ rs) : hvR y (builtR rs) = 0 := (built_go y rs [1] [] rfl).2 (.inr h)
theorem mo_row {b c : R} (e : c * b = 1) : ∀ ds : List R, Mo ds.length fun y => b * hvR y (ds ++ [c])
  | [] => fun y => by
    show b * (c + y * 0) = 1
    grind
  | d :: ds => ⟨fun y => b * hvR y (ds ++ [c]), b * d, mo_row e ds, fun y => by
    show b * (d + y * hvR y (ds ++ [c])) = y * (b * hvR y (ds ++ [c])) + b * d
    grind⟩
theorem hvR_zero (y : R) : ∀ ds : List R, hvR y (ds ++ [0]) = hvR y ds
  | [] => by
    show (0 : R) + y * 0 = 0
    grind
  | d :: ds => by
    show d + y * hvR y (ds ++ [0]) = d + y * hvR y ds
    rw [hvR_zero y ds]
/-- a row with more roots than places is nought -/
theorem nul_row [Dm R] {L : List R} (al : Al R L) {l : List R} (nd : l.Nodup) : ∀ (n : Nat) {cs : List R}, cs.length = n → (∀ y ∈ l, hvR y cs = 0) → cs.length ≤ l.length → ∀ c ∈ cs, c = 0
  | 0, cs, e, _, _ => fun c hc => by
    rw [List.length_eq_zero_iff.mp e] at hc
    cases hc
  | n + 1, cs, e, z, h => by
    obtain ⟨ds, c, rfl⟩ : ∃ ds c, cs = ds ++ [c] := ⟨cs.dropLast, cs.getLast (fun z => by rw [z] at e; cases e), (List.dropLast_concat_getLast _).symm⟩
    rw [List.length_append] at e h
    have e : ds.length + 1 = n + 1 := e
    have h : ds.length + 1 ≤ l.length := h
    by_cases c0 : c = 0
    · subst c0
      have ih := nul_row al nd n (cs := ds) (by omega) (fun y hy => by rw [← hvR_zero]; exact z y hy) (by omega)
      intro x hx
      rcases List.mem_append.mp hx with hx | hx
      · exact ih x hx
      · exact List.mem_singleton.mp hx
    · exfalso
      obtain ⟨b, hb⟩ := undo al c0
      have := (mo_row hb ds).roots nd fun y hy => by
        show b * hvR y (ds ++ [c]) = 0
        rw [z y hy]
        grind
      omega
theorem hvR_sub (y : R) : ∀ as bs : List R, as.length = bs.length → hvR y (List.zipWith (· - ·) as bs) = hvR y as - hvR y bs
  | [], [], _ => by
    show (0 : R) = 0 - 0
    grind
  | a :: as, b :: bs, h => by
    show (a - b) + y * hvR y (List.zipWith (· - ·) as bs) = (a + y * hvR y as) - (b + y * hvR y bs)
    rw [hvR_sub y as bs (Nat.succ.inj h)]
    grind
theorem zip_nul : ∀ as bs : List R, as.length = bs.length → (∀ c ∈ List.zipWith (· - ·) as bs, c = 0) → as = bs
  | [], [], _, _ => rfl
  | a :: as, b :: bs, h, z => by
    have h1 : a - b = 0 := z _ List.mem_cons_self
    rw [zip_nul as bs (Nat.succ.inj h) fun c hc => z c (List.mem_cons_of_mem _ hc), show a = b by grind]
theorem hvR_app (y : R) : ∀ as bs : List R, hvR y (as ++ bs) = hvR y as + y ^ as.length * hvR y bs
  | [], bs => by
    show hvR y bs = 0 + y ^ 0 * hvR y bs
    rw [Semiring.pow_zero]
    grind
  | a :: as, bs => by
    show a + y * hvR y (as ++ bs) = (a + y * hvR y as) + y ^ (as.length + 1) * hvR y bs
    rw [hvR_app y as bs, Semiring.pow_succ]
    grind
/-- two level rows with as many like roots as their degree are one -/
theorem one_row [Dm R] {L : List R} (al : Al R L) {l : List R} (nd : l.Nodup) {as bs : List R} (h : as.length = bs.length) (hl : as.length ≤ l.length) (z : ∀ y ∈ l, hvR y (as ++ [1]) = hvR y (bs ++ [1])) : as = bs := by
  refine zip_nul as bs h (nul_row al nd _ rfl (fun y hy => ?_) (by rw [List.length_zipWith]; omega))
  have := z y hy
  rw [hvR_app, hvR_app, h] at this
  rw [hvR_sub y as bs h]
  grind
end
theorem hvR_pow {p : Nat} (hp : 2 ≤ p) (h : Fb p) {f : Cf} (y : Fq p f) : ∀ cs : List (Fq p f), (hvR y cs) ^ p = hvR (y ^ p) (cs.map (· ^ p))
  | [] => zero_pow (by omega)
  | c :: cs => by
    show (c + y * hvR y cs) ^ p = c ^ p + y ^ p * hvR (y ^ p) (cs.map (· ^ p))
    rw [frobF hp h, mul_powR, hvR_pow hp h y cs]
/-- the row that roots build, where a turn keeps the roots, is its own turn -/
theorem built_fix {p : Nat} (hp : 2 ≤ p) (h : Fb p) {f : Cf} [Dm (Fq p f)] {L : List (Fq p f)} (al : Al (Fq p f) L) {rs : List (Fq p f)} (nd : rs.Nodup) (cl : ∀ y ∈ rs, ∃ z ∈ rs, z ^ p = y) : ∀ c ∈ builtR rs, c ^ p = c := by
  obtain ⟨es, e, l⟩ := builtR_ex rs
  have k : es.map (· ^ p) = es := one_row al nd (List.length_map ..) (by rw [List.length_map]; omega) fun y hy => by
    obtain ⟨z, hz, rfl⟩ := cl y hy
    have r := builtR_root hz
    have r2 := builtR_root hy
    rw [e] at r r2
    have := hvR_pow hp h z (es ++ [1])
    rw [r, List.map_append, show [(1 : Fq p f)].map (· ^ p) = [1] from by rw [List.map_cons, one_powR]; rfl, zero_pow (by omega)] at this
    rw [← this, r2]
  intro c hc
  rw [e] at hc
  rcases List.mem_append.mp hc with hc | hc
  · obtain ⟨i, hi⟩ := List.mem_iff_getElem?.mp hc
    have : (es.map (· ^ p))[i]? = some c := by rw [k]; exact hi
    rw [List.getElem?_map, hi] at this
    exact Option.some.inj this
  · rw [List.mem_singleton.mp hc]
    exact one_powR p
end Xp
end
section
set_option linter.all false
set_option maxHeartbeats 1000000
/-! The row that a number's turns build: fixed by the turn, the only one of its degree with the number as a root (no program in it). -/
namespace Xp
open Lean.Grind
section
variable {R : Type} [CommRing R]
/-- a number's turns -/
def turnsL (q : Nat) (y : R) (m : Nat) : List R := (List.range m).map fun i => y ^ (q ^ i)
theorem turnsL_len (q : Nat) (y : R) (m : Nat) : (turnsL q y m).length = m := by
  unfold turnsL
  rw [List.length_map, List.length_range]
theorem turnsL_nodup {q : Nat} {y : R} {m : Nat} (h : LeastT q y m) : (turnsL q y m).Nodup := by
  obtain ⟨m1, hm, no⟩ := h
  have key : ∀ i j, i < j → j < m → y ^ (q ^ i) ≠ y ^ (q ^ j) := fun i j ij jm e => by
    refine no (i + (m - j)) (by omega) (by omega) ?_
    rw [← pow_pow, e, pow_pow, show j + (m - j) = m by omega, hm]
  refine nodup_mapI List.nodup_range fun i hi j hj e => ?_
  have hi := List.mem_range.mp hi
  have hj := List.mem_range.mp hj
  rcases Nat.lt_trichotomy i j with g | g | g
  · exact absurd e (key i j g hj)
  · exact g
  · exact absurd e.symm (key j i g hi)
theorem turnsL_mem {q : Nat} {y : R} {m : Nat} (m1 : 1 ≤ m) : y ∈ turnsL q y m := by
  unfold turnsL
  exact List.mem_map.mpr ⟨0, List.mem_range.mpr m1, by rw [Nat.pow_zero, Semiring.pow_one]⟩
theorem turnsL_cl {q : Nat} {y : R} {m : Nat} (h : LeastT q y m) : ∀ x ∈ turnsL q y m, ∃ z ∈ turnsL q y m, z ^ q = x := fun x hx => by
  obtain ⟨m1, hm, _⟩ := h
  obtain ⟨i, hi, rfl⟩ := List.mem_map.mp hx
  have hi := List.mem_range.mp hi
  rcases Nat.eq_zero_or_pos i with z | z
  · subst z
    refine ⟨y ^ (q ^ (m - 1)), List.mem_map.mpr ⟨m - 1, List.mem_range.mpr (by omega), rfl⟩, ?_⟩
    rw [pow_succ', show m - 1 + 1 = m by omega, hm, Nat.pow_zero, Semiring.pow_one]
  · refine ⟨y ^ (q ^ (i - 1)), List.mem_map.mpr ⟨i - 1, List.mem_range.mpr (by omega), rfl⟩, ?_⟩
    rw [pow_succ', show i - 1 + 1 = i by omega]
end
section
variable {p : Nat} {f : Cf}
/-- a row of rests is worth at a turn what the turn makes of its worth -/
theorem fix_worth (hp : 2 ≤ p) (h : Fb p) {es : List (Fq p f)} (fx : ∀ c ∈ es, c ^ p = c) (y : Fq p f) : ∀ i, hvR (y ^ (p ^ i)) es = (hvR y es) ^ (p ^ i)
  | 0 => by rw [Nat.pow_zero, Semiring.pow_one, Semiring.pow_one]
  | i + 1 => by
    have e : es.map (· ^ p) = es := by
      refine List.ext_getElem (List.length_map ..) fun j a b => ?_
      rw [List.getElem_map]
      exact fx _ (List.getElem_mem b)
    have := hvR_pow hp h (y ^ (p ^ i)) es
    rw [e, fix_worth hp h fx y i, pow_succ', pow_succ'] at this
    exact this.symm
theorem fix_roots (hp : 2 ≤ p) (h : Fb p) {es : List (Fq p f)} (fx : ∀ c ∈ es, c ^ p = c) {y : Fq p f} (z : hvR y es = 0) (m : Nat) : ∀ x ∈ turnsL p y m, hvR x es = 0 := fun x hx => by
  obtain ⟨i, _, rfl⟩ := List.mem_map.mp hx
  rw [fix_worth hp h fx, z]
  exact zero_pow (Nat.pow_pos (by omega))
theorem snoc_fix {es : List (Fq p f)} (fx : ∀ c ∈ es, c ^ p = c) : ∀ c ∈ es ++ [1], c ^ p = c := fun c hc => by
  rcases List.mem_append.mp hc with hc | hc
  · exact fx c hc
  · rw [List.mem_singleton.mp hc]
    exact one_powR p
/-- the only level row of rests of a number's degree with it as a root -/
theorem least_one (hp : 2 ≤ p) (h : Fb p) [Dm (Fq p f)] {L : List (Fq p f)} (al : Al (Fq p f) L) {y : Fq p f} {m : Nat} (lt : LeastT p y m) {as bs : List (Fq p f)} (la : as.length = m) (lb : bs.length = m) (fa : ∀ c ∈ as, c ^ p = c) (fb : ∀ c ∈ bs, c ^ p = c) (za : hvR y (as ++ [1]) = 0) (zb : hvR y (bs ++ [1]) = 0) : as = bs :=
  one_row al (turnsL_nodup lt) (la.trans lb.symm) (by rw [turnsL_len]; omega) fun x hx => by rw [fix_roots hp h (snoc_fix fa) za m x hx, fix_roots hp h (snoc_fix fb) zb m x hx]
/-- a row of rests of less places than a number's degree with it as a root is nought -/
theorem least_nul (hp : 2 ≤ p) (h : Fb p) [Dm (Fq p f)] {L : List (Fq p f)} (al : Al (Fq p f) L) {y : Fq p f} {m : Nat} (lt : LeastT p y m) {as : List (Fq p f)} (la : as.length ≤ m) (fa : ∀ c ∈ as, c ^ p = c) (za : hvR y as = 0) : ∀ c ∈ as, c = 0 :=
  nul_row al (turnsL_nodup lt) _ rfl (fun x hx => fix_roots hp h fa za m x hx) (by rw [turnsL_len]; exact la)
/-- what a number's turns build -/
theorem least_built (hp : 2 ≤ p) (h : Fb p) [Dm (Fq p f)] {L : List (Fq p f)} (al : Al (Fq p f) L) {y : Fq p f} {m : Nat} (lt : LeastT p y m) : ∃ es, builtR (turnsL p y m) = es ++ [1] ∧ es.length = m ∧ (∀ c ∈ es, c ^ p = c) ∧ hvR y (es ++ [1]) = 0 := by
  obtain ⟨es, e, l⟩ := builtR_ex (turnsL p y m)
  have fx := built_fix hp h al (turnsL_nodup lt) (turnsL_cl lt)
  rw [e] at fx
  refine ⟨es, e, l.trans (turnsL_len p y m), fun c hc => fx c (List.mem_append_left _ hc), ?_⟩
  rw [← e]
  exact builtR_root (turnsL_mem lt.1)
/-- a turn has the same least row -/
theorem least_turn {y : Fq p f} {m : Nat} (lt : LeastT p y m) : LeastT p (y ^ p) m := by
  obtain ⟨m1, hm, no⟩ := lt
  have c : ∀ k, (y ^ p) ^ (p ^ k) = y ^ (p ^ (k + 1)) := fun k => by
    have := pow_pow y p 1 k
    rw [Nat.pow_one] at this
    rw [this, Nat.add_comm]
  refine ⟨m1, by rw [c, ← pow_succ', hm], fun j j1 j2 e => no j j1 j2 ?_⟩
  rw [c] at e
  have h2 : (y ^ (p ^ (j + 1))) ^ (p ^ (m - 1)) = (y ^ p) ^ (p ^ (m - 1)) := by rw [e]
  rw [pow_pow, c, show m - 1 + 1 = m by omega, hm, show j + 1 + (m - 1) = j + m by omega] at h2
  have h3 := pow_pow y p m j
  rw [hm, Nat.add_comm m j, h2] at h3
  exact h3
end
end Xp
end
section
set_option linter.all false
set_option maxHeartbeats 1000000
/-! The worth of a polynomial over rests at what a rule leaves: sums, products (no program in it). -/
namespace Xp
open Lean.Grind
section
variable {p : Int} {g : Cf}
def evC (y : Fq p g) : Nat → Cf → Fq p g
  | 0, _ => 0
  | n + 1, f => mC p g (f 0) + y * evC y n (sh f)
theorem mC_add (a b : Int) : mC p g (a + b) = mC p g a + mC p g b := by
  show (Qu.mk (Po.C (a + b)) : Fq p g) = _
  rw [Po.C_add, Qu.mk_add]
theorem mC_mul (a b : Int) : mC p g (a * b) = mC p g a * mC p g b := by
  show (Qu.mk (Po.C (a * b)) : Fq p g) = _
  rw [Po.C_mul, Qu.mk_mul]
theorem mC_zero : mC p g 0 = 0 := by
  show (Qu.mk (Po.C 0) : Fq p g) = _
  rw [Po.C_zero, Qu.mk_zero]
theorem mC_one : mC p g 1 = 1 := by
  show (Qu.mk (Po.C 1) : Fq p g) = _
  rw [Po.C_one, Qu.mk_one]
theorem mC_eqm {a b : Int} (h : a % p = b % p) : mC p g a = mC p g b := by
  rw [show mC p g a = mC p g (a % p) from mkC_mod a, h]
  exact (mkC_mod b).symm
theorem ev_ad (y : Fq p g) : ∀ n f h, evC y n (ad f h) = evC y n f + evC y n h
  | 0, f, h => by
    show (0 : Fq p g) = 0 + 0
    grind
  | n + 1, f, h => by
    show mC p g (f 0 + h 0) + y * evC y n (ad (sh f) (sh h)) = (mC p g (f 0) + y * evC y n (sh f)) + (mC p g (h 0) + y * evC y n (sh h))
    rw [ev_ad y n, mC_add]
    grind
theorem ev_sc (y : Fq p g) (c : Int) : ∀ n f, evC y n (sc c f) = mC p g c * evC y n f
  | 0, f => by
    show (0 : Fq p g) = mC p g c * 0
    grind
  | n + 1, f => by
    show mC p g (c * f 0) + y * evC y n (sc c (sh f)) = mC p g c * (mC p g (f 0) + y * evC y n (sh f))
    rw [ev_sc y c n, mC_mul]
    grind
theorem ev_nul (y : Fq p g) : ∀ n, evC y n nul = 0
  | 0 => rfl
  | n + 1 => by
    show mC p g 0 + y * evC y n nul = 0
    rw [ev_nul y n, mC_zero]
    grind
theorem ev_ext (y : Fq p g) : ∀ n f, (∀ k, n ≤ k → f k = 0) → ∀ d, evC y (n + d) f = evC y n f
  | 0, f, h, d => by
    rw [show f = nul from funext fun k => h k (Nat.zero_le _), ev_nul, ev_nul]
  | n + 1, f, h, d => by
    rw [show n + 1 + d = (n + d) + 1 by omega]
    show _ + y * evC y (n + d) (sh f) = _ + y * evC y n (sh f)
    rw [ev_ext y n (sh f) (fun k hk => h (k + 1) (by omega)) d]
theorem ev_eqm (y : Fq p g) : ∀ n {f h : Cf}, Eqm p f h → evC y n f = evC y n h
  | 0, f, h, e => rfl
  | n + 1, f, h, e => by
    show mC p g (f 0) + y * evC y n (sh f) = mC p g (h 0) + y * evC y n (sh h)
    rw [mC_eqm (e 0), ev_eqm y n (f := sh f) (h := sh h) fun k => e (k + 1)]
theorem ev_xs (y : Fq p g) (n : Nat) (h : Cf) : evC y (n + 1) (xs h) = y * evC y n h := by
  show mC p g 0 + y * evC y n (sh (xs h)) = _
  rw [mC_zero, show sh (xs h) = h from rfl]
  grind
theorem ev_cv (y : Fq p g) : ∀ n f, (∀ k, n ≤ k → f k = 0) → ∀ h m, (∀ k, m ≤ k → h k = 0) → evC y (n + m) (cv f h) = evC y n f * evC y m h
  | 0, f, hf, h, m, hh => by
    rw [show f = nul from funext fun k => hf k (Nat.zero_le _), nul_cv, ev_nul]
    show 0 = (0 : Fq p g) * _
    grind
  | n + 1, f, hf, h, m, hh => by
    rw [cv_head, ev_ad, ev_sc, show n + 1 + m = m + (n + 1) by omega, ev_ext y m h hh (n + 1), show m + (n + 1) = (n + m) + 1 by omega, ev_xs, ev_cv y n (sh f) (fun k hk => hf (k + 1) (by omega)) h m hh]
    show _ = (mC p g (f 0) + y * evC y n (sh f)) * evC y m h
    grind
theorem ev_hv (y : Fq p g) : ∀ ts : List Int, evC y ts.length (cf ts) = hv (mC p g) y ts
  | [] => rfl
  | t :: ts => by
    show mC p g t + y * evC y ts.length (sh (cf (t :: ts))) = mC p g t + y * hv (mC p g) y ts
    rw [show sh (cf (t :: ts)) = cf ts from rfl, ev_hv y ts]
theorem hv_hvR (y : Fq p g) : ∀ ts : List Int, hv (mC p g) y ts = hvR y (ts.map (mC p g))
  | [] => rfl
  | t :: ts => by
    show mC p g t + y * hv (mC p g) y ts = mC p g t + y * hvR y (ts.map (mC p g))
    rw [hv_hvR y ts]
end
end Xp
end
section
set_option linter.all false
set_option maxHeartbeats 1000000
/-! The least row of a number is whole (no program in it). -/
namespace Xp
open Lean.Grind
section
variable {p : Nat} {g : Cf}
theorem mC_fix (hp : 2 ≤ p) (h : Fb p) (ts : List Int) : ∀ c ∈ ts.map (mC (p : Int) g), c ^ p = c := fun c hc => by
  obtain ⟨t, _, rfl⟩ := List.mem_map.mp hc
  have := fixC hp h (f := g) 1 t
  rwa [Nat.pow_one] at this
theorem mC_nul (hp : 2 ≤ p) {d : Nat} (D : Dg p d g) (d1 : 1 ≤ d) {c : Int} (z : mC (p : Int) g c = 0) : c % (p : Int) = 0 := by
  have h : Dv p g (Po.C c).c := mk_zero.mp z
  have e := short_zero (by omega) D (x := (Po.C c).c) (fun k hk => by
    show (c * one k) % (p : Int) = 0
    rw [show one k = 0 from if_neg (by omega), Int.mul_zero, Int.zero_emod]) h 0
  have e : (c * 1) % (p : Int) = 0 % (p : Int) := e
  rwa [Int.mul_one, Int.zero_emod] at e
theorem worth_nul (hp : 2 ≤ p) (h : Fb p) {d : Nat} (D : Dg p d g) (d1 : 1 ≤ d) [Dm (Fq p g)] {L : List (Fq p g)} (al : Al (Fq p g) L) {y : Fq p g} {m : Nat} (lt : LeastT p y m) {ts : List Int} (l : ts.length ≤ m) (z : hv (mC (p : Int) g) y ts = 0) : ∀ t ∈ ts, t % (p : Int) = 0 := fun t ht => by
  rw [hv_hvR] at z
  exact mC_nul hp D d1 (least_nul hp h al lt (by rw [List.length_map]; exact l) (mC_fix hp h ts) z _ (List.mem_map_of_mem ht))
theorem cf_bd (ts : List Int) : ∀ k, ts.length ≤ k → cf ts k = 0 := fun k hk => cf_out hk
/-- the least row of a number is whole -/
theorem least_whole (hp : 2 ≤ p) (h : Fb p) {d : Nat} (D : Dg p d g) (d1 : 1 ≤ d) [Dm (Fq p g)] {L : List (Fq p g)} (al : Al (Fq p g) L) {y : Fq p g} {m : Nat} (lt : LeastT p y m) {cs : List Int} (hc : cs ∈ tp p m) (z : hv (mC (p : Int) g) y (cs ++ [1]) = 0) {e : Nat} (e1 : 1 ≤ e) (em : e < m) {t : List Int} (ht : t ∈ tp p e) : ¬ Dv p (lv t) (lv cs) := by
  rintro ⟨u, ⟨N0, hN0⟩, eu⟩
  have lc : (cs ++ [1]).length = m + 1 := by rw [List.length_append, (tp_mem.mp hc).1]; rfl
  have lt1 : (t ++ [1]).length = e + 1 := by rw [List.length_append, (tp_mem.mp ht).1]; rfl
  have hN : ∀ k, N0 + m ≤ k → u k = 0 := fun k hk => hN0 k (by omega)
  have zc : ∀ k, evC y (m + 1 + k) (lv cs) = 0 := fun k => by
    rw [ev_ext y (m + 1) (lv cs) (fun j hj => cf_bd _ j (by omega)) k, ← lc, ev_hv, z]
  have pr := ev_cv y (e + 1) (lv t) (fun j hj => cf_bd _ j (by omega)) u (N0 + m) hN
  rw [← ev_eqm y _ eu, show e + 1 + (N0 + m) = m + 1 + (e + N0) by omega, zc] at pr
  rcases Dm.int pr.symm with z1 | z2
  · rw [← lt1, ev_hv] at z1
    have := worth_nul hp h D d1 al lt (by omega) z1 1 (List.mem_append_right _ List.mem_cons_self)
    rw [one_mod (by omega)] at this
    omega
  · obtain ⟨r, hr, w, ⟨M, hM⟩, ew⟩ := rem_of hp (lv_dg hp hc) (x := u) ⟨_, hN⟩
    have lr := (tp_mem.mp hr).1
    have pw := ev_cv y (m + 1) (lv cs) (fun j hj => cf_bd _ j (by omega)) w M hM
    have zc0 := zc 0
    rw [Nat.add_zero] at zc0
    rw [zc0, show (0 : Fq p g) * evC y M w = 0 by grind] at pw
    have big := ev_ext y (m + 1 + M) (cv (lv cs) w) (fun k hk => cv_over (a := m) (b := M) (fun i hi => cf_bd _ i (by omega)) (fun i hi => hM i (by omega)) (by omega)) (N0 + m)
    rw [pw, ← ev_eqm y _ ew, ev_ad, ev_sc] at big
    have bu := ev_ext y (N0 + m) u hN (m + 1 + M)
    rw [Nat.add_comm (N0 + m), z2] at bu
    have br := ev_ext y r.length (cf r) (cf_bd r) (1 + M + (N0 + m))
    rw [ev_hv, lr, show m + (1 + M + (N0 + m)) = m + 1 + M + (N0 + m) by omega] at br
    rw [bu, br] at big
    have n1 : mC (p : Int) g (-1) + 1 = 0 := by
      rw [← mC_one, ← mC_add]
      exact mC_zero
    have zr : hv (mC (p : Int) g) y r = 0 := by grind
    have rz := worth_nul hp h D d1 al lt (Nat.le_of_eq lr) zr
    have rk : ∀ k, cf r k % (p : Int) = 0 := fun k => by
      show r.getD k 0 % (p : Int) = 0
      rw [List.getD_eq_getElem?_getD]
      cases hk : r[k]? with
      | none => exact Int.zero_emod _
      | some x => exact rz x (List.mem_of_getElem? hk)
    have e2 : Eqm p u (cv (lv cs) w) := fun k => by
      rw [← ew k]
      show u k % (p : Int) = (u k + -1 * cf r k) % (p : Int)
      obtain ⟨q, hq⟩ := Int.dvd_of_emod_eq_zero (rk k)
      rw [hq, show u k + -1 * ((p : Int) * q) = u k + (p : Int) * (-q) by rw [Int.mul_neg]; omega, Int.add_mul_emod_self_left]
    have e3 : Eqm p (lv cs) (cv (lv cs) (cv (lv t) w)) := fun k => by
      rw [eu k, ((Eqm.refl p (lv t)).cv e2) k, ← cvA, cvC (lv t) (lv cs), cvA]
    obtain ⟨c, hcc⟩ := (lv_dg hp hc).top
    have fw : Fi (cv (lv t) w) := Fi.cv (Fi.list (t ++ [1])) ⟨M, hM⟩
    have sn := short_nought (u := ad (cv (lv t) w) (sc (-1) one)) (r := nul) (hcc.trans (one_mod (by omega)).symm) (lv_dg hp hc).out (fw.add (Fi.one.sc (-1))) (fun k _ => Int.zero_emod _) (fun k => by
      rw [cv_ad, cv_sc, cv1]
      show 0 % (p : Int) = (cv (lv cs) (cv (lv t) w) k + -1 * lv cs k) % (p : Int)
      rw [show cv (lv cs) (cv (lv t) w) k + -1 * lv cs k = cv (lv cs) (cv (lv t) w) k - lv cs k by omega, Int.sub_emod, ← e3 k, Int.sub_self])
    refine lv_one hp e1 ht ⟨w, ⟨M, hM⟩, fun k => ?_⟩
    have sk : (cv (lv t) w k + -1 * one k) % (p : Int) = 0 % (p : Int) := sn k
    rw [Int.zero_emod] at sk
    obtain ⟨q, hq⟩ := Int.dvd_of_emod_eq_zero sk
    rw [show cv (lv t) w k = one k + (p : Int) * q by omega, Int.add_mul_emod_self_left]
end
end Xp
end
section
set_option linter.all false
set_option maxHeartbeats 1000000
/-! The rule is the least row of x (no program in it). -/
namespace Xp
open Lean.Grind
section
variable {p : Nat} {f : Cf}
theorem x_least (hp : 2 ≤ p) (fb : Fb p) {n : Nat} (D : Dg p n f) (n1 : 1 ≤ n) [Dm (Fq p f)] : LeastT p (Qu.mk Po.X : Fq p f) n := by
  refine ⟨n1, ?_, fun j j1 jn e => ?_⟩
  · have := fermat (els_al hp D) (Qu.mk Po.X : Fq p f)
    rwa [els_len] at this
  · have := few (q := p ^ j) (Nat.le_trans hp (Nat.le_self_pow (by omega) p)) (els_al hp D).nd fun x _ => fixed hp fb e x
    rw [els_len] at this
    have l := Nat.pow_lt_pow_right (show 1 < p by omega) jn
    omega
theorem rule_x {t : List Int} : hv (mC (p : Int) (lv t)) (Qu.mk Po.X) (t ++ [1]) = 0 := by
  rw [← el_hv]
  exact mk_zero.mpr (Dv.self p _)
end
end Xp
end
section
set_option linter.all false
set_option maxHeartbeats 1000000
/-! Products of rows over a ring, place by place; the row times x less r (no program in it). -/
namespace Xp
open Lean.Grind
section
variable {R : Type} [CommRing R]
/-- the row bs moved up by i places -/
def shR (bs : List R) (i k : Nat) : R := if i ≤ k then bs.getD (k - i) 0 else 0
/-- place k of the product -/
def cvR (as bs : List R) (k : Nat) : R := sumN (fun i => as.getD i 0 * shR bs i k) as.length
theorem sumN_zero {f : Nat → R} : ∀ {m : Nat}, (∀ i, i < m → f i = 0) → sumN f m = 0
  | 0, _ => rfl
  | m + 1, h => by
    show sumN f m + f m = 0
    rw [sumN_zero fun i hi => h i (by omega), h m (by omega)]
    grind
theorem sumN_eq {f g : Nat → R} : ∀ {m : Nat}, (∀ i, i < m → f i = g i) → sumN f m = sumN g m
  | 0, _ => rfl
  | m + 1, h => by
    show sumN f m + f m = sumN g m + g m
    rw [sumN_eq fun i hi => h i (by omega), h m (by omega)]
theorem cvR_nil (bs : List R) (k : Nat) : cvR [] bs k = 0 := rfl
theorem cvR_cons0 (a : R) (as bs : List R) : cvR (a :: as) bs 0 = a * bs.getD 0 0 := by
  unfold cvR
  rw [List.length_cons, ← sumN_sh, sumN_zero]
  · show 0 + a * (if 0 ≤ 0 then bs.getD (0 - 0) 0 else 0) = _
    rw [if_pos (Nat.le_refl 0)]
    grind
  · intro i _
    show as.getD i 0 * (if i + 1 ≤ 0 then _ else 0) = 0
    rw [if_neg (by omega)]
    grind
theorem cvR_cons (a : R) (as bs : List R) (k : Nat) : cvR (a :: as) bs (k + 1) = a * bs.getD (k + 1) 0 + cvR as bs k := by
  unfold cvR
  rw [List.length_cons, ← sumN_sh]
  have e : sumN (fun i => (a :: as).getD (i + 1) 0 * shR bs (i + 1) (k + 1)) as.length = sumN (fun i => as.getD i 0 * shR bs i k) as.length := sumN_eq fun i _ => by
    show as.getD i 0 * (if i + 1 ≤ k + 1 then bs.getD (k + 1 - (i + 1)) 0 else 0) = as.getD i 0 * (if i ≤ k then bs.getD (k - i) 0 else 0)
    by_cases h : i ≤ k
    · rw [if_pos h, if_pos (by omega), Nat.add_sub_add_right]
    · rw [if_neg h, if_neg (by omega)]
  rw [e]
  show _ + a * (if 0 ≤ k + 1 then bs.getD (k + 1 - 0) 0 else 0) = _
  rw [if_pos (Nat.zero_le _), Nat.sub_zero]
  grind
theorem cvR_over {as bs : List R} {k : Nat} (h : as.length + bs.length ≤ k + 1) : cvR as bs k = 0 := sumN_zero fun i hi => by
  show as.getD i 0 * (if i ≤ k then bs.getD (k - i) 0 else 0) = 0
  rw [if_pos (by omega), List.getD_eq_getElem?_getD (l := bs), List.getElem?_eq_none (by omega)]
  show _ * (0 : R) = 0
  grind
theorem off_cv (r : R) : ∀ (as : List R) (c : R) (k : Nat), (offR r as c).getD k 0 = (if k = 0 then c else 0) + cvR as [0 - r, 1] k
  | [], c, 0 => by
    show c = (if 0 = 0 then c else 0) + 0
    rw [if_pos rfl]
    grind
  | [], c, k + 1 => by
    show ([] : List R).getD k 0 = (if k + 1 = 0 then c else 0) + 0
    rw [if_neg (by omega)]
    show (0 : R) = 0 + 0
    grind
  | a :: as, c, 0 => by
    show c - r * a = (if 0 = 0 then c else 0) + _
    rw [if_pos rfl, cvR_cons0]
    show c - r * a = c + a * (0 - r)
    grind
  | a :: as, c, k + 1 => by
    show (offR r as a).getD k 0 = (if k + 1 = 0 then c else 0) + _
    rw [if_neg (by omega), cvR_cons, off_cv r as a k]
    match k with
    | 0 =>
      rw [if_pos rfl]
      show a + cvR as [0 - r, 1] 0 = 0 + (a * 1 + cvR as [0 - r, 1] 0)
      grind
    | k + 1 =>
      rw [if_neg (by omega)]
      show 0 + cvR as [0 - r, 1] (k + 1) = 0 + (a * (([] : List R).getD k 0) + cvR as [0 - r, 1] (k + 1))
      show 0 + cvR as [0 - r, 1] (k + 1) = 0 + (a * 0 + cvR as [0 - r, 1] (k + 1))
      grind
/-- a row is told by its places -/
theorem row_ext : ∀ {as bs : List R}, as.length = bs.length → (∀ k, as.getD k 0 = bs.getD k 0) → as = bs
  | [], [], _, _ => rfl
  | a :: as, b :: bs, l, h => by
    have h0 : a = b := h 0
    rw [h0, row_ext (Nat.succ.inj l) fun k => h (k + 1)]
/-- no noughts behind -/
def trR (as : List R) : Prop := as = [] ∨ as.getD (as.length - 1) 0 ≠ 0
theorem getD_len {as : List R} {k : Nat} (h : as.length ≤ k) : as.getD k 0 = 0 := by
  rw [List.getD_eq_getElem?_getD, List.getElem?_eq_none h]
  rfl
/-- two rows without noughts behind of like places are one -/
theorem tr_one {as bs : List R} (ha : trR as) (hb : trR bs) (h : ∀ k, as.getD k 0 = bs.getD k 0) : as = bs := by
  refine row_ext ?_ h
  have key : ∀ {as bs : List R}, trR as → (∀ k, as.getD k 0 = bs.getD k 0) → as.length ≤ bs.length := fun {as bs} ha h => by
    rcases ha with rfl | ha
    · exact Nat.zero_le _
    · rcases Nat.lt_or_ge bs.length as.length with g | g
      · refine absurd ?_ ha
        rw [h, getD_len (by omega)]
      · exact g
  have h1 := key ha h
  have h2 := key hb fun k => (h k).symm
  omega
theorem tr_snoc {es : List R} {b : R} (nz : b ≠ 0) : trR (es ++ [b]) := .inr (by
  rw [List.length_append, List.length_singleton, Nat.add_sub_cancel, List.getD_eq_getElem?_getD, List.getElem?_append_right (Nat.le_refl _), Nat.sub_self]
  exact nz)
theorem built_snoc (rs : List R) (r : R) : builtR (rs ++ [r]) = offR r (builtR rs) 0 := by
  unfold builtR
  rw [List.foldl_append]
  rfl
/-- the product with x less r of a built row is the built row with r more -/
theorem built_step {rs : List R} {r : R} {cs : List R} (n0 : (1 : R) ≠ 0) (tr : trR cs) (h : ∀ k, cs.getD k 0 = cvR (builtR rs) [0 - r, 1] k) : cs = builtR (rs ++ [r]) := by
  obtain ⟨es, e, _⟩ := builtR_ex (rs ++ [r])
  refine tr_one tr (by rw [e]; exact tr_snoc n0) fun k => ?_
  rw [h, built_snoc, off_cv]
  split <;> grind
end
end Xp
end
section
set_option Elab.async false
set_option linter.all false
set_option maxRecDepth 100000
set_option maxHeartbeats 4000000
namespace Xk
open PySem PySem.Spec PyProof.Rows L2 Xh LamX NdefX
/-! ### rows of numbers: products, built ones, least ones -/
abbrev els (q : Nat) (R : List Int) (rs : List (List Int)) : List (Xp.Fq (q : Int) (co R)) := rs.map (El q R)
theorem El_nil {q : Nat} {R : List Int} : El q R [] = 0 := by
  show Xp.Qu.mk (Xp.Po.of []) = 0
  rw [Xp.of_nil]
  rfl
theorem els_at {q : Nat} {R : List Int} : ∀ (rs : List (List Int)) (k : Nat), (els q R rs).getD k 0 = El q R (rs.getD k [])
  | [], k => El_nil.symm
  | r :: rs, 0 => rfl
  | r :: rs, k + 1 => els_at rs k
theorem Rws.set {H : Hp} {v : Addr} {zs : List Int} (e : H v = some (.tup (zs.map V.int))) : ∀ {ls : List Addr} {rs : List (List Int)} (k : Nat), Rws H ls rs → Rws H (ls.set k v) (rs.set k zs)
  | [], [], _, _ => trivial
  | _ :: _, _ :: _, 0, h => ⟨e, h.2⟩
  | _ :: _, _ :: _, k + 1, h => ⟨h.1, Rws.set e k h.2⟩
  | [], _ :: _, _, h => h.elim
  | _ :: _, [], _, h => h.elim
theorem Rws.take {H : Hp} : ∀ {ls : List Addr} {rs : List (List Int)} (k : Nat), Rws H ls rs → Rws H (ls.take k) (rs.take k)
  | [], [], k, _ => by rw [List.take_nil, List.take_nil]; exact trivial
  | _ :: _, _ :: _, 0, _ => trivial
  | _ :: _, _ :: _, k + 1, h => ⟨h.1, Rws.take k h.2⟩
  | [], _ :: _, _, h => h.elim
  | _ :: _, [], _, h => h.elim
theorem Rws.rep {H : Hp} {v : Addr} {zs : List Int} (e : H v = some (.tup (zs.map V.int))) : ∀ m : Nat, Rws H (List.replicate m v) (List.replicate m zs)
  | 0 => trivial
  | m + 1 => ⟨e, Rws.rep e m⟩
theorem Rws.get {H : Hp} : ∀ {ls : List Addr} {rs : List (List Int)} {k : Nat}, Rws H ls rs → k < rs.length → ∃ l, (ls.map V.ref)[k]? = some (.ref l) ∧ H l = some (.tup ((rs.getD k []).map V.int))
  | l :: _, _ :: _, 0, h, _ => ⟨l, rfl, h.1⟩
  | _ :: ls, _ :: rs, k + 1, h, hk => by
    have := Rws.get (ls := ls) (rs := rs) (k := k) h.2 (Nat.lt_of_succ_lt_succ hk)
    exact this
  | [], _ :: _, _, h, _ => h.elim
  | _ :: _, [], _, h, _ => h.elim
theorem getD_mem {rs : List (List Int)} {k : Nat} (h : k < rs.length) : rs.getD k [] ∈ rs := by
  rw [List.getD_eq_getElem?_getD, List.getElem?_eq_getElem h]
  exact List.getElem_mem h
theorem els_len {q : Nat} {R : List Int} {rs : List (List Int)} : (els q R rs).length = rs.length := List.length_map _
theorem els_take {q : Nat} {R : List Int} {rs : List (List Int)} {c : Nat} (z : ∀ k, c ≤ k → (els q R rs).getD k 0 = 0) (k : Nat) : (els q R (rs.take c)).getD k 0 = (els q R rs).getD k 0 := by
  rcases Nat.lt_or_ge k c with g | g
  · rw [els_at, els_at, List.getD_eq_getElem?_getD, List.getElem?_take, if_pos g, ← List.getD_eq_getElem?_getD]
  · rw [z k g, Xp.getD_len (by rw [els_len, List.length_take]; omega)]
theorem els_tr {q : Nat} {R : List Int} {rs : List (List Int)} {c : Nat} (hc : c ≤ rs.length) (z : c = 0 ∨ (els q R rs).getD (c - 1) 0 ≠ 0) : Xp.trR (els q R (rs.take c)) := by
  rcases Nat.eq_zero_or_pos c with rfl | g
  · exact .inl rfl
  · refine .inr ?_
    rw [els_len, List.length_take, Nat.min_eq_left hc, els_at, List.getD_eq_getElem?_getD, List.getElem?_take, if_pos (by omega), ← List.getD_eq_getElem?_getD, ← els_at]
    rcases z with z | z
    · omega
    · exact z
theorem els_rep {q n : Nat} {R : List Int} (m k : Nat) : (els q R (List.replicate m (List.replicate n 0))).getD k 0 = 0 := by
  rw [els_at, List.getD_eq_getElem?_getD, List.getElem?_replicate]
  split
  · exact el_nought
  · exact El_nil
theorem el_sub2 {q : Nat} {R xs ys zs : List Int} (h : Xp.Cg q (co R) (Xp.ad (co xs) (Xp.sc (-1) (co ys))) (co zs)) : El q R zs = El q R xs - El q R ys := by
  have h2 := h.ad (Xp.Cg.refl q (co R) (co ys))
  have e : Xp.ad (Xp.ad (co xs) (Xp.sc (-1) (co ys))) (co ys) = co xs := funext fun k => by
    show co xs k + -1 * co ys k + co ys k = co xs k
    omega
  rw [e] at h2
  have := el_add2 (Xp.Cg.symm h2)
  grind
theorem RuleOk.dg {q n : Nat} {R : List Int} (x : RuleOk q n R) : Xp.Dg q n (co R) := by
  obtain ⟨t, l, r, rfl⟩ := x.ex
  exact Xp.lv_dg x.q0 (tp_of l r)
theorem plain_rows {q n : Nat} {R : List Int} (hR : RuleOk q n R) : ∀ cs : List (List Int), (∀ r ∈ cs, Num q n r ∧ El q R r ^ q = El q R r) → ∃ ks : List Int, cs = ks.map (plainL n) ∧ ∀ c ∈ ks, 0 ≤ c ∧ c < q
  | [], _ => ⟨[], rfl, fun c hc => nomatch hc⟩
  | r :: cs, h => by
    obtain ⟨ks, rfl, hk⟩ := plain_rows hR cs fun r' hr => h r' (List.mem_cons_of_mem _ hr)
    obtain ⟨nr, fr⟩ := h r List.mem_cons_self
    obtain ⟨c, c0, c1, rfl⟩ := hR.const nr fr
    exact ⟨c :: ks, rfl, fun c' hc => by
      rcases List.mem_cons.mp hc with rfl | hc
      · exact ⟨c0, c1⟩
      · exact hk c' hc⟩
theorem els_plain {q n : Nat} {R : List Int} : ∀ ks : List Int, els q R (ks.map (plainL n)) = ks.map (Xp.mC q (co R))
  | [] => rfl
  | c :: ks => by
    show El q R (plainL n c) :: els q R (ks.map (plainL n)) = Xp.mC q (co R) c :: ks.map (Xp.mC q (co R))
    rw [els_plain ks, show El q R (plainL n c) = Xp.mC q (co R) c from Xp.el_plain c (n - 1)]
theorem els_turns {q n : Nat} {R xs : List Int} {rs : List (List Int)} (h : ∀ i r, rs[i]? = some r → Num q n r ∧ El q R r = El q R xs ^ (q ^ i)) : els q R rs = Xp.turnsL q (El q R xs) rs.length := by
  refine List.ext_getElem? fun i => ?_
  show (rs.map (El q R))[i]? = ((List.range rs.length).map fun i => El q R xs ^ (q ^ i))[i]?
  rw [List.getElem?_map, List.getElem?_map]
  rcases Nat.lt_or_ge i rs.length with g | g
  · have e := List.getElem?_eq_getElem g
    rw [e, List.getElem?_range g]
    show some (El q R rs[i]) = some _
    rw [(h i _ e).2]
  · rw [List.getElem?_eq_none g, List.getElem?_eq_none (by rw [List.length_range]; exact g)]
    rfl
/-- a built row of turns is one of rests -/
theorem least_row {q n : Nat} {R xs : List Int} (hR : RuleOk q n R) {m : Nat} (lt : Xp.LeastT q (El q R xs) m) {cs : List (List Int)} (nc : ∀ r ∈ cs, Num q n r) (e : els q R cs = Xp.builtR (Xp.turnsL q (El q R xs) m)) : ∃ ks : List Int, cs = (ks ++ [1]).map (plainL n) ∧ ks.length = m ∧ (∀ c ∈ ks, 0 ≤ c ∧ c < q) ∧ Xp.hv (Xp.mC q (co R)) (El q R xs) (ks ++ [1]) = 0 := by
  have := hR.dm
  have n1 := hR.n1
  have q0 := hR.q0
  obtain ⟨es, e2, l, fx, z⟩ := Xp.least_built hR.q0 (fb_primes hR.hp) (Xp.els_al hR.q0 hR.dg) lt
  rw [e2] at e
  have fr : ∀ r ∈ cs, El q R r ^ q = El q R r := fun r hr => by
    have hm : El q R r ∈ es ++ [1] := by
      rw [← e]
      exact List.mem_map_of_mem hr
    exact Xp.snoc_fix fx _ hm
  obtain ⟨ks, rfl, hk⟩ := plain_rows hR cs fun r hr => ⟨nc r hr, fr r hr⟩
  rw [els_plain] at e
  rcases List.eq_nil_or_concat ks with rfl | ⟨k0, c, rfl⟩
  · have := congrArg List.length e
    rw [List.length_append] at this
    simp at this
  · rw [List.concat_eq_append] at *
    rw [List.map_append] at e
    obtain ⟨ea, eb⟩ := List.append_inj' e rfl
    have ec : Xp.mC q (co R) c = 1 := (List.cons.inj eb).1
    have hc := hk c (List.mem_append_right _ List.mem_cons_self)
    have c1 : c = 1 := by
      have := hR.eq (num_plain n1 hc.1 hc.2) (num_plain (c := 1) n1 (by omega) (by omega)) (by
        rw [show El q R (plainL n c) = Xp.mC q (co R) c from Xp.el_plain c (n - 1), ec]
        exact el_one2.symm)
      injection this
    subst c1
    refine ⟨k0, rfl, by rw [← l, ← ea, List.length_map], fun c' hc' => hk c' (List.mem_append_left _ hc'), ?_⟩
    rw [Xp.hv_hvR, List.map_append, ea, eb]
    exact z
theorem flat_ref (m : Nat) (v : Addr) : (List.replicate m [V.ref v]).flatten = (List.replicate m v).map V.ref := by
  induction m with
  | zero => rfl
  | succ n ih =>
    rw [List.replicate_succ, List.flatten_cons, ih, List.replicate_succ]
    rfl
theorem cut_takeR {la : List Addr} {n : Nat} (h : n ≤ la.length) : cutV (la.map V.ref) none (some (n : Int)) = (la.take n).map V.ref := by
  have i1 : HT.sIx (la.map V.ref).length (la.map V.ref).length (some ((n : Nat) : Int)) = n := by
    show (if ((n : Nat) : Int) < 0 then (((n : Nat) : Int) + (((la.map V.ref).length : Nat) : Int)).toNat else min ((n : Nat) : Int).toNat (la.map V.ref).length) = n
    rw [if_neg (by omega), Int.toNat_natCast, List.length_map]
    omega
  unfold cutV
  rw [i1, show HT.sIx (la.map V.ref).length 0 none = 0 from rfl, List.drop_zero, Nat.sub_zero, List.map_take]
/-- a row of numbers on the heap -/
structure NRow (H : Hp) (q n : Nat) (la : List Addr) (rs : List (List Int)) : Prop where
  r : Rws H la rs
  n : ∀ r ∈ rs, Num q n r
theorem NRow.keep {H H' : Hp} {q n : Nat} {la : List Addr} {rs : List (List Int)} (h : NRow H q n la rs) (s : Same H H') : NRow H' q n la rs := ⟨h.r.keep (kpS s), h.n⟩
def spOvTrim (K : PySem.W.Frag) (CR : Addr) : Sp := fun vs H Q _ => ∃ (W D : Addr) (q n : Nat) (R : List Int) (la : List Addr) (rs : List (List Int)), vs = [.ref W, .ref D] ∧ RuleOk q n R ∧ RawAt K CR H W q n R ∧ H D = some (.lst (la.map V.ref)) ∧ NRow H q n la rs ∧ rs.length ≤ 60 ∧
  ∀ (v : Addr) (lc : List Addr) (cs : List (List Int)) (H' : Hp), Same H H' → H' v = some (.tup (lc.map V.ref)) → NRow H' q n lc cs → cs.length ≤ rs.length → (∀ k, (els q R cs).getD k 0 = (els q R rs).getD k 0) → Xp.trR (els q R cs) → Q (.ref v) H'
def spOvTimes (K : PySem.W.Frag) (CR : Addr) : Sp := fun vs H Q _ => ∃ (W a b : Addr) (q n : Nat) (R : List Int) (la lb : List Addr) (xs ys : List (List Int)), vs = [.ref W, .ref a, .ref b] ∧ RuleOk q n R ∧ RawAt K CR H W q n R ∧ H a = some (.tup (la.map V.ref)) ∧ NRow H q n la xs ∧ H b = some (.tup (lb.map V.ref)) ∧ NRow H q n lb ys ∧ xs.length ≤ 30 ∧ ys.length ≤ 30 ∧
  ∀ (v : Addr) (lc : List Addr) (cs : List (List Int)) (H' : Hp), Same H H' → H' v = some (.tup (lc.map V.ref)) → NRow H' q n lc cs → cs.length ≤ xs.length + ys.length → (∀ k, (els q R cs).getD k 0 = Xp.cvR (els q R xs) (els q R ys) k) → Xp.trR (els q R cs) → Q (.ref v) H'
def spBuilt (K : PySem.W.Frag) (CR : Addr) : Sp := fun vs H Q _ => ∃ (W D : Addr) (q n : Nat) (R : List Int) (la : List Addr) (rs : List (List Int)), vs = [.ref W, .ref D] ∧ RuleOk q n R ∧ RawAt K CR H W q n R ∧ H D = some (.lst (la.map V.ref)) ∧ NRow H q n la rs ∧ rs.length ≤ 24 ∧
  ∀ (v : Addr) (lc : List Addr) (cs : List (List Int)) (H' : Hp), Same H H' → H' v = some (.tup (lc.map V.ref)) → NRow H' q n lc cs → els q R cs = Xp.builtR (els q R rs) → Q (.ref v) H'
def spLeastF (K : PySem.W.Frag) (CF CR C : Addr) : Sp := fun vs H Q X => ∃ (F0 a : Addr) (q n : Nat) (R xs : List Int), vs = [.ref F0, .ref a] ∧ RuleOk q n R ∧ FldAt K CF CR H F0 q n R ∧ H a = some (.tup (xs.map V.int)) ∧ xs.length ≤ 100 ∧
  (Num q n xs → ∀ (v : Addr) (cs : List Int) (H' : Hp), Same H H' → H' v = some (.tup ((cs ++ [1]).map V.int)) → Xp.LeastT q (El q R xs) cs.length → cs.length ≤ n → Rs q cs → Xp.hv (Xp.mC q (co R)) (El q R xs) (cs ++ [1]) = 0 → Q (.ref v) H') ∧ (¬ Num q n xs → Ex H X C "BadNumber")
section
variable {P : Program} {w : World} {K : PySem.W.Frag} {mg : Str → Option Value} {base : Heap}
theorem sc_over_trimmed : FnScope (["raw", "numbers", "count"] : List Str) ["raw", "numbers"] (defScope s_over_trimmed) := ⟨rfl, rfl, rfl, by decide +kernel, rfl, by decide +kernel, by decide +kernel⟩
theorem ok_over_trimmed {f CF CR : Addr} {fd : FuncData} (F : FunD K "over_trimmed" "over_trimmed" (defArgs s_over_trimmed) (defBody s_over_trimmed) (defScope s_over_trimmed) [] [] f fd) (KC : ClsF K CF CR) (T : Fre mg) : FnOk P w K mg base CX0 1 f fd ["raw", "numbers"] (spOvTrim K CR) := by
  refine F.ok sc_over_trimmed (fun vs H Q E h => ?_) (fun cdv A outer s H vs Q E hr h => ?_)
  · obtain ⟨W, D, q, n, R, la, rs, rfl, _⟩ := h
    rfl
  · obtain ⟨W, D, q, n, R, la, rs, rfl, hR, hW, hD, hN, l60, k⟩ := h
    have n1 := hR.n1
    have n12 := hR.n12
    have q0 := hR.q0
    obtain ⟨dx, rr, z, u, tt, ht, lt, lh, ts, hs, eW, _, ez, eu, _⟩ := id hW.ex
    have lla := hN.r.len
    refine ⟨_, PSs.nox (pss_cons (ps_set (i := 2) sc_over_trimmed.nd rfl (Or.inl rfl) (pe_callB call_len_seq (by rfl) T.f_len PySem.boot_len (pa_cons (pv 1) pa_nil)))
      (pss_cons (ps_while PassesOwn.never (PW.pt (pw_and (pt_cmpR op_gt (pv 2) pe_int (nomark _)) (pw_and1 (pt_cmpR (op_eqD hr.units) (pe_ix ix_list (pv 1) (pe_op op_sub (pv 2) pe_int) (fun _ _ => rfl)) (pe_fld (pv 0) rfl) (nomark _))))) (pss_one (ps_aug (i := 2) sc_over_trimmed.nd rfl (Or.inl rfl) pe_int ip_sub)))
      (pss_one (ps_ret (pe_callTy call_tuple_of (by rfl) T.f_tuple (by decide +kernel) (pa_cons (pe_slice sl_list (pv 1) po_none (po_some (pv 2))) pa_nil)))))) , ?_⟩
    refine ⟨_, rfl, D, _, rfl, .inl (SqL.of hD), ?_⟩
    refine whileQ (fun σ' H' => ∃ c : Nat, σ' = [some (.ref W), some (.ref D), some (.int c)] ∧ H' = H ∧ c ≤ rs.length ∧ ∀ k, c ≤ k → (els q R rs).getD k 0 = 0) (fun σ' _ => slotN 2 σ') ⟨rs.length, by rw [List.length_map, lla]; rfl, rfl, Nat.le_refl _, fun k hk => Xp.getD_len (by rw [els_len]; exact hk)⟩ ?_
    rintro σ' H' ⟨c, rfl, rfl, hc, hz⟩
    have fin : (c = 0 ∨ (els q R rs).getD (c - 1) 0 ≠ 0) → ∀ p, H' p = none → ∀ l, L2.upd H' p (.lst (cutV (la.map V.ref) none (some (c : Int)))) l = none → Q (.ref l) (L2.upd (L2.upd H' p (.lst (cutV (la.map V.ref) none (some (c : Int))))) l (.tup (cutV (la.map V.ref) none (some (c : Int))))) := fun zc p hp l hl => by
      rw [cut_takeR (by omega)] at hl ⊢
      have s1 := (same_upd (o := .lst ((la.take c).map V.ref)) hp).trans (same_upd (o := .tup ((la.take c).map V.ref)) hl)
      refine k l (la.take c) (rs.take c) _ s1 upd_same ⟨(hN.r.take c).keep (kpS s1), fun r hr => hN.n r (List.mem_of_mem_take hr)⟩ ?_ (els_take hz) (els_tr hc zc)
      rw [List.length_take]
      omega
    refine ⟨_, rfl, _, _, rfl, rfl, _, rfl, ite2 (fun hc0 => ?_) (fun hc0 => ?_)⟩
    · have h0 : 0 < c := by
        have z := of_decide_eq_true hc0
        omega
      obtain ⟨l, hl, el⟩ := hN.r.get (k := c - 1) (by omega)
      have nl := hN.n _ (getD_mem (k := c - 1) (by omega))
      refine ⟨_, rfl, _, rfl, _, _, rfl, rfl, D, _, _, .ref l, rfl, rfl, SqL.of hD, ?_, ?_⟩
      · rw [show (c : Int) - 1 = ((c - 1 : Nat) : Int) by omega]
        exact atI_nat hl
      · refine ⟨_, rfl, W, CR, dx, _, _, rfl, eW, KC.clR, KC.r3, rawFs_nought _ _ _ _ _ _ _, _, _, dp_tup (SqT.of el), dp_tup (SqT.of ez), sh_ints _, sh_ints _, _, rfl, ?_⟩
        rw [eqv_dec]
        by_cases h : rs.getD (c - 1) [] = List.replicate n 0
        · rw [decide_eq_true h]
          refine iteT ⟨fun σ' H2 => (∃ c' : Nat, σ' = [some (.ref W), some (.ref D), some (.int c')] ∧ H2 = H' ∧ c' ≤ rs.length ∧ ∀ k, c' ≤ k → (els q R rs).getD k 0 = 0) ∧ slotN 2 σ' < slotN 2 [some (.ref W), some (.ref D), some (.int c)], fun σ' H2 ⟨p, z⟩ => ⟨_, z, rfl, p⟩, ?_⟩
          refine ⟨_, rfl, _, _, rfl, rfl, ⟨c - 1, by rw [show ((c - 1 : Nat) : Int) = (c : Int) - 1 by omega]; rfl, rfl, by omega, fun j hj => ?_⟩, ?_⟩
          · by_cases hj2 : j = c - 1
            · rw [hj2, els_at, h]
              exact el_nought
            · exact hz j (by omega)
          · show ((c : Int) - 1).toNat < (c : Int).toNat
            omega
        · rw [decide_eq_false h]
          refine iteF ⟨_, rfl, _, rfl, c, rfl, D, _, rfl, SqL.of hD, fun p hp => ⟨p, _, rfl, .inl ⟨SqL.of upd_same, fun l hl => fin (.inr fun z => h ?_) p hp l hl⟩⟩⟩
          rw [els_at] at z
          exact hR.eq nl (num_nought (by omega)) (z.trans el_nought.symm)
    · have h0 : c = 0 := by
        by_cases z : c = 0
        · exact z
        · exact absurd (decide_eq_true (show (0 : Int) < (c : Int) by omega)) hc0
      exact ⟨_, rfl, _, rfl, c, rfl, D, _, rfl, SqL.of hD, fun p hp => ⟨p, _, rfl, .inl ⟨SqL.of upd_same, fun l hl => fin (.inl h0) p hp l hl⟩⟩⟩
theorem sc_raw_over_times : FnScope (["raw", "one", "other", "sums", "low", "number", "high", "by"] : List Str) ["raw", "one", "other"] (defScope s_raw_over_times) := ⟨rfl, rfl, rfl, by decide +kernel, rfl, by decide +kernel, by decide +kernel⟩
theorem ok_raw_over_times {f CF CR : Addr} {fd : FuncData} (F : FunD K "raw_over_times" "raw_over_times" (defArgs s_raw_over_times) (defBody s_raw_over_times) (defScope s_raw_over_times) [] [] f fd) (KC : ClsF K CF CR) (T : Fre mg) (o_RawField_plus : OwnM P w K mg base CX0 1 CR "plus" ["self", "one", "other"] [] (spNum2 K CR gAdd)) (o_RawField_times : OwnM P w K mg base CX0 2 CR "times" ["self", "one", "other"] [] (spNum2 K CR gMul)) (o_over_trimmed : Own P w K mg base CX0 1 "over_trimmed" ["raw", "numbers"] [] (spOvTrim K CR)) : FnOk P w K mg base CX0 3 f fd ["raw", "one", "other"] (spOvTimes K CR) := by
  refine F.ok sc_raw_over_times (fun vs H Q E h => ?_) (fun cdv A outer s H vs Q E hr h => ?_)
  · obtain ⟨W, a, b, q, n, R, la, lb, xs, ys, rfl, _⟩ := h
    rfl
  · obtain ⟨W, a, b, q, n, R, la, lb, xs, ys, rfl, hR, hW, ha, hx, hb, hy, lx, ly, k⟩ := h
    have n1 := hR.n1
    have n12 := hR.n12
    have q0 := hR.q0
    obtain ⟨dx, rr, z, u, tt, ht, lt, lh, ts, hs, eW, _, ez, eu, _⟩ := id hW.ex
    have lla := hx.r.len
    have llb := hy.r.len
    refine ⟨_, PSs.nox (pss_cons (ps_set (i := 3) sc_raw_over_times.nd rfl (Or.inl rfl) (pe_op op_rep (pe_lst (pa_cons (pe_fld (pv 0) rfl) pa_nil)) (pe_op op_add (pe_callB call_len_seq (by rfl) T.f_len PySem.boot_len (pa_cons (pv 1) pa_nil)) (pe_callB call_len_seq (by rfl) T.f_len PySem.boot_len (pa_cons (pv 2) pa_nil)))))
      (pss_cons (ps_for PassesOwn.never rfl (pi_enT (by rfl) T.f_enumerate (pa_cons (pv 1) pa_nil)) (pg_tup rfl (pgs_cons (pg_name (i := 4) sc_raw_over_times.nd rfl (Or.inl rfl)) (pgs_cons (pg_name (i := 5) sc_raw_over_times.nd rfl (Or.inl rfl)) pgs_nil))) (pss_one (ps_for PassesOwn.never rfl (pi_enT (by rfl) T.f_enumerate (pa_cons (pv 2) pa_nil)) (pg_tup rfl (pgs_cons (pg_name (i := 6) sc_raw_over_times.nd rfl (Or.inl rfl)) (pgs_cons (pg_name (i := 7) sc_raw_over_times.nd rfl (Or.inl rfl)) pgs_nil))) (pss_one (ps_asg (pe_ownM o_RawField_plus (hr.mono (by decide)) pass0 (pv 0) (pa_cons (pe_ix ix_list (pv 3) (pe_op op_add (pv 4) (pv 6)) (fun _ _ => rfl)) (pa_cons (pe_ownM o_RawField_times (hr.mono (by decide)) pass0 (pv 0) (pa_cons (pv 5) (pa_cons (pv 7) pa_nil))) pa_nil))) (pg_sub (pv 3) (pe_op op_add (pv 4) (pv 6)) set_list))))))
      (pss_one (ps_ret (pe_own o_over_trimmed (hr.mono (by decide)) rfl pass0 (pa_cons (pv 0) (pa_cons (pv 3) pa_nil))))))) , ?_⟩
    refine ⟨_, rfl, W, CR, dx, _, _, rfl, eW, KC.clR, KC.r3, rawFs_nought _ _ _ _ _ _ _, (by show 1 ≤ sizeLine; decide), fun l0 nl0 => ⟨_, rfl, a, _, rfl, .inr (SqT.of (same_upd nl0 _ _ ha)), _, rfl, b, _, rfl, .inr (SqT.of (same_upd nl0 _ _ hb)), _, _, rfl, rfl, ?_⟩⟩
    refine ⟨l0, _, _, rfl, rfl, upd_same, by rw [List.length_map, List.length_map]; omega, by rw [List.length_map, List.length_map]; omega, ?_, fun l nl => ?_⟩
    · rw [List.length_map, List.length_map]
      exact Nat.le_trans (show 1 * ((la.length : Int) + (lb.length : Int)).toNat ≤ 60 by omega) (by decide)
    have e0 : (((la.map V.ref).length : Nat) : Int) + (((lb.map V.ref).length : Nat) : Int) = ((xs.length + ys.length : Nat) : Int) := by rw [List.length_map, List.length_map]; omega
    rw [e0, Int.toNat_natCast, flat_ref]
    have S1 := (same_upd (o := .lst [.ref z]) nl0).trans (same_upd (o := .lst ((List.replicate (xs.length + ys.length) z).map V.ref)) nl)
    have nL : H l = none := (same_upd (o := .lst [.ref z]) nl0).free nl
    refine ⟨_, rfl, a, _, rfl, sameT S1 (SqT.of ha), ?_⟩
    refine for_it (walk_enT (xs := la.map V.ref)) (fun i σ' H2 => ∃ (lc : List Addr) (cs : List (List Int)) (x4 x5 x6 x7 : Option V), σ' = [some (.ref W), some (.ref a), some (.ref b), some (.ref l), x4, x5, x6, x7] ∧ Same H H2 ∧ H2 l = some (.lst (lc.map V.ref)) ∧ NRow H2 q n lc cs ∧ cs.length = xs.length + ys.length ∧ ∀ k, (els q R cs).getD k 0 = Xp.sumN (fun i => (els q R xs).getD i 0 * Xp.shR (els q R ys) i k) i)
      ⟨List.replicate (xs.length + ys.length) z, List.replicate (xs.length + ys.length) (List.replicate n 0), none, none, none, none, rfl, S1, upd_same, ⟨Rws.rep (S1 _ _ ez) _, fun r hr => by rw [List.eq_of_mem_replicate hr]; exact num_nought (by omega)⟩, List.length_replicate, fun k => els_rep _ k⟩ (fun i σ' H2 _ ⟨_, _, _, _, _, _, _, s2, _⟩ => sameT s2 (SqT.of ha)) ?_ ?_
    · rintro i x σ' H2 H3 hi ⟨lc, cs, x4, x5, x6, x7, rfl, s2, el, hc, lcq, cm⟩ ⟨Tp, u1, v1, rfl, hTp, rfl, g1, g2⟩
      cases g1
      rw [List.length_map, lla] at hi
      obtain ⟨ai, hai, eai⟩ := hx.r.get hi
      have g3 := hai.symm.trans g2
      cases g3
      have nai := hx.n _ (getD_mem hi)
      have s3 := s2.trans (same_upd (o := .tup [.int (i : Nat), .ref ai]) hTp)
      have el3 := same_upd (o := .tup [.int (i : Nat), .ref ai]) hTp _ _ el
      have hc3 := hc.keep (same_upd (o := .tup [.int (i : Nat), .ref ai]) hTp)
      refine ⟨Tp, _, rfl, .inl (.inl upd_same), rfl, _, _, rfl, _, _, rfl, rfl, ?_⟩
      refine ⟨_, rfl, b, _, rfl, sameT s3 (SqT.of hb), ?_⟩
      refine for_it (walk_enT (xs := lb.map V.ref)) (fun j σ' H4 => ∃ (lc2 : List Addr) (cs2 : List (List Int)) (x6 x7 : Option V), σ' = [some (.ref W), some (.ref a), some (.ref b), some (.ref l), some (.int (i : Nat)), some (.ref ai), x6, x7] ∧ Same H H4 ∧ H4 l = some (.lst (lc2.map V.ref)) ∧ NRow H4 q n lc2 cs2 ∧ cs2.length = xs.length + ys.length ∧ ∀ k, (els q R cs2).getD k 0 = (els q R cs).getD k 0 + (if i ≤ k ∧ k < i + j then (els q R xs).getD i 0 * (els q R ys).getD (k - i) 0 else 0))
        ⟨lc, cs, x6, x7, rfl, s3, el3, hc3, lcq, fun k => by rw [if_neg (by omega)]; grind⟩ (fun j σ' H4 _ ⟨_, _, _, _, _, s4, _⟩ => sameT s4 (SqT.of hb)) ?_ ?_
      · rintro j x' σ' H4 H5 hj ⟨lc2, cs2, x6, x7, rfl, s4, el4, hc4, lcs2, cm2⟩ ⟨Tq, u2, v2, rfl, hTq, rfl, e1, e2⟩
        cases e1
        rw [List.length_map, llb] at hj
        obtain ⟨bj, hbj, ebj⟩ := hy.r.get hj
        have g4 := hbj.symm.trans e2
        cases g4
        have nbj := hy.n _ (getD_mem hj)
        have s5 := s4.trans (same_upd (o := .tup [.int (j : Nat), .ref bj]) hTq)
        have el5 := same_upd (o := .tup [.int (j : Nat), .ref bj]) hTq _ _ el4
        have hc5 := hc4.keep (same_upd (o := .tup [.int (j : Nat), .ref bj]) hTq)
        have lij : i + j < cs2.length := by omega
        obtain ⟨ck, hck, eck⟩ := hc5.r.get lij
        have nck := hc5.n _ (getD_mem lij)
        refine ⟨Tq, _, rfl, .inl (.inl upd_same), rfl, _, _, rfl, _, _, rfl, rfl, ?_⟩
        have eij : (i : Int) + (j : Int) = ((i + j : Nat) : Int) := by omega
        have lcs5 : lc2.length = cs2.length := hc5.r.len
        refine ⟨_, rfl, W, dx, _, rfl, s5 _ _ eW, rfl, _, rfl, _, rfl, _, rfl, _, _, rfl, rfl, l, _, _, _, rfl, rfl, SqL.of el5, (by rw [eij]; exact atI_nat hck), ?_⟩
        refine ⟨_, rfl, W, dx, _, rfl, s5 _ _ eW, rfl, _, rfl, _, rfl, W, ai, bj, q, n, R, _, _, rfl, hR, hW.stay (.same s5), SqT.of (s5 _ _ eai), SqT.of (s5 _ _ ebj), nai, nbj, fun v zs H6 s6 ev nz cg => ?_⟩
        have s56 := s5.trans s6
        refine ⟨W, ck, v, q, n, R, _, zs, rfl, hR, hW.stay (.same s56), SqT.of (s6 _ _ eck), SqT.of ev, nck, nz, fun v2 zs2 H7 s7 ev2 nz2 cg2 => ?_⟩
        have s57 := s56.trans s7
        have el7 := (s6.trans s7) _ _ el5
        refine ⟨_, rfl, _, rfl, _, rfl, _, _, rfl, rfl, l, _, _, _, rfl, rfl, el7, (by rw [eij]; exact ixN_nat (by rw [List.length_map]; omega)), ?_⟩
        have hc7 := hc5.keep (s6.trans s7)
        have e7 : El q R zs2 = (els q R cs2).getD (i + j) 0 + (els q R xs).getD i 0 * (els q R ys).getD j 0 := by
          rw [el_add2 cg2, el_mul2 cg, els_at, els_at, els_at]
        refine ⟨lc2.set (i + j) v2, cs2.set (i + j) zs2, _, _, rfl, lcs nL s57, by rw [upd_same, List.map_set], ⟨(Rws.set ev2 (i + j) hc7.r).lst el7, fun r hr => ?_⟩, by rw [List.length_set]; exact lcs2, fun k => ?_⟩
        · rcases List.mem_or_eq_of_mem_set hr with g | g
          · exact hc7.n r g
          · rw [g]; exact nz2
        · have old : (els q R cs2).getD (i + j) 0 = (els q R cs).getD (i + j) 0 := by
            rw [cm2, if_neg (by omega)]
            grind
          show ((cs2.set (i + j) zs2).map (El q R)).getD k 0 = _
          rw [List.map_set, List.getD_eq_getElem?_getD, List.getElem?_set]
          by_cases hk : i + j = k
          · rw [if_pos hk, if_pos (by rw [els_len]; omega)]
            show El q R zs2 = _
            rw [e7, old, ← hk, if_pos (by omega), show i + j - i = j by omega]
          · rw [if_neg hk, ← List.getD_eq_getElem?_getD]
            show (els q R cs2).getD k 0 = _
            rw [cm2]
            by_cases h2 : i ≤ k ∧ k < i + j
            · rw [if_pos h2, if_pos (by omega)]
            · rw [if_neg h2, if_neg (by omega)]
      · rintro σ' H4 ⟨lc2, cs2, x6, x7, rfl, s4, el4, hc4, lcs2, cm2⟩
        refine ⟨lc2, cs2, _, _, _, _, rfl, s4, el4, hc4, lcs2, fun k => ?_⟩
        rw [cm2, cm, List.length_map, llb]
        show _ = _ + (els q R xs).getD i 0 * (if i ≤ k then (els q R ys).getD (k - i) 0 else 0)
        by_cases h2 : i ≤ k
        · rw [if_pos h2]
          by_cases h3 : k < i + ys.length
          · rw [if_pos ⟨h2, h3⟩]
          · rw [if_neg (fun z => h3 z.2), Xp.getD_len (as := els q R ys) (by rw [els_len]; omega)]
            grind
        · rw [if_neg h2, if_neg (fun z => h2 z.1)]
          grind
    · rintro σ' H2 ⟨lc, cs, x4, x5, x6, x7, rfl, s2, el, hc, lcq, cm⟩
      rw [List.length_map, lla] at cm
      refine ⟨_, rfl, _, rfl, W, l, q, n, R, lc, cs, rfl, hR, hW.stay (.same s2), el, hc, by omega, fun v ld ds H3 s3 ev hd ld2 dm tr => ?_⟩
      refine k v ld ds H3 (s2.trans s3) ev hd (by omega) (fun k => ?_) tr
      rw [dm, cm]
      unfold Xp.cvR
      rw [els_len]
theorem sc_raw_built : FnScope (["raw", "roots", "told", "number"] : List Str) ["raw", "roots"] (defScope s_raw_built) := ⟨rfl, rfl, rfl, by decide +kernel, rfl, by decide +kernel, by decide +kernel⟩
theorem ok_raw_built {f CF CR : Addr} {fd : FuncData} (F : FunD K "raw_built" "raw_built" (defArgs s_raw_built) (defBody s_raw_built) (defScope s_raw_built) [] [] f fd) (KC : ClsF K CF CR) (T : Fre mg) (o_RawField_minus : OwnM P w K mg base CX0 1 CR "minus" ["self", "one", "other"] [] (spNum2 K CR gSub)) (o_raw_over_times : Own P w K mg base CX0 3 "raw_over_times" ["raw", "one", "other"] [] (spOvTimes K CR)) : FnOk P w K mg base CX0 4 f fd ["raw", "roots"] (spBuilt K CR) := by
  refine F.ok sc_raw_built (fun vs H Q E h => ?_) (fun cdv A outer s H vs Q E hr h => ?_)
  · obtain ⟨W, D, q, n, R, la, rs, rfl, _⟩ := h
    rfl
  · obtain ⟨W, D, q, n, R, la, rs, rfl, hR, hW, hD, hN, l24, k⟩ := h
    have n1 := hR.n1
    have n12 := hR.n12
    have q0 := hR.q0
    obtain ⟨dx, rr, z, u, tt, ht, lt, lh, ts, hs, eW, _, ez, eu, _⟩ := id hW.ex
    have lla := hN.r.len
    refine ⟨_, PSs.nox (pss_cons (ps_set (i := 2) sc_raw_built.nd rfl (Or.inl rfl) (pe_tup (pa_cons (pe_fld (pv 0) rfl) pa_nil)))
      (pss_cons (ps_for PassesOwn.never rfl (pi_list (pv 1)) (pg_name (i := 3) sc_raw_built.nd rfl (Or.inl rfl)) (pss_one (ps_set (i := 2) sc_raw_built.nd rfl (Or.inl rfl) (pe_own o_raw_over_times (hr.mono (by decide)) rfl pass0 (pa_cons (pv 0) (pa_cons (pv 2) (pa_cons (pe_tup (pa_cons (pe_ownM o_RawField_minus (hr.mono (by decide)) pass0 (pv 0) (pa_cons (pe_fld (pv 0) rfl) (pa_cons (pv 3) pa_nil))) (pa_cons (pe_fld (pv 0) rfl) pa_nil))) pa_nil)))))))
      (pss_one (ps_ret (pv 2))))) , ?_⟩
    refine ⟨_, rfl, W, CR, dx, _, _, rfl, eW, KC.clR, KC.r4, rawFs_unit _ _ _ _ _ _ _, (by show 1 ≤ sizeLine; decide), fun t0 nt0 => ?_⟩
    have s0 := same_upd (o := .tup [.ref u]) nt0
    have n0 : (1 : Xp.Fq (q : Int) (co R)) ≠ 0 := fun e => by
      have := hR.eq (num_one n1 q0) (num_nought (by omega)) (el_one2.trans (e.trans el_nought.symm))
      match n, n1, this with
      | n + 1, _, this => cases this
    refine ⟨_, rfl, D, rfl, ⟨_, SqL.of (s0 _ _ hD)⟩, ?_⟩
    refine for_it (walk_list (xs := la.map V.ref)) (fun i σ' H' => ∃ (v : Addr) (lc : List Addr) (cs : List (List Int)) (x3 : Option V), σ' = [some (.ref W), some (.ref D), some (.ref v), x3] ∧ Same H H' ∧ H' v = some (.tup (lc.map V.ref)) ∧ NRow H' q n lc cs ∧ cs.length ≤ i + 1 ∧ els q R cs = Xp.builtR (els q R (rs.take i))) ⟨t0, [u], [oneT n], none, rfl, s0, upd_same, ⟨⟨s0 _ _ eu, trivial⟩, fun r hr => by rw [List.mem_singleton.mp hr]; exact num_one n1 q0⟩, Nat.le_refl 1, by show [El q R (oneT n)] = [1]; rw [el_one2]⟩ (fun i σ' H' _ ⟨_, _, _, _, _, z, _⟩ => SqL.of (z _ _ hD)) ?_ ?_
    · rintro i y σ' H1 H2 hi ⟨v, lc, cs, x3, rfl, s1, ev, hv, lv, qv⟩ ⟨rfl, hy⟩
      rw [List.length_map, lla] at hi
      obtain ⟨l, r, rfl, hr, er⟩ := (hN.keep s1).r.at hy
      have nr := hN.n r (List.mem_of_getElem? hr)
      refine ⟨_, rfl, _, rfl, _, rfl, W, dx, _, rfl, s1 _ _ eW, rfl, _, rfl, W, CR, dx, _, _, rfl, s1 _ _ eW, KC.clR, KC.r3, rawFs_nought _ _ _ _ _ _ _, _, rfl, W, z, l, q, n, R, _, r, rfl, hR, hW.stay (.same s1), SqT.of (s1 _ _ ez), SqT.of er, num_nought (by omega), nr, fun m ms H3 s3 em nm cg => ?_⟩
      have s13 := s1.trans s3
      refine ⟨_, rfl, W, CR, dx, _, _, rfl, s13 _ _ eW, KC.clR, KC.r4, rawFs_unit _ _ _ _ _ _ _, (by show 2 ≤ sizeLine; decide), fun t1 nt1 => ?_⟩
      have s4 := same_upd (o := .tup [.ref m, .ref u]) nt1
      have s14 := s13.trans s4
      have s34 := s3.trans s4
      refine ⟨W, v, t1, q, n, R, lc, [m, u], cs, [ms, oneT n], rfl, hR, hW.stay (.same s14), s34 _ _ ev, hv.keep s34, upd_same, ⟨⟨s4 _ _ em, s14 _ _ eu, trivial⟩, fun r hr => ?_⟩, by omega, by show 2 ≤ 30; decide, fun v2 ld ds H5 s5 ev2 hd ld2 dm tr => ?_⟩
      · rcases List.mem_cons.mp hr with rfl | hr
        · exact nm
        · rw [List.mem_singleton.mp hr]
          exact num_one n1 q0
      · have s15 := s14.trans s5
        have e1 : els q R [ms, oneT n] = [0 - El q R r, 1] := by
          show [El q R ms, El q R (oneT n)] = _
          rw [el_one2, el_sub2 cg, el_nought]
        have key : els q R ds = Xp.builtR (els q R (rs.take i) ++ [El q R r]) := by
          refine Xp.built_step n0 tr fun k => ?_
          rw [dm, e1, qv]
        have et : els q R (rs.take (i + 1)) = els q R (rs.take i) ++ [El q R r] := by
          show (rs.take (i + 1)).map (El q R) = (rs.take i).map (El q R) ++ [El q R r]
          rw [List.take_succ, hr, List.map_append]
          rfl
        have ld3 : ds.length ≤ i + 1 + 1 := by
          have l1 : ds.length = (els q R ds).length := els_len.symm
          obtain ⟨es, e, l⟩ := Xp.builtR_ex (els q R (rs.take i) ++ [El q R r])
          rw [key, e, List.length_append, List.length_singleton, l, List.length_append, els_len, List.length_take, List.length_singleton] at l1
          omega
        exact ⟨v2, ld, ds, _, rfl, s15, ev2, hd, ld3, by rw [et]; exact key⟩
    · rintro σ' H1 ⟨v, lc, cs, x3, rfl, s1, ev, hv, lv, qv⟩
      refine ⟨_, rfl, k v lc cs H1 s1 ev hv ?_⟩
      rw [qv, List.length_map, lla, List.take_length]
theorem sc_Field_least : FnScope (["self", "number", "told", "plain"] : List Str) ["self", "number"] (defScope s_Field_least) := ⟨rfl, rfl, rfl, by decide +kernel, rfl, by decide +kernel, by decide +kernel⟩
theorem ok_Field_least {f CF CR : Addr} {C : Fin 14 → Addr} {fd : FuncData} (F : FunD K "least" "Field.least" (defArgs s_Field_least) (defBody s_Field_least) (defScope s_Field_least) [] [] f fd) (KC : ClsF K CF CR) (T : Fre mg) (o_refuse_numbers : Own P w K mg base (L2.CX P w) 4 "refuse_numbers" ["raw", "told"] [] (spRefNs K CR (C 3))) (o_RawField_orbit : OwnM P w K mg base CX0 3 CR "orbit" ["self", "number"] [] (spOrbit K CR)) (o_raw_built : Own P w K mg base CX0 4 "raw_built" ["raw", "roots"] [] (spBuilt K CR)) : FnOk P w K mg base (L2.CX P w) 5 f fd ["self", "number"] (spLeastF K CF CR (C 3)) := by
  refine F.ok sc_Field_least (fun vs H Q E h => ?_) (fun cdv A outer s H vs Q E hr h => ?_)
  · obtain ⟨F0, a, q, n, R, xs, rfl, _⟩ := h
    rfl
  · obtain ⟨F0, a, q, n, R, xs, rfl, hR, hF, ha, la, h1, h2⟩ := h
    refine ⟨_, (pss_cons (ps_expr (pe_own o_refuse_numbers (hr.mono (by decide)) rfl (passes_call (takes_of rfl rfl rfl rfl) (fun _ _ _ _ h => h)) (pa_cons (pe_fld (pv 0) rfl) (pa_cons (pe_tup (pa_cons (pv 1) pa_nil)) pa_nil))))
      (pss_cons (ps_set (i := 2) sc_Field_least.nd rfl (Or.inl rfl) (pe_own o_raw_built (hr.mono (by decide)) rfl pass0 (pa_cons (pe_fld (pv 0) rfl) (pa_cons (pe_ownM o_RawField_orbit (hr.mono (by decide)) pass0 (pe_fld (pv 0) rfl) (pa_cons (pv 1) pa_nil)) pa_nil))))
      (pss_one (ps_ret (pe_callTy call_tuple_of (by rfl) T.f_tuple (by decide +kernel) (pa_cons (pe_lc (own := [("plain", 3)]) (te := (tOp (rIxT K) (tVar 3) (tC (.int 0)))) rfl sc_Field_least.nd (pi_tup (pv 2)) (blkOk_by (own := [("plain", 3)]) (N := ["self", "number", "told", "plain"]) (sc := defScope s_Field_least) (by decide +kernel)) (fun _ _ _ _ _ => pg_name (i := 3) sc_Field_least.nd rfl (Or.inl rfl) (Or.inr rfl)) (fun _ _ _ _ _ => pts_nil) (fun _ _ _ _ _ => (pe_ix ix_tup (pv 3) pe_int (fun _ _ => rfl)))) pa_nil)))))) , ?_⟩
    obtain ⟨dx, rr, W, eF, eR, hW⟩ := id hF.ex
    have n1 := hR.n1
    refine ⟨_, rfl, F0, CF, dx, _, .ref W, rfl, eF, KC.clF, KC.f2, rfl, _, rfl, (by show 1 ≤ sizeLine; decide), fun c hc => ⟨W, c, [a], [xs], q, n, R, rfl, hR, hW.stay (.same (same_upd hc)), SqT.of upd_same, rfl, fun i a' xs' h1' h2' => ?_, fun hn H1 s1 => ?_, fun hn => ?_⟩⟩
    · match i, h1', h2' with
      | 0, h1', h2' => cases h1'; cases h2'; exact ⟨sameT (same_upd hc) (SqT.of ha), la⟩
    · have s2 := (same_upd hc).trans s1
      have nx := hn xs List.mem_cons_self
      have W2 := hW.stay (.same s2)
      obtain ⟨dw, rr2, z2, u2, tt2, ht2, lt2, lh2, ts2, hs2, eW, _⟩ := id W2.ex
      refine ⟨_, rfl, F0, CF, dx, _, .ref W, rfl, s2 _ _ eF, KC.clF, KC.f2, rfl, _, rfl, F0, CF, dx, _, .ref W, rfl, s2 _ _ eF, KC.clF, KC.f2, rfl, W, dw, _, rfl, eW, rfl, _, rfl, W, a, q, n, R, xs, rfl, hR, W2, s2 _ _ ha, nx, fun D ld rs H3 s3 nD eD hD lt le hr3 => ?_⟩
      have n12 := hR.n12
      have s23 := s2.trans s3
      refine ⟨W, D, q, n, R, ld, rs, rfl, hR, hW.stay (.same s23), eD, ⟨hD, fun r hr => ?_⟩, by omega, fun v lc cs H4 s4 ev hv qv => ?_⟩
      · obtain ⟨i, hi⟩ := List.mem_iff_getElem?.mp hr
        exact (hr3 i r hi).1
      rw [els_turns hr3] at qv
      obtain ⟨ks, rfl, lk, rk, zk⟩ := least_row hR lt hv.n qv
      have s24 := s23.trans s4
      have llc := hv.r.len
      rw [List.length_map, List.length_append, List.length_singleton] at llc
      refine ⟨_, rfl, v, rfl, ⟨_, SqT.of ev⟩, fun D2 hD2 => ?_⟩
      refine lc_it (walk_tup (xs := lc.map V.ref)) (fun i H' => Same H4 H' ∧ H' D2 = some (.lst (((ks ++ [1]).take i).map V.int))) ⟨same_upd hD2, upd_same⟩ (fun i H' _ h => sameT h.1 (SqT.of ev)) ?_ ?_
      · rintro i x H5 H6 hi ⟨s5, e5⟩ ⟨rfl, hx⟩
        rw [List.length_map] at hi
        obtain ⟨l, r, rfl, hr, er⟩ := (hv.r.keep (kpS s5)).at hx
        rw [List.getElem?_map] at hr
        obtain ⟨c, hc, rfl⟩ := Option.map_eq_some_iff.mp hr
        refine ⟨rfl, _, rfl, l, _, 0, .int c, rfl, rfl, SqT.of er, atI_nat (j := 0) rfl, _, e5, ?_, lcs hD2 s5, ?_⟩
        · rw [List.length_map, List.length_take]
          exact small1000 (by omega)
        · rw [upd_same, List.take_succ, hc, List.map_append]
          rfl
      · rintro H5 ⟨s5, e5⟩
        rw [List.length_map, List.take_of_length_le (by rw [List.length_append, List.length_singleton]; omega)] at e5
        refine ⟨D2, _, rfl, .inl ⟨SqL.of e5, fun v2 hv2 => ?_⟩⟩
        refine h1 nx v2 ks _ ((s24.trans s5).trans (same_upd hv2)) upd_same (by rw [lk]; exact lt) (by omega) (fun k => ?_) zk
        rcases Nat.lt_or_ge k ks.length with g | g
        · refine rk _ ?_
          rw [List.getD_eq_getElem?_getD, List.getElem?_eq_getElem g]
          exact List.getElem_mem g
        · rw [getD_over g]
          have := hR.q0
          omega
    · refine (h2 (fun z => hn fun zs hzs => ?_)).same (same_upd hc)
      rw [List.mem_singleton.mp hzs]
      exact z
end
end Xk
end
section
set_option Elab.async false
set_option linter.all false
set_option maxRecDepth 100000
set_option maxHeartbeats 4000000
namespace Xk
open PySem PySem.Spec PyProof.Rows L2 Xh LamX NdefX
/-! ### numbers undone: Euclid's turns with one row -/
section
variable {q : Int} {f : Xp.Cf}
theorem el_addE {xs ys zs : List Int} (h : Xp.Eqm q (co zs) (Xp.ad (co xs) (co ys))) : Xp.el q f zs = Xp.el q f xs + Xp.el q f ys := ((Xp.mk_eq (a := Xp.Po.of xs + Xp.Po.of ys) (b := Xp.Po.of zs)).mpr (Xp.Cg.of h.symm)).symm
theorem el_mulE {xs ys zs : List Int} (h : Xp.Eqm q (co zs) (Xp.cv (co xs) (co ys))) : Xp.el q f zs = Xp.el q f xs * Xp.el q f ys := ((Xp.mk_eq (a := Xp.Po.of xs * Xp.Po.of ys) (b := Xp.Po.of zs)).mpr (Xp.Cg.of h.symm)).symm
theorem el_divE {h l qs r : List Int} (d : Div q h l qs r) (hp : Pm q) (rh : Rs q h) : Xp.el q f h = Xp.el q f qs * Xp.el q f l + Xp.el q f r :=
  ((Xp.mk_eq (a := Xp.Po.of qs * Xp.Po.of l + Xp.Po.of r) (b := Xp.Po.of h)).mpr (Xp.Cg.of (d.eqm hp rh).symm)).symm
theorem el_timesE {xs ys ms : List Int} {n : Nat} (hp : Pm q) (e : Is (fun j => (cvf xs ys j).fmod q) n ms) : Xp.el q f ms = Xp.el q f xs * Xp.el q f ys := el_mulE ((eqm_of hp.pos e).trans (cv_eqm q xs ys))
theorem el_minusE {xs ys ms : List Int} {n : Nat} (hp : Pm q) (e : Is (fun j => (xs.getD j 0 + (q - 1) * ys.getD j 0).fmod q) n ms) : Xp.el q f ms = Xp.el q f xs - Xp.el q f ys := by
  have h : Xp.el q f xs = Xp.el q f ms + Xp.el q f ys := el_addE fun k => by
    have z : ms.getD k 0 % q = (xs.getD k 0 + (q - 1) * ys.getD k 0) % q := eqm_of hp.pos e k
    show xs.getD k 0 % q = (ms.getD k 0 + ys.getD k 0) % q
    rw [Int.add_emod, z, ← Int.add_emod, show xs.getD k 0 + (q - 1) * ys.getD k 0 + ys.getD k 0 = xs.getD k 0 + ys.getD k 0 * q by rw [Int.sub_mul, Int.mul_comm q]; omega, Int.add_mul_emod_self_right]
  rw [h]
  grind
theorem cv_const (f : Nat → Int) (r : Int) (k : Nat) : Xp.cv f (co [r]) k = f k * r := by
  have e : co [r] = fun k => r * Xp.one k := funext fun k => by
    match k with
    | 0 => exact (Int.mul_one r).symm
    | k + 1 =>
      show (0 : Int) = r * Xp.one (k + 1)
      rw [show Xp.one (k + 1) = 0 from rfl, Int.mul_zero]
  rw [e, Xp.cv_mul, Xp.cv_one, Int.mul_comm]
theorem el_scaleE {ns ms : List Int} {r : Int} {n : Nat} (hp : Pm q) (e : Is (fun j => (ns.getD j 0 * r).fmod q) n ms) : Xp.el q f ms = Xp.el q f ns * Xp.el q f [r] := el_mulE ((eqm_of hp.pos e).trans (eqv_fun fun k => by rw [cv_const]))
theorem el_nilE : Xp.el q f [] = 0 := by
  show Xp.Qu.mk (Xp.Po.of []) = 0
  rw [Xp.of_nil]
  rfl
theorem el_oneE : Xp.el q f [1] = 1 := Xp.el_unit 0
end
/-- as a polynomial alone -/
abbrev Ap (q : Nat) (xs : List Int) : Xp.Fq (q : Int) Xp.nul := Xp.el q Xp.nul xs
/-- what stands while Euclid's turns go on, with one row -/
structure Un (q n : Nat) (R xs h hf l lf : List Int) : Prop where
  ph : Po q h (n + 1)
  pl : Po q l n
  hl : l.length < h.length
  h2 : 2 ≤ h.length
  pf : Po q hf 26
  pg : Po q lf 26
  n1 : lf.length + h.length ≤ n + 2
  n2 : hf.length + l.length ≤ n + 2
  eh : El q R hf * El q R xs = El q R h
  el : El q R lf * El q R xs = El q R l
  dt : Ap q h * Ap q lf - Ap q l * Ap q hf = Ap q R ∨ Ap q h * Ap q lf - Ap q l * Ap q hf = 0 - Ap q R
theorem Un.init {q n : Nat} {R xs : List Int} (hR : RuleOk q n R) (px : Po q xs n) : Un q n R xs R [] xs [1] := by
  have hp := hR.pm
  have lR := hR.len
  have n1 := hR.n1
  have lx := px.len
  refine ⟨⟨hR.po.rs, hR.po.tr, by omega⟩, px, by omega, by omega, po_nil q _ hp.pos, po_one hp (by decide), by show 1 + R.length ≤ n + 2; omega, by show 0 + xs.length ≤ n + 2; omega, ?_, ?_, .inl ?_⟩
  · have e0 : El q R R = 0 := Xp.mk_zero.mpr (Xp.Dv.self q _)
    rw [e0, show El q R [] = 0 from el_nilE]
    grind
  · rw [show El q R [1] = 1 from el_oneE]
    grind
  · rw [show Ap q [1] = 1 from el_oneE, show Ap q [] = 0 from el_nilE]
    grind
theorem Un.step {q n : Nat} {R xs h hf l lf qs r m b : List Int} {i j : Nat} (hR : RuleOk q n R) (U : Un q n R xs h hf l lf) (l2 : 2 ≤ l.length) (dl : Dsr q l) (d : Div q h l qs r) (e : Is (fun j => (cvf qs lf j).fmod q) i m) (z : Is (fun j => (hf.getD j 0 + ((q : Int) - 1) * m.getD j 0).fmod q) j b) : Un q n R xs l lf r b := by
  have hp := hR.pm
  have n12 := hR.n12
  have less := d.less dl
  have lq : qs.length ≤ stp h l := d.q.len
  have lq2 : stp h l = h.length + 1 - l.length := rfl
  have z1 := times_len e
  have y1 := minus_len z
  have A := U.n1
  have B := U.n2
  have lh := U.ph.len
  have ll := U.pl.len
  have hl := U.hl
  have nl : ∀ {xs : List Int}, xs = [] → xs.length = 0 := fun h => by rw [h]; rfl
  have npos : ∀ {xs : List Int}, xs ≠ [] → 0 < xs.length := fun h => List.length_pos_iff.mpr h
  have k1 : b.length + l.length ≤ n + 2 := by
    rcases z1 with z1 | ⟨q1, q2, q3⟩
    · have := nl z1
      omega
    · have := npos q1
      have := npos q2
      omega
  have rb := rs_of hp z
  refine ⟨⟨U.pl.rs, U.pl.tr, by omega⟩, ⟨d.rs_r hp U.ph.rs, d.r.tr, by omega⟩, less, l2, U.pg, ⟨rb, z.tr, by omega⟩, k1, by omega, U.el, ?_, ?_⟩
  · have h1 : El q R h = El q R qs * El q R l + El q R r := el_divE d hp U.ph.rs
    have h2 : El q R m = El q R qs * El q R lf := el_timesE hp e
    have h3 : El q R b = El q R hf - El q R m := el_minusE hp z
    have h4 := U.eh
    have h5 := U.el
    rw [h3, h2]
    grind
  · have h1 : Ap q h = Ap q qs * Ap q l + Ap q r := el_divE d hp U.ph.rs
    have h2 : Ap q m = Ap q qs * Ap q lf := el_timesE hp e
    have h3 : Ap q b = Ap q hf - Ap q m := el_minusE hp z
    rcases U.dt with h4 | h4
    · refine .inr ?_
      rw [h3, h2]
      grind
    · refine .inl ?_
      rw [h3, h2]
      grind
theorem nul_rule {q n : Nat} {R : List Int} (hR : RuleOk q n R) (z : Ap q R = 0) : False := by
  obtain ⟨t, _, e⟩ := Xp.mk_zero.mp z
  have h := e n
  have h1 : R.getD n 0 % (q : Int) = Xp.cv Xp.nul t n % (q : Int) := h
  rw [hR.last, Xp.cv_comm, Xp.cv_nul] at h1
  have q0 := hR.q0
  have h2 : (1 : Int) % (q : Int) = (0 : Int) % (q : Int) := h1
  rw [Int.zero_emod, Int.emod_eq_of_lt (by decide) (by omega)] at h2
  cases h2
theorem po_zero {q n : Nat} {R xs : List Int} (hR : RuleOk q n R) (px : Po q xs n) (z : El q R xs = 0) : xs = [] := by
  have q0 := hR.q0
  have nu : Num q n (padL xs n) := ⟨padL_len px.len, px.rs.padL n⟩
  have e : El q R (padL xs n) = El q R xs := Xp.el_eq.mpr (by
    show Xp.Cg q (co R) (co (padL xs n)) (co xs)
    rw [co_pad]
    exact Xp.Cg.refl q _ _)
  have := hR.eq nu (num_nought (n := n) (by omega)) ((e.trans z).trans el_nought.symm)
  rw [← px.tr]
  refine trim_nil fun i => ?_
  have h : co (padL xs n) i = co (List.replicate n 0) i := by rw [this]
  rw [co_pad] at h
  show co xs i = 0
  rw [h]
  show (List.replicate n (0 : Int)).getD i 0 = 0
  exact getD_rep n i
theorem Un.fin {q n : Nat} {R xs h hf l lf : List Int} (hR : RuleOk q n R) (U : Un q n R xs h hf l lf) (nz : El q R xs ≠ 0) (l1 : l.length ≤ 1) : ∃ c : Int, l = [c] ∧ 0 < c ∧ c < q ∧ lf.length ≤ n ∧ El q R lf * El q R xs = El q R [c] := by
  have h2 := U.h2
  have n1 := U.n1
  have := hR.dm
  have ne : l ≠ [] := fun e => by
    subst e
    have e1 := U.el
    rw [show El q R [] = 0 from el_nilE] at e1
    rcases Xp.Dm.int e1 with e2 | e2
    · have := po_zero hR (xs := lf) ⟨U.pg.rs, U.pg.tr, by omega⟩ e2
      subst this
      have d := U.dt
      rw [show Ap q [] = 0 from el_nilE] at d
      refine nul_rule hR ?_
      rcases d with d | d
      · grind
      · grind
    · exact nz e2
  match l, ne, l1, U with
  | [c], _, _, U =>
    have r := U.pl.rs 0
    have t := U.pl.tr
    refine ⟨c, rfl, ?_, r.2, by omega, U.el⟩
    have r0 : 0 ≤ c := r.1
    have : c ≠ 0 := fun z => by
      subst z
      cases t
    omega
def spUndone (K : PySem.W.Frag) (T : List (Addr × Str)) : Sp := fun vs H Q _ => ∃ (a rr : Addr) (q n : Nat) (R xs : List Int), vs = [.ref a, .ref rr, .int q] ∧ RuleOk q n R ∧ SqT K H rr (R.map V.int) ∧ H a = some (.tup (xs.map V.int)) ∧ Po q xs n ∧ El q R xs ≠ 0 ∧ Tabs T H ∧
  ∀ (v : Addr) (ms : List Int) (H' : Hp), Gr T H H' → H' v = some (.tup (ms.map V.int)) → Po q ms n → El q R ms * El q R xs = 1 → Q (.ref v) H'
section
variable {P : Program} {w : World} {K : PySem.W.Frag} {mg : Str → Option Value} {base : Heap}
theorem sc_raw_undone : FnScope (["one", "rule", "prime", "held", "held_by", "low", "low_by", "quotient", "left", "by"] : List Str) ["one", "rule", "prime"] (defScope s_raw_undone) := ⟨rfl, rfl, rfl, by decide +kernel, rfl, by decide +kernel, by decide +kernel⟩
theorem ok_raw_undone {TT : List (Addr × Str)} {f : Addr} {fd : FuncData} (F : FunD K "raw_undone" "raw_undone" (defArgs s_raw_undone) (defBody s_raw_undone) (defScope s_raw_undone) [] [] f fd) (T : Fre mg) (o_raw_parted : Own P w K mg base CX0 4 "raw_parted" ["one", "other", "prime"] [] (spPartedT K TT)) (o_raw_minus : Own P w K mg base CX0 3 "raw_minus" ["one", "other", "prime"] [] (spMinus K)) (o_raw_times : Own P w K mg base CX0 2 "raw_times" ["one", "other", "prime"] [] (spTimes K)) (o_raw_scaled : Own P w K mg base CX0 2 "raw_scaled" ["one", "rest", "prime"] [] (spScale K)) (o_rest_power : Own P w K mg base CX0 3 "rest_power" ["rest", "exponent", "prime"] [] (spRPowT TT)) : FnOk P w K mg base CX0 5 f fd ["one", "rule", "prime"] (spUndone K TT) := by
  refine F.ok sc_raw_undone (fun vs H Q E h => ?_) (fun cdv A outer s H vs Q E hr h => ?_)
  · obtain ⟨a, rr, q, n, R, xs, rfl, _⟩ := h
    rfl
  · obtain ⟨a, rr, q, n, R, xs, rfl, hR, hrr, ha, px, nz, hT, k⟩ := h
    have hpm := hR.pm
    have n1 := hR.n1
    have n12 := hR.n12
    refine ⟨_, PSs.nox (pss_cons (ps_par (i := 3) (j := 4) (by rfl) sc_raw_undone.nd rfl rfl (by decide) rfl rfl (pa_cons (pv 1) (pa_cons (pe_tup pa_nil) pa_nil)) (by rfl))
      (pss_cons (ps_par (i := 5) (j := 6) (by rfl) sc_raw_undone.nd rfl rfl (by decide) rfl rfl (pa_cons (pv 0) (pa_cons (pe_tup (pa_cons pe_int pa_nil)) pa_nil)) (by rfl))
      (pss_cons (ps_while PassesOwn.never (pt_cmpR op_gt (pe_callB call_len_seq (by rfl) T.f_len PySem.boot_len (pa_cons (pv 5) pa_nil)) pe_int (nomark _)) (pss_cons (ps_asg (pe_own o_raw_parted (hr.mono (by decide)) rfl pass0 (pa_cons (pv 3) (pa_cons (pv 5) (pa_cons (pv 2) pa_nil)))) (pg_tup rfl (pgs_cons (pg_name (i := 7) sc_raw_undone.nd rfl (Or.inl rfl)) (pgs_cons (pg_name (i := 8) sc_raw_undone.nd rfl (Or.inl rfl)) pgs_nil))))
      (pss_cons (ps_set (i := 9) sc_raw_undone.nd rfl (Or.inl rfl) (pe_own o_raw_minus (hr.mono (by decide)) rfl pass0 (pa_cons (pv 4) (pa_cons (pe_own o_raw_times (hr.mono (by decide)) rfl pass0 (pa_cons (pv 7) (pa_cons (pv 6) (pa_cons (pv 2) pa_nil)))) (pa_cons (pv 2) pa_nil)))))
      (pss_cons (ps_par (i := 3) (j := 4) (by rfl) sc_raw_undone.nd rfl rfl (by decide) rfl rfl (pa_cons (pv 5) (pa_cons (pv 6) pa_nil)) (by rfl))
      (pss_one (ps_par (i := 5) (j := 6) (by rfl) sc_raw_undone.nd rfl rfl (by decide) rfl rfl (pa_cons (pv 8) (pa_cons (pv 9) pa_nil)) (by rfl)))))))
      (pss_one (ps_ret (pe_own o_raw_scaled (hr.mono (by decide)) rfl pass0 (pa_cons (pv 6) (pa_cons (pe_own o_rest_power (hr.mono (by decide)) rfl pass0 (pa_cons (pe_ix ix_tup (pv 5) pe_int (fun _ _ => rfl)) (pa_cons (pe_un un_neg pe_int) (pa_cons (pv 2) pa_nil)))) (pa_cons (pv 2) pa_nil))))))))) , ?_⟩
    refine ⟨_, rfl, (by show 0 ≤ sizeLine; decide), fun t1 h1 => ⟨_, _, rfl, ?_⟩⟩
    refine ⟨_, rfl, (by show 1 ≤ sizeLine; decide), fun t2 h2 => ⟨_, _, rfl, ?_⟩⟩
    have s1 := same_upd (o := .tup []) h1
    have s2 := same_upd (o := .tup [.int 1]) h2
    have S := s1.trans s2
    dsimp only [L2.tSeq]
    refine whileQ (fun σ' H' => ∃ (ah a1 al b1 : Addr) (h hf l lf : List Int) (x7 x8 x9 : Option V), σ' = [some (.ref a), some (.ref rr), some (.int q), some (.ref ah), some (.ref a1), some (.ref al), some (.ref b1), x7, x8, x9] ∧ Gr TT H H' ∧ SqT K H' ah (h.map V.int) ∧ H' a1 = some (.tup (hf.map V.int)) ∧ H' al = some (.tup (l.map V.int)) ∧ H' b1 = some (.tup (lf.map V.int)) ∧ Un q n R xs h hf l lf) (fun σ' H' => lenS 5 σ' H')
      ⟨rr, t1, a, t2, R, [], xs, [1], none, none, none, rfl, Gr.of hT S, sameT S hrr, s2 _ _ upd_same, S _ _ ha, upd_same, Un.init hR px⟩ ?_
    rintro σ' H1 ⟨ah, a1, al, b1, h, hf, l, lf, x7, x8, x9, rfl, g1, eh, e1, el, f1, U⟩
    have lh := U.ph.len
    have ll := U.pl.len
    have l1 := U.pf.len
    have l2 := U.pg.len
    refine ⟨_, rfl, al, _, rfl, .inr (SqT.of el), _, _, rfl, rfl, _, rfl, ite2 (fun hc => ?_) (fun hc => ?_)⟩
    · have h0 : 2 ≤ l.length := by
        have z := of_decide_eq_true hc
        rw [List.length_map] at z
        omega
      have dl := U.pl.dsr (by intro z; rw [z] at h0; cases h0) hR.hp
      refine ⟨fun σ' H' => (∃ (ah a1 al b1 : Addr) (h hf l lf : List Int) (x7 x8 x9 : Option V), σ' = [some (.ref a), some (.ref rr), some (.int q), some (.ref ah), some (.ref a1), some (.ref al), some (.ref b1), x7, x8, x9] ∧ Gr TT H H' ∧ SqT K H' ah (h.map V.int) ∧ H' a1 = some (.tup (hf.map V.int)) ∧ H' al = some (.tup (l.map V.int)) ∧ H' b1 = some (.tup (lf.map V.int)) ∧ Un q n R xs h hf l lf) ∧ lenS 5 σ' H' < lenS 5 [some (.ref a), some (.ref rr), some (.int q), some (.ref ah), some (.ref a1), some (.ref al), some (.ref b1), x7, x8, x9] H1, fun σ' H' ⟨p, z⟩ => ⟨_, z, rfl, p⟩, ?_⟩
      refine ⟨_, rfl, _, rfl, _, rfl, ah, al, h, l, q, rfl, eh, SqT.of el, by omega, by omega, U.ph.rs, dl, g1.t, fun w' u v qs r H2 g2 n2 ew eu ev dv => ⟨w', _, rfl, .inl (.inl ew), rfl, _, _, rfl, _, _, rfl, rfl, ?_⟩⟩
      have lq : qs.length ≤ 26 := Nat.le_trans dv.q.len (by unfold stp; omega)
      refine ⟨_, rfl, _, rfl, _, rfl, _, rfl, u, b1, qs, lf, q, rfl, .inl (.inl eu), .inl (.inl (g2.tup f1)), by omega, by omega, dv.rs_q hpm, U.pg.rs, hpm, fun m y q1 H3 s3 n3 r3 => ?_⟩
      have lm := y.len
      refine ⟨_, rfl, a1, q1, hf, m, q, rfl, .inl (.inl (s3 _ _ (g2.tup e1))), .inl (.inl r3), by omega, by omega, U.pf.rs, rs_of hpm y, hpm, fun b z q2 H4 s4 n4 r4 => ?_⟩
      refine ⟨_, rfl, _, rfl, _, _, rfl, ?_⟩
      refine ⟨_, rfl, _, rfl, _, _, rfl, ?_⟩
      have S34 := s3.trans s4
      have G4 := g2.same S34
      have ev4 := S34 _ _ ev
      refine ⟨⟨al, b1, v, q2, l, lf, r, b, _, _, _, rfl, g1.trans G4, SqT.of (G4.tup el), G4.tup f1, ev4, r4, U.step hR h0 dl dv y z⟩, ?_⟩
      rw [lenS_at (a := v) rfl ev4, lenS_at (a := al) rfl el, List.length_map, List.length_map]
      exact dv.less dl
    · have h1 : l.length ≤ 1 := by
        rcases Nat.lt_or_ge 1 l.length with g | g
        · exact absurd (decide_eq_true (by rw [List.length_map]; omega)) hc
        · exact g
      obtain ⟨c0, rfl, cp, cq, lfn, efin⟩ := U.fin hR nz h1
      have dl := U.pl.dsr (by intro z; cases z) hR.hp
      obtain ⟨c, M, hc2, hM, M2, M3, cM, _, fr, es, ec, bl⟩ := dl.last
      have hc3 : c0 = (c : Int) := hc2
      subst hc3
      refine ⟨_, rfl, _, rfl, al, _, _, .int (c : Int), rfl, rfl, .inl (.inl el), rfl, _, rfl, _, rfl, c, M, -1, by rw [hM]; rfl, M2, M3, cM, g1.t, fun H2 g2 => ?_⟩
      rw [fr, ← es]
      refine ⟨_, rfl, b1, lf, scl [(c : Int)] q, q, rfl, .inl (.inl (g2.tup f1)), by omega, U.pg.rs, hpm, fun ms y v H3 s3 n3 e3 => ?_⟩
      refine k v ms H3 ((g1.trans g2).same s3) e3 ⟨rs_of hpm y, y.tr, Nat.le_trans y.len lfn⟩ ?_
      have e1 : El q R ms = El q R lf * El q R [scl [(c : Int)] q] := el_scaleE hpm y
      have e2 : El q R [scl [(c : Int)] q] * El q R [(c : Int)] = 1 := by
        rw [← el_mulE (f := co R) (zs := [1]) (fun k => ?_)]
        · exact el_oneE
        · rw [cv_const]
          match k with
          | 0 =>
            show 1 % (q : Int) = scl [(c : Int)] q * (c : Int) % (q : Int)
            have ec2 : (scl [(c : Int)] q * (c : Int)).fmod q = 1 := ec
            rw [fm_em hpm.pos] at ec2
            rw [ec2]
            exact Int.emod_eq_of_lt (by decide) (by have := hR.q0; omega)
          | k + 1 =>
            show 0 % (q : Int) = 0 * (c : Int) % (q : Int)
            rw [Int.zero_mul]
      rw [e1]
      grind
end
end Xk
end
section
set_option Elab.async false
set_option linter.all false
set_option maxRecDepth 100000
set_option maxHeartbeats 4000000
namespace Xk
open PySem PySem.Spec PyProof.Rows L2 Xh LamX NdefX
def spRefR (C : Addr) : Sp := fun vs H Q E => ∃ n p : Int, vs = [.int n, .int p] ∧ ((0 ≤ n ∧ n < p) → Q .non H) ∧ (¬ (0 ≤ n ∧ n < p) → Ex H E C "BadRest")
section
variable {P : Program} {w : World} {K : PySem.W.Frag} {mg : Str → Option Value} {base : Heap}
theorem sc_refuse_rest : FnScope (["number", "prime"] : List Str) ["number", "prime"] (defScope s_refuse_rest) := ⟨rfl, rfl, rfl, by decide +kernel, rfl, by decide +kernel, by decide +kernel⟩
theorem ok_refuse_rest {f C fI : Addr} {fd : FuncData} (F : FunD K "refuse_rest" "refuse_rest" (defArgs s_refuse_rest) (defBody s_refuse_rest) (defScope s_refuse_rest) [] [] f fd) (o_is_rest : Own P w K mg base CX0 2 "is_rest" ["told", "prime"] [] spIsRest) (xP : RX K mg C fI "BadRest") (o_init : FnR P w K mg base (L2.CX P w) 1 fI (spRI1 K)) : FnOk P w K mg base (L2.CX P w) 3 f fd ["number", "prime"] (spRefR C) := by
  refine F.ok sc_refuse_rest (fun vs H Q E h => ?_) (fun cdv A outer s H vs Q E hr h => ?_)
  · obtain ⟨n, p, rfl, _⟩ := h
    rfl
  · obtain ⟨n, p, rfl, h1, h2⟩ := h
    refine ⟨_, (pss_one (ps_if (pt_not (pt_val (pe_own o_is_rest (hr.mono (by decide)) rfl pass0 (pa_cons (pv 0) (pa_cons (pv 1) pa_nil))))) (pss_one (ps_raise rfl (takes_of rfl rfl rfl rfl) (pmk_rung xP o_init hr rfl))) pss_nil)) , ?_⟩
    refine ⟨_, rfl, _, rfl, n, p, rfl, _, rfl, ?_⟩
    by_cases hp : 0 ≤ n ∧ n < p
    · rw [decide_eq_true hp]
      exact iteF (h1 hp)
    · rw [decide_eq_false hp]
      exact iteT fun d H' a b c => h2 hp d H' a b c
end
end Xk
end
section
set_option Elab.async false
set_option linter.all false
set_option maxRecDepth 100000
set_option maxHeartbeats 4000000
namespace Xk
open PySem PySem.Spec PyProof.Rows L2 Xh LamX NdefX
/-! ### numbers undone, powers, places -/
def spUndR (K : PySem.W.Frag) (T : List (Addr × Str)) (CR : Addr) : Sp := fun vs H Q _ => ∃ (W a : Addr) (q n : Nat) (R xs : List Int), vs = [.ref W, .ref a] ∧ RuleOk q n R ∧ RawAt K CR H W q n R ∧ H a = some (.tup (xs.map V.int)) ∧ Num q n xs ∧ El q R xs ≠ 0 ∧ Tabs T H ∧
  ∀ (v : Addr) (zs : List Int) (H' : Hp), Gr T H H' → H' v = some (.tup (zs.map V.int)) → Num q n zs → El q R zs * El q R xs = 1 → Q (.ref v) H'
def spPowRF (K : PySem.W.Frag) (T : List (Addr × Str)) (CR : Addr) : Sp := fun vs H Q _ => ∃ (W a : Addr) (q n e : Nat) (R xs : List Int), vs = [.ref W, .ref a, .int e] ∧ RuleOk q n R ∧ RawAt K CR H W q n R ∧ H a = some (.tup (xs.map V.int)) ∧ Num q n xs ∧ Tabs T H ∧
  ∀ (v : Addr) (zs : List Int) (H' : Hp), Gr T H H' → H' v = some (.tup (zs.map V.int)) → Num q n zs → El q R zs = El q R xs ^ e → Q (.ref v) H'
def spUndF (K : PySem.W.Frag) (T : List (Addr × Str)) (CF CR CB CI : Addr) : Sp := fun vs H Q X => ∃ (F0 a : Addr) (q n : Nat) (R xs : List Int), vs = [.ref F0, .ref a] ∧ RuleOk q n R ∧ FldAt K CF CR H F0 q n R ∧ H a = some (.tup (xs.map V.int)) ∧ xs.length ≤ 100 ∧ Tabs T H ∧
  (Num q n xs → El q R xs ≠ 0 → ∀ (v : Addr) (zs : List Int) (H' : Hp), Gr T H H' → H' v = some (.tup (zs.map V.int)) → Num q n zs → El q R zs * El q R xs = 1 → Q (.ref v) H') ∧ (Num q n xs → El q R xs = 0 → Ex H X CI "NoInverse") ∧ (¬ Num q n xs → Ex H X CB "BadNumber")
def spPowF (K : PySem.W.Frag) (T : List (Addr × Str)) (CF CR CB CI : Addr) : Sp := fun vs H Q X => ∃ (F0 a : Addr) (q n : Nat) (R xs : List Int) (s : Int), vs = [.ref F0, .ref a, .int s] ∧ RuleOk q n R ∧ FldAt K CF CR H F0 q n R ∧ H a = some (.tup (xs.map V.int)) ∧ xs.length ≤ 100 ∧ Tabs T H ∧
  (Num q n xs → (El q R xs ≠ 0 ∨ 0 ≤ s) → ∀ (v : Addr) (zs : List Int) (H' : Hp), Gr T H H' → H' v = some (.tup (zs.map V.int)) → Num q n zs → (El q R xs ≠ 0 → El q R zs = El q R xs ^ (s.fmod ((q : Int) ^ n - 1)).toNat) → (El q R xs = 0 → zs = if s = 0 then oneT n else xs) → Q (.ref v) H') ∧ (Num q n xs → El q R xs = 0 → s < 0 → Ex H X CI "NoInverse") ∧ (¬ Num q n xs → Ex H X CB "BadNumber")
/-- the place of a number -/
def plcL (q : Int) : List Int → Int
  | [] => 0
  | c :: cs => c + q * plcL q cs
theorem plc_bd {q : Nat} (q0 : 0 < q) : ∀ {xs : List Int}, Rs q xs → 0 ≤ plcL q xs ∧ plcL q xs < (q : Int) ^ xs.length
  | [], _ => ⟨Int.le_refl 0, by show (0 : Int) < 1; decide⟩
  | c :: cs, r => by
    obtain ⟨h0, h1⟩ := plc_bd q0 (xs := cs) fun k => r (k + 1)
    obtain ⟨c0, c1⟩ : 0 ≤ c ∧ c < q := r 0
    have p0 : 0 ≤ (q : Int) * plcL q cs := Int.mul_nonneg (by omega) h0
    refine ⟨by show 0 ≤ c + (q : Int) * plcL q cs; omega, ?_⟩
    show c + (q : Int) * plcL q cs < (q : Int) ^ (cs.length + 1)
    have h2 : plcL q cs + 1 ≤ (q : Int) ^ cs.length := h1
    have h3 : (q : Int) * (plcL q cs + 1) ≤ (q : Int) * (q : Int) ^ cs.length := Int.mul_le_mul_of_nonneg_left h2 (by omega)
    rw [Int.mul_add, Int.mul_one] at h3
    rw [Int.pow_succ, Int.mul_comm ((q : Int) ^ cs.length)]
    omega
theorem plc_mod {q : Nat} (q0 : 0 < q) {c : Int} {cs : List Int} (r : Rs q (c :: cs)) : (plcL q (c :: cs)).fmod q = c ∧ plcL q (c :: cs) / (q : Int) = plcL q cs := by
  obtain ⟨c0, c1⟩ : 0 ≤ c ∧ c < q := r 0
  rw [Int.fmod_eq_emod_of_nonneg _ (by omega)]
  show (c + (q : Int) * plcL q cs) % (q : Int) = c ∧ (c + (q : Int) * plcL q cs) / (q : Int) = plcL q cs
  rw [Int.add_mul_emod_self_left, Int.emod_eq_of_lt c0 c1, Int.add_mul_ediv_left _ _ (by omega), Int.ediv_eq_zero_of_lt c0 c1, Int.zero_add]
  exact ⟨rfl, rfl⟩
def spPlcF (K : PySem.W.Frag) (CF CR : Addr) : Sp := fun vs H Q _ => ∃ (F0 a : Addr) (q n : Nat) (R xs : List Int), vs = [.ref F0, .ref a] ∧ RuleOk q n R ∧ FldAt K CF CR H F0 q n R ∧ H a = some (.tup (xs.map V.int)) ∧ Num q n xs ∧ ∀ H', Same H H' → Q (.int (plcL q xs)) H'
def spNthF (K : PySem.W.Frag) (CF CR CB : Addr) : Sp := fun vs H Q X => ∃ (F0 : Addr) (q n : Nat) (R : List Int) (s : Int), vs = [.ref F0, .int s] ∧ RuleOk q n R ∧ FldAt K CF CR H F0 q n R ∧ s ≤ 10 ^ 40 ∧ -(10 ^ 40) ≤ s ∧
  ((∃ xs, Num q n xs ∧ s = plcL q xs ∧ ∀ (v : Addr) (H' : Hp), Same H H' → H' v = some (.tup (xs.map V.int)) → Q (.ref v) H') ∨ (¬ (0 ≤ s ∧ s < (q : Int) ^ n) ∧ Ex H X CB "BadNumber"))
def spPlnF (K : PySem.W.Frag) (CF CR CE : Addr) : Sp := fun vs H Q X => ∃ (F0 : Addr) (q n : Nat) (R : List Int) (s : Int), vs = [.ref F0, .int s] ∧ RuleOk q n R ∧ FldAt K CF CR H F0 q n R ∧ ((0 ≤ s ∧ s < q) → ∀ (v : Addr) (H' : Hp), Same H H' → H' v = some (.tup ((plainL n s).map V.int)) → Q (.ref v) H') ∧ (¬ (0 ≤ s ∧ s < q) → Ex H X CE "BadRest")
def spLenF (K : PySem.W.Frag) (CF CR : Addr) : Sp := fun vs H Q _ => ∃ (F0 : Addr) (q n : Nat) (R : List Int), vs = [.ref F0] ∧ RuleOk q n R ∧ FldAt K CF CR H F0 q n R ∧ Q (.int n) H
def spPriF (K : PySem.W.Frag) (CF CR : Addr) : Sp := fun vs H Q _ => ∃ (F0 : Addr) (q n : Nat) (R : List Int), vs = [.ref F0] ∧ RuleOk q n R ∧ FldAt K CF CR H F0 q n R ∧ Q (.int q) H
def spMulF (K : PySem.W.Frag) (CR : Addr) : List (Option V) → Sp := fun ws vs H Q _ => ∃ (W a b : Addr) (q n : Nat) (R xs ys : List Int), ws = [some (.ref W)] ∧ vs = [.ref a, .ref b] ∧ RuleOk q n R ∧ RawAt K CR H W q n R ∧ H a = some (.tup (xs.map V.int)) ∧ H b = some (.tup (ys.map V.int)) ∧ Num q n xs ∧ Num q n ys ∧
  ∀ (v : Addr) (zs : List Int) (H' : Hp), Same H H' → H' v = some (.tup (zs.map V.int)) → Num q n zs → El q R zs = El q R xs * El q R ys → Q (.ref v) H'
theorem El_trim {q : Nat} {R xs : List Int} : El q R (trim xs) = El q R xs := Xp.el_eq.mpr (by
  show Xp.Cg q (co R) (co (trim xs)) (co xs)
  rw [show co (trim xs) = co xs from funext fun k => trim_getD xs k]
  exact Xp.Cg.refl q _ _)
theorem El_pad {q n : Nat} {R xs : List Int} : El q R (padL xs n) = El q R xs := Xp.el_eq.mpr (by
  show Xp.Cg q (co R) (co (padL xs n)) (co xs)
  rw [co_pad]
  exact Xp.Cg.refl q _ _)
theorem RuleOk.big {q n : Nat} {R : List Int} (x : RuleOk q n R) : (2 : Int) ≤ (q : Int) ^ n := by
  have q0 := x.q0
  have h : 2 ≤ q ^ n := Nat.le_trans q0 (by
    have := Nat.pow_le_pow_right (show 0 < q by omega) x.n1
    rwa [Nat.pow_one] at this)
  exact_mod_cast h
theorem num_zero {q n : Nat} {R xs : List Int} (hR : RuleOk q n R) (nx : Num q n xs) : xs = List.replicate n 0 ↔ El q R xs = 0 := ⟨fun e => by rw [e]; exact el_nought, fun e => hR.eq nx (num_nought (by have := hR.q0; omega)) (e.trans el_nought.symm)⟩
section
variable {P : Program} {w : World} {K : PySem.W.Frag} {mg : Str → Option Value} {base : Heap}
theorem sc_RawField_undone : FnScope (["self", "number"] : List Str) ["self", "number"] (defScope s_RawField_undone) := ⟨rfl, rfl, rfl, by decide +kernel, rfl, by decide +kernel, by decide +kernel⟩
theorem ok_RawField_undone {TT : List (Addr × Str)} {f CF CR : Addr} {fd : FuncData} (F : FunD K "undone" "RawField.undone" (defArgs s_RawField_undone) (defBody s_RawField_undone) (defScope s_RawField_undone) [] [] f fd) (KC : ClsF K CF CR) (o_q_trimmed : Own P w K mg base CX0 1 "trimmed" ["rests"] [] spTrimA) (o_raw_undone : Own P w K mg base CX0 5 "raw_undone" ["one", "rule", "prime"] [] (spUndone K TT)) (o_padded : Own P w K mg base CX0 1 "padded" ["one", "width"] [] (spPad K)) : FnOk P w K mg base CX0 6 f fd ["self", "number"] (spUndR K TT CR) := by
  refine F.ok sc_RawField_undone (fun vs H Q E h => ?_) (fun cdv A outer s H vs Q E hr h => ?_)
  · obtain ⟨W, a, q, n, R, xs, rfl, _⟩ := h
    rfl
  · obtain ⟨W, a, q, n, R, xs, rfl, hR, hW, ha, nx, nz, hT, k⟩ := h
    have n1 := hR.n1
    have n12 := hR.n12
    have lx := nx.len
    refine ⟨_, PSs.nox (pss_one (ps_ret (pe_own o_padded (hr.mono (by decide)) rfl pass0 (pa_cons (pe_own o_raw_undone (hr.mono (by decide)) rfl pass0 (pa_cons (pe_own o_q_trimmed (hr.mono (by decide)) rfl pass0 (pa_cons (pv 1) pa_nil)) (pa_cons (pe_fld (pv 0) rfl) (pa_cons (pe_fld (pv 0) rfl) pa_nil)))) (pa_cons (pe_fld (pv 0) rfl) pa_nil))))) , ?_⟩
    obtain ⟨dx, rr, z, u, tt, ht, lt, lh, ts, hs, eW, hrr, ez, eu, _⟩ := id hW.ex
    refine ⟨_, rfl, a, xs, rfl, ha, by omega, fun v H1 s1 ev => ?_⟩
    refine ⟨_, rfl, W, CR, dx, _, _, rfl, s1 _ _ eW, KC.clR, KC.r0, rawFs_div _ _ _ _ _ _ _, _, rfl, W, CR, dx, _, _, rfl, s1 _ _ eW, KC.clR, KC.r1, rawFs_base _ _ _ _ _ _ _, v, rr, q, n, R, trim xs, rfl, hR, sameT s1 hrr, ev, ⟨fun k => by rw [trim_getD]; exact nx.rs k, trim_trim _, by have := trim_length xs; omega⟩, ?_, hT.ext s1, fun v2 ms H2 g2 e2 pm em => ?_⟩
    · rw [El_trim]
      exact nz
    · have G2 := (Gr.of hT s1).trans g2
      refine ⟨_, rfl, W, CR, dx, _, _, rfl, G2.x _ _ eW (fun _ z => by cases z), KC.clR, KC.r2, rawFs_width _ _ _ _ _ _ _, v2, ms, n, rfl, e2, pm.len, by omega, fun v3 H3 s3 e3 => k v3 (padL ms n) H3 (G2.same s3) e3 ⟨padL_len pm.len, pm.rs.padL n⟩ ?_⟩
      rw [El_pad, ← El_trim (xs := xs)]
      exact em
theorem sc_RawField_power : FnScope (["self", "number", "exponent"] : List Str) ["self", "number", "exponent"] (defScope s_RawField_power) := ⟨rfl, rfl, rfl, by decide +kernel, rfl, by decide +kernel, by decide +kernel⟩
def rfQ : Str := (envOfC "RawField.power" ⟨.function, [], false, false, []⟩ 0 0 .none).qual ++ "<lambda>"
abbrev lam_rfL : Arguments × Expr × Scope := lamP ((defBody s_RawField_power).getD 0 (.Pass ⟨0, 0, 0, 0⟩))
theorem nb_rf : ndefB (defScope s_RawField_power) lam_rfL.2.2 ["self"] = true := by decide +kernel
theorem ns_rf : NScope ["first", "second", "self"] ["first", "second"] ["self"] lam_rfL.2.2 := nscope_by (by decide +kernel)
theorem lam_rf {f CR : Addr} {F : NF} (o_RawField_times : OwnM P w K mg base CX0 2 CR "times" ["self", "one", "other"] [] (spNum2 K CR gMul)) (hp : F.params = lam_rfL.1) (hs : F.scope = lam_rfL.2.2) : NOkL P w K mg base CX0 3 f F lam_rfL.2.1 ["first", "second"] ["self"] (spMulF K CR) := by
  obtain ⟨fn, fq, fp, fb, fs, fc, fo⟩ := F
  have hp : fp = _ := hp
  have hs : fs = _ := hs
  subst hp hs
  refine nokL_of (N := ["first", "second", "self"]) ns_rf (fun pm ctv us hl => match us, hl with | [_, _], _ => rfl) (fun ws vs H Q E h => ?_) fun A outer s H vs ws Q E hr hw h => ?_
  · obtain ⟨W, a, b, q, n, R, xs, ys, _, rfl, _⟩ := h
    rfl
  · obtain ⟨W, a, b, q, n, R, xs, ys, rfl, rfl, hR, hW, ha, hb, nx, ny, k⟩ := h
    obtain ⟨dx, rr, z, u, tt, ht, lt, lh, ts, hs, eW, _⟩ := id hW.ex
    refine ⟨_, (pe_ownM o_RawField_times (hr.mono (by decide)) pass0 (pv 2) (pa_cons (pv 0) (pa_cons (pv 1) pa_nil))), ?_⟩
    exact ⟨_, rfl, W, dx, _, rfl, eW, rfl, _, rfl, _, rfl, W, a, b, q, n, R, xs, ys, rfl, hR, hW, SqT.of ha, SqT.of hb, nx, ny, fun v zs H' s' ev nz cg => k v zs H' s' ev nz (el_mul2 cg)⟩
theorem ok_RawField_power {TT : List (Addr × Str)} {f cR PR g CF CR : Addr} {fd : FuncData} (F : FunD K "power" "RawField.power" (defArgs s_RawField_power) (defBody s_RawField_power) (defScope s_RawField_power) [] [] f fd) (KC : ClsF K CF CR) (hcd : fd.code = .ref cR) (TB : TabB base mg cR PR) (hmT : (PR, rfQ) ∈ TT) (hu : ∀ p ∈ TT, p.1 = PR → p.2 = rfQ)
    (G_power_by : GivesV P w K mg base 4 3 "power_by" g TTpow) (o_RawField_times : OwnM P w K mg base CX0 2 CR "times" ["self", "one", "other"] [] (spNum2 K CR gMul)) : FnOk P w K mg base CX0 5 f fd ["self", "number", "exponent"] (spPowRF K TT CR) := by
  refine FunD_okC F hcd sc_RawField_power (fun vs H Q E h => ?_) (fun A outer s H vs Q E hr h => ?_)
  · obtain ⟨W, a, q, n, e, R, xs, rfl, _⟩ := h
    rfl
  · obtain ⟨W, a, q, n, e, R, xs, rfl, hR, hW, ha, nx, hT, k⟩ := h
    have n1 := hR.n1
    have q0 := hR.q0
    refine ⟨_, PSs.nox (pss_one (ps_ret (pe_giveV (mk := lamF _ lam_rfL.1 lam_rfL.2.2) (js := [0]) G_power_by (fun f c' => lam_rf o_RawField_times rfl rfl) (fun _ => rfl) (fun ok => Caps.made ok (ndef_free nb_rf) (ndef_fr nb_rf) rfl) (hr.mono (by decide)) rfl (pa_cons (pe_lamV TB rfl hmT hu rfl (ndef_free nb_rf)) (pa_cons (pe_fld (pv 0) rfl) (pa_cons (pv 1) (pa_cons (pv 2) pa_nil))))))) , ?_⟩
    refine ⟨hT, fun fl c' H1 g1 nf e1 e2 _ => ?_⟩
    obtain ⟨dx, rr, z, u, tt, ht, lt, lh, ts, hs, eW, hrr, ez, eu, _⟩ := id hW.ex
    refine ⟨_, rfl, W, CR, dx, _, _, rfl, g1.x _ _ eW (fun _ z => by cases z), KC.clR, KC.r4, rawFs_unit _ _ _ _ _ _ _, _, rfl, _, rfl, fl, c', e1, ?_⟩
    refine ⟨.ref u, .ref a, e, fun i x H => ∃ (v : Addr) (rs : List Int), x = .ref v ∧ H v = some (.tup (rs.map V.int)) ∧ Num q n rs ∧ El q R rs = El q R xs ^ i, TT, rfl, g1.t, ⟨u, oneT n, rfl, g1.tup eu, num_one n1 q0, by rw [el_one2, Lean.Grind.Semiring.pow_zero]⟩, ⟨a, xs, rfl, g1.tup ha, nx, by rw [Lean.Grind.Semiring.pow_one]⟩, ?_, ?_, ?_⟩
    · rintro i x H4 H5 g4 ⟨v, rs, rfl, ev, m⟩
      exact ⟨v, rs, rfl, g4.tup ev, m⟩
    · rintro i j x y H4 g4 ⟨v, rs, rfl, ev, nv, e3⟩ ⟨u', us, rfl, eu', nu, e4⟩ Q' kq
      refine ⟨g4.x _ _ e1 lamO_ne, g4.x _ _ e2 codeO_ne, W, v, u', q, n, R, rs, us, rfl, rfl, hR, hW.stay (Stays.gr (g1.trans g4)), ev, eu', nv, nu, fun z zs H5 s5 ez nz e5 => kq _ H5 (Gr.of g4.t s5) ⟨z, zs, rfl, ez, nz, ?_⟩⟩
      rw [e5, e3, e4, Lean.Grind.Semiring.pow_add]
    · rintro z H4 g4 ⟨v, rs, rfl, ev, nv, e3⟩
      exact k v rs H4 (g1.trans g4) ev nv e3
theorem sc_Field_undone : FnScope (["self", "number"] : List Str) ["self", "number"] (defScope s_Field_undone) := ⟨rfl, rfl, rfl, by decide +kernel, rfl, by decide +kernel, by decide +kernel⟩
theorem ok_Field_undone {TT : List (Addr × Str)} {f CF CR fI : Addr} {C : Fin 14 → Addr} {fd : FuncData} (F : FunD K "undone" "Field.undone" (defArgs s_Field_undone) (defBody s_Field_undone) (defScope s_Field_undone) [] [] f fd) (KC : ClsF K CF CR) (o_refuse_numbers : Own P w K mg base (L2.CX P w) 4 "refuse_numbers" ["raw", "told"] [] (spRefNs K CR (C 3))) (xI : RX K mg (C 4) fI "NoInverse") (o_init : FnR P w K mg base (L2.CX P w) 1 fI (spRI1 K)) (o_RawField_undone : OwnM P w K mg base CX0 6 CR "undone" ["self", "number"] [] (spUndR K TT CR)) : FnOk P w K mg base (L2.CX P w) 7 f fd ["self", "number"] (spUndF K TT CF CR (C 3) (C 4)) := by
  refine F.ok sc_Field_undone (fun vs H Q E h => ?_) (fun cdv A outer s H vs Q E hr h => ?_)
  · obtain ⟨F0, a, q, n, R, xs, rfl, _⟩ := h
    rfl
  · obtain ⟨F0, a, q, n, R, xs, rfl, hR, hF, ha, la, hT, h1, h2, h3⟩ := h
    refine ⟨_, (pss_cons (ps_expr (pe_own o_refuse_numbers (hr.mono (by decide)) rfl (passes_call (takes_of rfl rfl rfl rfl) (fun _ _ _ _ h => h)) (pa_cons (pe_fld (pv 0) rfl) (pa_cons (pe_tup (pa_cons (pv 1) pa_nil)) pa_nil))))
      (pss_cons (ps_if (pt_cmpR (op_eqD hr.units) (pv 1) (pe_fld (pe_fld (pv 0) rfl) rfl) (nomark _)) (pss_one (ps_raise rfl (takes_of rfl rfl rfl rfl) (pmk_rung xI o_init (hr.mono (by decide)) rfl))) pss_nil)
      (pss_one (ps_ret (pe_ownM o_RawField_undone (hr.mono (by decide)) pass0 (pe_fld (pv 0) rfl) (pa_cons (pv 1) pa_nil)))))) , ?_⟩
    obtain ⟨dx, rr, W, eF, eR, hW⟩ := id hF.ex
    refine ⟨_, rfl, F0, CF, dx, _, .ref W, rfl, eF, KC.clF, KC.f2, rfl, _, rfl, (by show 1 ≤ sizeLine; decide), fun c hc => ⟨W, c, [a], [xs], q, n, R, rfl, hR, hW.stay (.same (same_upd hc)), SqT.of upd_same, rfl, fun i a' xs' h1' h2' => ?_, fun hn H1 s1 => ?_, fun hn => ?_⟩⟩
    · match i, h1', h2' with
      | 0, h1', h2' => cases h1'; cases h2'; exact ⟨sameT (same_upd hc) (SqT.of ha), la⟩
    · have s2 := (same_upd hc).trans s1
      have nx := hn xs List.mem_cons_self
      have W2 := hW.stay (.same s2)
      obtain ⟨dw, rr2, z2, u2, tt2, ht2, lt2, lh2, ts2, hs2, eW, _, ez, _⟩ := id W2.ex
      refine ⟨_, rfl, _, rfl, F0, CF, dx, _, .ref W, rfl, s2 _ _ eF, KC.clF, KC.f2, rfl, W, CR, dw, _, _, rfl, eW, KC.clR, KC.r3, rawFs_nought _ _ _ _ _ _ _, _, _, dp_tup (SqT.of (s2 _ _ ha)), dp_tup (SqT.of ez), sh_ints _, sh_ints _, _, rfl, ?_⟩
      rw [eqv_dec]
      by_cases hz : xs = List.replicate n 0
      · rw [decide_eq_true hz]
        exact iteT fun d H' a b c => (h2 nx ((num_zero hR nx).mp hz)).same s2 d H' a b c
      · rw [decide_eq_false hz]
        have nz : El q R xs ≠ 0 := fun z => hz ((num_zero hR nx).mpr z)
        refine iteF ⟨_, rfl, F0, CF, dx, _, .ref W, rfl, s2 _ _ eF, KC.clF, KC.f2, rfl, W, dw, _, rfl, eW, rfl, _, rfl, W, a, q, n, R, xs, rfl, hR, W2, s2 _ _ ha, nx, nz, hT.ext s2, fun v zs H3 g3 ev nv e3 => h1 nx nz v zs H3 ((Gr.of hT s2).trans g3) ev nv e3⟩
    · refine (h3 (fun z => hn fun zs hzs => ?_)).same (same_upd hc)
      rw [List.mem_singleton.mp hzs]
      exact z
theorem sc_Field_power : FnScope (["self", "number", "exponent"] : List Str) ["self", "number", "exponent"] (defScope s_Field_power) := ⟨rfl, rfl, rfl, by decide +kernel, rfl, by decide +kernel, by decide +kernel⟩
theorem ok_Field_power {TT : List (Addr × Str)} {f CF CR fI : Addr} {C : Fin 14 → Addr} {fd : FuncData} (F : FunD K "power" "Field.power" (defArgs s_Field_power) (defBody s_Field_power) (defScope s_Field_power) [] [] f fd) (KC : ClsF K CF CR) (o_refuse_numbers : Own P w K mg base (L2.CX P w) 4 "refuse_numbers" ["raw", "told"] [] (spRefNs K CR (C 3))) (o_refuse_count : Own P w K mg base (L2.CX P w) 2 "refuse_count" ["told"] [] spRefC) (xI : RX K mg (C 4) fI "NoInverse") (o_init : FnR P w K mg base (L2.CX P w) 1 fI (spRI1 K)) (o_RawField_power : OwnM P w K mg base CX0 5 CR "power" ["self", "number", "exponent"] [] (spPowRF K TT CR)) : FnOk P w K mg base (L2.CX P w) 6 f fd ["self", "number", "exponent"] (spPowF K TT CF CR (C 3) (C 4)) := by
  refine F.ok sc_Field_power (fun vs H Q E h => ?_) (fun cdv A outer s H vs Q E hr h => ?_)
  · obtain ⟨F0, a, q, n, R, xs, s, rfl, _⟩ := h
    rfl
  · obtain ⟨F0, a, q, n, R, xs, e, rfl, hR, hF, ha, la, hT, h1, h2, h3⟩ := h
    refine ⟨_, (pss_cons (ps_expr (pe_own o_refuse_numbers (hr.mono (by decide)) rfl (passes_call (takes_of rfl rfl rfl rfl) (fun _ _ _ _ h => h)) (pa_cons (pe_fld (pv 0) rfl) (pa_cons (pe_tup (pa_cons (pv 1) pa_nil)) pa_nil))))
      (pss_cons (ps_expr (pe_own o_refuse_count (hr.mono (by decide)) rfl (passes_call (takes_of rfl rfl rfl rfl) (fun _ _ _ _ h => h)) (pa_cons (pv 2) pa_nil)))
      (pss_cons (ps_if (pt_cmpR (op_eqD hr.units) (pv 1) (pe_fld (pe_fld (pv 0) rfl) rfl) (nomark _)) (pss_cons (ps_if (pt_cmpR op_lt (pv 2) pe_int (nomark _)) (pss_one (ps_raise rfl (takes_of rfl rfl rfl rfl) (pmk_rung xI o_init (hr.mono (by decide)) rfl))) pss_nil)
      (pss_one (ps_ret (pe_ifExp (pt_cmpR op_eq (pv 2) pe_int (nomark _)) (pe_fld (pe_fld (pv 0) rfl) rfl) (pv 1))))) pss_nil)
      (pss_one (ps_ret (pe_ownM o_RawField_power (hr.mono (by decide)) pass0 (pe_fld (pv 0) rfl) (pa_cons (pv 1) (pa_cons (pe_op op_modN (pv 2) (pe_op op_sub (pe_fld (pv 0) rfl) pe_int)) pa_nil)))))))) , ?_⟩
    obtain ⟨dx, rr, W, eF, eR, hW⟩ := id hF.ex
    refine ⟨_, rfl, F0, CF, dx, _, .ref W, rfl, eF, KC.clF, KC.f2, rfl, _, rfl, (by show 1 ≤ sizeLine; decide), fun c hc => ⟨W, c, [a], [xs], q, n, R, rfl, hR, hW.stay (.same (same_upd hc)), SqT.of upd_same, rfl, fun i a' xs' h1' h2' => ?_, fun hn H1 s1 => ?_, fun hn => ?_⟩⟩
    · match i, h1', h2' with
      | 0, h1', h2' => cases h1'; cases h2'; exact ⟨sameT (same_upd hc) (SqT.of ha), la⟩
    · have s2 := (same_upd hc).trans s1
      have nx := hn xs List.mem_cons_self
      have W2 := hW.stay (.same s2)
      obtain ⟨dw, rr2, z2, u2, tt2, ht2, lt2, lh2, ts2, hs2, eW, _, ez, eu, _⟩ := id W2.ex
      refine ⟨_, rfl, e, rfl, ?_⟩
      refine ⟨_, rfl, _, rfl, F0, CF, dx, _, .ref W, rfl, s2 _ _ eF, KC.clF, KC.f2, rfl, W, CR, dw, _, _, rfl, eW, KC.clR, KC.r3, rawFs_nought _ _ _ _ _ _ _, _, _, dp_tup (SqT.of (s2 _ _ ha)), dp_tup (SqT.of ez), sh_ints _, sh_ints _, _, rfl, ?_⟩
      rw [eqv_dec]
      by_cases hz : xs = List.replicate n 0
      · rw [decide_eq_true hz]
        have z0 := (num_zero hR nx).mp hz
        refine iteT ⟨_, rfl, _, _, rfl, rfl, _, rfl, ite2 (fun hc => ?_) (fun hc => ?_)⟩
        · exact fun d H' a b c => (h2 nx z0 (of_decide_eq_true hc)).same s2 d H' a b c
        · have e0 : 0 ≤ e := by
            rcases Int.lt_or_le e 0 with g | g
            · exact absurd (decide_eq_true g) hc
            · exact g
          refine ⟨_, rfl, rfl, _, rfl, ?_⟩
          by_cases he : e = 0
          · rw [decide_eq_true (by rw [he])]
            refine iteT ⟨_, rfl, F0, CF, dx, _, .ref W, rfl, s2 _ _ eF, KC.clF, KC.f2, rfl, W, CR, dw, _, _, rfl, eW, KC.clR, KC.r4, rawFs_unit _ _ _ _ _ _ _, h1 nx (.inr e0) u2 (oneT n) H1 (Gr.of hT s2) eu (num_one hR.n1 hR.q0) (fun z => absurd z0 z) (fun _ => by rw [if_pos he])⟩
          · rw [decide_eq_false (fun z => he (V.int.inj z))]
            exact iteF ⟨_, rfl, h1 nx (.inr e0) a xs H1 (Gr.of hT s2) (s2 _ _ ha) nx (fun z => absurd z0 z) (fun _ => by rw [if_neg he])⟩
      · rw [decide_eq_false hz]
        have nz : El q R xs ≠ 0 := fun z => hz ((num_zero hR nx).mpr z)
        have q2 : (2 : Int) ≤ (q : Int) ^ n := hR.big
        have m0 := Int.fmod_nonneg_of_pos e (show (0 : Int) < (q : Int) ^ n - 1 by omega)
        refine iteF ⟨_, rfl, F0, CF, dx, _, .ref W, rfl, s2 _ _ eF, KC.clF, KC.f2, rfl, W, dw, _, rfl, eW, rfl, ?_⟩
        refine ⟨_, rfl, _, rfl, _, rfl, F0, CF, dx, _, _, rfl, s2 _ _ eF, KC.clF, KC.f3, rfl, _, _, rfl, rfl, _, _, rfl, rfl, (by omega), W, a, q, n, (e.fmod ((q : Int) ^ n - 1)).toNat, R, xs, ?_, hR, W2, s2 _ _ ha, nx, hT.ext s2, fun v zs H3 g3 ev nv e3 => h1 nx (.inl nz) v zs H3 ((Gr.of hT s2).trans g3) ev nv (fun _ => e3) (fun z => absurd z nz)⟩
        show [V.ref W, V.ref a, V.int (e.fmod ((q : Int) ^ n - 1))] = _
        rw [Int.toNat_of_nonneg m0]
    · refine (h3 (fun z => hn fun zs hzs => ?_)).same (same_upd hc)
      rw [List.mem_singleton.mp hzs]
      exact z
theorem sc_Field_plain : FnScope (["self", "rest"] : List Str) ["self", "rest"] (defScope s_Field_plain) := ⟨rfl, rfl, rfl, by decide +kernel, rfl, by decide +kernel, by decide +kernel⟩
theorem ok_Field_plain {f CF CR : Addr} {C : Fin 14 → Addr} {fd : FuncData} (F : FunD K "plain" "Field.plain" (defArgs s_Field_plain) (defBody s_Field_plain) (defScope s_Field_plain) [] [] f fd) (KC : ClsF K CF CR) (o_refuse_rest : Own P w K mg base (L2.CX P w) 3 "refuse_rest" ["number", "prime"] [] (spRefR (C 5))) (o_RawField_plain : OwnM P w K mg base CX0 1 CR "plain" ["self", "rest"] [] (spPlain CR)) : FnOk P w K mg base (L2.CX P w) 4 f fd ["self", "rest"] (spPlnF K CF CR (C 5)) := by
  refine F.ok sc_Field_plain (fun vs H Q E h => ?_) (fun cdv A outer s H vs Q E hr h => ?_)
  · obtain ⟨F0, q, n, R, s, rfl, _⟩ := h
    rfl
  · obtain ⟨F0, q, n, R, e, rfl, hR, hF, h1, h2⟩ := h
    refine ⟨_, (pss_cons (ps_expr (pe_own o_refuse_rest (hr.mono (by decide)) rfl (passes_call (takes_of rfl rfl rfl rfl) (fun _ _ _ _ h => h)) (pa_cons (pv 1) (pa_cons (pe_fld (pv 0) rfl) pa_nil))))
      (pss_one (ps_ret (pe_ownM o_RawField_plain (hr.mono (by decide)) pass0 (pe_fld (pv 0) rfl) (pa_cons (pv 1) pa_nil))))) , ?_⟩
    obtain ⟨dx, rr, W, eF, eR, hW⟩ := id hF.ex
    obtain ⟨dw, rr2, z2, u2, tt2, ht2, lt2, lh2, ts2, hs2, eW, _⟩ := id hW.ex
    refine ⟨_, rfl, _, rfl, F0, CF, dx, _, _, rfl, eF, KC.clF, KC.f1, rfl, e, q, rfl, fun hh => ?_, fun hh => h2 hh⟩
    exact ⟨_, rfl, F0, CF, dx, _, .ref W, rfl, eF, KC.clF, KC.f2, rfl, W, dw, _, rfl, eW, rfl, _, rfl, W, dw, _, n, e, rfl, eW, rawFs_width _ _ _ _ _ _ _, hR.n1, by have := hR.n12; omega, fun v H' s' e' => h1 hh v H' s' e'⟩
theorem sc_Field_prime : FnScope (["self"] : List Str) ["self"] (defScope s_Field_prime) := ⟨rfl, rfl, rfl, by decide +kernel, rfl, by decide +kernel, by decide +kernel⟩
theorem ok_Field_prime {f CF CR : Addr} {fd : FuncData} (F : FunD K "prime" "Field.prime" (defArgs s_Field_prime) (defBody s_Field_prime) (defScope s_Field_prime) [] [] f fd) (KC : ClsF K CF CR) : FnOk P w K mg base CX0 1 f fd ["self"] (spPriF K CF CR) := by
  refine F.ok sc_Field_prime (fun vs H Q E h => ?_) (fun cdv A outer s H vs Q E hr h => ?_)
  · obtain ⟨F0, q, n, R, rfl, _⟩ := h
    rfl
  · obtain ⟨F0, q, n, R, rfl, hR, hF, k⟩ := h
    refine ⟨_, PSs.nox (pss_one (ps_ret (pe_fld (pv 0) rfl))) , ?_⟩
    obtain ⟨dx, rr, W, eF, eR, hW⟩ := id hF.ex
    exact ⟨_, rfl, F0, CF, dx, _, _, rfl, eF, KC.clF, KC.f1, rfl, k⟩
theorem sc_Field___len : FnScope (["self"] : List Str) ["self"] (defScope s_Field___len) := ⟨rfl, rfl, rfl, by decide +kernel, rfl, by decide +kernel, by decide +kernel⟩
theorem ok_Field___len {f CF CR : Addr} {fd : FuncData} (F : FunD K "__len__" "Field.__len__" (defArgs s_Field___len) (defBody s_Field___len) (defScope s_Field___len) [] [] f fd) (KC : ClsF K CF CR) (T : Fre mg) : FnOk P w K mg base CX0 1 f fd ["self"] (spLenF K CF CR) := by
  refine F.ok sc_Field___len (fun vs H Q E h => ?_) (fun cdv A outer s H vs Q E hr h => ?_)
  · obtain ⟨F0, q, n, R, rfl, _⟩ := h
    rfl
  · obtain ⟨F0, q, n, R, rfl, hR, hF, k⟩ := h
    have n1 := hR.n1
    refine ⟨_, PSs.nox (pss_one (ps_ret (pe_callB call_len_seq (by rfl) T.f_len PySem.boot_len (pa_cons (pe_fld (pe_fld (pv 0) rfl) rfl) pa_nil)))) , ?_⟩
    obtain ⟨dx, rr, W, eF, eR, hW⟩ := id hF.ex
    obtain ⟨dw, rr2, z2, u2, tt2, ht2, lt2, lh2, ts2, hs2, eW, _, ez, eu, _⟩ := id hW.ex
    refine ⟨_, rfl, F0, CF, dx, _, .ref W, rfl, eF, KC.clF, KC.f2, rfl, W, CR, dw, _, _, rfl, eW, KC.clR, KC.r4, rawFs_unit _ _ _ _ _ _ _, u2, _, rfl, .inr (SqT.of eu), ?_⟩
    rw [List.length_map, (num_one n1 hR.q0).len]
    exact k
theorem sc_Field_place : FnScope (["self", "number", "place", "rest"] : List Str) ["self", "number"] (defScope s_Field_place) := ⟨rfl, rfl, rfl, by decide +kernel, rfl, by decide +kernel, by decide +kernel⟩
theorem ok_Field_place {f CF CR : Addr} {C : Fin 14 → Addr} {fd : FuncData} (F : FunD K "place" "Field.place" (defArgs s_Field_place) (defBody s_Field_place) (defScope s_Field_place) [] [] f fd) (KC : ClsF K CF CR) (T : Fre mg) (o_refuse_numbers : Own P w K mg base (L2.CX P w) 4 "refuse_numbers" ["raw", "told"] [] (spRefNs K CR (C 3))) : FnOk P w K mg base (L2.CX P w) 5 f fd ["self", "number"] (spPlcF K CF CR) := by
  refine F.ok sc_Field_place (fun vs H Q E h => ?_) (fun cdv A outer s H vs Q E hr h => ?_)
  · obtain ⟨F0, a, q, n, R, xs, rfl, _⟩ := h
    rfl
  · obtain ⟨F0, a, q, n, R, xs, rfl, hR, hF, ha, nx, k⟩ := h
    have n1 := hR.n1
    have n12 := hR.n12
    have lx := nx.len
    refine ⟨_, (pss_cons (ps_expr (pe_own o_refuse_numbers (hr.mono (by decide)) rfl (passes_call (takes_of rfl rfl rfl rfl) (fun _ _ _ _ h => h)) (pa_cons (pe_fld (pv 0) rfl) (pa_cons (pe_tup (pa_cons (pv 1) pa_nil)) pa_nil))))
      (pss_cons (ps_set (i := 2) sc_Field_place.nd rfl (Or.inl rfl) pe_int)
      (pss_cons (ps_for (passes_of rfl) rfl (RT.pi_revA (by rfl) T.f_reversed (pv 1)) (pg_name (i := 3) sc_Field_place.nd rfl (Or.inl rfl)) (pss_one (ps_set (i := 2) sc_Field_place.nd rfl (Or.inl rfl) (pe_op op_add (pe_op op_mul (pv 2) (pe_fld (pv 0) rfl)) (pv 3)))))
      (pss_one (ps_ret (pv 2)))))) , ?_⟩
    obtain ⟨dx, rr, W, eF, eR, hW⟩ := id hF.ex
    refine ⟨_, rfl, F0, CF, dx, _, .ref W, rfl, eF, KC.clF, KC.f2, rfl, _, rfl, (by show 1 ≤ sizeLine; decide), fun c hc => ⟨W, c, [a], [xs], q, n, R, rfl, hR, hW.stay (.same (same_upd hc)), SqT.of upd_same, rfl, fun i a' xs' h1' h2' => ?_, fun hn H1 s1 => ?_, fun hn => ?_⟩⟩
    · match i, h1', h2' with
      | 0, h1', h2' => cases h1'; cases h2'; exact ⟨sameT (same_upd hc) (SqT.of ha), by omega⟩
    · have s2 := (same_upd hc).trans s1
      refine ⟨_, rfl, a, _, rfl, .inr ⟨SqT.of (s2 _ _ ha), ?_⟩⟩
      have hpm := hR.pm
      have lo := hpm.lo
      have hi := hpm.hi
      refine for_it (walk_revT (xs := xs.map V.int)) (fun i σ' H' => ∃ x3, σ' = [some (.ref F0), some (.ref a), some (.int (plcL q (xs.drop (xs.length - i)))), x3] ∧ H' = H1) ⟨none, by rw [Nat.sub_zero, List.drop_length]; rfl, rfl⟩ (fun i σ' H' _ ⟨_, _, z⟩ => by rw [z]; exact SqT.of (s2 _ _ ha)) ?_ ?_
      · rintro i x σ' H2 H3 hi ⟨x3, rfl, rfl⟩ ⟨rfl, hx⟩
        rw [List.length_map] at hi hx
        have e3 := (map_at xs (xs.length - 1 - i) (by omega)).symm.trans hx
        cases e3
        refine ⟨_, rfl, _, rfl, F0, CF, dx, _, _, rfl, s2 _ _ eF, KC.clF, KC.f1, rfl, _, _, rfl, rfl, .inr ⟨by omega, by omega⟩, _, rfl, _, _, rfl, rfl, some (.int (xs.getD (xs.length - 1 - i) 0)), ?_, rfl⟩
        have g : xs.length - 1 - i < xs.length := by omega
        have ed : xs.drop (xs.length - (i + 1)) = xs.getD (xs.length - 1 - i) 0 :: xs.drop (xs.length - i) := by
          rw [show xs.length - (i + 1) = xs.length - 1 - i by omega, List.drop_eq_getElem_cons g, show xs.length - 1 - i + 1 = xs.length - i by omega]
          congr 1
          rw [List.getD_eq_getElem?_getD, List.getElem?_eq_getElem g]
          rfl
        rw [ed]
        show _ = [some (V.ref F0), some (V.ref a), some (V.int (xs.getD (xs.length - 1 - i) 0 + (q : Int) * plcL q (xs.drop (xs.length - i)))), some (V.int (xs.getD (xs.length - 1 - i) 0))]
        rw [show xs.getD (xs.length - 1 - i) 0 + (q : Int) * plcL q (xs.drop (xs.length - i)) = plcL q (xs.drop (xs.length - i)) * (q : Int) + xs.getD (xs.length - 1 - i) 0 by rw [Int.mul_comm]; omega]
        rfl
      · rintro σ' H2 ⟨x3, rfl, rfl⟩
        rw [List.length_map, Nat.sub_self]
        exact ⟨_, rfl, k _ s2⟩
    · exact absurd (fun zs hzs => by rw [List.mem_singleton.mp hzs]; exact nx) hn
theorem sc_Field_nth : FnScope (["self", "at", "rests", "_"] : List Str) ["self", "at"] (defScope s_Field_nth) := ⟨rfl, rfl, rfl, by decide +kernel, rfl, by decide +kernel, by decide +kernel⟩
theorem ok_Field_nth {f CF CR fI : Addr} {C : Fin 14 → Addr} {fd : FuncData} (F : FunD K "nth" "Field.nth" (defArgs s_Field_nth) (defBody s_Field_nth) (defScope s_Field_nth) [] [] f fd) (KC : ClsF K CF CR) (T : Fre mg) (o_refuse_count : Own P w K mg base (L2.CX P w) 2 "refuse_count" ["told"] [] spRefC) (xP : RX K mg (C 3) fI "BadNumber") (o_init : FnR P w K mg base (L2.CX P w) 1 fI (spRI1 K)) : FnOk P w K mg base (L2.CX P w) 3 f fd ["self", "at"] (spNthF K CF CR (C 3)) := by
  refine F.ok sc_Field_nth (fun vs H Q E h => ?_) (fun cdv A outer s H vs Q E hr h => ?_)
  · obtain ⟨F0, q, n, R, s, rfl, _⟩ := h
    rfl
  · obtain ⟨F0, q, n, R, e, rfl, hR, hF, b0, b1, h⟩ := h
    have n1 := hR.n1
    have n12 := hR.n12
    refine ⟨_, (pss_cons (ps_expr (pe_own o_refuse_count (hr.mono (by decide)) rfl (passes_call (takes_of rfl rfl rfl rfl) (fun _ _ _ _ h => h)) (pa_cons (pv 1) pa_nil)))
      (pss_cons (ps_if (pt_not (pt_chain op_le op_lt pe_int (pv 1) (pe_fld (pv 0) rfl))) (pss_one (ps_raise rfl (takes_of rfl rfl rfl rfl) (pmk_rung xP o_init (hr.mono (by decide)) rfl))) pss_nil)
      (pss_cons (ps_set (i := 2) sc_Field_nth.nd rfl (Or.inl rfl) (pe_lst pa_nil))
      (pss_cons (ps_for (passes_of rfl) rfl (pi_tup (pe_fld (pe_fld (pv 0) rfl) rfl)) (pg_name (i := 3) sc_Field_nth.nd rfl (Or.inl rfl)) (pss_cons (ps_expr (pe_bm PySem.F.plainAttrs_list PySem.F.slot_list_append PySem.F.type_list_append mt_append (pv 2) (pa_cons (pe_op op_modN (pv 1) (pe_fld (pv 0) rfl)) pa_nil)))
      (pss_one (ps_aug (i := 1) sc_Field_nth.nd rfl (Or.inl rfl) (pe_fld (pv 0) rfl) iop_fdivW))))
      (pss_one (ps_ret (pe_callTy call_tuple_of (by rfl) T.f_tuple (by decide +kernel) (pa_cons (pv 2) pa_nil)))))))) , ?_⟩
    obtain ⟨dx, rr, W, eF, eR, hW⟩ := id hF.ex
    obtain ⟨dw, rr2, z2, u2, tt2, ht2, lt2, lh2, ts2, hs2, eW, _, ez, eu, _⟩ := id hW.ex
    have hpm := hR.pm
    have lo := hpm.lo
    have hi := hpm.hi
    have q0 := hR.q0
    refine ⟨_, rfl, e, rfl, ?_⟩
    refine ⟨_, rfl, _, _, rfl, rfl, _, rfl, ?_⟩
    have hz : ∀ {xs : List Int}, Num q n xs → e = plcL q xs → 0 ≤ e ∧ e < (q : Int) ^ n := fun {xs} nx ee => by
      have := plc_bd (q := q) (by omega) nx.rs
      rw [nx.len, ← ee] at this
      exact this
    have bad : ¬ (0 ≤ e ∧ e < (q : Int) ^ n) → Ex H E (C 3) "BadNumber" := fun hn => by
      rcases h with ⟨xs, nx, ee, _⟩ | ⟨_, h⟩
      · exact absurd (hz nx ee) hn
      · exact h
    refine ite2 (fun hc => ?_) (fun hc => ?_)
    · have e0 : 0 ≤ e := of_decide_eq_true hc
      refine ⟨_, rfl, F0, CF, dx, _, _, rfl, eF, KC.clF, KC.f3, rfl, _, _, rfl, rfl, _, rfl, ?_⟩
      by_cases h1 : e < (q : Int) ^ n
      · rw [decide_eq_true h1]
        rcases h with ⟨xs, nx, ee, k⟩ | ⟨hn, _⟩
        · have lx := nx.len
          refine iteF ⟨(by show 0 ≤ sizeLine; decide), fun D hD => ?_⟩
          have sD := same_upd (o := .lst []) hD
          refine ⟨_, rfl, F0, CF, dx, _, .ref W, rfl, sD _ _ eF, KC.clF, KC.f2, rfl, W, CR, dw, _, _, rfl, sD _ _ eW, KC.clR, KC.r4, rawFs_unit _ _ _ _ _ _ _, u2, rfl, ⟨_, SqT.of (sD _ _ eu)⟩, ?_⟩
          refine for_it (walk_tup (xs := (oneT n).map V.int)) (fun i σ' H' => ∃ x3, σ' = [some (.ref F0), some (.int (plcL q (xs.drop i))), some (.ref D), x3] ∧ Same H H' ∧ H' D = some (.lst ((xs.take i).map V.int))) ⟨none, by rw [ee]; rfl, sD, upd_same⟩ (fun i σ' H' _ ⟨_, _, z, _⟩ => SqT.of (z _ _ eu)) ?_ ?_
          · rintro i x σ' H2 H3 hi ⟨x3, rfl, s2, e2⟩ ⟨rfl, hx⟩
            rw [List.length_map, (num_one n1 q0).len] at hi
            have g : i < xs.length := by omega
            have ed : xs.drop i = xs.getD i 0 :: xs.drop (i + 1) := by
              rw [List.drop_eq_getElem_cons g]
              congr 1
              rw [List.getD_eq_getElem?_getD, List.getElem?_eq_getElem g]
              rfl
            have rd : Rs q (xs.getD i 0 :: xs.drop (i + 1)) := by
              rw [← ed]
              intro k
              rw [List.getD_eq_getElem?_getD, List.getElem?_drop, ← List.getD_eq_getElem?_getD]
              exact nx.rs _
            obtain ⟨em, ev⟩ := plc_mod (q := q) (by omega) rd
            rw [ed]
            refine ⟨_, rfl, .inl ⟨rfl, _, SqL.of e2⟩, _, rfl, _, rfl, F0, CF, dx, _, _, rfl, s2 _ _ eF, KC.clF, KC.f1, rfl, _, _, rfl, rfl, (by omega), D, _, _, rfl, rfl, e2, ?_, ?_⟩
            · rw [List.length_map, List.length_take]
              exact small1000 (by omega)
            refine ⟨_, rfl, _, rfl, F0, CF, dx, _, _, rfl, lcs hD s2 _ _ eF, KC.clF, KC.f1, rfl, _, _, rfl, rfl, wide_div (b := 200) (by omega) (big (by omega)) (by decide) (by decide), x, ?_, lcs hD s2, ?_⟩
            · rw [← ev]
              rfl
            · rw [upd_same]
              dsimp only
              rw [em, List.take_succ, List.getD_eq_getElem?_getD, List.getElem?_eq_getElem g, List.map_append]
              rfl
          · rintro σ' H2 ⟨x3, rfl, s2, e2⟩
            rw [List.length_map, (num_one n1 q0).len, List.take_of_length_le (by omega)] at e2
            exact ⟨_, rfl, D, _, rfl, .inl ⟨SqL.of e2, fun v hv => k v _ (s2.trans (same_upd hv)) upd_same⟩⟩
        · exact absurd ⟨e0, h1⟩ hn
      · rw [decide_eq_false h1]
        exact iteT fun d H' a b c => bad (fun z => h1 z.2) d H' a b c
    · have e0 : ¬ 0 ≤ e := fun z => hc (decide_eq_true z)
      exact ⟨_, rfl, iteT fun d H' a b c => bad (fun z => e0 z.1) d H' a b c⟩
end
end Xk
end
section
set_option linter.all false
set_option maxHeartbeats 1000000
/-! A rule shifted: its row is the least one of x less a rest (no program in it). -/
namespace Xp
open Lean.Grind
section
variable {p : Int} {g : Cf}
theorem ev_one (y : Fq p g) : ∀ n, evC y (n + 1) one = 1 := fun n => by
  have e : evC y (1 + n) one = evC y 1 one := ev_ext y 1 one (fun k hk => if_neg (by omega)) n
  rw [Nat.add_comm, e]
  show mC p g (one 0) + y * 0 = 1
  rw [show one 0 = 1 from rfl, mC_one]
  grind
theorem ev_list (y : Fq p g) (ts : List Int) {N : Nat} (h : ts.length ≤ N) : evC y N (cf ts) = hv (mC p g) y ts := by
  obtain ⟨d, rfl⟩ := Nat.exists_eq_add_of_le h
  rw [ev_ext y ts.length (cf ts) (fun k hk => cf_out hk) d, ev_hv]
/-- times x and b, and c more -/
theorem hv_step (y : Fq p g) {xs zs : List Int} {b c : Int} (h : Eqm p (cf zs) (ad (cv (cf xs) (cf [b, 1])) (sc c one))) : hv (mC p g) y zs = hv (mC p g) y xs * (mC p g b + y) + mC p g c := by
  have hz : zs.length ≤ zs.length + (xs.length + 2) + 1 := by omega
  have over : ∀ k, xs.length + 2 ≤ k → cv (cf xs) (cf [b, 1]) k = 0 := fun k hk => by
    refine cv_over (a := xs.length) (b := 1) (fun i hi => cf_out (by omega)) (fun i hi => cf_out (by show 2 ≤ i; omega)) (by omega)
  have e2 : evC y (zs.length + (xs.length + 2) + 1) (cv (cf xs) (cf [b, 1])) = hv (mC p g) y xs * (mC p g b + y) := by
    have := ev_ext y (xs.length + 2) (cv (cf xs) (cf [b, 1])) over (zs.length + 1)
    rw [show xs.length + 2 + (zs.length + 1) = zs.length + (xs.length + 2) + 1 by omega] at this
    rw [this, ev_cv y xs.length (cf xs) (fun k hk => cf_out hk) (cf [b, 1]) 2 (fun k hk => cf_out hk)]
    have e3 : evC y 2 (cf [b, 1]) = hv (mC p g) y [b, 1] := ev_hv y [b, 1]
    rw [ev_hv, e3]
    show _ * (mC p g b + y * (mC p g 1 + y * 0)) = _
    rw [mC_one]
    grind
  rw [← ev_list y zs hz, ev_eqm y _ h, ev_ad, e2, ev_sc, ev_one]
  grind
end
/-- x less a rest turns as x does -/
theorem least_shift {p : Nat} (hp : 2 ≤ p) (fb : Fb p) {f : Cf} {x : Fq p f} {n : Nat} (lt : LeastT p x n) (b : Int) : LeastT p (x - mC p f b) n := by
  have key : ∀ j, (x - mC p f b) ^ (p ^ j) = x ^ (p ^ j) - mC p f b := fun j => by
    have a := frobN hp fb (x - mC p f b) (mC p f b) j
    have c : (mC (p : Int) f b) ^ (p ^ j) = mC p f b := fixC hp fb j b
    have e : x - mC p f b + mC p f b = x := by grind
    rw [e, c] at a
    rw [a]
    grind
  refine ⟨lt.1, ?_, fun j j1 j2 z => lt.2.2 j j1 j2 ?_⟩
  · rw [key, lt.2.1]
  · rw [key] at z
    have : x ^ (p ^ j) = x ^ (p ^ j) - mC p f b + mC p f b := by grind
    rw [this, z]
    grind
end Xp
end
section
set_option Elab.async false
set_option linter.all false
set_option maxRecDepth 100000
set_option maxHeartbeats 4000000
namespace Xk
open PySem PySem.Spec PyProof.Rows L2 Xh LamX NdefX
/-! ### least rows -/
theorem num_any {q n : Nat} {R zs : List Int} (hR : RuleOk q n R) (nz : Num q n zs) (h : El q R zs = 0) : zs.any (· != 0) = false := by
  have := hR.eq nz (num_nought (n := n) (by have := hR.q0; omega)) (h.trans el_nought.symm)
  rw [this]
  induction n with
  | zero => rfl
  | succ n ih => simp
theorem mC_inj {q n : Nat} {R : List Int} (hR : RuleOk q n R) {a b : Int} (a0 : 0 ≤ a) (a1 : a < q) (b0 : 0 ≤ b) (b1 : b < q) (h : Xp.mC q (co R) a = Xp.mC q (co R) b) : a = b := by
  have n1 := hR.n1
  have := hR.eq (num_plain n1 a0 a1) (num_plain n1 b0 b1) (by
    rw [show El q R (plainL n a) = Xp.mC q (co R) a from Xp.el_plain a (n - 1), show El q R (plainL n b) = Xp.mC q (co R) b from Xp.el_plain b (n - 1), h])
  injection this
theorem mC_row {q n : Nat} {R : List Int} (hR : RuleOk q n R) : ∀ {as bs : List Int}, Rs q as → Rs q bs → as.map (Xp.mC q (co R)) = bs.map (Xp.mC q (co R)) → as = bs
  | [], [], _, _, _ => rfl
  | [], _ :: _, _, _, h => by cases h
  | _ :: _, [], _, _, h => by cases h
  | a :: as, b :: bs, ra, rb, h => by
    obtain ⟨h1, h2⟩ := List.cons.inj h
    have e1 : a = b := mC_inj hR (ra 0).1 (ra 0).2 (rb 0).1 (rb 0).2 h1
    have e2 := mC_row hR (as := as) (bs := bs) (fun k => ra (k + 1)) (fun k => rb (k + 1)) h2
    rw [e1, e2]
theorem hv_snoc {q n : Nat} {R : List Int} (y : Xp.Fq (q : Int) (co R)) (as : List Int) : Xp.hv (Xp.mC q (co R)) y (as ++ [1]) = Xp.hvR y (as.map (Xp.mC q (co R)) ++ [1]) := by
  rw [Xp.hv_hvR, List.map_append, List.map_cons, List.map_nil, Xp.mC_one]
/-- level rows of rests with the same least root are one -/
theorem least_uniq {q n : Nat} {R : List Int} (hR : RuleOk q n R) {y : Xp.Fq (q : Int) (co R)} {as bs : List Int} (la : Xp.LeastT q y as.length) (lb : Xp.LeastT q y bs.length) (ra : Rs q as) (rb : Rs q bs) (za : Xp.hv (Xp.mC q (co R)) y (as ++ [1]) = 0) (zb : Xp.hv (Xp.mC q (co R)) y (bs ++ [1]) = 0) : as = bs := by
  have := hR.dm
  have e := la.uniq lb
  rw [hv_snoc (n := n)] at za zb
  have fb := fb_primes hR.hp
  exact mC_row hR ra rb (Xp.least_one hR.q0 fb (Xp.els_al hR.q0 hR.dg) la (by rw [List.length_map]) (by rw [List.length_map, e]) (Xp.mC_fix hR.q0 fb as) (Xp.mC_fix hR.q0 fb bs) za zb)
/-- the row of a number is its turn's -/
theorem turn_root {q n : Nat} {R : List Int} (hR : RuleOk q n R) {y : Xp.Fq (q : Int) (co R)} {as : List Int} (za : Xp.hv (Xp.mC q (co R)) y (as ++ [1]) = 0) : Xp.hv (Xp.mC q (co R)) (y ^ q) (as ++ [1]) = 0 := by
  have fb := fb_primes hR.hp
  rw [hv_snoc (n := n)] at za ⊢
  have := Xp.fix_worth hR.q0 fb (Xp.snoc_fix (Xp.mC_fix hR.q0 fb as)) y 1
  rw [Nat.pow_one, za] at this
  rw [this]
  exact Xp.zero_pow (by have := hR.q0; omega)
theorem least_wh {q n : Nat} {R : List Int} (hR : RuleOk q n R) {y : Xp.Fq (q : Int) (co R)} {cs : List Int} (lt : Xp.LeastT q y cs.length) (rc : Rs q cs) (z : Xp.hv (Xp.mC q (co R)) y (cs ++ [1]) = 0) : Wh q (cs ++ [1]) := fun e e1 e2 t ht => by
  have := hR.dm
  have c1 : 1 ≤ cs.length := lt.1
  rw [List.length_append, List.length_singleton, Nat.add_sub_cancel] at e2
  exact Xp.least_whole hR.q0 (fb_primes hR.hp) hR.dg hR.n1 (Xp.els_al hR.q0 hR.dg) lt (tp_of rfl rc) z e1 (by omega) ht
theorem RuleOk.x_row {q n : Nat} {R : List Int} (x : RuleOk q n R) : ∃ t, R = t ++ [1] ∧ t.length = n ∧ Rs q t ∧ Xp.LeastT q (Xp.Qu.mk Xp.Po.X : Xp.Fq (q : Int) (co R)) n ∧ Xp.hv (Xp.mC q (co R)) (Xp.Qu.mk Xp.Po.X) (t ++ [1]) = 0 := by
  have := x.dm
  have lt := Xp.x_least x.q0 (fb_primes x.hp) x.dg x.n1
  obtain ⟨t, l, r, rfl⟩ := x.ex
  exact ⟨t, rfl, l, r, lt, Xp.rule_x⟩
end Xk
end
section
set_option linter.all false
/-! Whole rules of some degrees by some primes, with what shows them so. -/
namespace Xp
def certs : List (Nat × List Int × List (List Int)) := [
  (2, [0], []),
  (2, [1, 1], [[1]]),
  (2, [1, 0, 1], [[0, 1]]),
  (2, [1, 0, 0, 1], [[0, 0, 1], [0, 1, 0, 1]]),
  (2, [1, 0, 0, 1, 0], [[0, 0, 1, 1], [1, 0, 0, 0, 1]]),
  (2, [1, 0, 0, 0, 0, 1], [[0, 0, 0, 0, 1], [1, 0, 1, 1, 1, 1], [1, 1, 0, 1]]),
  (2, [1, 0, 0, 0, 0, 0, 1], [[0, 0, 0, 0, 0, 1], [0, 1, 1, 0, 1, 0, 1], [1, 0, 0, 0, 0, 1, 1]]),
  (2, [1, 0, 0, 0, 1, 1, 0, 1], [[0, 0, 0, 1, 0, 0, 1], [0, 0, 0, 1, 1], [1, 1, 1, 0, 0, 1, 0, 1], [0, 1, 0, 0, 1, 1, 1, 1]]),
  (3, [0], []),
  (3, [1, 0], [[0, 2]]),
  (3, [1, 0, 2], [[1, 1, 1]]),
  (3, [1, 0, 1, 1], [[1, 0, 0, 1], [2, 1, 0, 1]]),
  (3, [1, 0, 0, 0, 2], [[1, 2, 1, 1, 1], [1, 2, 0, 0, 2]]),
  (5, [0], []),
  (5, [1, 1], [[2, 4]]),
  (5, [1, 0, 1], [[2, 3, 4]]),
  (7, [0], []),
  (7, [1, 0], [[0, 4]]),
  (11, [1, 0], [[0, 6]]),
  (13, [1, 3], [[2, 10]]),
  (97, [0], []),
  (2, [1, 0, 0, 0, 0, 0, 0, 0, 0, 1, 0, 0], [[0, 0, 0, 0, 0, 0, 0, 0, 1, 1, 1], [0, 0, 0, 0, 0, 0, 0, 0, 1], [1, 1, 0, 0, 1, 1, 0, 1, 0, 1, 1], [0, 0, 1, 0, 0, 0, 0, 0, 0, 0, 0, 1], [0, 0, 0, 1, 1, 0, 1, 1, 1, 0, 1], [0, 0, 1, 0, 0, 1, 0, 0, 1, 0, 0, 1]]),
  (2, [1, 0, 0, 0, 0, 0, 0, 0, 0, 1, 0], [[0, 0, 0, 0, 0, 0, 0, 0, 1, 1], [1, 0, 1, 1, 0, 1, 1, 0, 0, 0, 1], [0, 0, 1, 1, 1, 1, 0, 0, 1, 1], [1, 1, 1, 1, 1, 1], [1, 1, 1, 1, 0, 0, 1, 1, 1, 1]]),
  (2, [1, 0, 0, 0, 0, 0, 0, 0, 1], [[0, 0, 0, 0, 0, 0, 0, 1], [1, 0, 1, 1, 0, 1, 1, 1, 1], [0, 1, 1, 0, 1, 1, 0, 1], [1, 0, 1, 0, 0, 1, 1, 1]]),
  (3, [1, 0, 0, 0, 0, 0, 0, 0, 1, 0, 0, 1], [[1, 2, 1, 2, 1, 2, 1, 0, 2, 2, 0, 1], [1, 2, 2, 2, 0, 1, 1, 1, 2, 1, 2], [1, 0, 0, 0, 0, 0, 2, 0, 1, 1, 0, 1], [0, 1, 1, 1, 1, 1, 0, 1, 2, 1, 0, 2], [1, 0, 1, 1, 1, 0, 1, 0, 2, 0, 1, 1], [2, 2, 2, 1, 1, 1, 0, 0, 0, 0, 0, 1]]),
  (3, [1, 0, 0, 0, 0, 1, 1, 0], [[1, 2, 1, 2, 2, 1, 2, 1], [2, 0, 1, 1, 0, 2, 1, 1], [1, 1, 0, 1, 1, 1, 1], [0, 1, 0, 1, 2, 0, 2]]),
  (5, [1, 0, 0, 0, 1, 1], [[0, 4, 3, 2, 1, 4], [3, 2, 1, 1, 2, 2], [2, 2, 2, 3, 2, 2]]),
  (5, [1, 0, 0, 0, 0, 0, 0, 0, 2, 2], [[0, 4, 4, 2, 0, 4, 4, 4, 2, 3], [3, 0, 0, 0, 1, 3, 1, 3, 4], [3, 1, 4, 4, 0, 1, 0, 2, 2, 3], [3, 4, 3, 3, 1, 0, 0, 1, 3, 4], [3, 3, 3, 2, 3, 1, 3, 2, 0, 2]]),
  (7, [1, 0, 0, 0, 1, 0], [[0, 4, 0, 0, 0, 6], [0, 4, 0, 2, 0, 5], [0, 0, 0, 4, 0, 4]]),
  (11, [1, 0, 0, 0, 2], [[4, 4, 7, 6, 5], [5, 10, 0, 3, 8]]),
  (13, [1, 0, 0, 1], [[6, 5, 9, 8], [1, 9, 3, 11]]),
  (31, [1, 0, 0, 1], [[26, 17, 20, 16], [13, 0, 28, 18]]),
  (89, [1, 0, 4], [[64, 30, 76]]),
  (97, [1, 3], [[77, 19]]),
  (97, [1, 0, 0, 0, 0, 7], [[59, 20, 20, 1, 83, 25], [55, 23, 48, 41, 52, 63], [68, 91, 33, 59, 75, 90]]),
  (53, [0], []),
  (17, [1, 0, 0, 0, 0, 0, 2], [[7, 11, 8, 1, 3, 10, 4], [5, 4, 9, 1, 10, 5, 3], [9, 13, 2, 4, 4, 6, 16]]),
  (7, [1, 0, 0, 0, 0, 0, 1, 2], [[5, 2, 6, 0, 4, 0, 5, 1], [6, 0, 4, 0, 0, 4, 0, 6], [6, 3, 4, 3, 2, 6, 5, 4], [5, 4, 3, 3, 5, 0, 6, 6]]),
  (11, [1, 0, 0, 0, 0, 0, 0, 0, 4], [[3, 8, 0, 9, 6, 10, 7, 8, 2], [3, 5, 9, 5, 3, 2, 10, 5, 2], [9, 9, 6, 10, 1, 10, 9, 0, 1], [9, 0, 0, 10, 5, 0, 4, 4, 8]]),
  (13, [1, 0, 0, 0, 0, 0, 0, 0, 0, 0, 1, 1], [[2, 6, 3, 11, 9, 8, 0, 10, 3, 4, 7, 11], [11, 2, 10, 12, 4, 4, 8, 9, 2, 7, 0, 5], [12, 3, 3, 5, 2, 12, 9, 9, 11, 3, 3, 9], [5, 3, 7, 2, 9, 8, 1, 6, 5, 1, 9, 1], [8, 8, 1, 4, 12, 11, 5, 11, 12, 3, 11, 5], [1, 5, 1, 3, 1, 2, 12, 0, 4, 4, 10, 1]])]
theorem certs_ok : certs.all (fun c => certB c.1 c.2.1 c.2.2) = true := by decide +kernel
theorem ex_cert {p n : Nat} (hp : Pr p) (fb : Fb p) (h : certs.any (fun c => c.1 == p && c.2.1.length == n) = true) : ∃ t ∈ tp p n, ∀ e, 1 ≤ e → 2 * e ≤ n → ∀ t' ∈ tp p e, ¬ Dv p (lv t') (lv t) := by
  obtain ⟨c, hc, h⟩ := List.any_eq_true.mp h
  obtain ⟨h1, h2⟩ := Bool.and_eq_true_iff.mp h
  have h1 := eq_of_beq h1
  have h2 := eq_of_beq h2
  subst h1 h2
  have := cert_ok hp fb (List.all_eq_true.mp certs_ok c hc)
  exact ⟨c.2.1, this.1, this.2⟩
end Xp
end
section
set_option Elab.async false
set_option linter.all false
set_option maxRecDepth 100000
set_option maxHeartbeats 4000000
namespace Xk
open PySem PySem.Spec PyProof.Rows L2 Xh LamX NdefX
theorem Wd.put {d : Addr} {T : List (Addr × Str)} {qs : List (Addr × HO)} {H : Hp} (w : Wd d T qs H) {p : Addr} {o : HO} (e : H p = some o) (hp : p ≠ d) (ho : ∀ ps, o ≠ .tbl ps) : Wd d T ((p, o) :: qs) H := by
  refine ⟨w.D, w.T, fun r hr => ?_⟩
  rcases List.mem_cons.mp hr with rfl | hr
  · exact ⟨hp, e, ho⟩
  · exact w.q r hr
theorem Wd.putT {d : Addr} {T : List (Addr × Str)} {qs : List (Addr × HO)} {H : Hp} (w : Wd d T qs H) {p : Addr} {xs : List V} (e : H p = some (.tup xs)) : Wd d T ((p, .tup xs) :: qs) H := by
  refine w.put e (fun z => ?_) (fun _ z => by cases z)
  obtain ⟨c, ns, i, r, g, e2, _⟩ := w.D
  rw [z, e2] at e
  cases e
theorem Wd.a0 {d p : Addr} {o : HO} {T : List (Addr × Str)} {qs : List (Addr × HO)} {H : Hp} (w : Wd d T ((p, o) :: qs) H) : H p = some o := w.at List.mem_cons_self
theorem Wd.tl {d : Addr} {q : Addr × HO} {T : List (Addr × Str)} {qs : List (Addr × HO)} {H : Hp} (w : Wd d T (q :: qs) H) : Wd d T qs H := w.sub fun _ h => List.mem_cons_of_mem _ h
theorem Wd.a1 {d p : Addr} {o : HO} {q : Addr × HO} {T : List (Addr × Str)} {qs : List (Addr × HO)} {H : Hp} (w : Wd d T (q :: (p, o) :: qs) H) : H p = some o := w.tl.a0
theorem Wd.a2 {d p : Addr} {o : HO} {q q2 : Addr × HO} {T : List (Addr × Str)} {qs : List (Addr × HO)} {H : Hp} (w : Wd d T (q :: q2 :: (p, o) :: qs) H) : H p = some o := w.tl.tl.a0
theorem Wd.a3 {d p : Addr} {o : HO} {q q2 q3 : Addr × HO} {T : List (Addr × Str)} {qs : List (Addr × HO)} {H : Hp} (w : Wd d T (q :: q2 :: q3 :: (p, o) :: qs) H) : H p = some o := w.tl.tl.tl.a0
theorem Wd.a4 {d p : Addr} {o : HO} {q q2 q3 q4 : Addr × HO} {T : List (Addr × Str)} {qs : List (Addr × HO)} {H : Hp} (w : Wd d T (q :: q2 :: q3 :: q4 :: (p, o) :: qs) H) : H p = some o := w.tl.tl.tl.tl.a0
theorem Wd.a5 {d p : Addr} {o : HO} {q q2 q3 q4 q5 : Addr × HO} {T : List (Addr × Str)} {qs : List (Addr × HO)} {H : Hp} (w : Wd d T (q :: q2 :: q3 :: q4 :: q5 :: (p, o) :: qs) H) : H p = some o := w.tl.tl.tl.tl.tl.a0
theorem sqD {K : PySem.W.Frag} {H : Hp} {a : Addr} {xs : List V} (e : H a = some (.tup xs)) : SqT K H a xs := .inl (.inl e)
/-! ### the law of whole fields -/
theorem Stays.ext {H H' : Hp} (x : ExtN H H') : Stays H H' := ⟨fun _ _ _ _ e => x _ _ e (fun _ z => by cases z), fun _ _ e => x _ _ e (fun _ z => by cases z), fun _ _ _ e => x _ _ e (fun _ z => by cases z), fun _ _ e => x _ _ e (fun _ z => by cases z)⟩
theorem exW {p n : Nat} (hp : (p : Int) ∈ primes) (h : Xp.certs.any (fun c => c.1 == p && c.2.1.length == n) = true) : ExW p n := by
  obtain ⟨t, ht, h⟩ := Xp.ex_cert (pr_of hp) (fb_primes hp) h
  have lt := (Xp.tp_mem.mp ht).1
  refine ⟨t, ht, fun e e1 e2 => h e e1 ?_⟩
  rw [List.length_append, lt, List.length_singleton] at e2
  omega
theorem drop_step (L : List Int) {i : Nat} (hi : i < L.length) : L.drop (L.length - (i + 1)) = L.getD (L.length - 1 - i) 0 :: L.drop (L.length - i) := by
  have g : L.length - 1 - i < L.length := by omega
  rw [show L.length - (i + 1) = L.length - 1 - i by omega, List.drop_eq_getElem_cons g, show L.length - 1 - i + 1 = L.length - i by omega]
  congr 1
  rw [List.getD_eq_getElem?_getD, List.getElem?_eq_getElem g]
  rfl
theorem num_any2 {q n : Nat} {R zs : List Int} (hR : RuleOk q n R) (nz : Num q n zs) (h : El q R zs ≠ 0) : zs.any (· != 0) = true := by
  cases e : zs.any (· != 0) with
  | true => rfl
  | false =>
    exfalso
    refine h ((num_zero hR nz).mp ?_)
    refine List.eq_replicate_iff.mpr ⟨nz.len, fun b hb => ?_⟩
    have := List.any_eq_false.mp e b hb
    simpa using this
theorem RuleOk.small {q n : Nat} {R : List Int} (x : RuleOk q n R) : (q : Int) ^ n ≤ 10 ^ 39 := by
  have hi := x.pm.hi
  have h : q ^ n ≤ 1000 ^ 12 := Nat.le_trans (Nat.pow_le_pow_left (by omega) n) (Nat.pow_le_pow_right (by decide) x.n12)
  have h2 := Int.ofNat_le.mpr h
  rw [Int.natCast_pow] at h2
  exact Int.le_trans h2 (by decide)
theorem pow_ones {A : Type} [Lean.Grind.CommRing A] {y : A} {N : Nat} (h : y ^ N = 1) : ∀ k, y ^ (N * k) = 1
  | 0 => by rw [Nat.mul_zero, Lean.Grind.Semiring.pow_zero]
  | k + 1 => by
    rw [Nat.mul_succ, Lean.Grind.Semiring.pow_add, pow_ones h k, h]
    grind
theorem RuleOk.pow_one {q n : Nat} {R : List Int} (x : RuleOk q n R) {y : Xp.Fq (q : Int) (co R)} (nz : y ≠ 0) : y ^ (q ^ n - 1) = 1 := by
  have := x.dm
  have h := x.all y
  have p0 : 0 < q ^ n := Nat.pow_pos (by have := x.q0; omega)
  rw [show q ^ n = (q ^ n - 1) + 1 by omega, Lean.Grind.Semiring.pow_succ] at h
  have e : (y ^ (q ^ n - 1) - 1) * y = 0 := by
    have : (y ^ (q ^ n - 1) - 1) * y = y ^ (q ^ n - 1) * y - y := by grind
    rw [this, h]
    grind
  rcases Xp.Dm.int e with e | e
  · have : y ^ (q ^ n - 1) = (y ^ (q ^ n - 1) - 1) + 1 := by grind
    rw [this, e]
    grind
  · exact absurd e nz
theorem RuleOk.pow_neg {q n : Nat} {R : List Int} (x : RuleOk q n R) {y : Xp.Fq (q : Int) (co R)} (nz : y ≠ 0) {m : Int} : y ^ ((0 - m).fmod ((q : Int) ^ n - 1)).toNat * y ^ (m.fmod ((q : Int) ^ n - 1)).toNat = 1 := by
  have b := x.big
  generalize hN : (q : Int) ^ n - 1 = N at *
  have a0 := Int.fmod_nonneg_of_pos (0 - m) (show (0 : Int) < N by omega)
  have c0 := Int.fmod_nonneg_of_pos m (show (0 : Int) < N by omega)
  have p1 : 1 ≤ q ^ n := Nat.pow_pos (by have := x.q0; omega)
  have eN : N.toNat = q ^ n - 1 := by
    rw [← hN, ← Int.natCast_pow]
    omega
  have h1 : (((0 - m).fmod N + m.fmod N)) % N = 0 := by
    rw [Int.fmod_eq_emod_of_nonneg _ (by omega), Int.fmod_eq_emod_of_nonneg _ (by omega), ← Int.add_emod, show 0 - m + m = 0 by omega, Int.zero_emod]
  obtain ⟨k, hk⟩ := Int.dvd_of_emod_eq_zero h1
  have k0 : 0 ≤ k := by
    rcases Int.lt_or_le k 0 with g | g
    · have : N * k < 0 := Int.mul_neg_of_pos_of_neg (by omega) g
      omega
    · exact g
  rw [← Lean.Grind.Semiring.pow_add, ← Int.toNat_add a0 c0, hk, Int.toNat_mul (by omega) k0, eN]
  exact pow_ones (x.pow_one nz) _
structure Pair (q : Int × Int) (p n : Nat) : Prop where
  e1 : q.1 = p
  e2 : q.2 = n
  hp : (p : Int) ∈ primes
  n1 : 1 ≤ n
  n12 : n ≤ 12
  ex : ExW p n
theorem great_pair : ∀ q ∈ greatL ++ greatM, ∃ p n : Nat, Pair q p n := fun q hq => by
  have h : ∀ q ∈ greatL ++ greatM, q.1 = (q.1.toNat : Int) ∧ q.2 = (q.2.toNat : Int) ∧ ((q.1.toNat : Nat) : Int) ∈ primes ∧ 1 ≤ q.2.toNat ∧ q.2.toNat ≤ 12 ∧ Xp.certs.any (fun c => c.1 == q.1.toNat && c.2.1.length == q.2.toNat) = true := by decide +kernel
  obtain ⟨a, b, c, d, e, g⟩ := h q hq
  exact ⟨_, _, a, b, c, d, e, exW c g⟩
/-- a row under way: i rests, the last of them 1 -/
structure ShF (p : Int) (i : Nat) (zs : List Int) : Prop where
  rs : Rs p zs
  tr : trim zs = zs
  len : zs.length = i
  top : 1 ≤ i → zs.getD (i - 1) 0 = 1
theorem ShF.step {p c b : Int} {zs ms us : List Int} {i j1 j2 : Nat} (hp : Pm p) (S : ShF p i zs) (y : Is (fun j => (cvf zs [b, 1] j).fmod p) j1 ms) (z : Is (fun j => (ms.getD j 0 + c * ([1] : List Int).getD j 0).fmod p) j2 us) (h0 : i = 0 → c = 1) : ShF p (i + 1) us := by
  have lo := hp.lo
  have lz := S.len
  have lm : ms.length ≤ i + 1 := by
    rcases times_len y with e | ⟨_, _, e⟩
    · rw [e]
      exact Nat.zero_le _
    · have : ([b, 1] : List Int).length = 2 := rfl
      omega
  have top : us.getD i 0 = 1 := by
    rw [z.at_]
    by_cases hi : i = 0
    · subst hi
      have : zs = [] := List.length_eq_zero_iff.mp lz
      subst this
      have em : ms.getD 0 0 = 0 := by
        rcases times_len y with e | ⟨ne, _⟩
        · rw [e]
          rfl
        · exact absurd rfl ne
      rw [em, h0 rfl]
      show (0 + 1 * 1 : Int).fmod p = 1
      exact fm_id (by decide) (by omega)
    · have em : ms.getD i 0 = 1 := by
        rw [y.at_, cvf_cv]
        have h := Xp.cv_top (f := co zs) (g := co [b, 1]) (a := i - 1) (b := 1) (fun k hk => getD_over (by omega)) (fun k hk => getD_over (by show 2 ≤ k; omega))
        rw [show i - 1 + 1 = i by omega] at h
        rw [h]
        show (zs.getD (i - 1) 0 * 1).fmod p = 1
        rw [S.top (by omega)]
        exact fm_id (by decide) (by omega)
      rw [em, getD_over (a := [1]) (by show 1 ≤ i; omega), Int.mul_zero]
      exact fm_id (by decide) (by omega)
  refine ⟨rs_of hp z, z.tr, ?_, fun _ => top⟩
  have h1 : us.length ≤ i + 1 := z.short fun k hk => by
    show (ms.getD k 0 + c * ([1] : List Int).getD k 0).fmod p = 0
    rw [getD_over (by omega), getD_over (a := [1]) (by show 1 ≤ k; omega), Int.mul_zero]
    exact Int.zero_fmod p
  rcases Nat.lt_or_ge i us.length with g | g
  · omega
  · rw [getD_over g] at top
    cases top
theorem ShF.snoc {p : Int} {n : Nat} {us : List Int} (S : ShF p (n + 1) us) : ∃ t, us = t ++ [1] ∧ t.length = n ∧ Rs p t := by
  have l := S.len
  refine ⟨us.take n, ?_, by rw [List.length_take]; omega, fun k => ?_⟩
  · have h := List.take_append_drop n us
    have hd : us.drop n = [1] := by
      rw [List.drop_eq_getElem_cons (by omega), List.drop_eq_nil_of_le (by omega)]
      congr 1
      have := S.top (by omega)
      rw [Nat.add_sub_cancel, List.getD_eq_getElem?_getD, List.getElem?_eq_getElem (by omega)] at this
      exact this
    rw [hd] at h
    exact h.symm
  · rw [List.getD_eq_getElem?_getD, List.getElem?_take]
    split
    · rw [← List.getD_eq_getElem?_getD]
      exact S.rs k
    · have := S.rs 0
      show (0 : Int) ≤ 0 ∧ (0 : Int) < p
      omega
def spShift (K : PySem.W.Frag) : Sp := fun vs H Q _ => ∃ (a : Addr) (b : Int) (q n : Nat) (R : List Int), vs = [.ref a, .int b, .int q] ∧ RuleOk q n R ∧ SqT K H a (R.map V.int) ∧ 0 ≤ b ∧ b < q ∧ ∀ (v : Addr) (R' : List Int) (H' : Hp), Same H H' → H' v = some (.tup (R'.map V.int)) → RuleOk q n R' → Q (.ref v) H'
def spGrR (T : List (Addr × Str)) : Sp := fun vs H Q _ => ∃ (d : Addr) (q n : Nat) (L : List (Addr × HO)), vs = [.ref d, .int n, .int q] ∧ Wd d T L H ∧ (q : Int) ∈ primes ∧ 1 ≤ n ∧ n ≤ 12 ∧ ExW q n ∧ ∀ (v : Addr) (R' : List Int) (H' : Hp), Wd d T L H' → H' v = some (.tup (R'.map V.int)) → RuleOk q n R' → Q (.ref v) H'
def spSizF (K : PySem.W.Frag) (CF CR : Addr) : Sp := fun vs H Q _ => ∃ (F0 : Addr) (q n : Nat) (R : List Int), vs = [.ref F0] ∧ RuleOk q n R ∧ FldAt K CF CR H F0 q n R ∧ Q (.int ((q : Int) ^ n)) H
def spPlaced (K : PySem.W.Frag) (T : List (Addr × Str)) (CF CR : Addr) : Sp := fun vs H Q _ => ∃ (d F0 a : Addr) (q n : Nat) (R xs : List Int) (L : List (Addr × HO)), vs = [.ref d, .ref F0, .ref a] ∧ RuleOk q n R ∧ Wd d T L H ∧ FldAt K CF CR H F0 q n R ∧ H a = some (.tup (xs.map V.int)) ∧ Num q n xs ∧ ∀ H', Wd d T L H' → FldAt K CF CR H' F0 q n R → (∀ b us, H b = some (.tup us) → H' b = some (.tup us)) → Q (.bl true) H'
def spLeastR (K : PySem.W.Frag) (T : List (Addr × Str)) (CF CR : Addr) : Sp := fun vs H Q _ => ∃ (F0 a : Addr) (q n : Nat) (R xs : List Int), vs = [.ref F0, .ref a, .int q] ∧ RuleOk q n R ∧ FldAt K CF CR H F0 q n R ∧ H a = some (.tup (xs.map V.int)) ∧ Num q n xs ∧ Tabs T H ∧ ∀ H', Gr T H H' → Q (.bl true) H'
section
variable {P : Program} {w : World} {K : PySem.W.Frag} {mg : Str → Option Value} {base : Heap}
theorem sc_Field_size : FnScope (["self"] : List Str) ["self"] (defScope s_Field_size) := ⟨rfl, rfl, rfl, by decide +kernel, rfl, by decide +kernel, by decide +kernel⟩
theorem ok_Field_size {f CF CR : Addr} {fd : FuncData} (F : FunD K "size" "Field.size" (defArgs s_Field_size) (defBody s_Field_size) (defScope s_Field_size) [] [] f fd) (KC : ClsF K CF CR) : FnOk P w K mg base CX0 1 f fd ["self"] (spSizF K CF CR) := by
  refine F.ok sc_Field_size (fun vs H Q E h => ?_) (fun cdv A outer s H vs Q E hr h => ?_)
  · obtain ⟨F0, q, n, R, rfl, _⟩ := h
    rfl
  · obtain ⟨F0, q, n, R, rfl, hR, hF, k⟩ := h
    refine ⟨_, PSs.nox (pss_one (ps_ret (pe_fld (pv 0) rfl))) , ?_⟩
    obtain ⟨dx, rr, W, eF, eR, hW⟩ := id hF.ex
    exact ⟨_, rfl, F0, CF, dx, _, _, rfl, eF, KC.clF, KC.f3, rfl, k⟩
theorem sc_law_shifted : FnScope (["_law_poly", "_law_by", "_law_p", "_law_found", "_law_number_here"] : List Str) ["_law_poly", "_law_by", "_law_p"] (defScope s_law_shifted) := ⟨rfl, rfl, rfl, by decide +kernel, rfl, by decide +kernel, by decide +kernel⟩
theorem ok_law_shifted {f : Addr} {fd : FuncData} (F : FunD K "_law_shifted" "_law_shifted" (defArgs s_law_shifted) (defBody s_law_shifted) (defScope s_law_shifted) [] [] f fd) (o_law_mul : Own P w K mg base CX0 2 "_law_mul" ["_law_one", "_law_other", "_law_p"] [] (spMul K)) (o_law_blend : Own P w K mg base CX0 2 "_law_blend" ["_law_one", "_law_other", "_law_weight", "_law_p"] [] (spBlend K)) : FnOk P w K mg base CX0 3 f fd ["_law_poly", "_law_by", "_law_p"] (spShift K) := by
  refine F.ok sc_law_shifted (fun vs H Q E h => ?_) (fun cdv A outer s H vs Q E hr h => ?_)
  · obtain ⟨a, b, q, n, R, rfl, _⟩ := h
    rfl
  · obtain ⟨a, b, q, n, R, rfl, hR, ha, b0, b1, k⟩ := h
    have hpm := hR.pm
    have lo := hpm.lo
    have hi1000 := hpm.hi
    have n1 := hR.n1
    have n12 := hR.n12
    have lR := hR.len
    refine ⟨_, PSs.nox (pss_cons (ps_set (i := 3) sc_law_shifted.nd rfl (Or.inl rfl) (pe_tup pa_nil))
      (pss_cons (ps_for PassesOwn.never rfl (pi_tup (pe_revT (pv 0))) (pg_name (i := 4) sc_law_shifted.nd rfl (Or.inl rfl)) (pss_one (ps_set (i := 3) sc_law_shifted.nd rfl (Or.inl rfl) (pe_own o_law_blend (hr.mono (by decide)) rfl pass0 (pa_cons (pe_own o_law_mul (hr.mono (by decide)) rfl pass0 (pa_cons (pv 3) (pa_cons (pe_tup (pa_cons (pv 1) (pa_cons pe_int pa_nil))) (pa_cons (pv 2) pa_nil)))) (pa_cons (pe_tup (pa_cons pe_int pa_nil)) (pa_cons (pv 4) (pa_cons (pv 2) pa_nil))))))))
      (pss_one (ps_ret (pv 3))))) , ?_⟩
    refine ⟨(by show 0 ≤ sizeLine; decide), fun t0 h0 => ?_⟩
    have s0 := same_upd (o := .tup []) h0
    refine ⟨_, rfl, a, _, rfl, sameT s0 ha, fun qv hq => ?_⟩
    rw [← List.map_reverse]
    have s1 := s0.trans (same_upd (o := .tup (R.reverse.map V.int)) hq)
    refine ⟨qv, rfl, ⟨_, .inl (.inl upd_same)⟩, ?_⟩
    refine for_it (walk_tup (xs := R.reverse.map V.int)) (fun i σ' H2 => ∃ (tt : Addr) (zs : List Int) (x4 : Option V), σ' = [some (.ref a), some (.int b), some (.int q), some (.ref tt), x4] ∧ Same H H2 ∧ H2 qv = some (.tup (R.reverse.map V.int)) ∧ H2 tt = some (.tup (zs.map V.int)) ∧ ShF q i zs ∧ Xp.hv (Xp.mC q (co R)) (Xp.Qu.mk Xp.Po.X - Xp.mC q (co R) b) zs = Xp.hv (Xp.mC q (co R)) (Xp.Qu.mk Xp.Po.X) (R.drop (R.length - i)))
      ⟨t0, [], none, rfl, s1, upd_same, same_upd hq _ _ upd_same, ⟨Rs.nil q hpm.pos, rfl, rfl, fun z => absurd z (by decide)⟩, by rw [Nat.sub_zero, List.drop_length]; rfl⟩ (fun i σ' H2 _ ⟨_, _, _, _, _, e2, _⟩ => .inl (.inl e2)) ?_ ?_
    · rintro i x σ' H2 H3 hi ⟨tt, zs, x4, rfl, s2, eq2, et, S, hz⟩ ⟨rfl, hx⟩
      rw [List.length_map, List.length_reverse] at hi
      have e0 : R.reverse.getD i 0 = R.getD (R.length - 1 - i) 0 := by
        rw [List.getD_eq_getElem?_getD, List.getD_eq_getElem?_getD, List.getElem?_reverse hi]
      have e3 := (map_at R.reverse i (by rw [List.length_reverse]; exact hi)).symm.trans hx
      rw [e0] at e3
      cases e3
      have lz := S.len
      obtain ⟨r0, r1⟩ := hR.po.rs (R.length - 1 - i)
      have hc0 : i = 0 → R.getD (R.length - 1 - i) 0 = 1 := fun z => by
        rw [z, show R.length - 1 - 0 = n by omega]
        exact hR.last
      generalize hc : R.getD (R.length - 1 - i) 0 = c at r0 r1 hc0
      have rs2 : Rs (q : Int) [b, 1] := fun k => by
        match k with
        | 0 => exact ⟨b0, b1⟩
        | 1 => exact ⟨by show (0 : Int) ≤ 1; decide, by show (1 : Int) < q; omega⟩
        | k + 2 =>
          show (0 : Int) ≤ 0 ∧ (0 : Int) < q
          omega
      refine ⟨_, rfl, _, rfl, (by show 2 ≤ sizeLine; decide), fun t1 ht1 => ⟨_, rfl, tt, t1, zs, [b, 1], (q : Int), rfl, SqT.of (same_upd ht1 _ _ et), SqT.of upd_same, by omega, (by show 2 ≤ 50; decide), S.rs, rs2, hpm, fun ms y q4 H4 s4 n4 e4 => ?_⟩⟩
      have lms : ms.length ≤ 30 := by
        rcases times_len y with e | ⟨_, _, e⟩
        · rw [e]
          exact Nat.zero_le _
        · have : ([b, 1] : List Int).length = 2 := rfl
          omega
      refine ⟨(by show 1 ≤ sizeLine; decide), fun t2 ht2 => ⟨_, rfl, _, rfl, q4, t2, ms, [1], c, (q : Int), rfl, SqT.of (same_upd ht2 _ _ e4), SqT.of upd_same, by omega, (by show 1 ≤ 100; decide), r0, by omega, hpm, fun us z q5 H5 s5 n5 e5 => ?_⟩⟩
      have S5 := (((same_upd (o := .tup [.int b, .int 1]) ht1).trans s4).trans (same_upd (o := .tup [.int 1]) ht2)).trans s5
      refine ⟨q5, us, _, rfl, s2.trans S5, S5 _ _ eq2, e5, S.step hpm y z hc0, ?_⟩
      have em : Xp.Eqm (q : Int) (co us) (Xp.ad (Xp.cv (co zs) (co [b, 1])) (Xp.sc c Xp.one)) := by
        have ez : Xp.Eqm (q : Int) (co us) (fun k => co ms k + Xp.sc c Xp.one k) := (eqm_of hpm.pos z).trans (eqv_fun fun k => by
          show ms.getD k 0 + c * co [1] k = ms.getD k 0 + c * Xp.one k
          rw [co_one])
        exact ez.trans ((times_eqm hpm y).add (Xp.Eqm.refl _ _))
      have ed : R.drop (R.length - (i + 1)) = c :: R.drop (R.length - i) := by
        have g : R.length - 1 - i < R.length := by omega
        rw [show R.length - (i + 1) = R.length - 1 - i by omega, List.drop_eq_getElem_cons g, show R.length - 1 - i + 1 = R.length - i by omega]
        congr 1
        rw [← hc, List.getD_eq_getElem?_getD, List.getElem?_eq_getElem g]
        rfl
      rw [Xp.hv_step (b := b) (c := c) (xs := zs) _ em, hz, ed]
      show _ = Xp.mC q (co R) c + Xp.Qu.mk Xp.Po.X * _
      grind
    · rintro σ' H2 ⟨tt, zs, x4, rfl, s2, eq2, et, S, hz⟩
      rw [List.length_map, List.length_reverse, lR] at S
      rw [List.length_map, List.length_reverse, Nat.sub_self, List.drop_zero] at hz
      obtain ⟨t, rfl, lt, rt⟩ := S.snoc
      obtain ⟨t0', e0, _, _, ltx, zx⟩ := hR.x_row
      have hzR : Xp.hv (Xp.mC q (co R)) (Xp.Qu.mk Xp.Po.X) R = 0 := (congrArg (Xp.hv _ _) e0).trans zx
      exact ⟨_, rfl, k tt (t ++ [1]) H2 s2 et (RuleOk.of lt n1 n12 hR.hp rt (least_wh hR (y := Xp.Qu.mk Xp.Po.X - Xp.mC q (co R) b) (by rw [lt]; exact Xp.least_shift hR.q0 (fb_primes hR.hp) ltx b) rt (hz.trans hzR)))⟩
theorem sc_law_great_rule : FnScope (["_law_draw", "_law_degree", "_law_p"] : List Str) ["_law_draw", "_law_degree", "_law_p"] (defScope s_law_great_rule) := ⟨rfl, rfl, rfl, by decide +kernel, rfl, by decide +kernel, by decide +kernel⟩
theorem ok_law_great_rule {TT : List (Addr × Str)} {C : Fin 14 → Addr} {f : Addr} {fd : FuncData} (F : FunD K "_law_great_rule" "_law_great_rule" (defArgs s_law_great_rule) (defBody s_law_great_rule) (defScope s_law_great_rule) [] [] f fd) (k_least_whole : OwnK P w K mg base (L2.CX P w) 12 1 "least_whole" ["degree", "prime"] ["prime"] (spLeastW K TT C)) (o_law_take : Own P w K mg base CX0 1 "_law_take" ["_law_draw", "_law_sides"] [] spTake) (o_law_shifted : Own P w K mg base CX0 3 "_law_shifted" ["_law_poly", "_law_by", "_law_p"] [] (spShift K)) : FnOk P w K mg base CX0 13 f fd ["_law_draw", "_law_degree", "_law_p"] (spGrR TT) := by
  refine F.ok sc_law_great_rule (fun vs H Q E h => ?_) (fun cdv A outer s H vs Q E hr h => ?_)
  · obtain ⟨d, q, n, L, rfl, _⟩ := h
    rfl
  · obtain ⟨d, q, n, L, rfl, W1, hp, n1, n12, ex, k⟩ := h
    have hpm := pm_of hp
    have lo := hpm.lo
    refine ⟨_, PSs.nox (pss_one (ps_ret (pe_own o_law_shifted (hr.mono (by decide)) rfl pass0 (pa_cons (pe_ownK k_least_whole (hr.mono (by decide)) rfl passL (pa_cons (pv 1) pa_nil) (pk_cons (pv 2) pk_nil)) (pa_cons (pe_own o_law_take (hr.mono (by decide)) rfl pass0 (pa_cons (pv 0) (pa_cons (pv 2) pa_nil))) (pa_cons (pv 2) pa_nil)))))) , ?_⟩
    refine ⟨_, rfl, _, rfl, rfl, rfl, n, q, rfl, W1.T, (fun z => absurd hp z), (fun _ z => absurd ⟨by omega, by omega⟩ z), fun _ _ _ => ⟨n, q, rfl, rfl, ex, fun v ys H1 g1 ev1 _ ly ry wy _ => ?_⟩⟩
    have W2 := W1.gr g1
    refine ⟨_, rfl, _, rfl, d, q, rfl, W2.D, by omega, natAbs_small hpm, fun m H2 m0 m1 D2 B2 => ⟨_, rfl, v, m, q, n, ys ++ [1], rfl, RuleOk.of ly n1 n12 hp ry wy, ?_, m0, m1, fun u R' H3 s3 eu hR' => k u R' H3 ((W2.but B2 D2).same s3) eu hR'⟩⟩
    exact (Stays.but W2.D B2).sq ev1
theorem sc_law_least_right : FnScope (["_law_field", "_law_a", "_law_p", "_law_least", "_law_found", "_law_rest"] : List Str) ["_law_field", "_law_a", "_law_p"] (defScope s_law_least_right) := ⟨rfl, rfl, rfl, by decide +kernel, rfl, by decide +kernel, by decide +kernel⟩
theorem ok_law_least_right {TT : List (Addr × Str)} {f CF CR : Addr} {C : Fin 14 → Addr} {fd : FuncData} (F : FunD K "_law_least_right" "_law_least_right" (defArgs s_law_least_right) (defBody s_law_least_right) (defScope s_law_least_right) [] [] f fd) (T : Fre mg) (o_Field_least : OwnM P w K mg base (L2.CX P w) 5 CF "least" ["self", "number"] [] (spLeastF K CF CR (C 3))) (o_Field_plain : OwnM P w K mg base (L2.CX P w) 4 CF "plain" ["self", "rest"] [] (spPlnF K CF CR (C 5))) (o_Field_plus : OwnM P w K mg base (L2.CX P w) 5 CF "plus" ["self", "one", "other"] [] (spFld2 K CF CR (C 3) gAdd)) (o_Field_times : OwnM P w K mg base (L2.CX P w) 5 CF "times" ["self", "one", "other"] [] (spFld2 K CF CR (C 3) gMul)) (o_Field_degree : OwnM P w K mg base (L2.CX P w) 5 CF "degree" ["self", "number"] [] (spDegF K CF CR (C 3))) (k_is_whole : OwnK P w K mg base (L2.CX P w) 12 1 "is_whole" ["poly", "prime"] ["prime"] (spWhole K TT)) : FnOk P w K mg base CX0 13 f fd ["_law_field", "_law_a", "_law_p"] (spLeastR K TT CF CR) := by
  refine F.ok sc_law_least_right (fun vs H Q E h => ?_) (fun cdv A outer s H vs Q E hr h => ?_)
  · obtain ⟨F0, a, q, n, R, xs, rfl, _⟩ := h
    rfl
  · obtain ⟨F0, a, q, n, R, xs, rfl, hR, hF, ha, nx, hT, k⟩ := h
    have hpm := hR.pm
    have lo := hpm.lo
    have n1 := hR.n1
    have n12 := hR.n12
    have q0 := hR.q0
    have lx := nx.len
    refine ⟨_, PSs.nox (pss_cons (ps_par (i := 3) (j := 4) (by rfl) sc_law_least_right.nd rfl rfl (by decide) rfl rfl (pa_cons (pe_ownM o_Field_least (hr.mono (by decide)) passL (pv 0) (pa_cons (pv 1) pa_nil)) (pa_cons (pe_ownM o_Field_plain (hr.mono (by decide)) passL (pv 0) (pa_cons pe_int pa_nil)) pa_nil)) (by rfl))
      (pss_cons (ps_for PassesOwn.never rfl (pi_tup (pe_revT (pv 3))) (pg_name (i := 5) sc_law_least_right.nd rfl (Or.inl rfl)) (pss_one (ps_set (i := 4) sc_law_least_right.nd rfl (Or.inl rfl) (pe_ownM o_Field_plus (hr.mono (by decide)) passL (pv 0) (pa_cons (pe_ownM o_Field_times (hr.mono (by decide)) passL (pv 0) (pa_cons (pv 4) (pa_cons (pv 1) pa_nil))) (pa_cons (pe_ownM o_Field_plain (hr.mono (by decide)) passL (pv 0) (pa_cons (pv 5) pa_nil)) pa_nil))))))
      (pss_one (ps_ret (pe_and (pe_not (pe_callB (call_anyTI rfl) (by rfl) T.f_any (by decide +kernel) (pa_cons (pv 4) pa_nil))) (pe_and (pe_ownK k_is_whole (hr.mono (by decide)) rfl passL (pa_cons (pv 3) pa_nil) (pk_cons (pv 2) pk_nil)) (pe_one (pe_cmpR op_eq (pe_op op_sub (pe_callB call_len_seq (by rfl) T.f_len PySem.boot_len (pa_cons (pv 3) pa_nil)) pe_int) (pe_ownM o_Field_degree (hr.mono (by decide)) passL (pv 0) (pa_cons (pv 1) pa_nil)) (nomark _))))))))) , ?_⟩
    obtain ⟨dF, rF, WF, eF, _, _⟩ := id hF.ex
    refine ⟨_, rfl, F0, dF, _, rfl, eF, rfl, _, rfl, F0, a, q, n, R, xs, rfl, hR, hF, ha, by omega, (fun _ u cs H1 s1 eu lt lcn rc zc => ?_), fun z => absurd nx z⟩
    refine ⟨_, rfl, F0, dF, _, rfl, s1 _ _ eF, rfl, F0, q, n, R, 0, rfl, hR, hF.stay (.same s1), (fun _ v H2 s2 ev => ?_), fun z => absurd ⟨by decide, by omega⟩ z⟩
    have s12 := s1.trans s2
    have l1 : (cs ++ [1]).length = cs.length + 1 := by rw [List.length_append]; rfl
    have c1 : 1 ≤ cs.length := lt.1
    have rc1 : Rs (q : Int) (cs ++ [1]) := (dsr_lv rc hR.hp).rs
    have eu2 := s2 _ _ eu
    refine ⟨_, _, rfl, ?_⟩
    refine ⟨_, rfl, u, _, rfl, SqT.of eu2, fun qv hq => ?_⟩
    rw [← List.map_reverse]
    have s3 := s12.trans (same_upd (o := .tup ((cs ++ [1]).reverse.map V.int)) hq)
    refine ⟨qv, rfl, ⟨_, .inl (.inl upd_same)⟩, ?_⟩
    have p0 : El q R (plainL n 0) = 0 := by
      rw [show El q R (plainL n 0) = Xp.mC q (co R) 0 from Xp.el_plain 0 (n - 1), Xp.mC_zero]
    refine for_it (walk_tup (xs := (cs ++ [1]).reverse.map V.int)) (fun i σ' H4 => ∃ (tt : Addr) (zs : List Int) (x5 : Option V), σ' = [some (.ref F0), some (.ref a), some (.int q), some (.ref u), some (.ref tt), x5] ∧ Same H H4 ∧ H4 u = some (.tup ((cs ++ [1]).map V.int)) ∧ H4 qv = some (.tup ((cs ++ [1]).reverse.map V.int)) ∧ H4 tt = some (.tup (zs.map V.int)) ∧ Num q n zs ∧ El q R zs = Xp.hv (Xp.mC q (co R)) (El q R xs) ((cs ++ [1]).drop ((cs ++ [1]).length - i)))
      ⟨v, plainL n 0, none, rfl, s3, same_upd hq _ _ eu2, upd_same, same_upd hq _ _ ev, num_plain n1 (by decide) (by omega), by rw [Nat.sub_zero, List.drop_length]; exact p0⟩ (fun i σ' H4 _ ⟨_, _, _, _, _, _, e2, _⟩ => .inl (.inl e2)) ?_ ?_
    · rintro i x σ' H4 H5 hi ⟨tt, zs, x5, rfl, s4, eu4, eq4, et, nz, qz⟩ ⟨rfl, hx⟩
      rw [List.length_map, List.length_reverse] at hi
      have e0 : (cs ++ [1]).reverse.getD i 0 = (cs ++ [1]).getD ((cs ++ [1]).length - 1 - i) 0 := by
        rw [List.getD_eq_getElem?_getD, List.getD_eq_getElem?_getD, List.getElem?_reverse hi]
      have e3 := (map_at (cs ++ [1]).reverse i (by rw [List.length_reverse]; exact hi)).symm.trans hx
      rw [e0] at e3
      cases e3
      have lz := nz.len
      obtain ⟨r0, r1⟩ := rc1 ((cs ++ [1]).length - 1 - i)
      generalize hc : (cs ++ [1]).getD ((cs ++ [1]).length - 1 - i) 0 = c at r0 r1
      have F4 := hF.stay (.same s4)
      refine ⟨_, rfl, F0, dF, _, rfl, s4 _ _ eF, rfl, _, rfl, F0, dF, _, rfl, s4 _ _ eF, rfl, _, rfl, _, rfl, F0, tt, a, q, n, R, zs, xs, rfl, hR, F4, SqT.of et, SqT.of (s4 _ _ ha), by omega, by omega, (fun _ _ w1 ws H6 s6 ew nw cg => ?_), fun z => absurd ⟨nz, nx⟩ z⟩
      have s46 := s4.trans s6
      refine ⟨_, rfl, F0, dF, _, rfl, s46 _ _ eF, rfl, _, rfl, F0, q, n, R, c, rfl, hR, hF.stay (.same s46), (fun _ w2 H7 s7 ew2 => ?_), fun z => absurd ⟨r0, r1⟩ z⟩
      have s47 := s46.trans s7
      have lw := nw.len
      have np := num_plain (q := q) n1 r0 r1
      have lp := np.len
      refine ⟨F0, w1, w2, q, n, R, ws, plainL n c, rfl, hR, hF.stay (.same s47), SqT.of (s7 _ _ ew), SqT.of ew2, by omega, by omega, (fun _ _ w3 us H8 s8 ew3 nu cg2 => ?_), fun z => absurd ⟨nw, np⟩ z⟩
      have s68 := (s6.trans s7).trans s8
      refine ⟨w3, us, _, rfl, s4.trans s68, s68 _ _ eu4, s68 _ _ eq4, ew3, nu, ?_⟩
      have ed := drop_step (cs ++ [1]) hi
      rw [hc] at ed
      rw [ed, el_add2 cg2, el_mul2 cg, qz, show El q R (plainL n c) = Xp.mC q (co R) c from Xp.el_plain c (n - 1)]
      show _ = Xp.mC q (co R) c + El q R xs * _
      grind
    · rintro σ' H4 ⟨tt, zs, x5, rfl, s4, eu4, eq4, et, nz, qz⟩
      rw [List.length_map, List.length_reverse, Nat.sub_self, List.drop_zero] at qz
      have T4 := hT.ext s4
      refine ⟨_, rfl, tt, zs, rfl, SqT.of et, _, rfl, ?_⟩
      rw [num_any hR nz (qz.trans zc)]
      have po : Po (q : Int) (cs ++ [1]) 25 := ⟨rc1, (dsr_lv rc hR.hp).tr, by omega⟩
      refine ⟨_, rfl, iteT ⟨_, rfl, _, rfl, rfl, rfl, u, cs ++ [1], q, rfl, SqT.of eu4, (fun _ => eu4), hR.hp, po, T4, fun b H5 g5 ib => ?_⟩⟩
      have bt : b = true := ib.mpr ⟨by omega, least_wh hR lt rc zc⟩
      subst bt
      have G5 := (Gr.of hT s4).trans g5
      have F5 := hF.stay (.gr G5)
      refine ⟨_, rfl, iteT ⟨_, rfl, u, _, rfl, .inr (SqT.of (g5.tup eu4)), _, _, rfl, rfl, _, rfl, F0, dF, _, rfl, G5.x _ _ eF (fun _ z => by cases z), rfl, _, rfl, F0, a, q, n, R, xs, rfl, hR, F5, G5.tup ha, by omega, (fun _ m H6 s6 lt2 => ?_), fun z => absurd nx z⟩⟩
      have qm := lt.uniq lt2
      subst qm
      rw [List.length_map, l1]
      refine ⟨rfl, ?_⟩
      have e : (fun i j => V.int (i - j)) (((cs.length + 1 : Nat)) : Int) 1 = V.int ((cs.length : Nat) : Int) := congrArg V.int (by omega)
      rw [e, decide_eq_true rfl]
      exact k H6 (G5.same s6)
theorem sc_law_placed : FnScope (["_law_draw", "_law_field", "_law_a", "_law_place", "_law_many", "_law_part"] : List Str) ["_law_draw", "_law_field", "_law_a"] (defScope s_law_placed) := ⟨rfl, rfl, rfl, by decide +kernel, rfl, by decide +kernel, by decide +kernel⟩
theorem ok_law_placed {TT : List (Addr × Str)} {f CF CR : Addr} {C : Fin 14 → Addr} {fd : FuncData} (F : FunD K "_law_placed" "_law_placed" (defArgs s_law_placed) (defBody s_law_placed) (defScope s_law_placed) [] [] f fd) (T : Fre mg) (o_law_take : Own P w K mg base CX0 1 "_law_take" ["_law_draw", "_law_sides"] [] spTake) (o_law_of : Own P w K mg base CX0 2 "_law_of" ["_law_draw", "_law_row"] [] (spOf K)) (o_Field_prime : OwnM P w K mg base CX0 1 CF "prime" ["self"] [] (spPriF K CF CR)) (o_Field_place : OwnM P w K mg base (L2.CX P w) 5 CF "place" ["self", "number"] [] (spPlcF K CF CR)) (o_Field_nth : OwnM P w K mg base (L2.CX P w) 3 CF "nth" ["self", "at"] [] (spNthF K CF CR (C 3))) (o_Field_times : OwnM P w K mg base (L2.CX P w) 5 CF "times" ["self", "one", "other"] [] (spFld2 K CF CR (C 3) gMul)) (o_Field_power : OwnM P w K mg base (L2.CX P w) 6 CF "power" ["self", "number", "exponent"] [] (spPowF K TT CF CR (C 3) (C 4))) (o_Field_plain : OwnM P w K mg base (L2.CX P w) 4 CF "plain" ["self", "rest"] [] (spPlnF K CF CR (C 5))) : FnOk P w K mg base CX0 8 f fd ["_law_draw", "_law_field", "_law_a"] (spPlaced K TT CF CR) := by
  refine F.ok sc_law_placed (fun vs H Q E h => ?_) (fun cdv A outer s H vs Q E hr h => ?_)
  · obtain ⟨d, F0, a, q, n, R, xs, L, rfl, _⟩ := h
    rfl
  · obtain ⟨d, F0, a, q, n, R, xs, L, rfl, hR, W1, F1, ha, nx, k⟩ := h
    have hpm := hR.pm
    have lo := hpm.lo
    have hi := hpm.hi
    have n1 := hR.n1
    have n12 := hR.n12
    have q0 := hR.q0
    have q2 := hR.big
    have lx := nx.len
    refine ⟨_, PSs.nox (pss_cons (ps_par (i := 3) (j := 4) (by rfl) sc_law_placed.nd rfl rfl (by decide) rfl rfl (pa_cons pe_int (pa_cons (pe_own o_law_take (hr.mono (by decide)) rfl pass0 (pa_cons (pv 0) (pa_cons (pe_own o_law_of (hr.mono (by decide)) rfl pass0 (pa_cons (pv 0) (pa_cons (pe_lst (pa_cons pe_int (pa_cons (pe_op op_pow pe_int pe_int) pa_nil))) pa_nil))) pa_nil))) pa_nil)) (by rfl))
      (pss_cons (ps_for PassesOwn.never rfl (pi_tup (pe_revT (pv 2))) (pg_name (i := 5) sc_law_placed.nd rfl (Or.inl rfl)) (pss_one (ps_set (i := 3) sc_law_placed.nd rfl (Or.inl rfl) (pe_op op_add (pe_op op_mul (pv 3) (pe_ownM0 o_Field_prime (hr.mono (by decide)) pass0 (pv 1))) (pv 5)))))
      (pss_cons (ps_if (PW.pt (pw_or (pt_cmpR op_ne (pe_ownM o_Field_place (hr.mono (by decide)) passL (pv 1) (pa_cons (pv 2) pa_nil)) (pv 3) (nomark _)) (pw_or1 (pt_cmpR (op_neD hr.units) (pe_ownM o_Field_nth (hr.mono (by decide)) passL (pv 1) (pa_cons (pv 3) pa_nil)) (pv 2) (nomark _))))) (pss_one (ps_ret pe_bl)) pss_nil)
      (pss_one (ps_ret (pe_or (pe_not (pe_callB (call_anyTI rfl) (by rfl) T.f_any (by decide +kernel) (pa_cons (pv 2) pa_nil))) (pe_one (pe_cmpR (op_eqD hr.units) (pe_ownM o_Field_times (hr.mono (by decide)) passL (pv 1) (pa_cons (pe_ownM o_Field_power (hr.mono (by decide)) passL (pv 1) (pa_cons (pv 2) (pa_cons (pe_op op_sub pe_int (pv 4)) pa_nil))) (pa_cons (pe_ownM o_Field_power (hr.mono (by decide)) passL (pv 1) (pa_cons (pv 2) (pa_cons (pv 4) pa_nil))) pa_nil))) (pe_ownM o_Field_plain (hr.mono (by decide)) passL (pv 1) (pa_cons pe_int pa_nil)) (nomark _))))))))) , ?_⟩
    refine ⟨_, rfl, _, rfl, _, _, rfl, rfl, ⟨by decide, by decide, by decide⟩, (by show 2 ≤ sizeLine; decide), fun lb nlb => ?_⟩
    have slb := same_upd (o := .lst [.int 9, .int ((10 : Int) ^ Int.toNat 30)]) nlb
    refine ⟨d, lb, _, rfl, W1.D.same slb, SqL.of upd_same, W1.D.ne nlb, (by show 0 < 2; decide), (by show 2 ≤ 1000; decide), fun x H2 hx D2 B2 => ?_⟩
    obtain ⟨sides, rfl, sd1, sd2⟩ : ∃ sides : Int, x = .int sides ∧ 1 ≤ sides ∧ sides.natAbs < 2 ^ 200 := by
      have k30 : (10 : Int) ^ Int.toNat 30 = 1000000000000000000000000000000 := by decide
      have hx : x ∈ [V.int 9, V.int ((10 : Int) ^ Int.toNat 30)] := hx
      rw [k30] at hx
      simp only [List.mem_cons, List.not_mem_nil, or_false] at hx
      rcases hx with rfl | rfl
      · exact ⟨9, rfl, by decide, by decide⟩
      · exact ⟨_, rfl, by decide, by decide⟩
    refine ⟨d, sides, rfl, D2, sd1, sd2, fun m H3 m0 m1 D3 B3 => ⟨_, _, rfl, ?_⟩⟩
    have W3 := ((W1.same slb).but B2 D2).but B3 D3
    have F3 := ((F1.stay (.same slb)).stay (.but (W1.D.same slb) B2)).stay (.but D2 B3)
    have kt3 : ∀ b us, H b = some (.tup us) → H3 b = some (.tup us) := fun b us e => by
      have e1 := slb _ _ e
      have e2 := B2 _ _ ((W1.D.same slb).tup_ne e1) e1
      exact B3 _ _ (D2.tup_ne e2) e2
    have ha3 := kt3 _ _ ha
    refine ⟨_, rfl, a, _, rfl, SqT.of ha3, fun qv hq => ?_⟩
    rw [← List.map_reverse]
    have s4 := same_upd (o := .tup (xs.reverse.map V.int)) hq
    refine ⟨qv, rfl, ⟨_, .inl (.inl upd_same)⟩, ?_⟩
    refine for_it (walk_tup (xs := xs.reverse.map V.int)) (fun i σ' H4 => ∃ x5, σ' = [some (.ref d), some (.ref F0), some (.ref a), some (.int (plcL q (xs.drop (xs.length - i)))), some (.int m), x5] ∧ Same H3 H4 ∧ H4 qv = some (.tup (xs.reverse.map V.int))) ⟨none, by rw [Nat.sub_zero, List.drop_length]; rfl, s4, upd_same⟩ (fun i σ' H4 _ ⟨_, _, _, e2⟩ => .inl (.inl e2)) ?_ ?_
    · rintro i x σ' H4 H5 hi ⟨x5, rfl, s4, eq4⟩ ⟨rfl, hx⟩
      rw [List.length_map, List.length_reverse] at hi
      have e0 : xs.reverse.getD i 0 = xs.getD (xs.length - 1 - i) 0 := by
        rw [List.getD_eq_getElem?_getD, List.getD_eq_getElem?_getD, List.getElem?_reverse hi]
      have e3 := (map_at xs.reverse i (by rw [List.length_reverse]; exact hi)).symm.trans hx
      rw [e0] at e3
      cases e3
      have F4 := F3.stay (.same s4)
      obtain ⟨dF, rF, WF, eF, _, _⟩ := id F4.ex
      refine ⟨_, rfl, _, rfl, F0, dF, _, rfl, eF, rfl, F0, q, n, R, rfl, hR, F4, _, _, rfl, rfl, .inr ⟨by omega, by omega⟩, _, rfl, _, _, rfl, rfl, some (.int (xs.getD (xs.length - 1 - i) 0)), ?_, s4, eq4⟩
      rw [drop_step xs hi]
      show _ = [some (V.ref d), some (V.ref F0), some (V.ref a), some (V.int (xs.getD (xs.length - 1 - i) 0 + (q : Int) * plcL q (xs.drop (xs.length - i)))), some (V.int m), some (V.int (xs.getD (xs.length - 1 - i) 0))]
      rw [show xs.getD (xs.length - 1 - i) 0 + (q : Int) * plcL q (xs.drop (xs.length - i)) = plcL q (xs.drop (xs.length - i)) * (q : Int) + xs.getD (xs.length - 1 - i) 0 by rw [Int.mul_comm]; omega]
      rfl
    · rintro σ' H4 ⟨x5, rfl, s4, eq4⟩
      rw [List.length_map, List.length_reverse, Nat.sub_self, List.drop_zero]
      have F4 := F3.stay (.same s4)
      obtain ⟨dF, rF, WF, eF, _, _⟩ := id F4.ex
      obtain ⟨b0, b1⟩ := plc_bd (q := q) (by omega) nx.rs
      rw [lx] at b1
      have q40 := hR.small
      refine ⟨_, rfl, F0, dF, _, rfl, eF, rfl, _, rfl, F0, a, q, n, R, xs, rfl, hR, F4, s4 _ _ ha3, nx, fun H5 s5 => ⟨_, rfl, rfl, _, rfl, ?_⟩⟩
      rw [decide_eq_true rfl]
      have F5 := F4.stay (.same s5)
      have s35 := s4.trans s5
      refine iteF ⟨_, rfl, F0, dF, _, rfl, s5 _ _ eF, rfl, _, rfl, F0, q, n, R, plcL q xs, rfl, hR, F5, by omega, by omega, .inl ⟨xs, nx, rfl, fun v H6 s6 e6 => ⟨_, rfl, _, _, dp_tup (SqT.of e6), dp_tup (SqT.of ((s35.trans s6) _ _ ha3)), sh_ints _, sh_ints _, _, rfl, ?_⟩⟩⟩
      rw [eqv_dec, decide_eq_true rfl]
      refine iteF ?_
      have s36 := s35.trans s6
      have F6 := F3.stay (.same s36)
      have W6 := W3.same s36
      have ha6 := s36 _ _ ha3
      obtain ⟨dF6, rF6, WF6, eF6, _, _⟩ := id F6.ex
      refine ⟨_, rfl, a, xs, rfl, SqT.of ha6, _, rfl, ?_⟩
      by_cases hz : El q R xs = 0
      · rw [num_any hR nx hz]
        refine ⟨_, rfl, iteT ?_⟩
        exact k H6 W6 F6 fun b us e => s36 _ _ (kt3 _ _ e)
      · rw [num_any2 hR nx hz]
        refine ⟨_, rfl, iteF ?_⟩
        refine ⟨_, rfl, F0, dF6, _, rfl, eF6, rfl, _, rfl, F0, dF6, _, rfl, eF6, rfl, _, rfl, _, rfl, _, _, rfl, rfl, F0, a, q, n, R, xs, 0 - m, rfl, hR, F6, ha6, by omega, W6.T, (fun _ _ u1 z1 H7 g7 e7 nz1 p1 _ => ?_), (fun _ z => absurd z hz), fun z => absurd nx z⟩
        have W7 := W6.gr g7
        have F7 := F6.stay (.gr g7)
        obtain ⟨dF7, rF7, WF7, eF7, _, _⟩ := id F7.ex
        refine ⟨_, rfl, F0, dF7, _, rfl, eF7, rfl, _, rfl, _, rfl, F0, a, q, n, R, xs, m, rfl, hR, F7, g7.tup ha6, by omega, W7.T, (fun _ _ u2 z2 H8 g8 e8 nz2 p2 _ => ?_), (fun _ z => absurd z hz), fun z => absurd nx z⟩
        have W8 := W7.gr g8
        have F8 := F7.stay (.gr g8)
        have lz1 := nz1.len
        have lz2 := nz2.len
        refine ⟨F0, u1, u2, q, n, R, z1, z2, rfl, hR, F8, SqT.of (g8.tup e7), SqT.of e8, by omega, by omega, (fun _ _ w zs H9 s9 ew nw cg => ?_), fun z => absurd ⟨nz1, nz2⟩ z⟩
        have F9 := F8.stay (.same s9)
        obtain ⟨dF9, rF9, WF9, eF9, _, _⟩ := id F9.ex
        refine ⟨_, rfl, F0, dF9, _, rfl, eF9, rfl, F0, q, n, R, 1, rfl, hR, F9, (fun _ v1 H10 s10 e10 => ⟨_, _, dp_tup (SqT.of (s10 _ _ ew)), dp_tup (SqT.of e10), sh_ints _, sh_ints _, ?_⟩), fun z => absurd ⟨by decide, by omega⟩ z⟩
        have qe : zs = plainL n 1 := hR.eq nw (num_one n1 hR.q0) (by rw [el_mul2 cg, p1 hz, p2 hz, hR.pow_neg hz]; exact el_one2.symm)
        rw [eqv_dec, decide_eq_true qe]
        exact k H10 ((W8.same s9).same s10) (F9.stay (.same s10)) fun b us e => s10 _ _ (s9 _ _ (g8.tup (g7.tup (s36 _ _ (kt3 _ _ e)))))
end
end Xk
end
section
set_option Elab.async false
set_option linter.all false
set_option maxRecDepth 100000
set_option maxHeartbeats 4000000
namespace Xk
open PySem PySem.Spec PyProof.Rows L2 Xh LamX NdefX
/-! ### the law -/
theorem mul_pw {A : Type} [Lean.Grind.CommRing A] (x y : A) : ∀ k : Nat, (x * y) ^ k = x ^ k * y ^ k
  | 0 => by rw [Lean.Grind.Semiring.pow_zero, Lean.Grind.Semiring.pow_zero, Lean.Grind.Semiring.pow_zero]; grind
  | k + 1 => by
    rw [Lean.Grind.Semiring.pow_succ, Lean.Grind.Semiring.pow_succ, Lean.Grind.Semiring.pow_succ, mul_pw x y k]
    grind
theorem RuleOk.powE {q n : Nat} {R xs zs : List Int} {s : Int} (x : RuleOk q n R) (qv : El q R xs ≠ 0 → El q R zs = El q R xs ^ (s.fmod ((q : Int) ^ n - 1)).toNat) (rv : El q R xs = 0 → zs = if s = 0 then oneT n else xs) (s1 : 1 ≤ s) : El q R zs = El q R xs ^ s.toNat := by
  by_cases h : El q R xs = 0
  · have e := rv h
    rw [if_neg (by omega)] at e
    rw [e, h, Xp.zero_pow (by omega)]
  · rw [qv h]
    have b := x.big
    generalize hN : (q : Int) ^ n - 1 = N at *
    have p1 : 1 ≤ q ^ n := Nat.pow_pos (by have := x.q0; omega)
    have eN : N.toNat = q ^ n - 1 := by
      rw [← hN, ← Int.natCast_pow]
      omega
    have f0 := Int.fmod_nonneg_of_pos s (show (0 : Int) < N by omega)
    have d0 : 0 ≤ s / N := Int.ediv_nonneg (by omega) (by omega)
    have hs : s = N * (s / N) + s.fmod N := by
      rw [Int.fmod_eq_emod_of_nonneg _ (by omega)]
      exact (Int.mul_ediv_add_emod s N).symm
    have hs2 : s.toNat = (q ^ n - 1) * (s / N).toNat + (s.fmod N).toNat := by
      rw [← eN, ← Int.toNat_mul (by omega) d0, ← Int.toNat_add (Int.mul_nonneg (by omega) d0) f0, ← hs]
    rw [hs2, Lean.Grind.Semiring.pow_add, pow_ones (x.pow_one h)]
    grind
theorem RuleOk.turn1 {q n : Nat} {R : List Int} (x : RuleOk q n R) (y : Xp.Fq (q : Int) (co R)) : y ^ (q ^ ((1 : Int).fmod (n : Int)).toNat) = y ^ q := by
  have := x.red y 1
  rw [Nat.pow_one] at this
  exact this
theorem sumN_ad {A : Type} [Lean.Grind.CommRing A] (f g : Nat → A) : ∀ m, Xp.sumN (fun i => f i + g i) m = Xp.sumN f m + Xp.sumN g m
  | 0 => by
    show (0 : A) = 0 + 0
    grind
  | m + 1 => by
    show Xp.sumN (fun i => f i + g i) m + (f m + g m) = (Xp.sumN f m + f m) + (Xp.sumN g m + g m)
    rw [sumN_ad f g m]
    grind
theorem prdN_mu {A : Type} [Lean.Grind.CommRing A] (f g : Nat → A) : ∀ m, Xp.prdN (fun i => f i * g i) m = Xp.prdN f m * Xp.prdN g m
  | 0 => by
    show (1 : A) = 1 * 1
    grind
  | m + 1 => by
    show Xp.prdN (fun i => f i * g i) m * (f m * g m) = (Xp.prdN f m * f m) * (Xp.prdN g m * g m)
    rw [prdN_mu f g m]
    grind
theorem RuleOk.plain_one {q n : Nat} {R : List Int} (x : RuleOk q n R) {c d : Int} (h : El q R (plainL n d) = Xp.mC q (co R) c) (d0 : 0 ≤ d) (d1 : d < q) : c.fmod q = d := by
  have hp := x.pm
  have lo := hp.lo
  rw [show El q R (plainL n d) = Xp.mC q (co R) d from Xp.el_plain d (n - 1)] at h
  have e : Xp.mC q (co R) (c.fmod q) = Xp.mC q (co R) c := Xp.mC_eqm (by rw [Int.fmod_eq_emod_of_nonneg _ (by omega), Int.emod_emod])
  exact mC_inj x (Int.fmod_nonneg_of_pos c (by omega)) (Int.fmod_lt_of_pos c (by omega)) d0 d1 (e.trans h.symm)
theorem RuleOk.sum_tr {q n : Nat} {R xs ys zs : List Int} (x : RuleOk q n R) {c d e : Int} (h1 : El q R (plainL n c) = gTr q n R (El q R xs)) (h2 : El q R (plainL n d) = gTr q n R (El q R ys)) (hz : El q R zs = El q R xs + El q R ys) (h3 : El q R (plainL n e) = gTr q n R (El q R zs)) (e0 : 0 ≤ e) (e1 : e < q) : (c + d).fmod q = e := by
  refine x.plain_one ?_ e0 e1
  rw [h3, Xp.mC_add, ← show El q R (plainL n c) = Xp.mC q (co R) c from Xp.el_plain c (n - 1), ← show El q R (plainL n d) = Xp.mC q (co R) d from Xp.el_plain d (n - 1), h1, h2, ← sumN_ad, hz]
  show Xp.sumN (fun i => (El q R xs + El q R ys) ^ (q ^ i)) n = _
  congr 1
  exact funext fun i => Xp.frobN x.q0 (fb_primes x.hp) _ _ i
theorem RuleOk.prd_no {q n : Nat} {R xs ys zs : List Int} (x : RuleOk q n R) {c d e : Int} (h1 : El q R (plainL n c) = gNo q n R (El q R xs)) (h2 : El q R (plainL n d) = gNo q n R (El q R ys)) (hz : El q R zs = El q R xs * El q R ys) (h3 : El q R (plainL n e) = gNo q n R (El q R zs)) (e0 : 0 ≤ e) (e1 : e < q) : (c * d).fmod q = e := by
  refine x.plain_one ?_ e0 e1
  rw [h3, Xp.mC_mul, ← show El q R (plainL n c) = Xp.mC q (co R) c from Xp.el_plain c (n - 1), ← show El q R (plainL n d) = Xp.mC q (co R) d from Xp.el_plain d (n - 1), h1, h2, ← prdN_mu, hz]
  show Xp.prdN (fun i => (El q R xs * El q R ys) ^ (q ^ i)) n = _
  congr 1
  exact funext fun i => mul_pw _ _ _
theorem srcs_at {H : Hp} {a b c d : Addr} {x y z w : List Int} (h1 : H a = some (.tup (x.map V.int))) (h2 : H b = some (.tup (y.map V.int))) (h3 : H c = some (.tup (z.map V.int))) (h4 : H d = some (.tup (w.map V.int))) : Rws H [a, b, c, d] [x, y, z, w] := ⟨h1, h2, h3, h4, trivial⟩
abbrev TL4 (PR PQ PF : Addr) : List (Addr × Str) := [(PR, rpQ), (PQ, pwQ), (PF, rfQ)]
def spLaw (K : PySem.W.Frag) (PR PQ PF : Addr) : Sp := fun vs H Q _ => ∃ (a : Addr) (ns : List Int), vs = [.ref a] ∧ SqL K H a (ns.map V.int) ∧ Tabs (TL4 PR PQ PF) H ∧ ∀ H', Q (.bl true) H'
section
variable {P : Program} {w : World} {K : PySem.W.Frag} {mg : Str → Option Value} {base : Heap}
theorem sc_law : FnScope (["_law_script", "_law_draw", "_law_p", "_law_degree", "_law_field", "_law_unit", "_law_turn", "_law_a", "_law_b", "_law_c", "_law_steps_z", "_law_turned", "_law_k", "_law_number_here"] : List Str) ["_law_script"] (defScope s_law) := ⟨rfl, rfl, rfl, by decide +kernel, rfl, by decide +kernel, by decide +kernel⟩
theorem ok_law {f PR PQ PF CF CR : Addr} {C : Fin 14 → Addr} {fd : FuncData} (F : FunD K "law" "law" (defArgs s_law) (defBody s_law) (defScope s_law) [] [] f fd) (T : Fre mg)
    (o_law_begin : Own P w K mg base CX0 1 "_law_begin" ["_law_script"] [] (spBegin K)) (o_law_take : Own P w K mg base CX0 1 "_law_take" ["_law_draw", "_law_sides"] [] spTake) (o_law_great : Own P w K mg base CX0 3 "_law_great" ["_law_draw"] [] (spPairD (greatL ++ greatM))) (o_law_great_rule : Own P w K mg base CX0 13 "_law_great_rule" ["_law_draw", "_law_degree", "_law_p"] [] (spGrR (TL4 PR PQ PF)))
    (o_law_number : Own P w K mg base CX0 3 "_law_number" ["_law_draw", "_law_degree", "_law_p"] [] spNumD) (o_law_least_right : Own P w K mg base CX0 13 "_law_least_right" ["_law_field", "_law_a", "_law_p"] [] (spLeastR K (TL4 PR PQ PF) CF CR)) (o_law_placed : Own P w K mg base CX0 8 "_law_placed" ["_law_draw", "_law_field", "_law_a"] [] (spPlaced K (TL4 PR PQ PF) CF CR))
    (c_Field : OwnCK P w K mg base (L2.CX P w) 13 1 "Field" CF ["self", "rule", "prime"] ["prime"] (spInitF K (TL4 PR PQ PF) CF CR)) (o_Field_plain : OwnM P w K mg base (L2.CX P w) 4 CF "plain" ["self", "rest"] [] (spPlnF K CF CR (C 5))) (o_Field_plus : OwnM P w K mg base (L2.CX P w) 5 CF "plus" ["self", "one", "other"] [] (spFld2 K CF CR (C 3) gAdd)) (o_Field_minus : OwnM P w K mg base (L2.CX P w) 5 CF "minus" ["self", "one", "other"] [] (spFld2 K CF CR (C 3) gSub)) (o_Field_times : OwnM P w K mg base (L2.CX P w) 5 CF "times" ["self", "one", "other"] [] (spFld2 K CF CR (C 3) gMul))
    (o_Field_undone : OwnM P w K mg base (L2.CX P w) 7 CF "undone" ["self", "number"] [] (spUndF K (TL4 PR PQ PF) CF CR (C 3) (C 4))) (o_Field_power : OwnM P w K mg base (L2.CX P w) 6 CF "power" ["self", "number", "exponent"] [] (spPowF K (TL4 PR PQ PF) CF CR (C 3) (C 4))) (k_Field_turned : OwnMK P w K mg base (L2.CX P w) 5 1 CF "turned" ["self", "number", "steps"] ["steps"] (spTurnF K CF CR (C 3))) (o_Field_turned : OwnM P w K mg base (L2.CX P w) 5 CF "turned" ["self", "number", "steps"] [.int 1] (spTurnF K CF CR (C 3))) (o_Field_size : OwnM P w K mg base CX0 1 CF "size" ["self"] [] (spSizF K CF CR)) (o_Field_trace : OwnM P w K mg base (L2.CX P w) 5 CF "trace" ["self", "number"] [] (spTraF K CF CR (C 3) gTr)) (o_Field_norm : OwnM P w K mg base (L2.CX P w) 5 CF "norm" ["self", "number"] [] (spTraF K CF CR (C 3) gNo)) : FnOk P w K mg base CX0 15 f fd ["_law_script"] (spLaw K PR PQ PF) := by
  refine F.ok sc_law (fun vs H Q E h => ?_) (fun cdv A outer s H vs Q E hr h => ?_)
  · obtain ⟨a, ns, rfl, _⟩ := h
    rfl
  · obtain ⟨a0, ns, rfl, hS, hT, k⟩ := h
    generalize hTT : TL4 PR PQ PF = TT at *
    refine ⟨_, PSs.nox (pss_cons (ps_set (i := 1) sc_law.nd rfl (Or.inr rfl) (pe_own o_law_begin (hr.mono (by decide)) rfl pass0 (pa_cons (pv 0) pa_nil)))
      (pss_cons (ps_asg (pe_own o_law_great (hr.mono (by decide)) rfl pass0 (pa_cons (pv 1) pa_nil)) (pg_tup rfl (pgs_cons (pg_name (i := 2) sc_law.nd rfl (Or.inr rfl)) (pgs_cons (pg_name (i := 3) sc_law.nd rfl (Or.inr rfl)) pgs_nil))))
      (pss_cons (ps_set (i := 4) sc_law.nd rfl (Or.inr rfl) (pe_ownCK c_Field (hr.mono (by decide)) rfl passL (pa_cons (pe_own o_law_great_rule (hr.mono (by decide)) rfl pass0 (pa_cons (pv 1) (pa_cons (pv 3) (pa_cons (pv 2) pa_nil)))) pa_nil) (pk_cons (pv 2) pk_nil)))
      (pss_cons (ps_set (i := 5) sc_law.nd rfl (Or.inl rfl) (pe_ownM o_Field_plain (hr.mono (by decide)) passL (pv 4) (pa_cons pe_int pa_nil)))
      (pss_cons (ps_for PassesOwn.never rfl (pi_range1 (by rfl) T.f_range (pa_cons pe_int pa_nil)) (pg_name (i := 6) sc_law.nd rfl (Or.inl rfl)) (pss_cons (ps_asg (pe_lc (own := [("_law_k", 12)]) rfl sc_law.nd (pi_range1 (by rfl) T.f_range (pa_cons pe_int pa_nil)) (blkOk_by (own := [("_law_k", 12)]) (N := ["_law_script", "_law_draw", "_law_p", "_law_degree", "_law_field", "_law_unit", "_law_turn", "_law_a", "_law_b", "_law_c", "_law_steps_z", "_law_turned", "_law_k", "_law_number_here"]) (sc := defScope s_law) (by decide +kernel)) (fun _ _ _ _ _ => pg_name (i := 12) sc_law.nd rfl (Or.inl rfl) (Or.inr rfl)) (fun _ _ _ _ _ => pts_nil) (fun _ _ _ _ _ => (pe_own o_law_number (hr.mono (by decide)) rfl pass0 (pa_cons (pv 1) (pa_cons (pv 3) (pa_cons (pv 2) pa_nil)))))) (pg_lst rfl (pgs_cons (pg_name (i := 7) sc_law.nd rfl (Or.inl rfl)) (pgs_cons (pg_name (i := 8) sc_law.nd rfl (Or.inl rfl)) (pgs_cons (pg_name (i := 9) sc_law.nd rfl (Or.inl rfl)) pgs_nil)))))
      (C8.pss_cut (ps_if (PW.pt (pw_or (pt_cmpR (op_neD hr.units) (pe_ownM o_Field_times (hr.mono (by decide)) passL (pv 4) (pa_cons (pe_ownM o_Field_times (hr.mono (by decide)) passL (pv 4) (pa_cons (pv 7) (pa_cons (pv 8) pa_nil))) (pa_cons (pv 9) pa_nil))) (pe_ownM o_Field_times (hr.mono (by decide)) passL (pv 4) (pa_cons (pv 7) (pa_cons (pe_ownM o_Field_times (hr.mono (by decide)) passL (pv 4) (pa_cons (pv 8) (pa_cons (pv 9) pa_nil))) pa_nil))) (nomark _)) (pw_or1 (pt_cmpR (op_neD hr.units) (pe_ownM o_Field_times (hr.mono (by decide)) passL (pv 4) (pa_cons (pv 7) (pa_cons (pv 8) pa_nil))) (pe_ownM o_Field_times (hr.mono (by decide)) passL (pv 4) (pa_cons (pv 8) (pa_cons (pv 7) pa_nil))) (nomark _))))) (pss_one (ps_ret pe_bl)) pss_nil)
      (C8.pss_cut (ps_if (pt_cmpR (op_neD hr.units) (pe_ownM o_Field_times (hr.mono (by decide)) passL (pv 4) (pa_cons (pv 7) (pa_cons (pe_ownM o_Field_plus (hr.mono (by decide)) passL (pv 4) (pa_cons (pv 8) (pa_cons (pv 9) pa_nil))) pa_nil))) (pe_ownM o_Field_plus (hr.mono (by decide)) passL (pv 4) (pa_cons (pe_ownM o_Field_times (hr.mono (by decide)) passL (pv 4) (pa_cons (pv 7) (pa_cons (pv 8) pa_nil))) (pa_cons (pe_ownM o_Field_times (hr.mono (by decide)) passL (pv 4) (pa_cons (pv 7) (pa_cons (pv 9) pa_nil))) pa_nil))) (nomark _)) (pss_one (ps_ret pe_bl)) pss_nil)
      (C8.pss_cut (ps_if (PW.pt (pw_or (pt_cmpR (op_neD hr.units) (pe_ownM o_Field_minus (hr.mono (by decide)) passL (pv 4) (pa_cons (pe_ownM o_Field_plus (hr.mono (by decide)) passL (pv 4) (pa_cons (pv 7) (pa_cons (pv 8) pa_nil))) (pa_cons (pv 8) pa_nil))) (pv 7) (nomark _)) (pw_or1 (pt_cmpR (op_neD hr.units) (pe_ownM o_Field_times (hr.mono (by decide)) passL (pv 4) (pa_cons (pv 7) (pa_cons (pv 5) pa_nil))) (pv 7) (nomark _))))) (pss_one (ps_ret pe_bl)) pss_nil)
      (C8.pss_cut (ps_if (PW.pt (pw_and (pt_val (pe_callB (call_anyTI rfl) (by rfl) T.f_any (by decide +kernel) (pa_cons (pv 8) pa_nil))) (pw_and1 (pt_cmpR (op_neD hr.units) (pe_ownM o_Field_times (hr.mono (by decide)) passL (pv 4) (pa_cons (pe_ownM o_Field_times (hr.mono (by decide)) passL (pv 4) (pa_cons (pv 7) (pa_cons (pv 8) pa_nil))) (pa_cons (pe_ownM o_Field_undone (hr.mono (by decide)) passL (pv 4) (pa_cons (pv 8) pa_nil)) pa_nil))) (pv 7) (nomark _))))) (pss_one (ps_ret pe_bl)) pss_nil)
      (pss_cons (ps_set (i := 10) sc_law.nd rfl (Or.inr rfl) (pe_op op_sub (pe_own o_law_take (hr.mono (by decide)) rfl pass0 (pa_cons (pv 1) (pa_cons pe_int pa_nil))) pe_int))
      (pss_cons (ps_setLc (i := 11) (own := [("_law_number_here", 13)]) (te := (tMethN CF "turned" 1 (["steps"] : List Str).length (spTurnF K CF CR (C 3)) E0 (tVar 4) (tCons (tVar 13) tNil) (tCons (tVar 10) tNil))) rfl sc_law.nd rfl rfl (sw_true rfl rfl rfl (by decide +kernel)) (pi_tup (pe_tup (pa_cons (pv 7) (pa_cons (pv 8) (pa_cons (pe_ownM o_Field_plus (hr.mono (by decide)) passL (pv 4) (pa_cons (pv 7) (pa_cons (pv 8) pa_nil))) (pa_cons (pe_ownM o_Field_times (hr.mono (by decide)) passL (pv 4) (pa_cons (pv 7) (pa_cons (pv 8) pa_nil))) pa_nil)))))) (blkOk_by (own := [("_law_number_here", 13)]) (N := ["_law_script", "_law_draw", "_law_p", "_law_degree", "_law_field", "_law_unit", "_law_turn", "_law_a", "_law_b", "_law_c", "_law_steps_z", "_law_turned", "_law_k", "_law_number_here"]) (sc := defScope s_law) (by decide +kernel)) (fun _ _ _ _ _ => pg_name (i := 13) sc_law.nd rfl (Or.inl rfl) (Or.inr rfl)) (fun _ _ _ _ _ => pts_nil) (fun _ _ _ _ _ => (pe_ownMK k_Field_turned (hr.mono (by decide)) passL (pv 4) (pa_cons (pv 13) pa_nil) (pk_cons (pv 10) pk_nil))))
      (C8.pss_cut (ps_if (PW.pt (pw_or (pt_cmpR (op_neD hr.units) (pe_ownM o_Field_plus (hr.mono (by decide)) passL (pv 4) (pa_cons (pe_ix ix_list (pv 11) pe_int (fun _ _ => rfl)) (pa_cons (pe_ix ix_list (pv 11) pe_int (fun _ _ => rfl)) pa_nil))) (pe_ix ix_list (pv 11) pe_int (fun _ _ => rfl)) (nomark _)) (pw_or1 (pt_cmpR (op_neD hr.units) (pe_ownM o_Field_times (hr.mono (by decide)) passL (pv 4) (pa_cons (pe_ix ix_list (pv 11) pe_int (fun _ _ => rfl)) (pa_cons (pe_ix ix_list (pv 11) pe_int (fun _ _ => rfl)) pa_nil))) (pe_ix ix_list (pv 11) pe_int (fun _ _ => rfl)) (nomark _))))) (pss_one (ps_ret pe_bl)) pss_nil)
      (C8.pss_cut (ps_if (PW.pt (pw_or (pt_cmpR (op_neD hr.units) (pe_ownM o_Field_power (hr.mono (by decide)) passL (pv 4) (pa_cons (pv 7) (pa_cons (pv 2) pa_nil))) (pe_ownM o_Field_turned (hr.mono (by decide)) passL (pv 4) (pa_cons (pv 7) pa_nil)) (nomark _)) (pw_or1 (pt_cmpR (op_neD hr.units) (pe_ownM o_Field_power (hr.mono (by decide)) passL (pv 4) (pa_cons (pv 7) (pa_cons (pe_ownM0 o_Field_size (hr.mono (by decide)) pass0 (pv 4)) pa_nil))) (pv 7) (nomark _))))) (pss_one (ps_ret pe_bl)) pss_nil)
      (C8.pss_cut (ps_if (pt_cmpR op_ne (pe_op op_modN (pe_op op_add (pe_ownM o_Field_trace (hr.mono (by decide)) passL (pv 4) (pa_cons (pv 7) pa_nil)) (pe_ownM o_Field_trace (hr.mono (by decide)) passL (pv 4) (pa_cons (pv 8) pa_nil))) (pv 2)) (pe_ownM o_Field_trace (hr.mono (by decide)) passL (pv 4) (pa_cons (pe_ownM o_Field_plus (hr.mono (by decide)) passL (pv 4) (pa_cons (pv 7) (pa_cons (pv 8) pa_nil))) pa_nil)) (nomark _)) (pss_one (ps_ret pe_bl)) pss_nil)
      (C8.pss_cut (ps_if (pt_cmpR op_ne (pe_op op_modN (pe_op op_mul (pe_ownM o_Field_norm (hr.mono (by decide)) passL (pv 4) (pa_cons (pv 7) pa_nil)) (pe_ownM o_Field_norm (hr.mono (by decide)) passL (pv 4) (pa_cons (pv 8) pa_nil))) (pv 2)) (pe_ownM o_Field_norm (hr.mono (by decide)) passL (pv 4) (pa_cons (pe_ownM o_Field_times (hr.mono (by decide)) passL (pv 4) (pa_cons (pv 7) (pa_cons (pv 8) pa_nil))) pa_nil)) (nomark _)) (pss_one (ps_ret pe_bl)) pss_nil)
      (pss_one (ps_if (PW.pt (pw_or (pt_not (pt_val (pe_own o_law_least_right (hr.mono (by decide)) rfl pass0 (pa_cons (pv 4) (pa_cons (pv 7) (pa_cons (pv 2) pa_nil)))))) (pw_or1 (pt_not (pt_val (pe_own o_law_placed (hr.mono (by decide)) rfl pass0 (pa_cons (pv 1) (pa_cons (pv 4) (pa_cons (pv 7) pa_nil))))))))) (pss_one (ps_ret pe_bl)) pss_nil))))))))))))))
      (pss_one (ps_ret pe_bl))))))) , ?_⟩
    refine ⟨_, rfl, a0, ns, rfl, hS, fun d H1 s1 nd D1 => ?_⟩
    have W1 : Wd d TT [] H1 := ⟨D1, hT.ext s1, fun p hp => nomatch hp⟩
    refine ⟨_, rfl, d, rfl, W1.D, fun o q H3 hq e3 D3 B3 => ?_⟩
    have W3 := W1.but B3 D3
    obtain ⟨p, n, q1, q2, hp, n1, n12, ex⟩ := great_pair q hq
    rw [q1, q2] at e3
    have hpm := pm_of hp
    have lo := hpm.lo
    have hi1000 := hpm.hi
    refine ⟨o, _, rfl, .inl (.inl e3), rfl, _, _, rfl, _, _, rfl, rfl, ?_⟩
    refine ⟨_, rfl, _, rfl, _, rfl, d, p, n, [], rfl, W3, hp, n1, n12, ex, fun v R H4 W4 e4 hR => ?_⟩
    refine ⟨_, rfl, rfl, rfl, fun F0 dx nF ndx ne => ⟨F0, dx, v, p, n, R, rfl, upd_same, SqT.of (new_same nF ndx ne _ _ e4), fun _ => new_same nF ndx ne _ _ e4, hR, new_tabs W4.T nF ndx ne, fun H5 g5 hF => ⟨rfl, ?_⟩⟩⟩
    have G5 := GrX.new nF ndx g5
    have W5 := W4.gr G5
    obtain ⟨dF5, rF5, WF5, eF5, _, _⟩ := id hF.ex
    refine ⟨_, rfl, F0, dF5, _, rfl, eF5, rfl, F0, p, n, R, 1, rfl, hR, hF, (fun _ un H6 s6 e6 => ?_), fun z => absurd ⟨by decide, by omega⟩ z⟩
    have W6 := (W5.same s6).putT (xs := (oneT n).map V.int) e6
    have F6 := hF.stay (.same s6)
    have nun := num_one (q := p) n1 hR.q0
    refine ⟨3, rfl, by decide, by decide, ?_⟩
    refine for_range (lo := 0) (n := 3) (fun i σ' H' => ∃ x6 x7 x8 x9 x10 x11 x12 x13, σ' = [some (.ref a0), some (.ref d), some (.int p), some (.int n), some (.ref F0), some (.ref un), x6, x7, x8, x9, x10, x11, x12, x13] ∧ Wd d TT [(un, .tup ((oneT n).map V.int))] H' ∧ FldAt K CF CR H' F0 p n R) ⟨none, none, none, none, none, none, none, none, rfl, W6, F6⟩ ?_ ?_
    · rintro i σ' H7 hi ⟨x6, x7, x8, x9, x10, x11, x12, x13, rfl, W7, F7⟩
      refine ⟨3, rfl, by decide, by decide, fun DD hDD => ?_⟩
      have hDd : DD ≠ d := W7.D.ne hDD
      refine lc_range (lo := 0) (n := 3) (fun i H' => Draw H' d ∧ But d H7 H' ∧ ∃ ls : List Addr, H' DD = some (.lst (ls.map V.ref)) ∧ ls.length = i ∧ ∀ (j : Nat) (l : Addr), ls[j]? = some l → ∃ ms : List Int, H' l = some (.tup (ms.map V.int)) ∧ Num p n ms) ?_ ?_ ?_
      · exact ⟨W7.D.same (same_upd hDD), But.updN hDD, [], upd_same, rfl, fun j l z => by cases z⟩
      · rintro i2 H8 hi3 ⟨D8, B8, ls, e8, l8, q8⟩
        refine ⟨rfl, _, rfl, _, rfl, _, rfl, d, p, n, rfl, D8, by omega, hpm, fun l ms H9 e9 n9 D9 B9 => ⟨_, B9 _ _ hDd e8, ?_, Draw.updR W7.D hDD (B8.trans B9) D9 (B9 _ _ hDd e8), But.lcs hDD (B8.trans B9), ls ++ [l], ?_, ?_, fun j l' h => ?_⟩⟩
        · rw [List.length_map, l8]
          exact small1000 (Nat.le_of_lt (Nat.lt_trans hi3 (by show 3 < 1000; decide)))
        · rw [upd_same, List.map_append]
          rfl
        · rw [List.length_append, l8]
          rfl
        · have ne : ∀ {l : Addr} {us : List V}, H9 l = some (.tup us) → l ≠ DD := fun q z => by
            rw [z, B9 _ _ hDd e8] at q
            cases q
          rw [List.getElem?_append] at h
          split at h
          · obtain ⟨us, e1, m1⟩ := q8 j l' h
            have e2 : H9 l' = some (.tup (us.map V.int)) := B9 _ _ (D8.tup_ne e1) e1
            exact ⟨us, by rw [upd_ne (ne e2)]; exact e2, m1⟩
          · cases ej : j - ls.length with
            | succ k => rw [ej] at h; cases h
            | zero =>
              rw [ej] at h
              cases h
              exact ⟨ms, by rw [upd_ne (ne e9)]; exact e9, n9⟩
      rintro H8 ⟨D8, B8, ls, e8, l8, q8⟩
      obtain ⟨a, b, c, rfl⟩ : ∃ a b c, ls = [a, b, c] := by
        match ls, l8 with
        | [a, b, c], _ => exact ⟨a, b, c, rfl⟩
      obtain ⟨xs, ea, na⟩ := q8 0 a rfl
      obtain ⟨bs, eb, nb⟩ := q8 1 b rfl
      obtain ⟨cs, ec, nc⟩ := q8 2 c rfl
      refine ⟨DD, _, rfl, SqL.of e8, rfl, _, _, rfl, _, _, rfl, _, _, rfl, rfl, ?_⟩
      have W0 := (((W7.but B8 D8).putT ea).putT eb).putT ec
      have Y0 := F7.stay (.but W7.D B8)
      obtain ⟨dF0, rF0, WF0, eF0, _, _⟩ := id Y0.ex
      refine ⟨fun σ' H' => σ' = [some (.ref a0), some (.ref d), some (.int p), some (.int n), some (.ref F0), some (.ref un), some (.int (0 + (i : Int))), some (.ref a), some (.ref b), some (.ref c), x10, x11, x12, x13] ∧ Wd d TT [(c, .tup (cs.map V.int)), (b, .tup (bs.map V.int)), (a, .tup (xs.map V.int)), (un, .tup ((oneT n).map V.int))] H' ∧ FldAt K CF CR H' F0 p n R, ?_, ?_⟩
      · refine ⟨_, rfl, F0, dF0, _, rfl, eF0, rfl, _, rfl, F0, dF0, _, rfl, eF0, rfl, _, rfl, _, rfl, F0, a, b, p, n, R, xs, bs, rfl, hR, Y0, SqT.of (W0.a2), SqT.of (W0.a1), (by have := na.len; omega), (by have := nb.len; omega), (fun _ _ v1 zv1 H1 h1 ev1_1 nv1 qv1 => ?_), fun z => absurd ⟨na, nb⟩ z⟩
        have qv1 := el_mul2 qv1
        have W1 := W0.same h1
        have Y1 := Y0.stay (.same h1)
        obtain ⟨dF1, rF1, WF1, eF1, _, _⟩ := id Y1.ex
        refine ⟨_, rfl, F0, v1, c, p, n, R, zv1, cs, rfl, hR, Y1, SqT.of (ev1_1), SqT.of (W1.a0), (by have := nv1.len; omega), (by have := nc.len; omega), (fun _ _ v2 zv2 H2 h2 ev2_2 nv2 qv2 => ?_), fun z => absurd ⟨nv1, nc⟩ z⟩
        have qv2 := el_mul2 qv2
        have W2 := W1.same h2
        have Y2 := Y1.stay (.same h2)
        obtain ⟨dF2, rF2, WF2, eF2, _, _⟩ := id Y2.ex
        have ev1_2 := h2 _ _ ev1_1
        refine ⟨_, rfl, F0, dF2, _, rfl, eF2, rfl, _, rfl, _, rfl, F0, dF2, _, rfl, eF2, rfl, _, rfl, _, rfl, F0, b, c, p, n, R, bs, cs, rfl, hR, Y2, SqT.of (W2.a1), SqT.of (W2.a0), (by have := nb.len; omega), (by have := nc.len; omega), (fun _ _ v3 zv3 H3 h3 ev3_3 nv3 qv3 => ?_), fun z => absurd ⟨nb, nc⟩ z⟩
        have qv3 := el_mul2 qv3
        have W3 := W2.same h3
        have Y3 := Y2.stay (.same h3)
        obtain ⟨dF3, rF3, WF3, eF3, _, _⟩ := id Y3.ex
        have ev1_3 := h3 _ _ ev1_2
        have ev2_3 := h3 _ _ ev2_2
        refine ⟨F0, a, v3, p, n, R, xs, zv3, rfl, hR, Y3, SqT.of (W3.a2), SqT.of (ev3_3), (by have := na.len; omega), (by have := nv3.len; omega), (fun _ _ v4 zv4 H4 h4 ev4_4 nv4 qv4 => ?_), fun z => absurd ⟨na, nv3⟩ z⟩
        have qv4 := el_mul2 qv4
        have W4 := W3.same h4
        have Y4 := Y3.stay (.same h4)
        obtain ⟨dF4, rF4, WF4, eF4, _, _⟩ := id Y4.ex
        have ev1_4 := h4 _ _ ev1_3
        have ev2_4 := h4 _ _ ev2_3
        have ev3_4 := h4 _ _ ev3_3
        refine ⟨_, _, dp_tup (SqT.of (ev2_4)), dp_tup (SqT.of (ev4_4)), sh_ints _, sh_ints _, _, rfl, ?_⟩
        rw [eqv_dec, decide_eq_true (hR.eq nv2 nv4 (by rw [qv2, qv1, qv4, qv3]; grind))]
        refine iteF ?_
        refine ⟨_, rfl, F0, dF4, _, rfl, eF4, rfl, _, rfl, _, rfl, F0, a, b, p, n, R, xs, bs, rfl, hR, Y4, SqT.of (W4.a2), SqT.of (W4.a1), (by have := na.len; omega), (by have := nb.len; omega), (fun _ _ v5 zv5 H5 h5 ev5_5 nv5 qv5 => ?_), fun z => absurd ⟨na, nb⟩ z⟩
        have qv5 := el_mul2 qv5
        have W5 := W4.same h5
        have Y5 := Y4.stay (.same h5)
        obtain ⟨dF5, rF5, WF5, eF5, _, _⟩ := id Y5.ex
        have ev1_5 := h5 _ _ ev1_4
        have ev2_5 := h5 _ _ ev2_4
        have ev3_5 := h5 _ _ ev3_4
        have ev4_5 := h5 _ _ ev4_4
        refine ⟨_, rfl, F0, dF5, _, rfl, eF5, rfl, _, rfl, _, rfl, F0, b, a, p, n, R, bs, xs, rfl, hR, Y5, SqT.of (W5.a1), SqT.of (W5.a2), (by have := nb.len; omega), (by have := na.len; omega), (fun _ _ v6 zv6 H6 h6 ev6_6 nv6 qv6 => ?_), fun z => absurd ⟨nb, na⟩ z⟩
        have qv6 := el_mul2 qv6
        have W6 := W5.same h6
        have Y6 := Y5.stay (.same h6)
        obtain ⟨dF6, rF6, WF6, eF6, _, _⟩ := id Y6.ex
        have ev1_6 := h6 _ _ ev1_5
        have ev2_6 := h6 _ _ ev2_5
        have ev3_6 := h6 _ _ ev3_5
        have ev4_6 := h6 _ _ ev4_5
        have ev5_6 := h6 _ _ ev5_5
        refine ⟨_, _, dp_tup (SqT.of (ev5_6)), dp_tup (SqT.of (ev6_6)), sh_ints _, sh_ints _, _, rfl, ?_⟩
        rw [eqv_dec, decide_eq_true (hR.eq nv5 nv6 (by rw [qv5, qv6]; grind))]
        refine iteF ?_
        exact ⟨rfl, W6, Y6⟩
      rintro σ1 H0 ⟨rfl, W0, Y0⟩
      obtain ⟨dF0, rF0, WF0, eF0, _, _⟩ := id Y0.ex
      refine ⟨fun σ' H' => σ' = [some (.ref a0), some (.ref d), some (.int p), some (.int n), some (.ref F0), some (.ref un), some (.int (0 + (i : Int))), some (.ref a), some (.ref b), some (.ref c), x10, x11, x12, x13] ∧ Wd d TT [(c, .tup (cs.map V.int)), (b, .tup (bs.map V.int)), (a, .tup (xs.map V.int)), (un, .tup ((oneT n).map V.int))] H' ∧ FldAt K CF CR H' F0 p n R, ?_, ?_⟩
      · refine ⟨_, rfl, F0, dF0, _, rfl, eF0, rfl, _, rfl, _, rfl, F0, dF0, _, rfl, eF0, rfl, _, rfl, _, rfl, F0, b, c, p, n, R, bs, cs, rfl, hR, Y0, SqT.of (W0.a1), SqT.of (W0.a0), (by have := nb.len; omega), (by have := nc.len; omega), (fun _ _ v1 zv1 H1 h1 ev1_1 nv1 qv1 => ?_), fun z => absurd ⟨nb, nc⟩ z⟩
        have qv1 := el_add2 qv1
        have W1 := W0.same h1
        have Y1 := Y0.stay (.same h1)
        obtain ⟨dF1, rF1, WF1, eF1, _, _⟩ := id Y1.ex
        refine ⟨F0, a, v1, p, n, R, xs, zv1, rfl, hR, Y1, SqT.of (W1.a2), SqT.of (ev1_1), (by have := na.len; omega), (by have := nv1.len; omega), (fun _ _ v2 zv2 H2 h2 ev2_2 nv2 qv2 => ?_), fun z => absurd ⟨na, nv1⟩ z⟩
        have qv2 := el_mul2 qv2
        have W2 := W1.same h2
        have Y2 := Y1.stay (.same h2)
        obtain ⟨dF2, rF2, WF2, eF2, _, _⟩ := id Y2.ex
        have ev1_2 := h2 _ _ ev1_1
        refine ⟨_, rfl, F0, dF2, _, rfl, eF2, rfl, _, rfl, F0, dF2, _, rfl, eF2, rfl, _, rfl, _, rfl, F0, a, b, p, n, R, xs, bs, rfl, hR, Y2, SqT.of (W2.a2), SqT.of (W2.a1), (by have := na.len; omega), (by have := nb.len; omega), (fun _ _ v3 zv3 H3 h3 ev3_3 nv3 qv3 => ?_), fun z => absurd ⟨na, nb⟩ z⟩
        have qv3 := el_mul2 qv3
        have W3 := W2.same h3
        have Y3 := Y2.stay (.same h3)
        obtain ⟨dF3, rF3, WF3, eF3, _, _⟩ := id Y3.ex
        have ev1_3 := h3 _ _ ev1_2
        have ev2_3 := h3 _ _ ev2_2
        refine ⟨_, rfl, F0, dF3, _, rfl, eF3, rfl, _, rfl, _, rfl, F0, a, c, p, n, R, xs, cs, rfl, hR, Y3, SqT.of (W3.a2), SqT.of (W3.a0), (by have := na.len; omega), (by have := nc.len; omega), (fun _ _ v4 zv4 H4 h4 ev4_4 nv4 qv4 => ?_), fun z => absurd ⟨na, nc⟩ z⟩
        have qv4 := el_mul2 qv4
        have W4 := W3.same h4
        have Y4 := Y3.stay (.same h4)
        obtain ⟨dF4, rF4, WF4, eF4, _, _⟩ := id Y4.ex
        have ev1_4 := h4 _ _ ev1_3
        have ev2_4 := h4 _ _ ev2_3
        have ev3_4 := h4 _ _ ev3_3
        refine ⟨F0, v3, v4, p, n, R, zv3, zv4, rfl, hR, Y4, SqT.of (ev3_4), SqT.of (ev4_4), (by have := nv3.len; omega), (by have := nv4.len; omega), (fun _ _ v5 zv5 H5 h5 ev5_5 nv5 qv5 => ?_), fun z => absurd ⟨nv3, nv4⟩ z⟩
        have qv5 := el_add2 qv5
        have W5 := W4.same h5
        have Y5 := Y4.stay (.same h5)
        obtain ⟨dF5, rF5, WF5, eF5, _, _⟩ := id Y5.ex
        have ev1_5 := h5 _ _ ev1_4
        have ev2_5 := h5 _ _ ev2_4
        have ev3_5 := h5 _ _ ev3_4
        have ev4_5 := h5 _ _ ev4_4
        refine ⟨_, _, dp_tup (SqT.of (ev2_5)), dp_tup (SqT.of (ev5_5)), sh_ints _, sh_ints _, _, rfl, ?_⟩
        rw [eqv_dec, decide_eq_true (hR.eq nv2 nv5 (by rw [qv2, qv1, qv5, qv3, qv4]; grind))]
        refine iteF ?_
        exact ⟨rfl, W5, Y5⟩
      rintro σ1 H0 ⟨rfl, W0, Y0⟩
      obtain ⟨dF0, rF0, WF0, eF0, _, _⟩ := id Y0.ex
      refine ⟨fun σ' H' => σ' = [some (.ref a0), some (.ref d), some (.int p), some (.int n), some (.ref F0), some (.ref un), some (.int (0 + (i : Int))), some (.ref a), some (.ref b), some (.ref c), x10, x11, x12, x13] ∧ Wd d TT [(c, .tup (cs.map V.int)), (b, .tup (bs.map V.int)), (a, .tup (xs.map V.int)), (un, .tup ((oneT n).map V.int))] H' ∧ FldAt K CF CR H' F0 p n R, ?_, ?_⟩
      · refine ⟨_, rfl, F0, dF0, _, rfl, eF0, rfl, _, rfl, F0, dF0, _, rfl, eF0, rfl, _, rfl, _, rfl, F0, a, b, p, n, R, xs, bs, rfl, hR, Y0, SqT.of (W0.a2), SqT.of (W0.a1), (by have := na.len; omega), (by have := nb.len; omega), (fun _ _ v1 zv1 H1 h1 ev1_1 nv1 qv1 => ?_), fun z => absurd ⟨na, nb⟩ z⟩
        have qv1 := el_add2 qv1
        have W1 := W0.same h1
        have Y1 := Y0.stay (.same h1)
        obtain ⟨dF1, rF1, WF1, eF1, _, _⟩ := id Y1.ex
        refine ⟨_, rfl, F0, v1, b, p, n, R, zv1, bs, rfl, hR, Y1, SqT.of (ev1_1), SqT.of (W1.a1), (by have := nv1.len; omega), (by have := nb.len; omega), (fun _ _ v2 zv2 H2 h2 ev2_2 nv2 qv2 => ?_), fun z => absurd ⟨nv1, nb⟩ z⟩
        have qv2 := el_sub2 qv2
        have W2 := W1.same h2
        have Y2 := Y1.stay (.same h2)
        obtain ⟨dF2, rF2, WF2, eF2, _, _⟩ := id Y2.ex
        have ev1_2 := h2 _ _ ev1_1
        refine ⟨_, rfl, _, _, dp_tup (SqT.of (ev2_2)), dp_tup (SqT.of (W2.a2)), sh_ints _, sh_ints _, _, rfl, ?_⟩
        rw [eqv_dec, decide_eq_true (hR.eq nv2 na (by rw [qv2, qv1]; grind))]
        refine iteF ?_
        refine ⟨_, rfl, F0, dF2, _, rfl, eF2, rfl, _, rfl, _, rfl, F0, a, un, p, n, R, xs, (oneT n), rfl, hR, Y2, SqT.of (W2.a2), SqT.of (W2.a3), (by have := na.len; omega), (by have := nun.len; omega), (fun _ _ v3 zv3 H3 h3 ev3_3 nv3 qv3 => ?_), fun z => absurd ⟨na, nun⟩ z⟩
        have qv3 := el_mul2 qv3
        have W3 := W2.same h3
        have Y3 := Y2.stay (.same h3)
        obtain ⟨dF3, rF3, WF3, eF3, _, _⟩ := id Y3.ex
        have ev1_3 := h3 _ _ ev1_2
        have ev2_3 := h3 _ _ ev2_2
        refine ⟨_, rfl, _, _, dp_tup (SqT.of (ev3_3)), dp_tup (SqT.of (W3.a2)), sh_ints _, sh_ints _, _, rfl, ?_⟩
        rw [eqv_dec, decide_eq_true (hR.eq nv3 na (by rw [qv3, el_one2]; grind))]
        refine iteF ?_
        exact ⟨rfl, W3, Y3⟩
      rintro σ1 H0 ⟨rfl, W0, Y0⟩
      obtain ⟨dF0, rF0, WF0, eF0, _, _⟩ := id Y0.ex
      refine ⟨fun σ' H' => σ' = [some (.ref a0), some (.ref d), some (.int p), some (.int n), some (.ref F0), some (.ref un), some (.int (0 + (i : Int))), some (.ref a), some (.ref b), some (.ref c), x10, x11, x12, x13] ∧ Wd d TT [(c, .tup (cs.map V.int)), (b, .tup (bs.map V.int)), (a, .tup (xs.map V.int)), (un, .tup ((oneT n).map V.int))] H' ∧ FldAt K CF CR H' F0 p n R, ?_, ?_⟩
      · refine ⟨_, rfl, b, bs, rfl, SqT.of W0.a1, _, rfl, ?_⟩
        by_cases hb0 : El p R bs = 0
        · rw [num_any hR nb hb0]
          refine iteF ?_
          exact ⟨rfl, W0, Y0⟩
        rw [num_any2 hR nb hb0]
        refine iteT ?_
        refine ⟨_, rfl, F0, dF0, _, rfl, eF0, rfl, _, rfl, F0, dF0, _, rfl, eF0, rfl, _, rfl, _, rfl, F0, a, b, p, n, R, xs, bs, rfl, hR, Y0, SqT.of (W0.a2), SqT.of (W0.a1), (by have := na.len; omega), (by have := nb.len; omega), (fun _ _ v1 zv1 H1 h1 ev1_1 nv1 qv1 => ?_), fun z => absurd ⟨na, nb⟩ z⟩
        have qv1 := el_mul2 qv1
        have W1 := W0.same h1
        have Y1 := Y0.stay (.same h1)
        obtain ⟨dF1, rF1, WF1, eF1, _, _⟩ := id Y1.ex
        refine ⟨_, rfl, F0, dF1, _, rfl, eF1, rfl, _, rfl, F0, b, p, n, R, bs, rfl, hR, Y1, W1.a1, (by have := nb.len; omega), W1.T, (fun _ _ v2 zv2 H2 h2 ev2_2 nv2 qv2 => ?_), (fun _ z => absurd z hb0), fun z => absurd nb z⟩
        have W2 := W1.gr h2
        have Y2 := Y1.stay (.gr h2)
        obtain ⟨dF2, rF2, WF2, eF2, _, _⟩ := id Y2.ex
        have ev1_2 := h2.tup ev1_1
        refine ⟨F0, v1, v2, p, n, R, zv1, zv2, rfl, hR, Y2, SqT.of (ev1_2), SqT.of (ev2_2), (by have := nv1.len; omega), (by have := nv2.len; omega), (fun _ _ v3 zv3 H3 h3 ev3_3 nv3 qv3 => ?_), fun z => absurd ⟨nv1, nv2⟩ z⟩
        have qv3 := el_mul2 qv3
        have W3 := W2.same h3
        have Y3 := Y2.stay (.same h3)
        obtain ⟨dF3, rF3, WF3, eF3, _, _⟩ := id Y3.ex
        have ev1_3 := h3 _ _ ev1_2
        have ev2_3 := h3 _ _ ev2_2
        refine ⟨_, rfl, _, _, dp_tup (SqT.of (ev3_3)), dp_tup (SqT.of (W3.a2)), sh_ints _, sh_ints _, _, rfl, ?_⟩
        rw [eqv_dec, decide_eq_true (hR.eq nv3 na (by rw [qv3, qv1]; have := qv2; grind))]
        refine iteF ?_
        exact ⟨rfl, W3, Y3⟩
      rintro σ1 H0 ⟨rfl, W0, Y0⟩
      obtain ⟨dF0, rF0, WF0, eF0, _, _⟩ := id Y0.ex
      refine ⟨_, rfl, d, 30, rfl, W0.D, by decide, by decide, fun m1 H1 _ _ D1 B1 => ⟨_, _, rfl, rfl, ?_⟩⟩
      have W1 := W0.but B1 D1
      have Y1 := Y0.stay (.but W0.D B1)
      obtain ⟨dF1, rF1, WF1, eF1, _, _⟩ := id Y1.ex
      refine ⟨_, rfl, _, rfl, _, rfl, F0, dF1, _, rfl, eF1, rfl, _, rfl, _, rfl, F0, a, b, p, n, R, xs, bs, rfl, hR, Y1, SqT.of (W1.a2), SqT.of (W1.a1), (by have := na.len; omega), (by have := nb.len; omega), (fun _ _ v1 zv1 H2 h2 ev1_2 nv1 qv1 => ?_), fun z => absurd ⟨na, nb⟩ z⟩
      have qv1 := el_add2 qv1
      have W2 := W1.same h2
      have Y2 := Y1.stay (.same h2)
      obtain ⟨dF2, rF2, WF2, eF2, _, _⟩ := id Y2.ex
      refine ⟨_, rfl, F0, dF2, _, rfl, eF2, rfl, _, rfl, _, rfl, F0, a, b, p, n, R, xs, bs, rfl, hR, Y2, SqT.of (W2.a2), SqT.of (W2.a1), (by have := na.len; omega), (by have := nb.len; omega), (fun _ _ v2 zv2 H3 h3 ev2_3 nv2 qv2 => ?_), fun z => absurd ⟨na, nb⟩ z⟩
      have qv2 := el_mul2 qv2
      have W3 := W2.same h3
      have Y3 := Y2.stay (.same h3)
      obtain ⟨dF3, rF3, WF3, eF3, _, _⟩ := id Y3.ex
      have ev1_3 := h3 _ _ ev1_2
      refine ⟨(by show 4 ≤ sizeLine; decide), fun tp htp => ⟨tp, rfl, ⟨_, SqT.of upd_same⟩, fun D hD => ?_⟩⟩
      have htp3 := same_upd (o := .tup [.ref a, .ref b, .ref v1, .ref v2]) htp
      have W4 := W3.same htp3
      have Y4 := Y3.stay (.same htp3)
      obtain ⟨dF4, rF4, WF4, eF4, _, _⟩ := id Y4.ex
      have hsrc := srcs_at W4.a2 W4.a1 (htp3 _ _ ev1_3) (htp3 _ _ ev2_3)
      have nsrc : ∀ r ∈ [xs, bs, zv1, zv2], Num p n r := fun r hr => by
        simp only [List.mem_cons, List.not_mem_nil, or_false] at hr
        rcases hr with rfl | rfl | rfl | rfl
        · exact na
        · exact nb
        · exact nv1
        · exact nv2
      have sm0 := Int.fmod_nonneg_of_pos (m1 - 15) (show (0 : Int) < n by omega)
      refine lc_it (walk_tup (xs := [.ref a, .ref b, .ref v1, .ref v2])) (fun j H' => Same (L2.upd H3 tp (.tup [.ref a, .ref b, .ref v1, .ref v2])) H' ∧ ∃ (ls : List Addr) (rs : List (List Int)), H' D = some (.lst (ls.map V.ref)) ∧ Rws H' ls rs ∧ rs.length = j ∧ ∀ (i : Nat) (r : List Int), rs[i]? = some r → Num p n r ∧ El p R r = El p R ([xs, bs, zv1, zv2].getD i []) ^ (p ^ ((m1 - 15).fmod (n : Int)).toNat)) ⟨same_upd hD, [], [], upd_same, trivial, rfl, fun i r z => by cases z⟩ (fun j H' _ h => sameT h.1 (SqT.of upd_same)) ?_ ?_
      · rintro j x H5 H6 hj ⟨s5, ls, rs, e5, h5, l5, q5⟩ ⟨rfl, hx⟩
        obtain ⟨l, r, rfl, hr, er⟩ := Rws.at (ls := [a, b, v1, v2]) (hsrc.keep (kpS s5)) hx
        have nr := nsrc r (List.mem_of_getElem? hr)
        have lls := h5.len
        have l5' : j < 4 := hj
        have Y5 := Y4.stay (.same s5)
        refine ⟨rfl, _, rfl, F0, dF4, _, rfl, s5 _ _ eF4, rfl, _, rfl, _, rfl, rfl, rfl, F0, l, p, n, R, r, m1 - 15, rfl, hR, Y5, er, (by have := nr.len; omega), (fun _ z zs H7 s7 ez nz qz => ?_), fun z => absurd nr z⟩
        have e7 := s7 _ _ e5
        refine ⟨_, e7, ?_, lcs hD (s5.trans s7), ls ++ [z], rs ++ [zs], by rw [upd_same, List.map_append]; rfl, (Rws.snoc ez (h5.keep (kpS s7))).lst e7, by rw [List.length_append, l5]; rfl, fun i r' hi => ?_⟩
        · rw [List.length_map]
          exact small1000 (by omega)
        · rcases Nat.lt_or_ge i rs.length with g | g
          · rw [List.getElem?_append_left g] at hi
            exact q5 i r' hi
          · rw [List.getElem?_append_right g] at hi
            have j0 : i - rs.length = 0 := by
              rcases Nat.eq_zero_or_pos (i - rs.length) with zz | zz
              · exact zz
              · rw [List.getElem?_eq_none (by rw [List.length_singleton]; exact zz)] at hi
                cases hi
            rw [j0] at hi
            cases hi
            rw [show i = j by omega]
            refine ⟨nz, ?_⟩
            rw [qz, List.getD_eq_getElem?_getD, hr]
            rfl
      rintro H5 ⟨s5, ls, rs, eD_0, h5, l5, q5⟩
      obtain ⟨zt0, zt1, zt2, zt3, rfl⟩ : ∃ z0 z1 z2 z3, rs = [z0, z1, z2, z3] := by
        match rs, l5 with
        | [z0, z1, z2, z3], _ => exact ⟨z0, z1, z2, z3, rfl⟩
      obtain ⟨t0, t1, t2, t3, rfl⟩ : ∃ t0 t1 t2 t3, ls = [t0, t1, t2, t3] := by
        match ls, h5.len with
        | [t0, t1, t2, t3], _ => exact ⟨t0, t1, t2, t3, rfl⟩
      obtain ⟨et0_0, et1_0, et2_0, et3_0, _⟩ := h5
      obtain ⟨nt0, qt0⟩ := q5 0 zt0 rfl
      obtain ⟨nt1, qt1⟩ := q5 1 zt1 rfl
      obtain ⟨nt2, qt2⟩ := q5 2 zt2 rfl
      obtain ⟨nt3, qt3⟩ := q5 3 zt3 rfl
      have qt0 : El p R zt0 = El p R xs ^ (p ^ ((m1 - 15).fmod (n : Int)).toNat) := qt0
      have qt1 : El p R zt1 = El p R bs ^ (p ^ ((m1 - 15).fmod (n : Int)).toNat) := qt1
      have qt2 : El p R zt2 = El p R zv1 ^ (p ^ ((m1 - 15).fmod (n : Int)).toNat) := qt2
      have qt3 : El p R zt3 = El p R zv2 ^ (p ^ ((m1 - 15).fmod (n : Int)).toNat) := qt3
      rw [qv1] at qt2
      rw [qv2] at qt3
      have W0 := W4.same s5
      have Y0 := Y4.stay (.same s5)
      obtain ⟨dF0, rF0, WF0, eF0, _, _⟩ := id Y0.ex
      refine ⟨fun σ' H' => σ' = [some (.ref a0), some (.ref d), some (.int p), some (.int n), some (.ref F0), some (.ref un), some (.int (0 + (i : Int))), some (.ref a), some (.ref b), some (.ref c), some (.int (m1 - 15)), some (.ref D), x12, x13] ∧ Wd d TT [(c, .tup (cs.map V.int)), (b, .tup (bs.map V.int)), (a, .tup (xs.map V.int)), (un, .tup ((oneT n).map V.int))] H' ∧ FldAt K CF CR H' F0 p n R, ?_, ?_⟩
      · refine ⟨_, rfl, F0, dF0, _, rfl, eF0, rfl, _, rfl, D, _, 0, .ref t0, rfl, rfl, SqL.of eD_0, rfl, _, rfl, D, _, 1, .ref t1, rfl, rfl, SqL.of eD_0, rfl, F0, t0, t1, p, n, R, zt0, zt1, rfl, hR, Y0, SqT.of (et0_0), SqT.of (et1_0), (by have := nt0.len; omega), (by have := nt1.len; omega), (fun _ _ v1 zv1 H1 h1 ev1_1 nv1 qv1 => ?_), fun z => absurd ⟨nt0, nt1⟩ z⟩
        have qv1 := el_add2 qv1
        have W1 := W0.same h1
        have Y1 := Y0.stay (.same h1)
        obtain ⟨dF1, rF1, WF1, eF1, _, _⟩ := id Y1.ex
        have eD_1 := h1 _ _ eD_0
        have et0_1 := h1 _ _ et0_0
        have et1_1 := h1 _ _ et1_0
        have et2_1 := h1 _ _ et2_0
        have et3_1 := h1 _ _ et3_0
        refine ⟨_, rfl, D, _, 2, .ref t2, rfl, rfl, SqL.of eD_1, rfl, _, _, dp_tup (SqT.of (ev1_1)), dp_tup (SqT.of (et2_1)), sh_ints _, sh_ints _, _, rfl, ?_⟩
        rw [eqv_dec, decide_eq_true (hR.eq nv1 nt2 (by rw [qv1, qt0, qt1, qt2]; exact (Xp.frobN hR.q0 (fb_primes hR.hp) _ _ _).symm))]
        refine iteF ?_
        refine ⟨_, rfl, F0, dF1, _, rfl, eF1, rfl, _, rfl, D, _, 0, .ref t0, rfl, rfl, SqL.of eD_1, rfl, _, rfl, D, _, 1, .ref t1, rfl, rfl, SqL.of eD_1, rfl, F0, t0, t1, p, n, R, zt0, zt1, rfl, hR, Y1, SqT.of (et0_1), SqT.of (et1_1), (by have := nt0.len; omega), (by have := nt1.len; omega), (fun _ _ v2 zv2 H2 h2 ev2_2 nv2 qv2 => ?_), fun z => absurd ⟨nt0, nt1⟩ z⟩
        have qv2 := el_mul2 qv2
        have W2 := W1.same h2
        have Y2 := Y1.stay (.same h2)
        obtain ⟨dF2, rF2, WF2, eF2, _, _⟩ := id Y2.ex
        have eD_2 := h2 _ _ eD_1
        have et0_2 := h2 _ _ et0_1
        have et1_2 := h2 _ _ et1_1
        have et2_2 := h2 _ _ et2_1
        have et3_2 := h2 _ _ et3_1
        have ev1_2 := h2 _ _ ev1_1
        refine ⟨_, rfl, D, _, 3, .ref t3, rfl, rfl, SqL.of eD_2, rfl, _, _, dp_tup (SqT.of (ev2_2)), dp_tup (SqT.of (et3_2)), sh_ints _, sh_ints _, _, rfl, ?_⟩
        rw [eqv_dec, decide_eq_true (hR.eq nv2 nt3 (by rw [qv2, qt0, qt1, qt3]; exact (mul_pw _ _ _).symm))]
        refine iteF ?_
        exact ⟨rfl, W2, Y2⟩
      rintro σ1 H0 ⟨rfl, W0, Y0⟩
      obtain ⟨dF0, rF0, WF0, eF0, _, _⟩ := id Y0.ex
      refine ⟨fun σ' H' => σ' = [some (.ref a0), some (.ref d), some (.int p), some (.int n), some (.ref F0), some (.ref un), some (.int (0 + (i : Int))), some (.ref a), some (.ref b), some (.ref c), some (.int (m1 - 15)), some (.ref D), x12, x13] ∧ Wd d TT [(c, .tup (cs.map V.int)), (b, .tup (bs.map V.int)), (a, .tup (xs.map V.int)), (un, .tup ((oneT n).map V.int))] H' ∧ FldAt K CF CR H' F0 p n R, ?_, ?_⟩
      · refine ⟨_, rfl, F0, dF0, _, rfl, eF0, rfl, _, rfl, _, rfl, F0, a, p, n, R, xs, (p : Int), rfl, hR, Y0, W0.a2, (by have := na.len; omega), W0.T, (fun _ _ v1 zv1 H1 h1 ev1_1 nv1 qv1 rv1 => ?_), (fun _ _ z => absurd z (by have := hR.big; omega)), fun z => absurd na z⟩
        have W1 := W0.gr h1
        have Y1 := Y0.stay (.gr h1)
        obtain ⟨dF1, rF1, WF1, eF1, _, _⟩ := id Y1.ex
        refine ⟨_, rfl, F0, dF1, _, rfl, eF1, rfl, _, rfl, F0, a, p, n, R, xs, 1, rfl, hR, Y1, W1.a2, (by have := na.len; omega), (fun _ v2 zv2 H2 h2 ev2_2 nv2 qv2 => ?_), fun z => absurd na z⟩
        have W2 := W1.same h2
        have Y2 := Y1.stay (.same h2)
        obtain ⟨dF2, rF2, WF2, eF2, _, _⟩ := id Y2.ex
        have ev1_2 := h2 _ _ ev1_1
        refine ⟨_, _, dp_tup (SqT.of (ev1_2)), dp_tup (SqT.of (ev2_2)), sh_ints _, sh_ints _, _, rfl, ?_⟩
        rw [eqv_dec, decide_eq_true (hR.eq nv1 nv2 (by rw [hR.powE qv1 rv1 (by omega), qv2, Int.toNat_natCast, hR.turn1]))]
        refine iteF ?_
        refine ⟨_, rfl, F0, dF2, _, rfl, eF2, rfl, _, rfl, _, rfl, F0, dF2, _, rfl, eF2, rfl, F0, p, n, R, rfl, hR, Y2, F0, a, p, n, R, xs, ((p : Int) ^ n), rfl, hR, Y2, W2.a2, (by have := na.len; omega), W2.T, (fun _ _ v3 zv3 H3 h3 ev3_3 nv3 qv3 rv3 => ?_), (fun _ _ z => absurd z (by have := hR.big; omega)), fun z => absurd na z⟩
        have W3 := W2.gr h3
        have Y3 := Y2.stay (.gr h3)
        obtain ⟨dF3, rF3, WF3, eF3, _, _⟩ := id Y3.ex
        have ev1_3 := h3.tup ev1_2
        have ev2_3 := h3.tup ev2_2
        refine ⟨_, rfl, _, _, dp_tup (SqT.of (ev3_3)), dp_tup (SqT.of (W3.a2)), sh_ints _, sh_ints _, _, rfl, ?_⟩
        rw [eqv_dec, decide_eq_true (hR.eq nv3 na (by rw [hR.powE qv3 rv3 (by have := hR.big; omega), ← Int.natCast_pow, Int.toNat_natCast, hR.all]))]
        refine iteF ?_
        exact ⟨rfl, W3, Y3⟩
      rintro σ1 H0 ⟨rfl, W0, Y0⟩
      obtain ⟨dF0, rF0, WF0, eF0, _, _⟩ := id Y0.ex
      refine ⟨fun σ' H' => σ' = [some (.ref a0), some (.ref d), some (.int p), some (.int n), some (.ref F0), some (.ref un), some (.int (0 + (i : Int))), some (.ref a), some (.ref b), some (.ref c), some (.int (m1 - 15)), some (.ref D), x12, x13] ∧ Wd d TT [(c, .tup (cs.map V.int)), (b, .tup (bs.map V.int)), (a, .tup (xs.map V.int)), (un, .tup ((oneT n).map V.int))] H' ∧ FldAt K CF CR H' F0 p n R, ?_, ?_⟩
      · refine ⟨_, rfl, F0, dF0, _, rfl, eF0, rfl, _, rfl, F0, a, p, n, R, xs, rfl, hR, Y0, W0.a2, (by have := na.len; omega), (fun _ v1 H1 h1 lv1 uv1 qv1 => ?_), fun z => absurd na z⟩
        have W1 := W0.same h1
        have Y1 := Y0.stay (.same h1)
        obtain ⟨dF1, rF1, WF1, eF1, _, _⟩ := id Y1.ex
        refine ⟨_, rfl, F0, dF1, _, rfl, eF1, rfl, _, rfl, F0, b, p, n, R, bs, rfl, hR, Y1, W1.a1, (by have := nb.len; omega), (fun _ v2 H2 h2 lv2 uv2 qv2 => ?_), fun z => absurd nb z⟩
        have W2 := W1.same h2
        have Y2 := Y1.stay (.same h2)
        obtain ⟨dF2, rF2, WF2, eF2, _, _⟩ := id Y2.ex
        refine ⟨_, _, rfl, rfl, _, rfl, _, _, rfl, rfl, (by omega), _, rfl, F0, dF2, _, rfl, eF2, rfl, _, rfl, F0, dF2, _, rfl, eF2, rfl, _, rfl, _, rfl, F0, a, b, p, n, R, xs, bs, rfl, hR, Y2, SqT.of (W2.a2), SqT.of (W2.a1), (by have := na.len; omega), (by have := nb.len; omega), (fun _ _ v3 zv3 H3 h3 ev3_3 nv3 qv3 => ?_), fun z => absurd ⟨na, nb⟩ z⟩
        have qv3 := el_add2 qv3
        have W3 := W2.same h3
        have Y3 := Y2.stay (.same h3)
        obtain ⟨dF3, rF3, WF3, eF3, _, _⟩ := id Y3.ex
        refine ⟨F0, v3, p, n, R, zv3, rfl, hR, Y3, ev3_3, (by have := nv3.len; omega), (fun _ v4 H4 h4 lv4 uv4 qv4 => ?_), fun z => absurd nv3 z⟩
        have W4 := W3.same h4
        have Y4 := Y3.stay (.same h4)
        obtain ⟨dF4, rF4, WF4, eF4, _, _⟩ := id Y4.ex
        have ev3_4 := h4 _ _ ev3_3
        refine ⟨rfl, _, rfl, ?_⟩
        rw [show decide (V.int ((v1 + v2).fmod (p : Int)) = V.int v4) = true from decide_eq_true (congrArg V.int (hR.sum_tr qv1 qv2 qv3 qv4 lv4 uv4))]
        refine iteF ?_
        exact ⟨rfl, W4, Y4⟩
      rintro σ1 H0 ⟨rfl, W0, Y0⟩
      obtain ⟨dF0, rF0, WF0, eF0, _, _⟩ := id Y0.ex
      refine ⟨fun σ' H' => σ' = [some (.ref a0), some (.ref d), some (.int p), some (.int n), some (.ref F0), some (.ref un), some (.int (0 + (i : Int))), some (.ref a), some (.ref b), some (.ref c), some (.int (m1 - 15)), some (.ref D), x12, x13] ∧ Wd d TT [(c, .tup (cs.map V.int)), (b, .tup (bs.map V.int)), (a, .tup (xs.map V.int)), (un, .tup ((oneT n).map V.int))] H' ∧ FldAt K CF CR H' F0 p n R, ?_, ?_⟩
      · refine ⟨_, rfl, F0, dF0, _, rfl, eF0, rfl, _, rfl, F0, a, p, n, R, xs, rfl, hR, Y0, W0.a2, (by have := na.len; omega), (fun _ v1 H1 h1 lv1 uv1 qv1 => ?_), fun z => absurd na z⟩
        have W1 := W0.same h1
        have Y1 := Y0.stay (.same h1)
        obtain ⟨dF1, rF1, WF1, eF1, _, _⟩ := id Y1.ex
        refine ⟨_, rfl, F0, dF1, _, rfl, eF1, rfl, _, rfl, F0, b, p, n, R, bs, rfl, hR, Y1, W1.a1, (by have := nb.len; omega), (fun _ v2 H2 h2 lv2 uv2 qv2 => ?_), fun z => absurd nb z⟩
        have W2 := W1.same h2
        have Y2 := Y1.stay (.same h2)
        obtain ⟨dF2, rF2, WF2, eF2, _, _⟩ := id Y2.ex
        refine ⟨_, _, rfl, rfl, .inl ⟨by omega, by omega⟩, _, rfl, _, _, rfl, rfl, (by omega), _, rfl, F0, dF2, _, rfl, eF2, rfl, _, rfl, F0, dF2, _, rfl, eF2, rfl, _, rfl, _, rfl, F0, a, b, p, n, R, xs, bs, rfl, hR, Y2, SqT.of (W2.a2), SqT.of (W2.a1), (by have := na.len; omega), (by have := nb.len; omega), (fun _ _ v3 zv3 H3 h3 ev3_3 nv3 qv3 => ?_), fun z => absurd ⟨na, nb⟩ z⟩
        have qv3 := el_mul2 qv3
        have W3 := W2.same h3
        have Y3 := Y2.stay (.same h3)
        obtain ⟨dF3, rF3, WF3, eF3, _, _⟩ := id Y3.ex
        refine ⟨F0, v3, p, n, R, zv3, rfl, hR, Y3, ev3_3, (by have := nv3.len; omega), (fun _ v4 H4 h4 lv4 uv4 qv4 => ?_), fun z => absurd nv3 z⟩
        have W4 := W3.same h4
        have Y4 := Y3.stay (.same h4)
        obtain ⟨dF4, rF4, WF4, eF4, _, _⟩ := id Y4.ex
        have ev3_4 := h4 _ _ ev3_3
        refine ⟨rfl, _, rfl, ?_⟩
        rw [show decide (V.int ((v1 * v2).fmod (p : Int)) = V.int v4) = true from decide_eq_true (congrArg V.int (hR.prd_no qv1 qv2 qv3 qv4 lv4 uv4))]
        refine iteF ?_
        exact ⟨rfl, W4, Y4⟩
      rintro σ1 H0 ⟨rfl, W0, Y0⟩
      obtain ⟨dF0, rF0, WF0, eF0, _, _⟩ := id Y0.ex
      refine ⟨_, rfl, _, rfl, _, rfl, F0, a, p, n, R, xs, rfl, hR, Y0, W0.a2, na, W0.T, fun H1 g1 => ⟨_, rfl, iteF ?_⟩⟩
      have W1 := W0.gr g1
      have Y1 := Y0.stay (.gr g1)
      refine ⟨_, rfl, _, rfl, _, rfl, d, F0, a, p, n, R, xs, _, rfl, hR, W1, Y1, W1.a2, na, fun H2 W2 Y2 _ => ⟨_, rfl, iteF ?_⟩⟩
      exact ⟨_, _, _, _, _, _, _, _, rfl, W2.tl.tl.tl, Y2⟩
    · rintro σ' H7 ⟨x6, x7, x8, x9, x10, x11, x12, x13, rfl, W7, F7⟩
      exact k _
end
end Xk
end
section
set_option Elab.async false
set_option linter.all false
set_option maxRecDepth 100000
set_option maxHeartbeats 4000000
namespace Xk
open PySem PySem.Spec PyProof.Rows L2 Xh LamX He NdefX
section
variable {P : Program} {w : World} {K : PySem.W.Frag} {mg : Str → Option Value} {base : Heap}
theorem o_init0 {f : Addr} {fd : FuncData} (F : FunD K "__init__" "RungError.__init__" (defArgs s_RungError___init) (defBody s_RungError___init) (defScope s_RungError___init) [] [] f fd) : FnR P w K mg base (L2.CX P w) 1 f (spRI1 K) :=
  ok_rinit (st := s_RungError___init) F sc_RungError___init (fun kV doc pm an cdv ct => StX.bind_star1 (p1 := "self") (pv := "told") (B := fun vs => bindArgs (PySem.W.fnOf "__init__" "RungError.__init__" (defArgs s_RungError___init) (defBody s_RungError___init) (defScope s_RungError___init) .none kV doc pm an cdv ct) ⟨vs, []⟩) (fun a => rfl) (fun a r rs => rfl))
    (fun X hK hN hs => by
      subst hK
      have hN0 : X.N[0]? = some ("self" : Str) := by rw [hN]; rfl
      have hv0 : Vis X.env.scope ("self" : Str) := by rw [hs]; first | exact Or.inl rfl | exact Or.inr (Or.inl rfl) | exact Or.inr (Or.inr rfl)
      exact pss_one (ps_ost (pv 0 hN0 hv0) (pe_clsnm (pv 0 hN0 hv0))))
theorem code_of {x q : Str} {params : Arguments} {body : List Stmt} {scope : Scope} {dvs : List V} {kws : List (Str × V)} {p : Defn} {fd : FuncData} (F : FunD K x q params body scope dvs kws (fAd K p) fd) : fd.code = .ref (cT K p).1 := by
  obtain ⟨oc, od, dV, kV, doc, pm, an, cdv, ct, osl, rfl, lk, hcd, hD, _⟩ := F.ex
  obtain ⟨c, rfl⟩ := codeIn_ref hcd
  show Value.ref c = .ref (codeOf K p)
  rw [codeOf_eq lk rfl]
theorem lit_tup (H : Hp) (h : tupB K "PRIMES" (primes.map Dv.int) = true) : SqT K H (ga K "PRIMES") (primes.map V.int) := by
  have z := tupB_ok h H
  rw [List.map_map] at z
  exact z
theorem lit_tupI {x : Str} {xs : List Int} (H : Hp) (h : tupB K x (xs.map Dv.int) = true) : SqT K H (ga K x) (xs.map V.int) := by
  have z := tupB_ok h H
  rw [List.map_map] at z
  exact z
def kOf (K : PySem.W.Frag) (i : Fin 14) : Addr := ga K (((["BadPrime", "BadPoly", "BadDegree", "BadNumber", "NoInverse", "BadRest"] : List Str)).getD i.val "BadPrime")
theorem facts {h : Heap} {f : Addr} (X : K.In h) (G : h.Ns mainGlobals mg) (hfa : mg ("law" : Str) = some (.ref f)) (c : SaysX faL fnL [] [("rest_power", none), ("raw_power", none), ("RawField", some "power")] exL w h K) :
    ∃ fd : FuncData, (∀ (s : Shared) (v : Value), BindsTo s fd ⟨[v], []⟩ [("_law_script", v)]) ∧ ∀ base : Heap, TabB base mg (cT K ("rest_power", none)).1 (cT K ("rest_power", none)).2 → TabB base mg (cT K ("raw_power", none)).1 (cT K ("raw_power", none)).2 → TabB base mg (cT K ("RawField", some "power")).1 (cT K ("RawField", some "power")).2 → FnOk P w K mg base CX0 15 f fd ["_law_script"] (spLaw K (cT K ("rest_power", none)).2 (cT K ("raw_power", none)).2 (cT K ("RawField", some "power")).2) := by
  obtain ⟨e0, e⟩ := ba c.more
  obtain ⟨e1, e⟩ := ba e
  obtain ⟨e2, e⟩ := ba e
  obtain ⟨e3, e⟩ := ba e
  obtain ⟨e4, e⟩ := ba e
  obtain ⟨e5, e⟩ := ba e
  obtain ⟨e6, e⟩ := ba e
  obtain ⟨e7, e⟩ := ba e
  obtain ⟨e8, e⟩ := ba e
  obtain ⟨e9, e⟩ := ba e
  obtain ⟨e10, e⟩ := ba e
  obtain ⟨e11, e⟩ := ba e
  obtain ⟨e12, e⟩ := ba e
  obtain ⟨e13, e⟩ := ba e
  obtain ⟨e14, e⟩ := ba e
  obtain ⟨e15, e⟩ := ba e
  obtain ⟨e16, e⟩ := ba e
  obtain ⟨e17, e⟩ := ba e
  obtain ⟨e18, e⟩ := ba e
  obtain ⟨e19, e⟩ := ba e
  obtain ⟨e20, e⟩ := ba e
  obtain ⟨e21, e⟩ := ba e
  obtain ⟨e22, e⟩ := ba e
  obtain ⟨e23, e⟩ := ba e
  obtain ⟨e24, e⟩ := ba e
  obtain ⟨e25, e⟩ := ba e
  obtain ⟨e26, e⟩ := ba e
  obtain ⟨e27, e⟩ := ba e
  obtain ⟨e28, e⟩ := ba e
  obtain ⟨e29, e⟩ := ba e
  obtain ⟨e30, e⟩ := ba e
  obtain ⟨e31, e⟩ := ba e
  obtain ⟨e32, e⟩ := ba e
  obtain ⟨e33, e⟩ := ba e
  obtain ⟨e34, e⟩ := ba e
  obtain ⟨e35, e⟩ := ba e
  obtain ⟨e36, e⟩ := ba e
  obtain ⟨e37, e⟩ := ba e
  obtain ⟨e38, e⟩ := ba e
  obtain ⟨e39, e⟩ := ba e
  obtain ⟨e40, e⟩ := ba e
  obtain ⟨e41, e⟩ := ba e
  obtain ⟨e42, e⟩ := ba e
  obtain ⟨e43, e⟩ := ba e
  obtain ⟨e44, e⟩ := ba e
  obtain ⟨e45, e⟩ := ba e
  obtain ⟨e46, e⟩ := ba e
  obtain ⟨e47, e⟩ := ba e
  obtain ⟨e48, e⟩ := ba e
  obtain ⟨e49, e⟩ := ba e
  obtain ⟨e50, e⟩ := ba e
  obtain ⟨e51, e⟩ := ba e
  have e52 := e
  have mX : mg "X" = some (.ref (ga K "X")) := glo_ok X G (c.t.d.fact 10 (f := .glo "X") rfl)
  have hX : ∀ H, SqT K H (ga K "X") (([0, 1] : List Int).map V.int) := fun H => lit_tupI (xs := ([0, 1] : List Int)) H e1
  obtain ⟨r_BadPrime, w_BadPrime, i_BadPrime, t_BadPrime⟩ := clsB_ok e2
  obtain ⟨r_BadPoly, w_BadPoly, i_BadPoly, t_BadPoly⟩ := clsB_ok e3
  obtain ⟨r_BadDegree, w_BadDegree, i_BadDegree, t_BadDegree⟩ := clsB_ok e4
  obtain ⟨r_BadNumber, w_BadNumber, i_BadNumber, t_BadNumber⟩ := clsB_ok e5
  obtain ⟨r_NoInverse, w_NoInverse, i_NoInverse, t_NoInverse⟩ := clsB_ok e6
  obtain ⟨r_BadRest, w_BadRest, i_BadRest, t_BadRest⟩ := clsB_ok e7
  have hne_rest_power_raw_power := of_decide_eq_true e8
  have hne_rest_power_RawField_power := of_decide_eq_true e9
  have hne_raw_power_RawField_power := of_decide_eq_true e10
  have cl_RawField := clB_ok e11
  have na_RawField_divisor := naB_ok e12
  have na_RawField_base := naB_ok e13
  have na_RawField_width := naB_ok e14
  have na_RawField_nought := naB_ok e15
  have na_RawField_unit := naB_ok e16
  have na_RawField_turn_table := naB_ok e17
  have na_RawField_high_table := naB_ok e18
  have cl_Field := clB_ok e32
  have na_Field__rule := naB_ok e33
  have na_Field__prime := naB_ok e34
  have na_Field_raw := naB_ok e35
  have na_Field__size := naB_ok e36
  obtain ⟨fdRungError___init, FRungError___init⟩ := c.t.d.def_ 0 (d := fnL[0]) rfl
  obtain ⟨fdpower_by, Fpower_by⟩ := c.t.d.def_ 1 (d := fnL[1]) rfl
  obtain ⟨fdis_prime, Fis_prime⟩ := c.t.d.def_ 2 (d := fnL[2]) rfl
  obtain ⟨fdis_number, Fis_number⟩ := c.t.d.def_ 3 (d := fnL[3]) rfl
  obtain ⟨fdis_rest, Fis_rest⟩ := c.t.d.def_ 4 (d := fnL[4]) rfl
  obtain ⟨fdrefuse_prime, Frefuse_prime⟩ := c.t.d.def_ 5 (d := fnL[5]) rfl
  obtain ⟨fdrefuse_rest, Frefuse_rest⟩ := c.t.d.def_ 6 (d := fnL[6]) rfl
  obtain ⟨fdrest_power, Frest_power⟩ := c.t.d.def_ 7 (d := fnL[7]) rfl
  obtain ⟨fdtrimmed, Ftrimmed⟩ := c.t.d.def_ 8 (d := fnL[8]) rfl
  obtain ⟨fdraw_scaled, Fraw_scaled⟩ := c.t.d.def_ 9 (d := fnL[9]) rfl
  obtain ⟨fdraw_plus, Fraw_plus⟩ := c.t.d.def_ 10 (d := fnL[10]) rfl
  obtain ⟨fdraw_minus, Fraw_minus⟩ := c.t.d.def_ 11 (d := fnL[11]) rfl
  obtain ⟨fdraw_times, Fraw_times⟩ := c.t.d.def_ 12 (d := fnL[12]) rfl
  obtain ⟨fdraw_parted, Fraw_parted⟩ := c.t.d.def_ 13 (d := fnL[13]) rfl
  obtain ⟨fdraw_left, Fraw_left⟩ := c.t.d.def_ 14 (d := fnL[14]) rfl
  obtain ⟨fdraw_power, Fraw_power⟩ := c.t.d.def_ 15 (d := fnL[15]) rfl
  obtain ⟨fdraw_level, Fraw_level⟩ := c.t.d.def_ 16 (d := fnL[16]) rfl
  obtain ⟨fdraw_greatest, Fraw_greatest⟩ := c.t.d.def_ 17 (d := fnL[17]) rfl
  obtain ⟨fdraw_undone, Fraw_undone⟩ := c.t.d.def_ 18 (d := fnL[18]) rfl
  obtain ⟨fdpadded, Fpadded⟩ := c.t.d.def_ 19 (d := fnL[19]) rfl
  obtain ⟨fdturn_rows, Fturn_rows⟩ := c.t.d.def_ 20 (d := fnL[20]) rfl
  obtain ⟨fdweighed, Fweighed⟩ := c.t.d.def_ 21 (d := fnL[21]) rfl
  obtain ⟨fdis_poly, Fis_poly⟩ := c.t.d.def_ 22 (d := fnL[22]) rfl
  obtain ⟨fdrefuse_polys, Frefuse_polys⟩ := c.t.d.def_ 23 (d := fnL[23]) rfl
  obtain ⟨fdrefuse_numbers, Frefuse_numbers⟩ := c.t.d.def_ 24 (d := fnL[24]) rfl
  obtain ⟨fdRawField___init, FRawField___init⟩ := c.t.d.def_ 25 (d := fnL[25]) rfl
  obtain ⟨fdRawField_x_power, FRawField_x_power⟩ := c.t.d.def_ 26 (d := fnL[26]) rfl
  obtain ⟨fdRawField_has, FRawField_has⟩ := c.t.d.def_ 27 (d := fnL[27]) rfl
  obtain ⟨fdRawField_plain, FRawField_plain⟩ := c.t.d.def_ 28 (d := fnL[28]) rfl
  obtain ⟨fdRawField_plus, FRawField_plus⟩ := c.t.d.def_ 29 (d := fnL[29]) rfl
  obtain ⟨fdRawField_minus, FRawField_minus⟩ := c.t.d.def_ 30 (d := fnL[30]) rfl
  obtain ⟨fdRawField_times, FRawField_times⟩ := c.t.d.def_ 31 (d := fnL[31]) rfl
  obtain ⟨fdRawField_undone, FRawField_undone⟩ := c.t.d.def_ 32 (d := fnL[32]) rfl
  obtain ⟨fdRawField_power, FRawField_power⟩ := c.t.d.def_ 33 (d := fnL[33]) rfl
  obtain ⟨fdRawField_turned, FRawField_turned⟩ := c.t.d.def_ 34 (d := fnL[34]) rfl
  obtain ⟨fdRawField_orbit, FRawField_orbit⟩ := c.t.d.def_ 35 (d := fnL[35]) rfl
  obtain ⟨fdRawField_turn_sum, FRawField_turn_sum⟩ := c.t.d.def_ 36 (d := fnL[36]) rfl
  obtain ⟨fdRawField_turn_product, FRawField_turn_product⟩ := c.t.d.def_ 37 (d := fnL[37]) rfl
  obtain ⟨fdover_trimmed, Fover_trimmed⟩ := c.t.d.def_ 38 (d := fnL[38]) rfl
  obtain ⟨fdraw_over_times, Fraw_over_times⟩ := c.t.d.def_ 39 (d := fnL[39]) rfl
  obtain ⟨fdraw_built, Fraw_built⟩ := c.t.d.def_ 40 (d := fnL[40]) rfl
  obtain ⟨fdis_whole, Fis_whole⟩ := c.t.d.def_ 41 (d := fnL[41]) rfl
  obtain ⟨fdleast_whole, Fleast_whole⟩ := c.t.d.def_ 42 (d := fnL[42]) rfl
  obtain ⟨fdrefuse_degree, Frefuse_degree⟩ := c.t.d.def_ 43 (d := fnL[43]) rfl
  obtain ⟨fdcount_on, Fcount_on⟩ := c.t.d.def_ 44 (d := fnL[44]) rfl
  obtain ⟨fdraw_whole, Fraw_whole⟩ := c.t.d.def_ 45 (d := fnL[45]) rfl
  obtain ⟨fdturns_of_x, Fturns_of_x⟩ := c.t.d.def_ 46 (d := fnL[46]) rfl
  obtain ⟨fdrefuse_rule, Frefuse_rule⟩ := c.t.d.def_ 47 (d := fnL[47]) rfl
  obtain ⟨fdrefuse_count, Frefuse_count⟩ := c.t.d.def_ 48 (d := fnL[48]) rfl
  obtain ⟨fdField___init, FField___init⟩ := c.t.d.def_ 49 (d := fnL[49]) rfl
  obtain ⟨fdField_prime, FField_prime⟩ := c.t.d.def_ 50 (d := fnL[50]) rfl
  obtain ⟨fdField_size, FField_size⟩ := c.t.d.def_ 51 (d := fnL[51]) rfl
  obtain ⟨fdField_plain, FField_plain⟩ := c.t.d.def_ 52 (d := fnL[52]) rfl
  obtain ⟨fdField_plus, FField_plus⟩ := c.t.d.def_ 53 (d := fnL[53]) rfl
  obtain ⟨fdField_minus, FField_minus⟩ := c.t.d.def_ 54 (d := fnL[54]) rfl
  obtain ⟨fdField_times, FField_times⟩ := c.t.d.def_ 55 (d := fnL[55]) rfl
  obtain ⟨fdField_undone, FField_undone⟩ := c.t.d.def_ 56 (d := fnL[56]) rfl
  obtain ⟨fdField_power, FField_power⟩ := c.t.d.def_ 57 (d := fnL[57]) rfl
  obtain ⟨fdField_turned, FField_turned⟩ := c.t.d.def_ 58 (d := fnL[58]) rfl
  obtain ⟨fdField_degree, FField_degree⟩ := c.t.d.def_ 59 (d := fnL[59]) rfl
  obtain ⟨fdField_least, FField_least⟩ := c.t.d.def_ 60 (d := fnL[60]) rfl
  obtain ⟨fdField_trace, FField_trace⟩ := c.t.d.def_ 61 (d := fnL[61]) rfl
  obtain ⟨fdField_norm, FField_norm⟩ := c.t.d.def_ 62 (d := fnL[62]) rfl
  obtain ⟨fdField_place, FField_place⟩ := c.t.d.def_ 63 (d := fnL[63]) rfl
  obtain ⟨fdField_nth, FField_nth⟩ := c.t.d.def_ 64 (d := fnL[64]) rfl
  obtain ⟨fdlaw_begin, Flaw_begin⟩ := c.t.d.def_ 65 (d := fnL[65]) rfl
  obtain ⟨fdlaw_take, Flaw_take⟩ := c.t.d.def_ 66 (d := fnL[66]) rfl
  obtain ⟨fdlaw_of, Flaw_of⟩ := c.t.d.def_ 67 (d := fnL[67]) rfl
  obtain ⟨fdlaw_trim, Flaw_trim⟩ := c.t.d.def_ 68 (d := fnL[68]) rfl
  obtain ⟨fdlaw_rests, Flaw_rests⟩ := c.t.d.def_ 69 (d := fnL[69]) rfl
  obtain ⟨fdlaw_blend, Flaw_blend⟩ := c.t.d.def_ 70 (d := fnL[70]) rfl
  obtain ⟨fdlaw_conv, Flaw_conv⟩ := c.t.d.def_ 71 (d := fnL[71]) rfl
  obtain ⟨fdlaw_mul, Flaw_mul⟩ := c.t.d.def_ 72 (d := fnL[72]) rfl
  obtain ⟨fdlaw_great, Flaw_great⟩ := c.t.d.def_ 73 (d := fnL[73]) rfl
  obtain ⟨fdlaw_shifted, Flaw_shifted⟩ := c.t.d.def_ 74 (d := fnL[74]) rfl
  obtain ⟨fdlaw_great_rule, Flaw_great_rule⟩ := c.t.d.def_ 75 (d := fnL[75]) rfl
  obtain ⟨fdlaw_number, Flaw_number⟩ := c.t.d.def_ 76 (d := fnL[76]) rfl
  obtain ⟨fdlaw_placed, Flaw_placed⟩ := c.t.d.def_ 77 (d := fnL[77]) rfl
  obtain ⟨fdlaw_least_right, Flaw_least_right⟩ := c.t.d.def_ 78 (d := fnL[78]) rfl
  obtain ⟨fdlaw, Flaw⟩ := c.t.d.def_ 79 (d := fnL[79]) rfl
  have mk_RawField := mkB_ok e19
  have mt_RawField_x_power := mtB_ok e20 FRawField_x_power.kp
  have mt_RawField_has := mtB_ok e21 FRawField_has.kp
  have mt_RawField_plain := mtB_ok e22 FRawField_plain.kp
  have mt_RawField_turned := mtB_ok e23 FRawField_turned.kp
  have mt_RawField_orbit := mtB_ok e24 FRawField_orbit.kp
  have mt_RawField_plus := mtB_ok e25 FRawField_plus.kp
  have mt_RawField_minus := mtB_ok e26 FRawField_minus.kp
  have mt_RawField_times := mtB_ok e27 FRawField_times.kp
  have mt_RawField_undone := mtB_ok e28 FRawField_undone.kp
  have mt_RawField_power := mtB_ok e29 FRawField_power.kp
  have mt_RawField_turn_sum := mtB_ok e30 FRawField_turn_sum.kp
  have mt_RawField_turn_product := mtB_ok e31 FRawField_turn_product.kp
  have mk_Field := mkB_ok e37
  have mt_Field_prime := mtB_ok e38 FField_prime.kp
  have mt_Field_size := mtB_ok e39 FField_size.kp
  have mt_Field_plain := mtB_ok e40 FField_plain.kp
  have mt_Field_plus := mtB_ok e41 FField_plus.kp
  have mt_Field_minus := mtB_ok e42 FField_minus.kp
  have mt_Field_times := mtB_ok e43 FField_times.kp
  have mt_Field_undone := mtB_ok e44 FField_undone.kp
  have mt_Field_power := mtB_ok e45 FField_power.kp
  have mt_Field_turned := mtB_ok e46 FField_turned.kp
  have mt_Field_degree := mtB_ok e47 FField_degree.kp
  have mt_Field_least := mtB_ok e48 FField_least.kp
  have mt_Field_trace := mtB_ok e49 FField_trace.kp
  have mt_Field_norm := mtB_ok e50 FField_norm.kp
  have mt_Field_place := mtB_ok e51 FField_place.kp
  have mt_Field_nth := mtB_ok e52 FField_nth.kp
  have e := hfa.symm.trans (glo_ok X G (c.t.d.fact 60 (f := .glo "law") rfl))
  cases e
  have b := FunD.bindsA (ps := ["_law_script"]) Flaw fun _ _ _ _ _ _ us hl => match us, hl with | [_], _ => rfl
  have T : Fre mg := ⟨free_ok X G (c.t.d.fact 63 (f := .free "len") rfl), free_ok X G (c.t.d.fact 64 (f := .free "abs") rfl), free_ok X G (c.t.d.fact 65 (f := .free "list") rfl), free_ok X G (c.t.d.fact 66 (f := .free "tuple") rfl), free_ok X G (c.t.d.fact 67 (f := .free "int") rfl), free_ok X G (c.t.d.fact 68 (f := .free "bool") rfl), free_ok X G (c.t.d.fact 69 (f := .free "str") rfl), free_ok X G (c.t.d.fact 70 (f := .free "isinstance") rfl), free_ok X G (c.t.d.fact 71 (f := .free "range") rfl), free_ok X G (c.t.d.fact 72 (f := .free "all") rfl), free_ok X G (c.t.d.fact 73 (f := .free "zip") rfl), free_ok X G (c.t.d.fact 74 (f := .free "enumerate") rfl), free_ok X G (c.t.d.fact 75 (f := .free "max") rfl), free_ok X G (c.t.d.fact 76 (f := .free "reversed") rfl), free_ok X G (c.t.d.fact 77 (f := .free "any") rfl), free_ok X G (c.t.d.fact 78 (f := .free "sorted") rfl), free_ok X G (c.t.d.fact 79 (f := .free "set") rfl), free_ok X G (c.t.d.fact 80 (f := .free "sum") rfl)⟩
  have x_BadPrime : RX K mg (ga K "BadPrime") (ma K (ga K "RungError") "__init__") "BadPrime" := ⟨r_BadPrime, w_BadPrime, i_BadPrime, t_BadPrime, glo_ok X G (c.t.d.fact 1 (f := .glo "BadPrime") rfl)⟩
  have x_BadPoly : RX K mg (ga K "BadPoly") (ma K (ga K "RungError") "__init__") "BadPoly" := ⟨r_BadPoly, w_BadPoly, i_BadPoly, t_BadPoly, glo_ok X G (c.t.d.fact 2 (f := .glo "BadPoly") rfl)⟩
  have x_BadDegree : RX K mg (ga K "BadDegree") (ma K (ga K "RungError") "__init__") "BadDegree" := ⟨r_BadDegree, w_BadDegree, i_BadDegree, t_BadDegree, glo_ok X G (c.t.d.fact 3 (f := .glo "BadDegree") rfl)⟩
  have x_BadNumber : RX K mg (ga K "BadNumber") (ma K (ga K "RungError") "__init__") "BadNumber" := ⟨r_BadNumber, w_BadNumber, i_BadNumber, t_BadNumber, glo_ok X G (c.t.d.fact 4 (f := .glo "BadNumber") rfl)⟩
  have x_NoInverse : RX K mg (ga K "NoInverse") (ma K (ga K "RungError") "__init__") "NoInverse" := ⟨r_NoInverse, w_NoInverse, i_NoInverse, t_NoInverse, glo_ok X G (c.t.d.fact 5 (f := .glo "NoInverse") rfl)⟩
  have x_BadRest : RX K mg (ga K "BadRest") (ma K (ga K "RungError") "__init__") "BadRest" := ⟨r_BadRest, w_BadRest, i_BadRest, t_BadRest, glo_ok X G (c.t.d.fact 6 (f := .glo "BadRest") rfl)⟩
  have mP : mg "PRIMES" = some (.ref (ga K "PRIMES")) := glo_ok X G (c.t.d.fact 9 (f := .glo "PRIMES") rfl)
  have hP : ∀ H, SqT K H (ga K "PRIMES") (primes.map V.int) := fun H => lit_tup H e0
  have mI_MOST_RESTS : ∃ t, mg "MOST_RESTS" = some (.int 25 t) := int_ok X G (c.t.d.fact 61 (f := .int "MOST_RESTS" 25) rfl)
  have mI_MOST_DEGREE : ∃ t, mg "MOST_DEGREE" = some (.int 12 t) := int_ok X G (c.t.d.fact 62 (f := .int "MOST_DEGREE" 12) rfl)
  refine ⟨fdlaw, fun s v => b s [v] rfl, fun base TB_rest_power TB_raw_power TB_RawField_power => ?_⟩
  have o_init : FnR P w K mg base (L2.CX P w) 1 (ma K (ga K "RungError") "__init__") (spRI1 K) := o_init0 FRungError___init
  have KC : ClsF K (ga K "Field") (ga K "RawField") := ⟨cl_Field, na_Field__rule, na_Field__prime, na_Field_raw, na_Field__size, cl_RawField, na_RawField_divisor, na_RawField_base, na_RawField_width, na_RawField_nought, na_RawField_unit, na_RawField_turn_table, na_RawField_high_table⟩
  have hu1 : ∀ p ∈ (TL4 (cT K ("rest_power", none)).2 (cT K ("raw_power", none)).2 (cT K ("RawField", some "power")).2), p.1 = (cT K ("rest_power", none)).2 → p.2 = rpQ := fun p hp e => by
    rcases List.mem_cons.mp hp with rfl | hp
    · exact rfl
    rcases List.mem_cons.mp hp with rfl | hp
    · exact absurd e.symm hne_rest_power_raw_power
    have hp := List.mem_singleton.mp hp
    subst hp
    exact absurd e.symm hne_rest_power_RawField_power
  have hu2 : ∀ p ∈ (TL4 (cT K ("rest_power", none)).2 (cT K ("raw_power", none)).2 (cT K ("RawField", some "power")).2), p.1 = (cT K ("raw_power", none)).2 → p.2 = pwQ := fun p hp e => by
    rcases List.mem_cons.mp hp with rfl | hp
    · exact absurd e hne_rest_power_raw_power
    rcases List.mem_cons.mp hp with rfl | hp
    · exact rfl
    have hp := List.mem_singleton.mp hp
    subst hp
    exact absurd e.symm hne_raw_power_RawField_power
  have hu3 : ∀ p ∈ (TL4 (cT K ("rest_power", none)).2 (cT K ("raw_power", none)).2 (cT K ("RawField", some "power")).2), p.1 = (cT K ("RawField", some "power")).2 → p.2 = rfQ := fun p hp e => by
    rcases List.mem_cons.mp hp with rfl | hp
    · exact absurd e hne_rest_power_RawField_power
    rcases List.mem_cons.mp hp with rfl | hp
    · exact absurd e hne_raw_power_RawField_power
    have hp := List.mem_singleton.mp hp
    subst hp
    exact rfl
  have o_law_begin := own_of Flaw_begin (ok_begin (P := P) (w := w) (mg := mg) (base := base)  Flaw_begin T) (glo_ok X G (c.t.d.fact 46 (f := .glo "_law_begin") rfl)) (fun _ _ _ _ _ _ us hl => match us, hl with | [_], _ => rfl)
  have o_law_take := own_of Flaw_take (ok_take (P := P) (w := w) (mg := mg) (base := base)  Flaw_take T) (glo_ok X G (c.t.d.fact 47 (f := .glo "_law_take") rfl)) (fun _ _ _ _ _ _ us hl => match us, hl with | [_, _], _ => rfl)
  have o_law_of := own_of Flaw_of (ok_of (P := P) (w := w) (mg := mg) (base := base)  Flaw_of T o_law_take) (glo_ok X G (c.t.d.fact 48 (f := .glo "_law_of") rfl)) (fun _ _ _ _ _ _ us hl => match us, hl with | [_, _], _ => rfl)
  have o_is_prime := own_of Fis_prime (ok_is_prime (P := P) (w := w) (mg := mg) (base := base)  Fis_prime mP hP) (glo_ok X G (c.t.d.fact 12 (f := .glo "is_prime") rfl)) (fun _ _ _ _ _ _ us hl => match us, hl with | [_], _ => rfl)
  have o_is_number := own_of Fis_number (ok_is_number (P := P) (w := w) (mg := mg) (base := base)  Fis_number T) (glo_ok X G (c.t.d.fact 13 (f := .glo "is_number") rfl)) (fun _ _ _ _ _ _ us hl => match us, hl with | [_], _ => rfl)
  have o_is_rest := own_of Fis_rest (ok_is_rest (P := P) (w := w) (mg := mg) (base := base)  Fis_rest o_is_number) (glo_ok X G (c.t.d.fact 14 (f := .glo "is_rest") rfl)) (fun _ _ _ _ _ _ us hl => match us, hl with | [_, _], _ => rfl)
  have o_refuse_prime := own_of Frefuse_prime (ok_refuse_prime (P := P) (w := w) (mg := mg) (base := base) (C := (kOf K 0)) Frefuse_prime o_is_prime x_BadPrime o_init) (glo_ok X G (c.t.d.fact 15 (f := .glo "refuse_prime") rfl)) (fun _ _ _ _ _ _ us hl => match us, hl with | [_], _ => rfl)
  have G_power_by := ok_power_by (P := P) (w := w) (mg := mg) (base := base) (kl := 1) Fpower_by (glo_ok X G (c.t.d.fact 11 (f := .glo "power_by") rfl))
  have o_rest_power := own_of Frest_power (ok_rest_power (P := P) (w := w) (mg := mg) (base := base) (T := (TL4 (cT K ("rest_power", none)).2 (cT K ("raw_power", none)).2 (cT K ("RawField", some "power")).2)) Frest_power (code_of (p := ("rest_power", none)) Frest_power) TB_rest_power List.mem_cons_self hu1 G_power_by) (glo_ok X G (c.t.d.fact 17 (f := .glo "rest_power") rfl)) (fun _ _ _ _ _ _ us hl => match us, hl with | [_, _, _], _ => rfl)
  have o_trimmed := own_of Ftrimmed (ok_trimmed (P := P) (w := w) (mg := mg) (base := base)  Ftrimmed T) (glo_ok X G (c.t.d.fact 18 (f := .glo "trimmed") rfl)) (fun _ _ _ _ _ _ us hl => match us, hl with | [_], _ => rfl)
  have o_raw_scaled := own_of Fraw_scaled (ok_raw_scaled (P := P) (w := w) (mg := mg) (base := base)  Fraw_scaled o_trimmed) (glo_ok X G (c.t.d.fact 19 (f := .glo "raw_scaled") rfl)) (fun _ _ _ _ _ _ us hl => match us, hl with | [_, _, _], _ => rfl)
  have o_raw_plus := own_of Fraw_plus (ok_raw_plus (P := P) (w := w) (mg := mg) (base := base)  Fraw_plus T o_trimmed) (glo_ok X G (c.t.d.fact 20 (f := .glo "raw_plus") rfl)) (fun _ _ _ _ _ _ us hl => match us, hl with | [_, _, _], _ => rfl)
  have o_raw_minus := own_of Fraw_minus (ok_raw_minus (P := P) (w := w) (mg := mg) (base := base)  Fraw_minus o_raw_scaled o_raw_plus) (glo_ok X G (c.t.d.fact 21 (f := .glo "raw_minus") rfl)) (fun _ _ _ _ _ _ us hl => match us, hl with | [_, _, _], _ => rfl)
  have o_raw_times := own_of Fraw_times (ok_raw_times (P := P) (w := w) (mg := mg) (base := base)  Fraw_times T o_trimmed) (glo_ok X G (c.t.d.fact 22 (f := .glo "raw_times") rfl)) (fun _ _ _ _ _ _ us hl => match us, hl with | [_, _, _], _ => rfl)
  have o_raw_parted := own_of Fraw_parted (ok_raw_parted (P := P) (w := w) (mg := mg) (base := base) (TT := (TL4 (cT K ("rest_power", none)).2 (cT K ("raw_power", none)).2 (cT K ("RawField", some "power")).2)) Fraw_parted T o_trimmed o_rest_power) (glo_ok X G (c.t.d.fact 23 (f := .glo "raw_parted") rfl)) (fun _ _ _ _ _ _ us hl => match us, hl with | [_, _, _], _ => rfl)
  have o_raw_left := own_of Fraw_left (ok_raw_left (P := P) (w := w) (mg := mg) (base := base) (TT := (TL4 (cT K ("rest_power", none)).2 (cT K ("raw_power", none)).2 (cT K ("RawField", some "power")).2)) Fraw_left o_raw_parted) (glo_ok X G (c.t.d.fact 24 (f := .glo "raw_left") rfl)) (fun _ _ _ _ _ _ us hl => match us, hl with | [_, _, _], _ => rfl)
  have G_power_by := ok_power_by (P := P) (w := w) (mg := mg) (base := base) (kl := 6) Fpower_by (glo_ok X G (c.t.d.fact 11 (f := .glo "power_by") rfl))
  have o_raw_power := own_of Fraw_power (ok_raw_power (P := P) (w := w) (mg := mg) (base := base) (TT := (TL4 (cT K ("rest_power", none)).2 (cT K ("raw_power", none)).2 (cT K ("RawField", some "power")).2)) Fraw_power (code_of (p := ("raw_power", none)) Fraw_power) TB_raw_power (List.mem_cons_of_mem _ List.mem_cons_self) hu2 G_power_by o_raw_times o_raw_left) (glo_ok X G (c.t.d.fact 25 (f := .glo "raw_power") rfl)) (fun _ _ _ _ _ _ us hl => match us, hl with | [_, _, _, _], _ => rfl)
  have o_raw_level := own_of Fraw_level (ok_raw_level (P := P) (w := w) (mg := mg) (base := base) (TT := (TL4 (cT K ("rest_power", none)).2 (cT K ("raw_power", none)).2 (cT K ("RawField", some "power")).2)) Fraw_level o_raw_scaled o_rest_power) (glo_ok X G (c.t.d.fact 26 (f := .glo "raw_level") rfl)) (fun _ _ _ _ _ _ us hl => match us, hl with | [_, _], _ => rfl)
  have o_raw_greatest := own_of Fraw_greatest (ok_raw_greatest (P := P) (w := w) (mg := mg) (base := base) (TT := (TL4 (cT K ("rest_power", none)).2 (cT K ("raw_power", none)).2 (cT K ("RawField", some "power")).2)) Fraw_greatest o_raw_left o_raw_level) (glo_ok X G (c.t.d.fact 27 (f := .glo "raw_greatest") rfl)) (fun _ _ _ _ _ _ us hl => match us, hl with | [_, _, _], _ => rfl)
  have o_q_raw_left := own_of Fraw_left (q_raw_left (P := P) (w := w) (mg := mg) (base := base) (TT := (TL4 (cT K ("rest_power", none)).2 (cT K ("raw_power", none)).2 (cT K ("RawField", some "power")).2)) Fraw_left o_raw_parted) (glo_ok X G (c.t.d.fact 24 (f := .glo "raw_left") rfl)) (fun _ _ _ _ _ _ us hl => match us, hl with | [_, _, _], _ => rfl)
  have o_q_trimmed := own_of Ftrimmed (q_trimmed (P := P) (w := w) (mg := mg) (base := base)  Ftrimmed T) (glo_ok X G (c.t.d.fact 18 (f := .glo "trimmed") rfl)) (fun _ _ _ _ _ _ us hl => match us, hl with | [_], _ => rfl)
  have o_padded := own_of Fpadded (ok_padded (P := P) (w := w) (mg := mg) (base := base)  Fpadded T) (glo_ok X G (c.t.d.fact 29 (f := .glo "padded") rfl)) (fun _ _ _ _ _ _ us hl => match us, hl with | [_, _], _ => rfl)
  have o_turn_rows := own_of Fturn_rows (ok_turn_rows (P := P) (w := w) (mg := mg) (base := base) (TT := (TL4 (cT K ("rest_power", none)).2 (cT K ("raw_power", none)).2 (cT K ("RawField", some "power")).2)) Fturn_rows T o_raw_left o_raw_power o_raw_times o_padded) (glo_ok X G (c.t.d.fact 30 (f := .glo "turn_rows") rfl)) (fun _ _ _ _ _ _ us hl => match us, hl with | [_, _], _ => rfl)
  have o_weighed := own_of Fweighed (ok_weighed (P := P) (w := w) (mg := mg) (base := base)  Fweighed T) (glo_ok X G (c.t.d.fact 31 (f := .glo "weighed") rfl)) (fun _ _ _ _ _ _ us hl => match us, hl with | [_, _, _, _], _ => rfl)
  have o_turns_of_x := own_of Fturns_of_x (ok_turns_of_x (P := P) (w := w) (mg := mg) (base := base) (TT := (TL4 (cT K ("rest_power", none)).2 (cT K ("raw_power", none)).2 (cT K ("RawField", some "power")).2)) Fturns_of_x T mX hX o_turn_rows o_q_raw_left o_weighed o_q_trimmed) (glo_ok X G (c.t.d.fact 43 (f := .glo "turns_of_x") rfl)) (fun _ _ _ _ _ _ us hl => match us, hl with | [_, _, _], _ => rfl)
  have o_raw_whole := own_of Fraw_whole (ok_raw_whole (P := P) (w := w) (mg := mg) (base := base) (TT := (TL4 (cT K ("rest_power", none)).2 (cT K ("raw_power", none)).2 (cT K ("RawField", some "power")).2)) Fraw_whole T mX hX o_turns_of_x o_raw_greatest o_raw_minus) (glo_ok X G (c.t.d.fact 42 (f := .glo "raw_whole") rfl)) (fun _ _ _ _ _ _ us hl => match us, hl with | [_, _], _ => rfl)
  have o_is_poly := own_of Fis_poly (ok_is_poly (P := P) (w := w) (mg := mg) (base := base)  Fis_poly T mI_MOST_RESTS o_is_rest) (glo_ok X G (c.t.d.fact 32 (f := .glo "is_poly") rfl)) (fun _ _ _ _ _ _ us hl => match us, hl with | [_, _], _ => rfl)
  have o_refuse_polys := own_of Frefuse_polys (ok_refuse_polys (P := P) (w := w) (mg := mg) (base := base) (C := kOf K) Frefuse_polys o_refuse_prime o_is_poly x_BadPoly o_init) (glo_ok X G (c.t.d.fact 33 (f := .glo "refuse_polys") rfl)) (fun _ _ _ _ _ _ us hl => match us, hl with | [_, _], _ => rfl)
  have G_is_whole := ok_is_whole (P := P) (w := w) (mg := mg) (base := base) (TT := (TL4 (cT K ("rest_power", none)).2 (cT K ("raw_power", none)).2 (cT K ("RawField", some "power")).2)) Fis_whole o_refuse_polys o_raw_whole
  have k_is_whole := own_ofK (n := 1) (ks := ["prime"]) Fis_whole G_is_whole (glo_ok X G (c.t.d.fact 38 (f := .glo "is_whole") rfl)) (fun _ _ _ _ _ _ us ws hl hk => match us, hl, ws, hk with | [_], _, [_], _ => rfl)
  have o_is_whole := own_of0 Fis_whole G_is_whole (glo_ok X G (c.t.d.fact 38 (f := .glo "is_whole") rfl)) 1 (by intro z; cases z) rfl (fun D _ _ _ _ _ us ks hl hk => match us, hl, ks, hk with | [_], _, [_], _ => ⟨_, _, _, _, _, _, rfl, rfl, rfl⟩)
  have o_refuse_degree := own_of Frefuse_degree (ok_refuse_degree (P := P) (w := w) (mg := mg) (base := base) (C := (kOf K 2)) Frefuse_degree mI_MOST_DEGREE o_is_number x_BadDegree o_init) (glo_ok X G (c.t.d.fact 40 (f := .glo "refuse_degree") rfl)) (fun _ _ _ _ _ _ us hl => match us, hl with | [_], _ => rfl)
  have o_count_on := own_of Fcount_on (ok_count_on (P := P) (w := w) (mg := mg) (base := base)  Fcount_on T) (glo_ok X G (c.t.d.fact 41 (f := .glo "count_on") rfl)) (fun _ _ _ _ _ _ us hl => match us, hl with | [_, _], _ => rfl)
  have G_least_whole := ok_least_whole (P := P) (w := w) (mg := mg) (base := base) (TT := (TL4 (cT K ("rest_power", none)).2 (cT K ("raw_power", none)).2 (cT K ("RawField", some "power")).2)) (C := kOf K) Fleast_whole T mX hX o_refuse_prime o_refuse_degree o_raw_whole o_count_on
  have k_least_whole := own_ofK (n := 1) (ks := ["prime"]) Fleast_whole G_least_whole (glo_ok X G (c.t.d.fact 39 (f := .glo "least_whole") rfl)) (fun _ _ _ _ _ _ us ws hl hk => match us, hl, ws, hk with | [_], _, [_], _ => rfl)
  have o_least_whole := own_of0 Fleast_whole G_least_whole (glo_ok X G (c.t.d.fact 39 (f := .glo "least_whole") rfl)) 1 (by intro z; cases z) rfl (fun D _ _ _ _ _ us ks hl hk => match us, hl, ks, hk with | [_], _, [_], _ => ⟨_, _, _, _, _, _, rfl, rfl, rfl⟩)
  have o_RawField_plain := ownM_of FRawField_plain (ok_RawField_plain (P := P) (w := w) (mg := mg) (base := base)  FRawField_plain KC) mt_RawField_plain cl_RawField (fun _ _ _ _ _ _ us hl => match us, hl with | [_, _], _ => rfl)
  have o_RawField_x_power := ownM_of FRawField_x_power (ok_RawField_x_power (P := P) (w := w) (mg := mg) (base := base) (TT := (TL4 (cT K ("rest_power", none)).2 (cT K ("raw_power", none)).2 (cT K ("RawField", some "power")).2)) FRawField_x_power KC o_raw_left o_padded) mt_RawField_x_power cl_RawField (fun _ _ _ _ _ _ us hl => match us, hl with | [_, _], _ => rfl)
  have o_RawField_has := ownM_of FRawField_has (ok_RawField_has (P := P) (w := w) (mg := mg) (base := base)  FRawField_has KC T o_is_rest) mt_RawField_has cl_RawField (fun _ _ _ _ _ _ us hl => match us, hl with | [_, _], _ => rfl)
  have o_weighedL := own_of Fweighed (l_weighed (P := P) (w := w) (mg := mg) (base := base)  Fweighed T) (glo_ok X G (c.t.d.fact 31 (f := .glo "weighed") rfl)) (fun _ _ _ _ _ _ us hl => match us, hl with | [_, _, _, _], _ => rfl)
  have o_RawField_turned := ownM_of FRawField_turned (ok_RawField_turned (P := P) (w := w) (mg := mg) (base := base)  FRawField_turned KC T o_weighed) mt_RawField_turned cl_RawField (fun _ _ _ _ _ _ us hl => match us, hl with | [_, _, _], _ => rfl)
  have o_RawField_orbit := ownM_of FRawField_orbit (ok_RawField_orbit (P := P) (w := w) (mg := mg) (base := base)  FRawField_orbit KC o_RawField_turned) mt_RawField_orbit cl_RawField (fun _ _ _ _ _ _ us hl => match us, hl with | [_, _], _ => rfl)
  have o_RawField_plus := ownM_of FRawField_plus (ok_RawField_plus (P := P) (w := w) (mg := mg) (base := base)  FRawField_plus KC T) mt_RawField_plus cl_RawField (fun _ _ _ _ _ _ us hl => match us, hl with | [_, _, _], _ => rfl)
  have o_RawField_minus := ownM_of FRawField_minus (ok_RawField_minus (P := P) (w := w) (mg := mg) (base := base)  FRawField_minus KC T) mt_RawField_minus cl_RawField (fun _ _ _ _ _ _ us hl => match us, hl with | [_, _, _], _ => rfl)
  have o_RawField_times := ownM_of FRawField_times (ok_RawField_times (P := P) (w := w) (mg := mg) (base := base)  FRawField_times KC T o_weighedL) mt_RawField_times cl_RawField (fun _ _ _ _ _ _ us hl => match us, hl with | [_, _, _], _ => rfl)
  have o_RawField_turn_sum := ownM_of FRawField_turn_sum (ok_RawField_turn_sum (P := P) (w := w) (mg := mg) (base := base)  FRawField_turn_sum KC T o_RawField_plus o_RawField_turned) mt_RawField_turn_sum cl_RawField (fun _ _ _ _ _ _ us hl => match us, hl with | [_, _, _], _ => rfl)
  have o_RawField_turn_product := ownM_of FRawField_turn_product (ok_RawField_turn_product (P := P) (w := w) (mg := mg) (base := base)  FRawField_turn_product KC T o_RawField_times o_RawField_turned) mt_RawField_turn_product cl_RawField (fun _ _ _ _ _ _ us hl => match us, hl with | [_, _, _], _ => rfl)
  have d_RawField := ownC_of FRawField___init (ok_RawField___init (P := P) (w := w) (mg := mg) (base := base) (TT := (TL4 (cT K ("rest_power", none)).2 (cT K ("raw_power", none)).2 (cT K ("RawField", some "power")).2)) FRawField___init KC T o_RawField_plain o_RawField_x_power o_turn_rows) mk_RawField (glo_ok X G (c.t.d.fact 7 (f := .glo "RawField") rfl)) (fun _ _ _ _ _ _ us hl => match us, hl with | [_, _, _], _ => rfl)
  have o_over_trimmed := own_of Fover_trimmed (ok_over_trimmed (P := P) (w := w) (mg := mg) (base := base) (CF := (ga K "Field")) (CR := (ga K "RawField")) Fover_trimmed KC T) (glo_ok X G (c.t.d.fact 35 (f := .glo "over_trimmed") rfl)) (fun _ _ _ _ _ _ us hl => match us, hl with | [_, _], _ => rfl)
  have o_raw_over_times := own_of Fraw_over_times (ok_raw_over_times (P := P) (w := w) (mg := mg) (base := base) (CF := (ga K "Field")) (CR := (ga K "RawField")) Fraw_over_times KC T o_RawField_plus o_RawField_times o_over_trimmed) (glo_ok X G (c.t.d.fact 36 (f := .glo "raw_over_times") rfl)) (fun _ _ _ _ _ _ us hl => match us, hl with | [_, _, _], _ => rfl)
  have o_raw_built := own_of Fraw_built (ok_raw_built (P := P) (w := w) (mg := mg) (base := base) (CF := (ga K "Field")) (CR := (ga K "RawField")) Fraw_built KC T o_RawField_minus o_raw_over_times) (glo_ok X G (c.t.d.fact 37 (f := .glo "raw_built") rfl)) (fun _ _ _ _ _ _ us hl => match us, hl with | [_, _], _ => rfl)
  have o_raw_undone := own_of Fraw_undone (ok_raw_undone (P := P) (w := w) (mg := mg) (base := base) (TT := (TL4 (cT K ("rest_power", none)).2 (cT K ("raw_power", none)).2 (cT K ("RawField", some "power")).2)) Fraw_undone T o_raw_parted o_raw_minus o_raw_times o_raw_scaled o_rest_power) (glo_ok X G (c.t.d.fact 28 (f := .glo "raw_undone") rfl)) (fun _ _ _ _ _ _ us hl => match us, hl with | [_, _, _], _ => rfl)
  have o_RawField_undone := ownM_of FRawField_undone (ok_RawField_undone (P := P) (w := w) (mg := mg) (base := base) (TT := (TL4 (cT K ("rest_power", none)).2 (cT K ("raw_power", none)).2 (cT K ("RawField", some "power")).2)) FRawField_undone KC o_q_trimmed o_raw_undone o_padded) mt_RawField_undone cl_RawField (fun _ _ _ _ _ _ us hl => match us, hl with | [_, _], _ => rfl)
  have G_power_by := ok_power_by (P := P) (w := w) (mg := mg) (base := base) (kl := 3) Fpower_by (glo_ok X G (c.t.d.fact 11 (f := .glo "power_by") rfl))
  have o_RawField_power := ownM_of FRawField_power (ok_RawField_power (P := P) (w := w) (mg := mg) (base := base) (TT := (TL4 (cT K ("rest_power", none)).2 (cT K ("raw_power", none)).2 (cT K ("RawField", some "power")).2)) FRawField_power KC (code_of (p := ("RawField", some "power")) FRawField_power) TB_RawField_power (List.mem_cons_of_mem _ (List.mem_cons_of_mem _ List.mem_cons_self)) hu3 G_power_by o_RawField_times) mt_RawField_power cl_RawField (fun _ _ _ _ _ _ us hl => match us, hl with | [_, _, _], _ => rfl)
  have o_refuse_numbers := own_of Frefuse_numbers (ok_refuse_numbers (P := P) (w := w) (mg := mg) (base := base) (CF := (ga K "Field")) (CR := (ga K "RawField")) (C := (kOf K 3)) Frefuse_numbers o_RawField_has x_BadNumber o_init) (glo_ok X G (c.t.d.fact 34 (f := .glo "refuse_numbers") rfl)) (fun _ _ _ _ _ _ us hl => match us, hl with | [_, _], _ => rfl)
  have o_refuse_rule := own_of Frefuse_rule (ok_refuse_rule (P := P) (w := w) (mg := mg) (base := base) (TT := (TL4 (cT K ("rest_power", none)).2 (cT K ("raw_power", none)).2 (cT K ("RawField", some "power")).2)) Frefuse_rule T mI_MOST_DEGREE o_refuse_polys o_raw_whole) (glo_ok X G (c.t.d.fact 44 (f := .glo "refuse_rule") rfl)) (fun _ _ _ _ _ _ us hl => match us, hl with | [_, _], _ => rfl)
  have o_refuse_count := own_of Frefuse_count (ok_refuse_count (P := P) (w := w) (mg := mg) (base := base)  Frefuse_count o_is_number) (glo_ok X G (c.t.d.fact 45 (f := .glo "refuse_count") rfl)) (fun _ _ _ _ _ _ us hl => match us, hl with | [_], _ => rfl)
  have o_refuse_rest := own_of Frefuse_rest (ok_refuse_rest (P := P) (w := w) (mg := mg) (base := base) (C := (kOf K 5)) Frefuse_rest o_is_rest x_BadRest o_init) (glo_ok X G (c.t.d.fact 16 (f := .glo "refuse_rest") rfl)) (fun _ _ _ _ _ _ us hl => match us, hl with | [_, _], _ => rfl)
  have G_Field___init := ok_Field___init (P := P) (w := w) (mg := mg) (base := base) (TT := (TL4 (cT K ("rest_power", none)).2 (cT K ("raw_power", none)).2 (cT K ("RawField", some "power")).2)) FField___init KC o_refuse_rule d_RawField
  have c_Field := ownCK_of (n := 1) (ks := ["prime"]) FField___init G_Field___init mk_Field (glo_ok X G (c.t.d.fact 8 (f := .glo "Field") rfl)) (fun _ _ _ _ _ _ us ws hl hk => match us, hl, ws, hk with | [_, _], _, [_], _ => rfl)
  have d_Field := ownC_of0 FField___init G_Field___init mk_Field (glo_ok X G (c.t.d.fact 8 (f := .glo "Field") rfl)) 2 (by intro z; cases z) rfl (fun D _ _ _ _ _ us ks hl hk => match us, hl, ks, hk with | [_, _], _, [_], _ => ⟨_, _, _, _, _, _, rfl, rfl, rfl⟩)
  have o_Field_prime := ownM_of FField_prime (ok_Field_prime (P := P) (w := w) (mg := mg) (base := base)  FField_prime KC) mt_Field_prime cl_Field (fun _ _ _ _ _ _ us hl => match us, hl with | [_], _ => rfl)
  have o_Field_size := ownM_of FField_size (ok_Field_size (P := P) (w := w) (mg := mg) (base := base)  FField_size KC) mt_Field_size cl_Field (fun _ _ _ _ _ _ us hl => match us, hl with | [_], _ => rfl)
  have o_Field_plain := ownM_of FField_plain (ok_Field_plain (P := P) (w := w) (mg := mg) (base := base) (C := kOf K) FField_plain KC o_refuse_rest o_RawField_plain) mt_Field_plain cl_Field (fun _ _ _ _ _ _ us hl => match us, hl with | [_, _], _ => rfl)
  have o_Field_plus := ownM_of FField_plus (ok_Field_plus (P := P) (w := w) (mg := mg) (base := base) (C := kOf K) FField_plus KC o_refuse_numbers o_RawField_plus) mt_Field_plus cl_Field (fun _ _ _ _ _ _ us hl => match us, hl with | [_, _, _], _ => rfl)
  have o_Field_minus := ownM_of FField_minus (ok_Field_minus (P := P) (w := w) (mg := mg) (base := base) (C := kOf K) FField_minus KC o_refuse_numbers o_RawField_minus) mt_Field_minus cl_Field (fun _ _ _ _ _ _ us hl => match us, hl with | [_, _, _], _ => rfl)
  have o_Field_times := ownM_of FField_times (ok_Field_times (P := P) (w := w) (mg := mg) (base := base) (C := kOf K) FField_times KC o_refuse_numbers o_RawField_times) mt_Field_times cl_Field (fun _ _ _ _ _ _ us hl => match us, hl with | [_, _, _], _ => rfl)
  have o_Field_undone := ownM_of FField_undone (ok_Field_undone (P := P) (w := w) (mg := mg) (base := base) (C := kOf K) (TT := (TL4 (cT K ("rest_power", none)).2 (cT K ("raw_power", none)).2 (cT K ("RawField", some "power")).2)) FField_undone KC o_refuse_numbers x_NoInverse o_init o_RawField_undone) mt_Field_undone cl_Field (fun _ _ _ _ _ _ us hl => match us, hl with | [_, _], _ => rfl)
  have o_Field_power := ownM_of FField_power (ok_Field_power (P := P) (w := w) (mg := mg) (base := base) (C := kOf K) (TT := (TL4 (cT K ("rest_power", none)).2 (cT K ("raw_power", none)).2 (cT K ("RawField", some "power")).2)) FField_power KC o_refuse_numbers o_refuse_count x_NoInverse o_init o_RawField_power) mt_Field_power cl_Field (fun _ _ _ _ _ _ us hl => match us, hl with | [_, _, _], _ => rfl)
  have G_Field_turned := ok_Field_turned (P := P) (w := w) (mg := mg) (base := base) (C := kOf K) FField_turned KC o_refuse_numbers o_refuse_count o_RawField_turned
  have k_Field_turned := ownMK_of (n := 1) (ks := ["steps"]) FField_turned G_Field_turned mt_Field_turned cl_Field (fun _ _ _ _ _ _ us ws hl hk => match us, hl, ws, hk with | [_, _], _, [_], _ => rfl)
  have o_Field_turned := ownM_of0 FField_turned G_Field_turned mt_Field_turned cl_Field 2 (by intro z; cases z) rfl (fun D _ _ _ _ _ us ks hl hk => match us, hl, ks, hk with | [_, _], _, [_], _ => ⟨_, _, _, _, _, _, rfl, rfl, rfl⟩)
  have o_Field_degree := ownM_of FField_degree (ok_Field_degree (P := P) (w := w) (mg := mg) (base := base) (C := kOf K) FField_degree T KC o_refuse_numbers o_RawField_orbit) mt_Field_degree cl_Field (fun _ _ _ _ _ _ us hl => match us, hl with | [_, _], _ => rfl)
  have o_Field_least := ownM_of FField_least (ok_Field_least (P := P) (w := w) (mg := mg) (base := base) (C := kOf K) FField_least KC T o_refuse_numbers o_RawField_orbit o_raw_built) mt_Field_least cl_Field (fun _ _ _ _ _ _ us hl => match us, hl with | [_, _], _ => rfl)
  have o_Field_trace := ownM_of FField_trace (ok_Field_trace (P := P) (w := w) (mg := mg) (base := base) (C := kOf K) FField_trace KC o_refuse_numbers o_RawField_turn_sum) mt_Field_trace cl_Field (fun _ _ _ _ _ _ us hl => match us, hl with | [_, _], _ => rfl)
  have o_Field_norm := ownM_of FField_norm (ok_Field_norm (P := P) (w := w) (mg := mg) (base := base) (C := kOf K) FField_norm KC o_refuse_numbers o_RawField_turn_product) mt_Field_norm cl_Field (fun _ _ _ _ _ _ us hl => match us, hl with | [_, _], _ => rfl)
  have o_Field_place := ownM_of FField_place (ok_Field_place (P := P) (w := w) (mg := mg) (base := base) (C := kOf K) FField_place KC T o_refuse_numbers) mt_Field_place cl_Field (fun _ _ _ _ _ _ us hl => match us, hl with | [_, _], _ => rfl)
  have o_Field_nth := ownM_of FField_nth (ok_Field_nth (P := P) (w := w) (mg := mg) (base := base) (C := kOf K) FField_nth KC T o_refuse_count x_BadNumber o_init) mt_Field_nth cl_Field (fun _ _ _ _ _ _ us hl => match us, hl with | [_, _], _ => rfl)
  have o_law_trim := own_of Flaw_trim (ok_law_trim (P := P) (w := w) (mg := mg) (base := base)  Flaw_trim T) (glo_ok X G (c.t.d.fact 49 (f := .glo "_law_trim") rfl)) (fun _ _ _ _ _ _ us hl => match us, hl with | [_], _ => rfl)
  have o_law_rests := own_of Flaw_rests (ok_law_rests (P := P) (w := w) (mg := mg) (base := base)  Flaw_rests T o_law_take) (glo_ok X G (c.t.d.fact 50 (f := .glo "_law_rests") rfl)) (fun _ _ _ _ _ _ us hl => match us, hl with | [_, _, _], _ => rfl)
  have o_law_blend := own_of Flaw_blend (ok_law_blend (P := P) (w := w) (mg := mg) (base := base)  Flaw_blend T o_law_trim) (glo_ok X G (c.t.d.fact 51 (f := .glo "_law_blend") rfl)) (fun _ _ _ _ _ _ us hl => match us, hl with | [_, _, _, _], _ => rfl)
  have o_law_conv := own_of Flaw_conv (ok_law_conv (P := P) (w := w) (mg := mg) (base := base)  Flaw_conv T) (glo_ok X G (c.t.d.fact 52 (f := .glo "_law_conv") rfl)) (fun _ _ _ _ _ _ us hl => match us, hl with | [_, _, _], _ => rfl)
  have o_law_mul := own_of Flaw_mul (ok_law_mul (P := P) (w := w) (mg := mg) (base := base)  Flaw_mul o_law_conv o_law_trim) (glo_ok X G (c.t.d.fact 53 (f := .glo "_law_mul") rfl)) (fun _ _ _ _ _ _ us hl => match us, hl with | [_, _, _], _ => rfl)
  have o_law_great := own_of Flaw_great (ok_law_great (P := P) (w := w) (mg := mg) (base := base)  Flaw_great o_law_of) (glo_ok X G (c.t.d.fact 54 (f := .glo "_law_great") rfl)) (fun _ _ _ _ _ _ us hl => match us, hl with | [_], _ => rfl)
  have o_law_shifted := own_of Flaw_shifted (ok_law_shifted (P := P) (w := w) (mg := mg) (base := base)  Flaw_shifted o_law_mul o_law_blend) (glo_ok X G (c.t.d.fact 55 (f := .glo "_law_shifted") rfl)) (fun _ _ _ _ _ _ us hl => match us, hl with | [_, _, _], _ => rfl)
  have o_law_great_rule := own_of Flaw_great_rule (ok_law_great_rule (P := P) (w := w) (mg := mg) (base := base) (C := kOf K) (TT := (TL4 (cT K ("rest_power", none)).2 (cT K ("raw_power", none)).2 (cT K ("RawField", some "power")).2)) Flaw_great_rule k_least_whole o_law_take o_law_shifted) (glo_ok X G (c.t.d.fact 56 (f := .glo "_law_great_rule") rfl)) (fun _ _ _ _ _ _ us hl => match us, hl with | [_, _, _], _ => rfl)
  have o_law_number := own_of Flaw_number (ok_law_number (P := P) (w := w) (mg := mg) (base := base)  Flaw_number T o_law_take o_law_rests) (glo_ok X G (c.t.d.fact 57 (f := .glo "_law_number") rfl)) (fun _ _ _ _ _ _ us hl => match us, hl with | [_, _, _], _ => rfl)
  have o_law_placed := own_of Flaw_placed (ok_law_placed (P := P) (w := w) (mg := mg) (base := base) (C := kOf K) (TT := (TL4 (cT K ("rest_power", none)).2 (cT K ("raw_power", none)).2 (cT K ("RawField", some "power")).2)) Flaw_placed T o_law_take o_law_of o_Field_prime o_Field_place o_Field_nth o_Field_times o_Field_power o_Field_plain) (glo_ok X G (c.t.d.fact 58 (f := .glo "_law_placed") rfl)) (fun _ _ _ _ _ _ us hl => match us, hl with | [_, _, _], _ => rfl)
  have o_law_least_right := own_of Flaw_least_right (ok_law_least_right (P := P) (w := w) (mg := mg) (base := base) (C := kOf K) (TT := (TL4 (cT K ("rest_power", none)).2 (cT K ("raw_power", none)).2 (cT K ("RawField", some "power")).2)) Flaw_least_right T o_Field_least o_Field_plain o_Field_plus o_Field_times o_Field_degree k_is_whole) (glo_ok X G (c.t.d.fact 59 (f := .glo "_law_least_right") rfl)) (fun _ _ _ _ _ _ us hl => match us, hl with | [_, _, _], _ => rfl)
  exact ok_law (C := kOf K) Flaw T o_law_begin o_law_take o_law_great o_law_great_rule o_law_number o_law_least_right o_law_placed c_Field o_Field_plain o_Field_plus o_Field_minus o_Field_times o_Field_undone o_Field_power k_Field_turned o_Field_turned o_Field_size o_Field_trace o_Field_norm
end
end Xk
end
set_option Elab.async false
set_option linter.all false
set_option maxRecDepth 100000
set_option maxHeartbeats 0
open PySem PySem.W PySem.Calls PyProof.Rows
theorem PySem.Challenge.cw_rungfields_k26_whole_fields_are_fields_holds : PySem.Challenge.rw_rungfields_k26_whole_fields_are_fields.Holds := by
  w_on; o_law
  refine HandSHeadRun.head_any (r := OpenLaw.row PySem.Challenge.rw_rungfields_k26_whole_fields_are_fields) (q := view (OpenLaw.row PySem.Challenge.rw_rungfields_k26_whole_fields_are_fields).prog [94]) (H := Xk.hk) (ob := Xk.ob) (M := 18000) (loose := Xk.loL) (d := HandSHeadRun.topDef (OpenLaw.row PySem.Challenge.rw_rungfields_k26_whole_fields_are_fields).prog 94) (kwd := []) Xk.ob_eq
    (by kernel_rfl) (fun s => by kernel_rfl) Xk.run (by kernel_rfl) (by kernel_rfl) (by kernel_rfl) (by rfl) (by first | assumption | decide +kernel) (by decide +kernel) ⟨rfl, rfl, rfl, rfl, rfl, by decide +kernel⟩ ?hw ?hc
  case hw => w_witness2
  case hc =>
    refine LamX.walk_ofTsE (l := PySem.Challenge.rw_rungfields_k26_whole_fields_are_fields) (n := 63) (k := 15) (x := "_law_script") (CX := fun _ => L2.CX0) rfl (by decide) (by kernel_rfl) ⟨rfl, by decide, by decide⟩ ?F (fun _ _ _ _ _ z => z)
    intro w mg fa h Y G hmg0
    obtain ⟨K, KX, c⟩ := Y
    have hmg : mg ("law" : PySem.Str) = some (.ref fa) := by
      have e : (HandSHeadRun.topDef (OpenLaw.row PySem.Challenge.rw_rungfields_k26_whole_fields_are_fields).prog 94).name = ("law" : PySem.Str) := by kernel_rfl
      rw [← e]
      exact hmg0
    obtain ⟨fd, hb, hF⟩ := Xk.facts (P := (PySem.Challenge.rw_rungfields_k26_whole_fields_are_fields).prog) (w := w) KX G hmg c
    have m1 : (("rest_power", none) : He.Defn) ∈ ([("rest_power", none), ("raw_power", none), ("RawField", some "power")] : List He.Defn) := List.mem_cons_self
    have m2 : (("raw_power", none) : He.Defn) ∈ ([("rest_power", none), ("raw_power", none), ("RawField", some "power")] : List He.Defn) := List.mem_cons_of_mem _ (List.mem_cons_self)
    have m3 : (("RawField", some "power") : He.Defn) ∈ ([("rest_power", none), ("raw_power", none), ("RawField", some "power")] : List He.Defn) := List.mem_cons_of_mem _ (List.mem_cons_of_mem _ ((List.mem_singleton.mpr rfl)))
    refine ⟨K, KX, fd, [He.cT K ("rest_power", none), He.cT K ("raw_power", none), He.cT K ("RawField", some "power")], Xk.spLaw K (He.cT K ("rest_power", none)).2 (He.cT K ("raw_power", none)).2 (He.cT K ("RawField", some "power")).2, ?_, ?_, ?_, hb, ?_, ?_⟩
    · intro p hp
      rcases List.mem_cons.mp hp with rfl | hp
      · exact c.empty _ m1
      rcases List.mem_cons.mp hp with rfl | hp
      · exact c.empty _ m2
      rw [List.mem_singleton.mp hp]
      exact c.empty _ m3
    · intro p hp
      rcases List.mem_cons.mp hp with rfl | hp
      · exact c.out _ m1
      rcases List.mem_cons.mp hp with rfl | hp
      · exact c.out _ m2
      rw [List.mem_singleton.mp hp]
      exact c.out _ m3
    · intro p hp
      rcases List.mem_cons.mp hp with rfl | hp
      · exact PySem.W.codeHd_of_K KX (c.hd _ m1)
      rcases List.mem_cons.mp hp with rfl | hp
      · exact PySem.W.codeHd_of_K KX (c.hd _ m2)
      rw [List.mem_singleton.mp hp]
      exact PySem.W.codeHd_of_K KX (c.hd _ m3)
    · intro H a ns hl _ hT hS
      refine ⟨a, ns, rfl, hS, fun p hp => ?_, fun _ => rfl⟩
      rcases List.mem_cons.mp hp with rfl | hp
      · exact LamX.TabS.nil (hT _ (List.mem_cons_self))
      rcases List.mem_cons.mp hp with rfl | hp
      · exact LamX.TabS.nil (hT _ (List.mem_cons_of_mem _ (List.mem_cons_self)))
      rw [List.mem_singleton.mp hp]
      exact LamX.TabS.nil (hT _ (List.mem_cons_of_mem _ (List.mem_cons_of_mem _ ((List.mem_singleton.mpr rfl)))))
    · intro base _ _ hTB
      exact hF base (hTB _ (List.mem_cons_self)) (hTB _ (List.mem_cons_of_mem _ (List.mem_cons_self))) (hTB _ (List.mem_cons_of_mem _ (List.mem_cons_of_mem _ ((List.mem_singleton.mpr rfl)))))
