import PyProof.Rows.All
import Wide.All
import OpenK.AllK
import Wide.FinOn
import KE.KTypeName
import KE.KTryMore
import HandS.ForMost
import HandS.ForExc
import HandS.ExcInit
import HandS.ExcIs
import HandS.ExcField
import HandS.Star
import HandS.Defaults
import HandS.TryMany
import HandS.Lambda
import HandS.EndTab
import HandS.IsInst
import HandS.Wide
import HandS.WideMore
import HandS.Codes
import HandS.Flow
import HandS.Zip
import HandS.Walk
import HandS.Iter
import KE.GoesEnum
import PySem.Challenge.RW_rungfields_k18_rows_made_or_barred
import HandS.Nested
import KE.KEqSeq
import HandS.TupMul
import HandS.TupAny
import HandS.SetFor
import HandS.Strs
import HandS.More
import HandS.Comp
import HandS.DictComp
import HandS.Dict
import HandS.ClsMeth
import HandS.AnyAll
import HandS.Head0
import HandS.Head1
import HandS.Head2
import HandS.HeadHook1
import HandS.HeadHook2
import HandS.HeadHook3
import HandS.HeadHook4
import HandS.HeadWalk
import HandS.HeadEnd
section
set_option Elab.async false
set_option linter.all false
set_option maxRecDepth 100000
set_option maxHeartbeats 2000000
/-! An own exception in the making: `self.__class__.__name__`. -/
namespace Xh
open PySem PySem.W PySem.Calls PyProof.Rows PySem.HandSPX Builtin Builtin.ObjectAttr Builtin.Getset_descriptor
section
variable {prog : Program} {w : World} {A : Around} {E : Value → Shared → Prop} {R : Result → Shared → Prop} {s : Shared} {K : Frag} {x D : Addr} {ox : Obj}
/-- x.__class__ of an exception without a dict of its own as yet -/
theorem exc_class {expr : Bool} {Q : Value → Shared → Prop} (hga : findIn K (.ref D) "__getattribute__" = some (some (.builtin "BaseException.__getattribute__"))) (hgt : findIn K (.ref D) "__getattr__" = some none) (hsub : subIn K (.ref D) (.type "BaseException") = some true)
    (hdct : hasDictIn K D = true) (ha : findIn K (.ref D) "__class__" = some (some (.builtin "object.__class__")))
    (hn : specialIn K (.builtin "object.__class__") "__get__" = some (some (.builtin "getset_descriptor.__get__"))) (htk : takesIn K (.builtin "object.__class__") = some true) (hm : mroIn K D (.type "object") = some true)
    (X : K.In s.heap) (I : InstAt s.heap x ox D none) (h : Q (.ref D) { s with toks := s.toks + 1 }) : wpAny (model prog w) A (getAttr (.ref x) "__class__" expr) Q E s := by
  have hf : findObj K D none "__class__" = some (.bind (.builtin "getset_descriptor.__get__") (.builtin "object.__class__")) := findObj_dataN (by obtain ⟨cd, hc, _⟩ := any_some hdct; rw [hc]; rfl) ha hn htk
  obtain ⟨hp, g, d, t, os⟩ := s
  have L0 := I.type (M := model prog w)
  have L1 := looks_findIn (M := model prog w) X hga
  have L2 := looks_findIn (M := model prog w) X hgt
  have L3 := looks_find (M := model prog w) X I hf
  have sub : Looks (model prog w) hp (isInstance (.ref x) (.type "BaseException")) true := L0.andThen (looks_subIn X hsub)
  have hx0 : (expr && onTheHeap (Value.builtin "BaseException.__getattribute__")) = false := by cases expr <;> rfl
  have hx2 : (Value.builtin "BaseException.__getattribute__" == Value.builtin "object.__getattribute__") = false := by decide +kernel
  have hx1 : (onTheHeap (Value.ref D) && Value.builtin "BaseException.__getattribute__" == Value.builtin "object.__getattribute__") = false := by rw [hx2]; rfl
  unfold getAttr getAttrBy
  refine wpAny_bind (wpAny_mkText (wpAny_holding (wpAny_bind (L0.at (wpAny_bind (L1.at ?_))))))
  show wpAny _ _ (if (onTheHeap (Value.ref D) && Value.builtin "BaseException.__getattribute__" == Value.builtin "object.__getattribute__") = true then _ else _) _ _ _
  rw [hx1, if_neg Bool.false_ne_true]
  unfold getAttrByItsOwn hookBefore
  refine wpAny_bind ?_
  rw [if_pos (show onTheHeap (Value.ref D) = true from rfl)]
  refine L2.at ?_
  refine wpAny_bind (wpAny_attempt (wpAny_holding ?_))
  unfold callGetattribute
  rw [hx0, if_neg Bool.false_ne_true]
  unfold boundAndCalled
  rw [PySem.F.excAttr_ValueError.ga.bind (.ref x)]
  refine wpAny_bind (wpAny_pure ?_)
  show wpAny _ _ (call (.builtin "BaseException.__getattribute__") [.ref x, .str "__class__" t]) _ _ _
  refine wpAny_call (codeAny_call_builtin PySem.F.excAttr_ValueError.ga.plain PySem.F.entry_bexc_ga ?_)
  refine @check_slot (model prog w) _ _ ⟨hp, g, d, t + 1, os⟩ "BaseException.__getattribute__" "BaseException" "__getattribute__" (.ref x) [.str "__class__" t] [] _ (by decide +kernel) (by decide +kernel) sub (PySem.F.args_bexc_ga (.ref x) (.str "__class__" t)) ?_
  unfold Builtin.«object.__getattribute__»
  refine wpAny_bind (wpAny_of_eq (a := ((Value.ref x : Value), [Value.str "__class__" t])) (by first | rfl | (simp only [slotArgs]; rfl)) ?_)
  refine wpAny_bind (wpAny_pure (wpAny_bind (L0.at (wpAny_bind (L3.at ?_)))))
  show wpAny _ _ (holding [Value.builtin "object.__class__"] (call (.builtin "getset_descriptor.__get__") [.builtin "object.__class__", .ref x, .ref D]) >>= ret) _ _ _
  refine wpAny_bind (wpAny_holding (wpAny_call (class_get (s := ⟨hp, g, d, t + 1, os⟩) (ox := ox) (od := none) X I hm ?_)))
  refine wpAny_pure ?_
  show wpAny _ _ (handedOut (.ref D)) _ _ _
  rw [handedOut_of (v := .ref D) rfl]
  exact wpAny_pure h
/-- type.__name__ of an own class: what its third slot holds -/
theorem name_get {C : Addr} {tp : Value} {cd : ClassData} {dd : Option Addr} {sl : Array (Option Value)} {v : Value} (hC : K.lookup C = some ⟨.type "type", dd, .cls cd, sl⟩) (hs : (sl[2]?).join = some v) (X : K.In s.heap)
    (h : R (.ok (.ret v)) s) : codeAny (model prog w) A (.call (.builtin "getset_descriptor.__get__") ⟨[.builtin "type.__name__", .ref C, tp], []⟩) R s := by
  obtain ⟨hh, g, dr, t, os⟩ := s
  have hg := X _ _ hC
  have L0 : Looks (model prog w) hh (typeOf (.ref C)) (.type "type") := fun A Q E s k q => wpAny_typeOf_ref (k _ _ hg) q
  have L1 : Looks (model prog w) hh (isSubtype (.type "type") (.type "type")) true := Looks.of_pure (by rw [isSubtype_type]; kernel_rfl)
  refine codeAny_call_builtin KF.slot_gs.plain KF.entry_gs (KF.slot_gs.check _ _ _ _ _ _ _ _ ktyn_type (KF.args_gs _ _ _) ?_)
  unfold Builtin.«getset_descriptor.__get__» descrGet
  rw [dga_obj]
  refine wpAny_bind (wpAny_pure ?_)
  unfold descrGetter descrCheckInstance descrNameAndClass isInstance
  simp only [ktyn_owner]
  repeat lk
  refine ⟨Code.quiet_builtin _ (by decide +kernel), codeAny_builtin ktyn_entry ?_⟩
  unfold Builtin.«type.__name__»
  dsimp only
  unfold keptObject slotAt
  dsimp only
  refine wpAny_bind (wpAny_bind (wpAny_loadPart hg ?_))
  refine wpAny_pure ?_
  dsimp only
  rw [hs]
  dsimp only
  exact wpAny_pure h
/-- C.__name__, C an own class -/
theorem cls_name {C : Addr} {cd : ClassData} {dd : Option Addr} {sl : Array (Option Value)} {v : Value} {expr : Bool} {Q : Value → Shared → Prop} (hC : K.lookup C = some ⟨.type "type", dd, .cls cd, sl⟩) (hs : (sl[2]?).join = some v) (hv : handedIn v = true)
    (hr : readsIn K C (.type "type") = true) (e : findCls K (.ref C) (.type "type") "__name__" = some (.get (.builtin "getset_descriptor.__get__") (.builtin "type.__name__") (.ref C) (.type "type")))
    (X : K.In s.heap) (h : Q v { s with toks := s.toks + 1 }) : wpAny (model prog w) A (getAttr (.ref C) "__name__" expr) Q E s :=
  cls_bind X hr e (wpAny_call (name_get hC hs X (handed_on hv h)))
end
end Xh
namespace L2
open PySem PySem.Spec PyProof.Rows
/-- what the written part says of an own exception class C of the name nm -/
structure RC (K : PySem.W.Frag) (C : Addr) (nm : Str) : Prop where
  o : OexC K C
  x : ExcC K C
  rd : PySem.W.readsIn K C (.type "type") = true
  fn : PySem.W.findCls K (.ref C) (.type "type") "__name__" = some (.get (.builtin "getset_descriptor.__get__") (.builtin "type.__name__") (.ref C) (.type "type"))
  nm : ∃ cd dd sl t, K.lookup C = some ⟨.type "type", dd, .cls cd, sl⟩ ∧ (sl[2]?).join = some (.str nm t)
section
variable {X : Cx} {o : Expr} {to : TE} {p q : Pos}
/-- e.__class__.__name__, e an exception in the making, without a dict as yet -/
def tClsNm (K : PySem.W.Frag) (to : TE) : TE := fun σ H Q => to σ H fun x H1 => ∃ (a C : Addr) (nm : Str), x = .ref a ∧ RC K C nm ∧ H1 a = some (exo a C none) ∧ Q (.str nm) H1
theorem pe_clsnm (ho : PE X o to) (h1 : attributeBase o "__class__" X.env (eval o X.env) = eval o X.env := by rfl)
    (h2 : attributeBase (.Attribute o "__class__" p) "__name__" X.env (eval (.Attribute o "__class__" p) X.env) = eval (.Attribute o "__class__" p) X.env := by rfl) :
    PE X (.Attribute (.Attribute o "__class__" p) "__name__" q) (tClsNm X.K to) := by
  refine ⟨fun pins s σ H Q I h => ?_⟩
  refine attr_of h2 (attr_of h1 (thn (ho.run pins s σ H _ I h) fun u s1 hh => ?_))
  obtain ⟨x, H1, I1, rx, a, C, nm, ex, T, ha, q⟩ := hh
  subst ex
  obtain rfl : u = Value.ref a := rx
  obtain ⟨t1, hg⟩ := exo_at I1.hok ha
  obtain ⟨cd, dd, sl, t, hC, hs⟩ := T.nm
  have J : PySem.W.InstAt s1.heap a { cls := .ref C, dict := none, data := .fields #[.ref t1, .none, .none, .none, .bool false, .none] } C none := ⟨hg, rfl, rfl, trivial⟩
  refine Xh.exc_class T.x.hg T.x.hk T.x.hs T.x.hd T.x.ha T.x.hn T.x.ht T.x.hm I1.kIn J ?_
  have I2 := I1.tok (s1.toks + 1)
  refine Xh.cls_name hC hs rfl T.rd T.fn I2.kIn ?_
  exact ⟨.str nm, H1, I2.tok _, ⟨t, rfl⟩, q⟩
end
end L2
end
section
set_option Elab.async false
set_option linter.all false
set_option maxRecDepth 100000
set_option maxHeartbeats 2000000
namespace L2
open PySem PySem.Spec PyProof.Rows
/-! ### RungError.__init__(self, *told): self.word = self.__class__.__name__ -/
/-- C() where C's __init__ takes only what is left over -/
def tMkO0 (C : Addr) (sp : Sp) : St → Hp → XK → Prop := fun σ H Q => ∀ a, H a = none → sp [.ref a] (upd H a (exo a C none))
  (fun v H2 => v = .non ∧ ∃ (d : Addr) (fs : List (Str × V)), H2 a = some (exo a C (some d)) ∧ H2 d = some (exd d fs) ∧ H d = none ∧ Q (.ref C) (some d) (upd (del H2 a) d (.xd fs))) (fun _ _ _ => False)
section
variable {X : Cx} {p pos : Pos}
theorem pmk_oex0 {CX : CXT} {x : Str} {C fI : Addr} {k : Nat} {sp : Sp} (T : OexC X.K C) (iC : PySem.W.findIn X.K (.ref C) "__init__" = some (some (.ref fI))) (tI : PySem.W.typeIn X.K (.ref fI) = some (.type "function"))
    (F1 : FnR X.prog X.w X.K X.mg X.base CX k fI sp) (hr : Room (k + 1) X.A) (hx : Passes CX X (fun _ _ _ => False)) (hg : Gl X x) (hm : X.mg x = some (.ref C))
    (hdb : (x == ("__debug__" : Str)) = false := by decide) :
    PMk X (.Call (.Name x p) [] [] pos) (tMkO0 C sp) := by
  intro pins s σ H Q I h
  obtain ⟨nm, q, N, bs, bm, sn, sub, ab, col, dd, k0, k1, k2, k3, k5, hC, hbm⟩ := T.cls
  refine wpAny_Call_Name_kw (ld_glob I hg hm ?_ hdb)
  refine PySem.W.callWith_K0 I.kIn T.kC ?_
  show wpAny _ _ (call (.ref C) []) _ _ _
  obtain ⟨hp, g, dr, tk, os⟩ := s
  have hsz : hp.objs.size ≤ hp.objs.size + 1 := Nat.le_succ _
  have hn : H (hp.objs.size + 1) = none := I.hok.fresh hsz
  have hq := h (hp.objs.size + 1) hn
  have kk : ∀ b o, hp.get? b = some o → ((hp.push (PySem.W.kdv_tup [])).push (PySem.HandSPX.excO C hp.objs.size)).get? b = some o := fun b o e => Heap.get?_push_of_some _ (Heap.get?_push_of_some _ e)
  have hget : ((hp.push (PySem.W.kdv_tup [])).push (PySem.HandSPX.excO C hp.objs.size)).get? (hp.objs.size + 1) = some (PySem.HandSPX.excO C hp.objs.size) := by heap_get
  have I2 : Inv X pins σ (upd H (hp.objs.size + 1) (exo (hp.objs.size + 1) C none)) ⟨(hp.push (PySem.W.kdv_tup [])).push (PySem.HandSPX.excO C hp.objs.size), g, dr, tk, os⟩ :=
    I.laid (t' := tk) (a := hp.objs.size + 1) (o := exo (hp.objs.size + 1) C none) (h' := (hp.push (PySem.W.kdv_tup [])).push (PySem.HandSPX.excO C hp.objs.size)) kk hsz (exo_ok hget)
  have r2 : Vals [V.ref (hp.objs.size + 1)] [Value.ref (hp.objs.size + 1)] := .cons rfl .nil
  refine wpAny_call (PySem.HandSPX.call_own F.excBase_ValueError (fun Y => PySem.HandSPX.refsVE_contains Y bm hbm) (I.kIn _ _ hC) (PySem.W.looks_findIn I.kIn iC) (fun self => PySem.W.bind_fn I.kIn self tI) (by rw [sizeLine_eq]; exact Nat.zero_le _)
    (codeAny_mono (F1 _ X.stack _ _ [Value.ref (hp.objs.size + 1)] [V.ref (hp.objs.size + 1)] _ (fun _ _ _ => False) (hr.make C [] []) (I2.env0.make C [] []) r2 hq) fun r s' hq' => ?_))
  cases r with
  | error er => exact hx pins σ _ _ er s' I2 hq'
  | ok fl =>
    cases fl with
    | ret u =>
      obtain ⟨v, H2, os2, bare2, un2, hok2, rv, ev, d, fs, ea, ed, hd1, q2⟩ := hq'
      subst ev
      obtain ⟨h2, g2, d2, t2, os'⟩ := s'
      exact ⟨rv, mk_end (raises_own T.exC T.tyC) I hsz kk un2 hok2 os2 bare2 ea ed hd1 q2⟩
    | next => exact False.elim hq'
    | brk => exact False.elim hq'
    | cont => exact False.elim hq'
end
end L2
namespace Xh
open PySem PySem.Spec PyProof.Rows L2
/-- what RungError.__init__ promises: self an exception in the making, told a new tuple -/
def spRI (K : PySem.W.Frag) : Sp := fun vs H Q E => ∃ (a p C : Addr) (nm : Str), vs = [.ref a, .ref p] ∧ RC K C nm ∧ PySem.W.findIn K (.ref C) "word" = some none ∧ H a = some (exo a C none) ∧
  ∀ dx, H dx = none → dx ≠ a → Q .non (upd (upd H dx (exd dx [("word", .str nm)])) a (exo a C (some dx)))
/-- .. as it is called -/
def spRI1 (K : PySem.W.Frag) : Sp := fun vs H Q E => ∃ (a C : Addr) (nm : Str), vs = [.ref a] ∧ RC K C nm ∧ PySem.W.findIn K (.ref C) "word" = some none ∧ H a = some (exo a C none) ∧
  ∀ H1 dx, H dx = none → dx ≠ a → Same H H1 → H1 dx = none → Q .non (upd (upd H1 dx (exd dx [("word", .str nm)])) a (exo a C (some dx)))
section
variable {P : Program} {w : World} {K : PySem.W.Frag} {mg : Str → Option Value} {base : Heap}
theorem ok_rinit {st : Stmt} {f : Addr} {fd : FuncData} (F : FunD K "__init__" "RungError.__init__" (defArgs st) (defBody st) (defScope st) [] [] f fd) (S : FnScope (["self", "told"] : List Str) ["self", "told"] (defScope st))
    (hb : ∀ (kV doc pm : Value) (an : Option Addr) (cdv ct : Value) (us rest : List Value), us.length = ["self"].length → bindArgs (PySem.W.fnOf "__init__" "RungError.__init__" (defArgs st) (defBody st) (defScope st) .none kV doc pm an cdv ct) ⟨us ++ rest, []⟩ = (newTuple rest >>= fun t => pure ((["self"] : List Str).zip us ++ [(("told" : Str), t)])))
    (body : ∀ X : Cx, X.K = K → X.N = (["self", "told"] : List Str) → X.env.scope = defScope st → PSs X (defBody st) (tOst K "word" (tVar 0) (tClsNm K (tVar 0)))) : FnR P w K mg base (L2.CX P w) 1 f (spRI1 K) := by
  obtain ⟨oc, od, dV, kV, doc, pm, an, cdv, ct, osl, rfl, lk, hcd, hD, _⟩ := F.ex
  rcases hD with ⟨_, rfl⟩ | ⟨e, _⟩
  case inr => exact absurd rfl e
  have G := StX.fn_star (CX := L2.CX P w) (P := P) (w := w) (mg := mg) (base := base) (k := 0) (ps := ["self"]) (pv := "told") (N := ["self", "told"]) (sp := spRI K) lk hcd S StX.cxUp (hb kV doc pm an cdv ct) (fun A outer s H vs Q E hr h => ?_)
  · intro A outer s H us vs Q E hr e0 r h
    obtain ⟨a, C, nm, rfl, T, hw, ha, k⟩ := h
    refine G A outer s H us _ Q E hr e0 r ⟨[.ref a], [], rfl, rfl, by rw [sizeLine_eq]; exact Nat.zero_le _, fun p hp => ⟨a, p, C, nm, rfl, T, hw, by rw [upd_ne (ne_of_none ha hp)]; exact ha, fun dx hdx hne => ?_⟩⟩
    have hdp : dx ≠ p := fun z => by rw [z, upd_same] at hdx; cases hdx
    refine k _ dx (by rw [upd_ne hdp] at hdx; exact hdx) hne (fun b o e => by rw [upd_ne (ne_of_none e hp)]; exact e) hdx
  · obtain ⟨a, p, C, nm, rfl, T, hw, ha, k⟩ := h
    refine ⟨_, body _ rfl rfl rfl, ?_⟩
    refine ⟨_, rfl, a, C, nm, rfl, T, ha, _, rfl, a, C, rfl, T.o, hw, .inl ⟨ha, fun dx hdx hne => k dx hdx hne⟩⟩
/-- a class whose objects RungError.__init__ alone makes -/
structure RX (K : PySem.W.Frag) (mg : Str → Option Value) (C fI : Addr) (nm : Str) : Prop where
  c : RC K C nm
  w : PySem.W.findIn K (.ref C) "word" = some none
  i : PySem.W.findIn K (.ref C) "__init__" = some (some (.ref fI))
  t : PySem.W.typeIn K (.ref fI) = some (.type "function")
  g : mg nm = some (.ref C)
/-- raise C(): its word -/
def tMkR (C : Addr) (nm : Str) : L2.St → Hp → XK → Prop := fun _ H Q => ∀ (d : Addr) (H' : Hp), Same H H' → H' d = some (.xd [("word", .str nm)]) → H d = none → Q (.ref C) (some d) H'
theorem pmk_rung {X : Cx} {C fI : Addr} {nm : Str} {p pos : Pos} (T : RX X.K X.mg C fI nm) (F : FnR X.prog X.w X.K X.mg X.base (L2.CX X.prog X.w) 1 fI (spRI1 X.K)) (hr : Room 2 X.A) (hg : Gl X nm) (hdb : (nm == ("__debug__" : Str)) = false := by decide) :
    PMk X (.Call (.Name nm p) [] [] pos) (tMkR C nm) := by
  intro pins s σ H Q I h
  refine pmk_oex0 T.c.o T.i T.t F hr passL hg T.g hdb pins s σ H Q I fun a ha => ?_
  refine ⟨a, C, nm, rfl, T.c, T.w, upd_same, fun H1 dx hdx hne hs h1 => ⟨rfl, dx, _, upd_same, by rw [upd_ne hne, upd_same], by rw [upd_ne hne] at hdx; exact hdx, ?_⟩⟩
  have hdx' : H dx = none := by rw [upd_ne hne] at hdx; exact hdx
  refine h dx _ (fun b o e => ?_) upd_same hdx'
  have h2 : b ≠ a := ne_of_none e ha
  have h3 : b ≠ dx := ne_of_none e hdx'
  rw [upd_ne h3, del_ne h2, upd_ne h2, upd_ne h3]
  exact hs b o (by rw [upd_ne h2]; exact e)
end
end Xh
end
section
set_option Elab.async false
set_option linter.all false
set_option maxRecDepth 100000
set_option maxHeartbeats 2000000
/-! several except clauses, each with a class or a tuple of classes, with or without a name -/
namespace Xh
open PySem PySem.Spec PyProof.Rows L2
/-- what a clause's test tells: its classes -/
def TestE (X : Cx) (te : Expr) (cs : List Value) : Prop :=
  ∀ (a : Addr) (pn : List (Addr × Obj)) (s : Shared) (σ : L2.St) (H : Hp) (cls : Value) (b : Bool), Inv (X.suite a pn) [] σ H s → PySem.W.Looks (model X.prog X.w) s.heap (typeOf (.ref a)) cls → PySem.W.exmAny X.K cls cs = some b →
    ∀ (Q : Bool → Shared → Prop) (E : Value → Shared → Prop), (∀ (h' : Heap) (tk : Nat), (∀ c o, s.heap.get? c = some o → h'.get? c = some o) → Q b { s with heap := h', toks := tk }) →
      wpAny (model X.prog X.w) (X.A.mark (some (.ref a))) (eval te X.env) (fun c s₁ => wpAny (model X.prog X.w) (X.A.mark (some (.ref a))) (excMatches (.ref a) c) Q E s₁) E s
theorem testName {X : Cx} {x : Str} {c : Value} {np : Pos} (hc : Names X x c) : TestE X (.Name x np) [c] := by
  intro a pn s σ H cls b I LT hx Q E hq
  obtain ⟨b1, d1, h1, h2, h3⟩ := PySem.W.exmAny_cons hx
  have e2 : d1 = false := (Option.some.inj h2).symm
  subst e2
  rw [Bool.or_false] at h3
  subst h3
  have LM := PySem.W.exm_one (M := model X.prog X.w) I.kIn LT h1
  have q : Q b s := by
    obtain ⟨hp, g, d, tk, os⟩ := s
    exact hq hp tk fun _ _ e => e
  obtain ⟨hg, hdbg, hm | ⟨hm, hv, hnn⟩⟩ := hc
  · exact ld_glob (X := X.suite a pn) I hg hm (LM.here q) hdbg
  · exact ld_blt (X := X.suite a pn) I hg hm hv (LM.here q) hnn hdbg
theorem testTup2 {X : Cx} {x y : Str} {C D : Addr} {p1 p2 pos : Pos} {k} (hx : Gl X x) (hmx : X.mg x = some (.ref C)) (hy : Gl X y) (hmy : X.mg y = some (.ref D)) (hdx : (x == ("__debug__" : Str)) = false := by decide) (hdy : (y == ("__debug__" : Str)) = false := by decide) :
    TestE X (.Tuple [.Name x p1, .Name y p2] k pos) [.ref C, .ref D] := by
  intro a pn s σ H cls b I LT hb Q E hq
  obtain ⟨hp, g, d, tk, os⟩ := s
  refine wpAny_Tuple_spliced ?_
  show wpAny _ _ (spliced ((false, eval (.Name x p1) X.env) :: (false, eval (.Name y p2) X.env) :: [])) _ _ _
  refine Calls.spliced_cons (ld_glob (X := X.suite a pn) I hx hmx (Calls.spliced_cons (ld_glob (X := X.suite a pn) I hy hmy (Calls.spliced_nil ⟨by rw [sizeLine_eq]; exact (by decide : 2 ≤ 16777216), ?_⟩) hdy)) hdx)
  have kk : ∀ b o, hp.get? b = some o → (hp.push ({ cls := .type "tuple", data := .seq [Value.ref C, Value.ref D].toArray } : Obj)).get? b = some o := fun b o e => Heap.get?_push_of_some _ e
  have LM := PySem.W.exm_tup2 (M := model X.prog X.w) (K := X.K) (I.kIn.keeps kk) (LT.keeps kk) (Heap.get?_push_size _ rfl) hb
  exact LM.here (hq _ tk kk)
/-- a clause: its test, its name's slot (if any), its suite -/
abbrev Cl : Type := List Value × Option Nat × (Addr → Value → Option Addr → TS)
/-- the ends behind a suite: the clause's name is gone -/
def outOf (D : Ends) : Option Nat → Ends
  | none => D
  | some i => { nx := fun σ' H' => D.nx (σ'.set i none) H', rt := D.rt, bk := fun σ' H' => D.bk (σ'.set i none) H', ct := fun σ' H' => D.ct (σ'.set i none) H' }
def intoS (σ : L2.St) (a : Addr) : Option Nat → L2.St
  | none => σ
  | some i => σ.set i (some (.ref a))
/-- what the clauses wish of an exception of the body, one after the other -/
def wClauses (K : PySem.W.Frag) (Wout : WX) (D : Ends) : List Cl → WX
  | [] => Wout
  | (cs, n, ts) :: r => fun cls d σ H => ∃ b, PySem.W.exmAny K cls cs = some b ∧ (b = true → ∀ a, H a = none → ts a cls d (outOf D n) (intoS σ a n) H) ∧ (b = false → wClauses K Wout D r cls d σ H)
inductive ClsOk (X : Cx) : List ExceptHandler → List Cl → Prop
  | nil : ClsOk X [] []
  | cons {te : Expr} {cs : List Value} {ts : Addr → Value → Option Addr → TS} {b₀ : Stmt} {suite : List Stmt} {pos' : Pos} {hds : List ExceptHandler} {l : List Cl} (hc : TestE X te cs)
      (hsu : ∀ (a : Addr) (oe : Obj) (cls : Value) (d : Option Addr) (pn : List (Addr × Obj)), Zc cls d oe → (∃ vs, oe.data = .fields vs) → PSs (X.suite a ((a, oe) :: pn)) (b₀ :: suite) (ts a cls d)) (r : ClsOk X hds l) :
      ClsOk X (.ExceptHandler (some te) none (b₀ :: suite) pos' :: hds) ((cs, none, ts) :: l)
  | as {te : Expr} {cs : List Value} {ts : Addr → Value → Option Addr → TS} {b₀ : Stmt} {suite : List Stmt} {pos' : Pos} {hds : List ExceptHandler} {l : List Cl} {n : Str} {i : Nat} (hc : TestE X te cs) (hi : X.N[i]? = some n) (hln : X.env.kindOf n = some .local)
      (hsu : ∀ (a : Addr) (oe : Obj) (cls : Value) (d : Option Addr) (pn : List (Addr × Obj)), Zc cls d oe → (∃ vs, oe.data = .fields vs) → PSs (X.suite a ((a, oe) :: pn)) (b₀ :: suite) (ts a cls d)) (r : ClsOk X hds l) :
      ClsOk X (.ExceptHandler (some te) (some n) (b₀ :: suite) pos' :: hds) ((cs, some i, ts) :: l)
theorem flying_keeps {base h h' : Heap} {l : List Env} {e : Addr} {Z : Obj → Prop} (x : HandSPX.FlyingZ base l e Z h) (k : ∀ b o, h.get? b = some o → h'.get? b = some o) : HandSPX.FlyingZ base l e Z h' := by
  obtain ⟨f1, f2, f3, oe, vs, T, oT, ts, g1, g2, g3, g4, g5, g6, g7, g8, g9⟩ := x
  exact ⟨fun b o e => k b o (f1 b o e), f2, f3.of_keeps fun b o e _ => ⟨o, k b o e, rfl⟩, oe, vs, T, oT, ts, k _ _ g1, g2, g3, g4, g5, g6, k _ _ g7, g8, g9⟩
section
variable {X : Cx} {body : List Stmt} {h₀ : ExceptHandler} {hds : List ExceptHandler} {l : List Cl} {pos : Pos} {tb : WX → TS} {Wout : WX}
theorem ps_try_cls (hs : X.stack = X.env :: X.outer) (hf : X.env.frame = some X.env.locals) (hN : X.N.Nodup) (tk : Takes X Wout)
    (hb : ∀ (W : WX) (pn : List (Addr × Obj)) (xe : Value → Shared → Prop), Takes (X.tr pn xe) W → PassesOwn (model X.prog X.w) X.A X.env xe → PSs (X.tr pn xe) body (tb W))
    (hh : ClsOk X (h₀ :: hds) l) : PS X (.Try body (h₀ :: hds) [] [] pos) (fun D σ H => tb (wClauses X.K Wout D l) D σ H) := by
  refine ⟨fun pins s σ H D I h => ?_⟩
  have ok := I.ok
  have hfr : X.A.frames = some (X.env :: X.outer) := by rw [ok.frames, hs]
  refine wpAny_Try_except ?_
  refine wpAny_mono ((hb (wClauses X.K Wout D l) (X.pn ++ pins) (fun e s₁ => wpAny (model X.prog X.w) X.A (noteFrame e X.env) (fun _ s₂ => wpAny (model X.prog X.w) X.A (setFlight e none) (fun _ s₃ =>
    wpAny (model X.prog X.w) X.A (handleBy e X.env (h₀ :: hds)) (SP X pins D) X.xe s₃) X.xe s₂) X.xe s₁) (fun u s' xx => ?_) PassesOwn.looking).run [] s σ H D (I.toTry _) h) (fun f s1 hsp => ?_) (fun e s1 he => he)
  · -- the catch
    obtain ⟨a, B, sI, pins', σ', H', cls, d, rfl, J', nb, up, sky, na, os, ag, w⟩ := xx
    have J : Inv X pins σ' H' sI := J'.ofTry ok
    have sky' : Sky B (X.env :: X.outer) a (Zc cls d) X.env.locals s'.heap := by rw [← hs]; exact sky
    show wpAny (model X.prog X.w) X.A (noteFrame (.ref a) X.env) _ _ _
    refine Sky.land Zc.steady hfr hf sky' fun h3 fl3 up3 => ?_
    have notFr : ∀ {h : Heap} {o : Obj} {vs : Array Value}, h.FunFrames B (X.env :: X.outer) → h.get? a = some o → o.data = .fields vs → a ∉ frs (X.env :: X.outer) := fun {h o vs} ff e dd hm => by
      obtain ⟨_, o', e', hnf⟩ := ff.mem hm
      rw [e] at e'; cases e'
      exact hnf _ dd
    have go : ∀ {hds' : List ExceptHandler} {l' : List Cl}, ClsOk X hds' l' → ∀ (h3 : Heap) (t3 : Nat), HandSPX.FlyingZ B (X.env :: X.outer) a (Zc cls d) h3 → sI.heap.UpToSlots h3 → wClauses X.K Wout D l' cls d σ' H' →
        wpAny (model X.prog X.w) X.A (handleBy (.ref a) X.env hds') (SP X pins D) X.xe { s' with heap := h3, toks := t3 } := by
      intro hds' l' hk
      induction hk with
      | nil =>
        intro h3 t3 fl3 up3 w
        refine wpAny_handleBy_nil ?_
        obtain ⟨k1, k2, k3, oe, vs, T, oT, ts', he, hz, hd, h1, hr⟩ := id fl3
        unfold PySem.passOn
        refine wpAny_bind (wpAny_field he hd h1 ?_)
        rw [if_neg (show ¬ ((Value.ref T == Value.none) = true) from by simp)]
        have fin : wpAny (model X.prog X.w) X.A (setFlight (.ref a) X.env.frame) (fun _ s4 => wpAny (model X.prog X.w) X.A (throw (.ref a) : Sem Flow) (SP X pins D) X.xe s4) X.xe { s' with heap := h3, toks := t3 } := by
          rw [hf]
          refine HandSPX.setFlight_upZ fl3 fun h4 hh4 up4 => wpAny_throw (tk _ _ ?_)
          exact ⟨a, B, sI, pins, σ', H', cls, d, rfl, J, nb, up3.trans up4, .inr (.inr (by rw [hs]; exact hh4)), na, os, ag, w⟩
        first
          | exact wpAny_bind (wpAny_pure (wpAny_bind fin))
          | exact wpAny_bind fin
      | @cons te cs ts b₀ suite pos' hds2 l2 hc hsu r ih =>
        intro h3 t3 fl3 up3 w
        obtain ⟨b, hb1, hyes, hno⟩ := w
        have J3 : Inv X pins σ' H' { s' with heap := h3, toks := t3 } := J.landed nb fl3.1 up3 os ag
        obtain ⟨oe3, vs3, he3, hz3, hd3⟩ := fl3.there
        have nfr := notFr fl3.2.2.1 he3 hd3
        have nL : a ≠ X.env.locals := fun z => nfr (List.mem_filterMap.mpr ⟨X.env, List.mem_cons_self, by rw [hf, z]⟩)
        have nF : a ∉ X.fs := fun hm => by
          obtain ⟨e, he, q⟩ := List.mem_filterMap.mp hm
          exact nfr (List.mem_filterMap.mpr ⟨e, List.mem_cons_of_mem _ he, q⟩)
        have S3 := J3.suite he3 hd3 na nL nF
        refine wpAny_handleBy_cons (codeAny_handlers_test ?_) (by intro q; cases q)
        have LT : PySem.W.Looks (model X.prog X.w) h3 (typeOf (.ref a)) cls := fun A Q E s k q => wpAny_typeOf_ref (k _ _ he3) (by rw [hz3.1]; exact q)
        refine hc a _ _ _ _ cls b S3 LT hb1 _ _ fun h5 t5 k5 => ?_
        have fl5 := flying_keeps fl3 k5
        have up5 : sI.heap.UpToSlots h5 := up3.trans (Heap.UpToSlots.of_keeps k5)
        cases b with
        | true =>
          refine codeAny_handlers_suite ?_
          refine HandSPX.lands_againZ fl5 fun h4 fl4 up4 => ?_
          have J4 : Inv X pins σ' H' { s' with heap := h4, toks := t5 } := J.landed nb fl4.1 (up5.trans up4) os ag
          obtain ⟨oe4, vs4, he4, hz4, hd4⟩ := fl4.there
          have S4 := J4.suite he4 hd4 na nL nF
          refine wpAny_mono ((hsu a oe4 cls d (X.pn ++ pins) hz4 ⟨_, hd4⟩).run [] _ _ H' _ S4 (hyes rfl a na)) (fun f s6 hsp => ?_) (fun _ _ z => False.elim z)
          cases f with
          | next =>
            obtain ⟨σ6, H6, S6, q6⟩ := hsp
            exact ⟨_, _, S6.unsuite ok, q6⟩
          | brk =>
            obtain ⟨σ6, H6, S6, q6⟩ := hsp
            exact ⟨_, _, S6.unsuite ok, q6⟩
          | cont =>
            obtain ⟨σ6, H6, S6, q6⟩ := hsp
            exact ⟨_, _, S6.unsuite ok, q6⟩
          | ret u =>
            obtain ⟨v6, σ6, H6, S6, r6, q6⟩ := hsp
            exact ⟨_, _, _, S6.unsuite ok, r6, q6⟩
        | false =>
          show wpAny _ X.A (handleBy (.ref a) X.env hds2) _ _ _
          exact ih h5 t5 fl5 up5 (hno rfl)
      | @as te cs ts b₀ suite pos' hds2 l2 n i hc hi hln hsu r ih =>
        intro h3 t3 fl3 up3 w
        obtain ⟨b, hb1, hyes, hno⟩ := w
        have J3 : Inv X pins σ' H' { s' with heap := h3, toks := t3 } := J.landed nb fl3.1 up3 os ag
        obtain ⟨oe3, vs3, he3, hz3, hd3⟩ := fl3.there
        have nfr := notFr fl3.2.2.1 he3 hd3
        have nL : a ≠ X.env.locals := fun z => nfr (List.mem_filterMap.mpr ⟨X.env, List.mem_cons_self, by rw [hf, z]⟩)
        have nF : a ∉ X.fs := fun hm => by
          obtain ⟨e, he, q⟩ := List.mem_filterMap.mp hm
          exact nfr (List.mem_filterMap.mpr ⟨e, List.mem_cons_of_mem _ he, q⟩)
        have S3 := J3.suite he3 hd3 na nL nF
        refine wpAny_handleBy_cons (codeAny_handlers_test ?_) (by intro q; cases q)
        have LT : PySem.W.Looks (model X.prog X.w) h3 (typeOf (.ref a)) cls := fun A Q E s k q => wpAny_typeOf_ref (k _ _ he3) (by rw [hz3.1]; exact q)
        refine hc a _ _ _ _ cls b S3 LT hb1 _ _ fun h5 t5 k5 => ?_
        have fl5 := flying_keeps fl3 k5
        have up5 : sI.heap.UpToSlots h5 := up3.trans (Heap.UpToSlots.of_keeps k5)
        cases b with
        | true =>
          refine codeAny_handlers_suite_as ?_
          refine HandSPX.lands_againZ fl5 fun h4 fl4 up4 => ?_
          have J4 : Inv X pins σ' H' { s' with heap := h4, toks := t5 } := J.landed nb fl4.1 (up5.trans up4) os ag
          obtain ⟨oe4, vs4, he4, hz4, hd4⟩ := fl4.there
          have S4 := J4.suite he4 hd4 na nL nF
          refine store_ok (X := X.suite a ((a, oe4) :: (X.pn ++ pins))) (v := .ref a) S4 hN hi (.inl hln) rfl (fun s5 S5 => ?_) (.inr hln)
          refine wpAny_mono ((hsu a oe4 cls d (X.pn ++ pins) hz4 ⟨_, hd4⟩).run [] s5 _ H' _ S5 (hyes rfl a na)) (fun f s6 hsp => ?_) (fun _ _ z => False.elim z)
          have end_ : ∀ {σ6 : L2.St} {H6 : Hp} {Q : Shared → Prop}, Inv (X.suite a ((a, oe4) :: (X.pn ++ pins))) [] σ6 H6 s6 → (∀ s7, Inv X pins (σ6.set i none) H6 s7 → Q s7) →
              wpAny (model X.prog X.w) X.A (do bindName X.env n .none; unbindBehindTheSuite X.env n pos') (fun _ s7 => Q s7) X.xe s6 := fun {σ6 H6 Q} S6 hq => gone_ok (S6.unsuite ok) hN hi hln hq
          cases f with
          | next =>
            obtain ⟨σ6, H6, S6, q6⟩ := hsp
            exact end_ S6 fun s7 J7 => ⟨_, _, J7, q6⟩
          | brk =>
            obtain ⟨σ6, H6, S6, q6⟩ := hsp
            exact end_ S6 fun s7 J7 => ⟨_, _, J7, q6⟩
          | cont =>
            obtain ⟨σ6, H6, S6, q6⟩ := hsp
            exact end_ S6 fun s7 J7 => ⟨_, _, J7, q6⟩
          | ret u =>
            obtain ⟨v6, σ6, H6, S6, r6, q6⟩ := hsp
            exact end_ S6 fun s7 J7 => ⟨_, _, _, J7, r6, q6⟩
        | false =>
          show wpAny _ X.A (handleBy (.ref a) X.env hds2) _ _ _
          exact ih h5 t5 fl5 up5 (hno rfl)
    exact go hh h3 s'.toks fl3 (up.trans up3) w
  · cases f with
    | next =>
      obtain ⟨σ', H', J', q⟩ := hsp
      exact wpAny_execs_nil ⟨σ', H', J'.ofTry ok, q⟩
    | brk =>
      obtain ⟨σ', H', J', q⟩ := hsp
      exact ⟨σ', H', J'.ofTry ok, q⟩
    | cont =>
      obtain ⟨σ', H', J', q⟩ := hsp
      exact ⟨σ', H', J'.ofTry ok, q⟩
    | ret u =>
      obtain ⟨v, σ', H', J', r, q⟩ := hsp
      exact ⟨v, σ', H', J'.ofTry ok, r, q⟩
end
end Xh
end
section
set_option Elab.async false
set_option linter.all false
set_option maxRecDepth 100000
set_option maxHeartbeats 2000000
/-! a lambda handed on from def to def -/
namespace Xh
open PySem PySem.Spec PyProof.Rows L2 LamX
section
variable {X : Cx} {pins : List (Addr × Obj)} {σ : L2.St} {H HZ : Hp} {s s1 : Shared}
theorem lam_startG {fs : List Addr} {A : Around} {outer : List Env} {E : XK} {scope : Scope} {f c' : Addr} {h₁ : Heap} {tk : Nat} (I : Inv X pins σ H s) (L : LamS X.env.scope scope) (e0 : Env0 X.prog X.w X.K X.mg X.base A outer s1 HZ) (hd : A.handled = none)
    (un : Un fs [] H HZ s.heap s1.heap) (hns : h₁.Ns s1.heap.objs.size fun y => ([] : List (Str × Value)).reverse.lookup y) (kp : ∀ b o, s1.heap.get? b = some o → h₁.get? b = some o) :
    Inv (lamCx X A outer s1 HZ E scope f c') [] σ HZ { s1 with heap := h₁, toks := tk } := by
  have hfree := L.has I.ok
  have cm : ∀ {y c}, (cloFrom X.env.cells scope.names []).lookup y = some c → X.env.cells.lookup y = some c := fun {y c} e => by
    rcases cloFrom_mem (PySem.mem_of_lookup e) with hm | ⟨h1, h2⟩
    · cases hm
    · obtain ⟨c1, hc⟩ := hfree _ h1 rfl
      have hc : X.env.cells.lookup y = some c1 := hc
      have e2 : c = c1 := by
        rw [h2, hc] <;> rfl
      rw [e2]
      exact hc
  have look : ∀ {y}, scope.names.lookup y = some .free → ∃ c, (cloFrom X.env.cells scope.names []).lookup y = some c := fun {y} hl => by
    have hy : (y, NameKind.free) ∈ scope.names := PySem.mem_of_lookup hl
    exact mem_lookup (cloFrom_has (cells := X.env.cells) (acc := []) hy)
  have cellK : ∀ {c : Addr} {v : Option Value}, H c = none → s.heap.IsCell c v → h₁.IsCell c v := fun {c v} n ⟨o, ho, hd⟩ => by
    obtain ⟨sl, q⟩ := un.any ho n (by simp)
    exact ⟨_, kp _ _ q, hd⟩
  have noA : ∀ b : Addr, b ∉ (lamCx X A outer s1 HZ E scope f c').ex := fun b z => absurd (show b ∈ ([] : List Addr) from z) (by simp)
  refine ⟨⟨e0.mod, L.kind, rfl, rfl, Nat.le_refl _, fun y z c e1 e2 => I.ok.inj y z c (cm e1) (cm e2), fun y hy => ?_, fun y c z _ => ?_, fun _ => hd, Around.frames_deeper e0.frames, .inr ⟨rfl, rfl⟩, fun b z => absurd z (noA b), e0.bs, e0.bsz, fun b _ _ => noA b,
      fun b z => absurd z (noA b), e0.funs, e0.frf⟩,
    rfl, e0.bare, Un.kept kp, ⟨_, hns, fun i y v e1 e2 e3 => ?_⟩, fun y c e => ?_, e0.hok.fresh (Nat.le_refl _), fun y c e => ?_, fun q hq => absurd (show q ∈ ([] : List (Addr × Obj)) ++ [] from hq) (by simp), e0.hok.kept kp, I.len⟩
  · have hy : scope.names.lookup y = some .cell ∨ scope.names.lookup y = some .free := hy
    rcases hy with hy | hy
    · exact absurd rfl (L.own _ (PySem.mem_of_lookup hy)).2
    · exact look hy
  · have z : false = true := z
    cases z
  · have e3 : Vis scope y := e3
    rcases e3 with k | k | k
    · exact absurd rfl (L.own _ (PySem.mem_of_lookup k)).1
    · exact absurd rfl (L.own _ (PySem.mem_of_lookup k)).2
    · obtain ⟨m, hn, hl⟩ := I.loc
      have hvis : Vis X.env.scope y := (L.free _ (PySem.mem_of_lookup k) rfl).elim (fun k => .inr (.inl k)) (fun k => .inr (.inr k))
      obtain ⟨w', r, q⟩ := hl i y v e1 e2 hvis
      obtain ⟨c2, h2⟩ := look k
      refine ⟨w', r, .inr ⟨.inr k, c2, h2, ?_⟩⟩
      have c1 := cm h2
      rcases q with ⟨k', _⟩ | ⟨_, c3, e', z⟩
      · have k' : X.env.scope.names.lookup y = some .local := k'
        rcases L.free _ (PySem.mem_of_lookup k) rfl with k2 | k2 <;> rw [show X.env.scope.names.lookup y = _ from k2] at k' <;> cases k'
      · rw [c1] at e'
        cases e'
        exact cellK (I.freeC y _ c1) z
  · obtain ⟨w', z⟩ := I.cell y c (cm e)
    exact ⟨w', cellK (I.freeC y c (cm e)) z⟩
  · obtain ⟨v, o, ho, hd⟩ := I.cell y c (cm e)
    exact un.free c o ho (I.freeC y c (cm e)) (by simp)
end
/-- the thing at f can be called, without arguments, from whatever runs behind the state s (abstract heap H): tl tells its reading, q its code's name -/
def CanAct (P : Program) (w : World) (K : PySem.W.Frag) (mg : Str → Option Value) (base : Heap) (k : Nat) (q : Str) (f c' : Addr) (tl : XK → Hp → VK → Prop) (s : Shared) (H : Hp) : Prop :=
  ∀ (fs : List Addr) (CXg : CXT) (Ng : List Str) (qg : Str) (sg : Scope) (g : Addr) (cdg : Value) (A : Around) (outer : List Env) (sZ : Shared) (HZ0 : Hp) (Eg : XK), Un fs [] H HZ0 s.heap sZ.heap → f ∉ fs → (∀ b ∈ frs outer, b ∈ fs) → Room (k + 1) (A.deeper (envOfC qg sg sZ.heap.objs.size g cdg)) →
    ∀ (i : Nat) (a : Str) (W : WX) (pn : List (Addr × Obj)) (xe : Value → Shared → Prop) (E : XK) (p1 p2 : Pos), Ng[i]? = some a → Vis sg a → (a == ("__debug__" : Str)) = false → (a == ("__classdict__" : Str)) = false →
      Takes ((cxOf CXg P w K mg base Ng qg sg g cdg A outer sZ HZ0 Eg).tr pn xe) W → (∀ cls d σ' H', E cls d H' → W cls d σ' H') →
      PE ((cxOf CXg P w K mg base Ng qg sg g cdg A outer sZ HZ0 Eg).tr pn xe) (.Call (.Name a p1) [] [] p2) (fun σZ HZ Q => σZ[i]? = some (some (.ref f)) ∧ HZ c' = some (CodeO c' q) ∧ tl E HZ Q)
theorem CanAct.later {P : Program} {w : World} {K : PySem.W.Frag} {mg : Str → Option Value} {base : Heap} {k : Nat} {q : Str} {f c' : Addr} {tl : XK → Hp → VK → Prop} {s s1 : Shared} {H H1 : Hp} {fs0 : List Addr} (c : CanAct P w K mg base k q f c' tl s H) (un : Un fs0 [] H H1 s.heap s1.heap) (hf : f ∉ fs0) :
    CanAct P w K mg base k q f c' tl s1 H1 := fun fs CXg Ng qg sg g cdg A outer sZ HZ0 Eg un1 hf1 ho hr i a W pn xe E p1 p2 => by
  refine c (fs0 ++ fs) CXg Ng qg sg g cdg A outer sZ HZ0 Eg ((un.mono (fun b hb => List.mem_append_left _ hb) (fun _ z => z)).trans (un1.mono (fun b hb => List.mem_append_right _ hb) (fun _ z => z))) (fun z => ?_) (fun b hb => List.mem_append_right _ (ho b hb)) hr i a W pn xe E p1 p2
  rcases List.mem_append.mp z with z | z
  · exact hf z
  · exact hf1 z
section
variable {X : Cx} {pins : List (Addr × Obj)} {σ : L2.St} {H : Hp} {s : Shared}
/-- a lambda just made can be called -/
theorem canAct_of {f c' : Addr} {pm ctv : Value} {params : Arguments} {body : Expr} {scope : Scope} {k : Nat} {tb : XK → TE}
    (I : Inv X pins σ H s) (L : LamS X.env.scope scope) (hf : s.heap.get? f = some (PySem.W.kla_obj "<lambda>" (X.env.qual ++ "<lambda>") params body scope (cloFrom X.env.cells scope.names []) pm c' ctv)) (hfn : H f = none)
    (hbind : bindArgs (PySem.W.kla_fn "<lambda>" (X.env.qual ++ "<lambda>") params body scope (cloFrom X.env.cells scope.names []) pm (.ref c') ctv) ⟨[], []⟩ = pure [])
    (hbody : ∀ (A : Around) (outer : List Env) (s : Shared) (H : Hp) (E : XK), Room k (A.deeper (lamEnv X scope s.heap.objs.size f c')) → PE (lamCx X A outer s H E scope f c') body (tb E)) :
    CanAct X.prog X.w X.K X.mg X.base k (X.env.qual ++ "<lambda>") f c' (fun E H' Q => tb E σ H' Q) s H := by
  intro fs CXg Ng qg sg g cdg A outer sZ HZ0 Eg un0 hff ho hr i a W pn xe E p1 p2 hN hv hd hcd tk hW
  refine ⟨fun pinsZ s0 σZ HZ Q IZ h => ?_⟩
  obtain ⟨hs, hc, ht⟩ := h
  refine wpAny_Call_Name_kw (thn ((pe_var (pos := p1) (i := i) hN hv hd hcd).run pinsZ s0 σZ HZ (fun v H1 => v = .ref f ∧ H1 = HZ) IZ ⟨.ref f, hs, rfl, rfl⟩) fun u s1 ⟨v, H1, I1, r1, q1⟩ => ?_)
  obtain ⟨ev, eH⟩ := q1
  subst ev
  rw [eH] at I1
  obtain rfl : u = Value.ref f := r1
  have un : Un fs [] H HZ s.heap s1.heap := un0.trans (I1.base.mono ho fun _ z => z)
  have of1 : s1.heap.get? f = some (PySem.W.kla_obj "<lambda>" (X.env.qual ++ "<lambda>") params body scope (cloFrom X.env.cells scope.names []) pm c' ctv) := un.keep f _ hf hfn hff (fun z => nomatch (show f ∈ ([] : List Addr) from z))
  refine PySem.W.callWith_F0 ⟨_, _, _, _, of1⟩ ?_
  obtain ⟨⟨oc, vs, t, hoc, hdc, hvc⟩, _, _⟩ := I1.hok c' _ hc
  have rc : codeAny (model X.prog X.w) (A.deeper (envOfC qg sg sZ.heap.objs.size g cdg)) (.call (.ref f) ⟨[], []⟩) (CR (L2.CX X.prog X.w) (envOfC qg sg sZ.heap.objs.size g cdg :: outer) X.prog X.w HZ s1 Q E) s1 := by
    refine PySem.W.kla_callFunE hr.depth of1 rfl L.co L.gen rfl ⟨c', oc, vs, t, rfl, hoc, hdc, hvc⟩ ?_
    rw [hbind]
    refine wpAny_pure (wpAny_newFunctionEnv (fun y hy => (L.own y hy).2) (fun y hy => absurd hy (by simp)) (fun h₁ hns hsb => ⟨I1.nolimit.fresh _ hsb, ?_⟩) L.kind)
    show codeAny _ _ (.expr body (lamEnv X scope s1.heap.objs.size f c')) _ _
    have kp : ∀ b o, s1.heap.get? b = some o → h₁.get? b = some o := fun b o e => hsb.extBut b o (Nat.ne_of_lt (Heap.lt_size e)) (Heap.get?_push_of_some _ e)
    have J : Inv (lamCx X (A.deeper (envOfC qg sg sZ.heap.objs.size g cdg)) (envOfC qg sg sZ.heap.objs.size g cdg :: outer) s1 HZ E scope f c') [] σ HZ { s1 with heap := h₁, toks := s1.toks + ([] : List (Str × Value)).length } :=
      lam_startG I L I1.env0 hr.hd un hns kp
    refine PySem.W.kla_codeExpr (wpAny_mono ((hbody _ _ s1 HZ E (hr.deeper _)).run [] _ _ HZ Q J ht) (fun v s' hq => ?_) fun e s' hq => hq)
    obtain ⟨w', H', J', rv, q⟩ := hq
    exact ⟨w', H', J'.os, J'.bare, J'.base, J'.hok, rv, q⟩
  have hx : Passes (L2.CX X.prog X.w) ((cxOf CXg X.prog X.w X.K X.mg X.base Ng qg sg g cdg A outer sZ HZ0 Eg).tr pn xe) E := passes_call tk hW
  refine wpAny_call (codeAny_mono rc fun r s' hq => ?_)
  cases r with
  | error e => exact hx pinsZ σZ HZ s1 e s' I1 hq
  | ok fl =>
    cases fl with
    | ret u => exact I1.after hq
    | next => exact False.elim hq
    | brk => exact False.elim hq
    | cont => exact False.elim hq
end
/-- a def of one parameter (Ng: its names, the parameter first) that gets something to call: TT its promise; what the callee raises is caught within -/
structure Gives (P : Program) (w : World) (K : PySem.W.Frag) (mg : Str → Option Value) (base : Heap) (k kl : Nat) (x : Str) (g : Addr) (TT : (XK → Hp → VK → Prop) → Hp → VK → Prop) : Prop where
  m : mg x = some (.ref g)
  kp : PySem.W.keepIn K (.ref g) = true
  run : ∀ (q : Str) (A : Around) (outer : List Env) (f c' : Addr) (s : Shared) (H : Hp) (Q : VK) (tl : XK → Hp → VK → Prop), Room k A → Env0 P w K mg base A outer s H → CanAct P w K mg base kl q f c' tl s H → f ∉ frs outer → f < s.heap.objs.size → H c' = some (CodeO c' q) → TT tl H Q →
    codeAny (model P w) A (.call (.ref g) ⟨[.ref f], []⟩) (CR CX0 outer P w H s Q E0) s
theorem gives_of {P : Program} {w : World} {K : PySem.W.Frag} {mg : Str → Option Value} {base : Heap} {k kl : Nat} {x a : Str} {g : Addr} {fd : FuncData} {pg : Arguments} {bg : List Stmt} {sg : Scope} {Ng : List Str} {TT : (XK → Hp → VK → Prop) → Hp → VK → Prop}
    (F : FunD K x x pg bg sg [] [] g fd) (hm : mg x = some (.ref g)) (Sg : FnScope Ng [a] sg)
    (hb : ∀ (kV doc pm : Value) (an : Option Addr) (cdv ct : Value) (us : List Value), us.length = [a].length → bindArgs (PySem.W.fnOf x x pg bg sg .none kV doc pm an cdv ct) ⟨us, []⟩ = pure ([a].zip us))
    (hG : ∀ (q : Str) (cdg : Value) (A : Around) (outer : List Env) (f c' : Addr) (s : Shared) (H : Hp) (Q : VK) (tl : XK → Hp → VK → Prop), Room k (A.deeper (envOfC x sg s.heap.objs.size g cdg)) → CanAct P w K mg base kl q f c' tl s H → f ∉ frs outer → f < s.heap.objs.size → H c' = some (CodeO c' q) → TT tl H Q →
      ∃ t, PSs (cxOf CX0 P w K mg base Ng x sg g cdg A outer s H E0).nox bg t ∧ t { nx := fun _ H' => Q .non H', rt := Q } (L2.start Ng [.ref f]) H) : Gives P w K mg base (k + 1) kl x g TT := by
  have b := FunD.bindsN F hb
  refine ⟨hm, F.kp, fun q A outer f c' s H Q tl hr e0 act hfo hfs hc hT => ?_⟩
  obtain ⟨oc, od, dV, kV, doc, pm, an, cdv, ct, osl, rfl, lk, hcd, _, _⟩ := F.ex
  refine run_ofS (N := Ng) (ps := [a]) (us := [.ref f]) (vs := [.ref f]) lk hcd Sg hr e0 (b s [.ref f] (e0.mod.kin.keeps fun c o e => (e0.bs c o e).1) rfl) (.cons rfl .nil) rfl fun hr' => ?_
  obtain ⟨t, h1, h2⟩ := hG q cdv A outer f c' s H Q tl hr' act hfo hfs hc hT
  exact ⟨t, h1.nox, h2⟩
section
variable {X : Cx}
/-- x(lambda: body) -/
theorem pe_lam {T : List (Addr × Str)} {TT : (XK → Hp → VK → Prop) → Hp → VK → Prop} {x : Str} {g c P : Addr} {k kl : Nat}
    {params : Arguments} {body : Expr} {scope : Scope} {t : XK → TE} {p lpos pos : Pos} (G : Gives X.prog X.w X.K X.mg X.base k kl x g TT) (hg : Gl X x)
    (TB : TabB X.base X.mg c P) (hcode : X.env.code = .ref c) (hmT : (P, X.env.qual ++ "<lambda>") ∈ T) (hu : ∀ p ∈ T, p.1 = P → p.2 = X.env.qual ++ "<lambda>") (hr : Room k X.A) (L : LamS X.env.scope scope) (hdef : defaultsOf params X.env = ([], []))
    (hbind : ∀ (q : Str) (cl : List (Str × Addr)) (pm cv ctv : Value), bindArgs (PySem.W.kla_fn "<lambda>" q params body scope cl pm cv ctv) ⟨[], []⟩ = pure [])
    (hbody : ∀ (A : Around) (outer : List Env) (s : Shared) (H : Hp) (E : XK) (f c' : Addr), Room kl (A.deeper (lamEnv X scope s.heap.objs.size f c')) → PE (lamCx X A outer s H E scope f c') body (t E))
    (hdb : (x == ("__debug__" : Str)) = false := by decide) :
    PE X (.Call (.Name x p) [.Lambda params body scope lpos] [] pos) (tLam T TT t) := by
  refine ⟨fun pins s σ H Q I h => ?_⟩
  obtain ⟨hT, h⟩ := h
  refine wpAny_Call_Name_kw (ld_glob I hg G.m ?_ hdb)
  refine PySem.W.callWith_K (h₀ := X.base) I.ok.mod.kin G.kp ?_ (by rfl) (by rfl)
  show wpAny _ _ (spliced ((false, eval (.Lambda params body scope lpos) X.env) :: backTo pos (starEach [] X.env))) _ _ s
  refine Calls.spliced_cons (lam_make2 I TB hcode hmT hu hT hdef (L.has I.ok) fun f c' pm' ctv H1 s' I1 eN T1 hf hfn hfr hco => ?_)
  refine Calls.spliced_nil ⟨I1.kIn, ?_⟩
  have act := canAct_of (tb := t) I1 L hf hfn (hbind _ _ _ _ _) (fun A outer s H E hr2 => hbody A outer s H E f c' hr2)
  have rc := G.run _ X.A X.stack f c' s' H1 Q _ hr I1.env0 act hfr (Heap.lt_size hf) hco (h H1 eN T1)
  refine wpAny_call (codeAny_mono rc fun r s2 hq => ?_)
  cases r with
  | error e => exact (show False from hq).elim
  | ok fl =>
    cases fl with
    | ret u => exact I1.after hq
    | next => exact False.elim hq
    | brk => exact False.elim hq
    | cont => exact False.elim hq
end
/-- y(a) in a def that got something to call, y such a def too -/
theorem pe_passOn {P : Program} {w : World} {K : PySem.W.Frag} {mg : Str → Option Value} {base : Heap} {k kl : Nat} {q a y x : Str} {f c' gy g : Addr} {tl : XK → Hp → VK → Prop} {TT : (XK → Hp → VK → Prop) → Hp → VK → Prop} {s : Shared} {H : Hp} {A : Around} {outer : List Env} {Ng : List Str} {sg : Scope} {cdg : Value} {p1 p2 pos : Pos} {i : Nat}
    (G : Gives P w K mg base k kl y gy TT) (act : CanAct P w K mg base kl q f c' tl s H) (hfo : f ∉ frs outer) (hfs : f < s.heap.objs.size) (hr : Room k (A.deeper (envOfC x sg s.heap.objs.size g cdg)))
    (hgy : sg.names.lookup y = some .globalImplicit) (hN : Ng[i]? = some a) (hv : Vis sg a) (hdy : (y == ("__debug__" : Str)) = false := by decide) (hd : (a == ("__debug__" : Str)) = false := by decide) (hcd : (a == ("__classdict__" : Str)) = false := by decide) :
    PE (cxOf CX0 P w K mg base Ng x sg g cdg A outer s H E0).nox (.Call (.Name y p1) [.Name a p2] [] pos) (fun σZ HZ Q => σZ[i]? = some (some (.ref f)) ∧ HZ c' = some (CodeO c' q) ∧ TT tl HZ Q) := by
  refine ⟨fun pins s1 σZ HZ Q I h => ?_⟩
  obtain ⟨hs, hc, hT⟩ := h
  refine wpAny_Call_Name_kw (ld_glob (X := (cxOf CX0 P w K mg base Ng x sg g cdg A outer s H E0).nox) I hgy G.m ?_ hdy)
  refine PySem.W.callWith_K (h₀ := base) I.ok.mod.kin G.kp (thn ((pa_cons (X := (cxOf CX0 P w K mg base Ng x sg g cdg A outer s H E0).nox) (pe_var (pos := p2) (i := i) hN hv hd hcd) pa_nil).run pos pins s1 σZ HZ (fun vs H1 => vs = [.ref f] ∧ H1 = HZ) I ⟨.ref f, hs, rfl, rfl⟩) fun us s2 ⟨vs, H2, I2, r, q2⟩ => ⟨I2.kIn, ?_⟩) (by rfl) (by rfl)
  obtain ⟨ev, eH⟩ := q2
  subst ev
  rw [eH] at I2
  have eu : us = [Value.ref f] := by
    cases r with
    | cons r0 rr =>
      cases rr
      obtain rfl := (show _ = Value.ref f from r0)
      rfl
  subst eu
  have un : Un (frs outer) [] H HZ s.heap s2.heap := I2.base
  have lt2 : s.heap.objs.size ≤ s2.heap.objs.size := I2.sz
  have nfr : f ∉ frs (envOfC x sg s.heap.objs.size g cdg :: outer) := fun z => by
    unfold frs at z
    rw [List.filterMap_cons] at z
    have z' : f ∈ s.heap.objs.size :: frs outer := z
    rcases List.mem_cons.mp z' with e | e
    · exact absurd hfs (by rw [e]; exact Nat.lt_irrefl _)
    · exact hfo e
  have rc := G.run q (A.deeper (envOfC x sg s.heap.objs.size g cdg)) (envOfC x sg s.heap.objs.size g cdg :: outer) f c' s2 HZ Q tl hr I2.env0 (act.later un hfo) nfr (Nat.lt_of_lt_of_le hfs lt2) hc hT
  refine wpAny_call (codeAny_mono rc fun r s3 hq => ?_)
  cases r with
  | error e => exact (show False from hq).elim
  | ok fl =>
    cases fl with
    | ret u => exact I2.after hq
    | next => exact False.elim hq
    | brk => exact False.elim hq
    | cont => exact False.elim hq
end Xh
end
section
set_option Elab.async false
set_option linter.all false
set_option maxRecDepth 100000
set_option maxHeartbeats 2000000
namespace Xh
open PySem PySem.Spec PyProof.Rows L2
/-- a def of the module, called by its name: its promise, its defaults -/
structure Own (P : Program) (w : World) (K : PySem.W.Frag) (mg : Str → Option Value) (base : Heap) (CX : CXT) (k : Nat) (x : Str) (ps : List Str) (dvs : List V) (sp : Sp) : Prop where
  ex : ∃ (f : Addr) (fd : FuncData) (ds : List Value), FnOk P w K mg base CX k f fd ps sp ∧ mg x = some (.ref f) ∧ PySem.W.keepIn K (.ref f) = true ∧ Binds K fd ps ds ∧ Vals dvs ds
/-- .. called with its last parameter by keyword -/
structure OwnK (P : Program) (w : World) (K : PySem.W.Frag) (mg : Str → Option Value) (base : Heap) (CX : CXT) (k n : Nat) (x : Str) (ps ks : List Str) (sp : Sp) : Prop where
  ex : ∃ (f : Addr) (fd : FuncData), FnOk P w K mg base CX k f fd ps sp ∧ mg x = some (.ref f) ∧ PySem.W.keepIn K (.ref f) = true ∧ KBn K fd ps n ks (fun us ws => us ++ ws) (fun vs zs => vs ++ zs)
section
variable {P : Program} {w : World} {K : PySem.W.Frag} {mg : Str → Option Value} {base : Heap} {CX : CXT} {j k n : Nat} {x : Str} {ps ks : List Str} {dvs : List V} {sp sp' : Sp}
theorem Own.mono (O : Own P w K mg base CX j x ps dvs sp) (h : j ≤ k) : Own P w K mg base CX k x ps dvs sp := by
  obtain ⟨f, fd, ds, F, m, kp, b, r⟩ := O.ex
  exact ⟨f, fd, ds, F.mono h, m, kp, b, r⟩
theorem OwnK.mono (O : OwnK P w K mg base CX j n x ps ks sp) (h : j ≤ k) : OwnK P w K mg base CX k n x ps ks sp := by
  obtain ⟨f, fd, F, m, kp, b⟩ := O.ex
  exact ⟨f, fd, F.mono h, m, kp, b⟩
theorem own_of {q : Str} {params : Arguments} {body : List Stmt} {scope : Scope} {f : Addr} {fd : FuncData} (F : FunD K x q params body scope [] [] f fd) (G : FnOk P w K mg base CX k f fd ps sp) (m : mg x = some (.ref f))
    (h : ∀ (kV doc pm : Value) (an : Option Addr) (cdv ct : Value) (us : List Value), us.length = ps.length → bindArgs (PySem.W.fnOf x q params body scope .none kV doc pm an cdv ct) ⟨us, []⟩ = pure (ps.zip us)) : Own P w K mg base CX k x ps [] sp :=
  ⟨f, fd, [], G, m, F.kp, FunD.bindsN F h, .nil⟩
theorem own_ofK {q : Str} {params : Arguments} {body : List Stmt} {scope : Scope} {f : Addr} {fd : FuncData} {kws : List (Str × V)} (F : FunD K x q params body scope [] kws f fd) (G : FnOk P w K mg base CX k f fd ps sp) (m : mg x = some (.ref f))
    (h : ∀ (kV doc pm : Value) (an : Option Addr) (cdv ct : Value) (us ws : List Value), us.length = n → ws.length = ks.length → bindArgs (PySem.W.fnOf x q params body scope .none kV doc pm an cdv ct) ⟨us, ks.zip ws⟩ = pure (ps.zip (us ++ ws))) : OwnK P w K mg base CX k n x ps ks sp := by
  have kp := F.kp
  obtain ⟨oc, od, dV, kV, doc, pm, an, cdv, ct, osl, rfl, lk, hcd, hD, hK⟩ := F.ex
  rcases hD with ⟨_, rfl⟩ | ⟨e, _⟩
  · exact ⟨f, _, G, m, kp, ⟨fun s us ws X l1 l2 => .of_eq (h kV doc pm an cdv ct us ws l1 l2), fun r1 r2 => r1.append r2⟩⟩
  · exact absurd rfl e
theorem own_of0 {q : Str} {params : Arguments} {body : List Stmt} {scope : Scope} {f : Addr} {fd : FuncData} {kws : List (Str × V)} (F : FunD K x q params body scope [] kws f fd) (G : FnOk P w K mg base CX k f fd ps sp) (m : mg x = some (.ref f)) (n : Nat) (hk : kws ≠ []) (hn : n + kws.length = ps.length)
    (h : ∀ (D : Addr) (doc pm : Value) (an : Option Addr) (cdv ct : Value) (us ks : List Value), us.length = n → ks.length = kws.length →
      KwChain D ((kws.map (·.1)).zip ks) (bindArgs (PySem.W.fnOf x q params body scope .none (.ref D) doc pm an cdv ct) ⟨us, []⟩) (ps.zip (us ++ ks))) : Own P w K mg base CX k x ps (kws.map (·.2)) sp := by
  obtain ⟨ds, r, b⟩ := FunD.binds0 F n hk hn h
  exact ⟨f, fd, ds, G, m, F.kp, b, r⟩
end
section
variable {X : Cx} {CX : CXT} {k n : Nat} {x : Str} {ps ks : List Str} {dvs : List V} {sp : Sp} {E : XK} {p pos : Pos} {e : Expr} {es : List Expr} {kws : List Keyword} {t tk : TA}
theorem pe_own (O : Own X.prog X.w X.K X.mg X.base CX k x ps dvs sp) (hr : Room k X.A) (hg : Gl X x) (hx : Passes CX X E) (ha : PA X (e :: es) t) (hdb : (x == ("__debug__" : Str)) = false := by decide)
    (he : starEach (e :: es) X.env = (false, eval e X.env) :: starEach es X.env := by rfl) (hpl : (backTo pos (starEach es X.env)).any (·.1) = false := by rfl) : PE X (.Call (.Name x p) (e :: es) [] pos) (tCall sp dvs E t) := by
  obtain ⟨f, fd, ds, F, m, kp, b, r⟩ := O.ex
  exact pe_call F hr hg m kp b r hx ha hdb he hpl
theorem pe_own0 (O : Own X.prog X.w X.K X.mg X.base CX k x ps dvs sp) (hr : Room k X.A) (hg : Gl X x) (hx : Passes CX X E) (hdb : (x == ("__debug__" : Str)) = false := by decide) : PE X (.Call (.Name x p) [] [] pos) (tCall sp dvs E tNil) := by
  obtain ⟨f, fd, ds, F, m, kp, b, r⟩ := O.ex
  exact pe_call0 F hr hg m kp b r hx hdb
theorem pe_ownK (O : OwnK X.prog X.w X.K X.mg X.base CX k n x ps ks sp) (hr : Room k X.A) (hg : Gl X x) (hx : Passes CX X E)
    (ha : PA X (e :: es) t) (hkw : PK X kws tk) (hall : (backToKw pos (keywordEach kws X.env)).all (·.1.isSome) = true := by rfl) (hks : (backToKw pos (keywordEach kws X.env)).filterMap (·.1) = ks := by rfl)
    (hdb : (x == ("__debug__" : Str)) = false := by decide) (he : starEach (e :: es) X.env = (false, eval e X.env) :: starEach es X.env := by rfl)
    (hpl : ((backTo pos (starEach (e :: es) X.env)).any (·.1) || (backToKw pos (keywordEach kws X.env)).any (·.1.isNone)) = false := by rfl) :
    PE X (.Call (.Name x p) (e :: es) kws pos) (tCallN n ks.length sp (fun vs zs => vs ++ zs) E t tk) := by
  obtain ⟨f, fd, F, m, kp, b⟩ := O.ex
  exact pe_callN F hr hg m kp b hx ha hkw hall hks hdb he hpl
end
end Xh
end
section
set_option Elab.async false
set_option linter.all false
set_option maxRecDepth 100000
set_option maxHeartbeats 2000000
namespace Xh
open PySem PySem.Spec PyProof.Rows L2
/-! ### enumerate of a tuple -/
theorem meets_enum1 {v : Value} {o : Obj} {H : Heap → Prop} (B : Begins v o H) :
    Meets (Builtin.«enumerate.__new__» ⟨[.type "enumerate", v], []⟩) (fun _ R s => H s.heap ∧
      R (.ok (.ret (.ref (s.heap.push o).objs.size))) { s with heap := (s.heap.push o).push { cls := .type "enumerate", data := .fields #[.none, .bool false, .ref s.heap.objs.size, rawInt 0, .none, .none] } }) :=
  .of_wp fun prog w A R s h => by
    obtain ⟨hp, g, d, tk, os⟩ := s
    obtain ⟨h1, h⟩ := h
    have hsub := sub_enumerate
    have q1 : ∀ {A' : Around} {E : Value → Shared → Prop} {Q : Value → Shared → Prop}, Q (.ref hp.objs.size) ⟨hp.push o, g, d, tk, os⟩ → wpAny (model prog w) A' (pyIter v) Q E ⟨hp, g, d, tk, os⟩ :=
      fun q => B.iter prog w _ _ ⟨hp, g, d, tk, os⟩ _ h1 q
    wp_walk using q1
    refine wpAny_stack_any fun st => wpAny_pure ?_
    split
    · rename_i c _ _ _ _ _
      cases (c == Value.type "enumerate")
      · wp_walk using q1
        exact ⟨_, rfl, h⟩
      · wp_walk using q1
        exact ⟨_, rfl, h⟩
    · wp_walk using q1
      exact ⟨_, rfl, h⟩
theorem call_enum1 {prog : Program} {w : World} {A : Around} {E : Value → Shared → Prop} {s : Shared} {v : Value} {o : Obj} {H : Heap → Prop} {Q : Value → Shared → Prop} (B : Begins v o H) (h1 : H s.heap)
    (h : ∀ h', IsEnum h' (s.heap.objs.size + 1) s.heap.objs.size 0 .none → h'.get? s.heap.objs.size = some o → h'.objs.size = s.heap.objs.size + 2 →
      (∀ b o, s.heap.get? b = some o → h'.get? b = some o) → Q (.ref (s.heap.objs.size + 1)) { s with heap := h' }) :
    wpAny (model prog w) A (call (.type "enumerate") [v]) Q E s := by
  refine callType_new F.called_enumerate (by decide) (F.typeCall_enumerate_1 _) (F.newCall_enumerate_1 _) (fun obj => F.args_object_init_2 obj _) F.entry_enumerate_new (meets_enum1 B) ⟨h1, ?_⟩
  have hz : (s.heap.push o).objs.size = s.heap.objs.size + 1 := Heap.size_push ..
  show _ ∧ _
  rw [hz]
  have he := Heap.get?_push_size (s.heap.push o) (o := { cls := .type "enumerate", data := .fields #[.none, .bool false, .ref s.heap.objs.size, rawInt 0, .none, .none] }) rfl
  rw [hz] at he
  exact ⟨⟨_, he, rfl⟩, h _ he (Heap.get?_push_of_some _ (Heap.get?_push_size _ B.free)) (by rw [Heap.size_push, hz]) fun b o x => Heap.get?_push_of_some _ (Heap.get?_push_of_some _ x)⟩
/-- the tuple at a, each item in a new pair with its place -/
def IteT (K : PySem.W.Frag) (a : Addr) : It :=
  ⟨fun i H => ∃ (xs : List V) (x : V), SqT K H a xs ∧ xs[i]? = some x, fun i H v H' => ∃ T x, v = .ref T ∧ H T = none ∧ H' = upd H T (.tup [.int (i : Nat), x]) ∧ ∀ xs, SqT K H a xs → xs[i]? = some x, fun i H => ∃ xs : List V, SqT K H a xs ∧ xs.length ≤ i⟩
theorem next_enum_endT {prog : Program} {w : World} {A : Around} {E : Value → Shared → Prop} {s : Shared} {e it l : Addr} {i : Nat} {items : Array Value} {c : Int} {old : Value} {Q : Option Value → Shared → Prop} (hh : A.handled = none)
    (he : IsEnum s.heap e it c old) (hit : s.heap.IsTupleIter it l i) (hl : s.heap.IsTuple l items) (hx : items[i]? = none) (hQ : ∀ h', Heap.ExtBut it s.heap h' → Q none { s with heap := h' }) : wpAny (model prog w) A (pyNext (.ref e)) Q E s := by
  unfold pyNext
  refine wpAny_bind (wpAny_attempt (wpAny_callSpecial?_slot (name := Str.ofString "__next__") ⟨_, he, rfl⟩ F.slot_enumerate_next (wpAny_call_entry F.slot_enumerate_next ⟨_, he, rfl⟩ F.entry_enumerate_next ?_ (F.args_enumerate_next_1 _))))
  show wpAny _ _ (field (.ref e) 2 >>= _) _ _ _
  refine wpAny_bind (wpAny_field he rfl (x := .ref it) rfl (wpAny_bind (wpAny_nextOf_tuple_end hh hit hl hx fun h' x he' hx' => ?_)))
  obtain ⟨o, ho, hc⟩ := hx'
  exact wpAny_bind (wpAny_isInstance (T := "StopIteration") (b := true) ⟨o, ho, hc⟩ isSubtype_stop (wpAny_pure (hQ _ he')))
theorem turn_enumT {P : Program} {w : World} {K : PySem.W.Frag} {elts : List Expr} {kk : Nat} {tpos : Pos} {a e it : Addr} (hai : a ≠ it) (hea : e ≠ a) :
    Turn P w K (.Tuple elts kk tpos) (IteT K a) [e, it] e (fun i h => (∃ old, IsEnum h e it ((i : Nat) : Int) old) ∧ h.IsTupleIter it a i ∧ e ≠ it) where
  mem := by simp
  obj := fun i h st b hb => by
    obtain ⟨⟨old, he⟩, ⟨o, ho, hc, hd⟩, _⟩ := st
    rcases (show b = e ∨ b = it by simpa using hb) with rfl | rfl
    · exact ⟨_, he, fun v q => nomatch q⟩
    · exact ⟨o, ho, fun v q => by rw [hd] at q; cases q⟩
  keep := fun i h h' st k => let ⟨⟨old, he⟩, hi, hne⟩ := st; ⟨⟨old, k e (by simp) _ he⟩, hi.at fun o q => k it (by simp) o q, hne⟩
  item := by
    intro X hP hw hK hc i pins s σ H E I hf st hg
    subst hP hw hK
    obtain ⟨⟨old, he⟩, hit, hne⟩ := st
    obtain ⟨xs, x, hq, hx⟩ := hg
    obtain ⟨its, rv, p, hz⟩ := I.tuple hq
    obtain ⟨u, hu, ru⟩ := rv.get hx
    have hel : e < s.heap.objs.size := Heap.lt_size he
    have hil : it < s.heap.objs.size := by obtain ⟨_, q, _⟩ := hit; exact Heap.lt_size q
    have hlt : i < its.toArray.size := by
      obtain ⟨z, _⟩ := List.getElem?_eq_some_iff.mp hu
      simpa using z
    have D := Draws.tuple (prog := X.prog) (w := X.w) (A := X.A.in1) (I.ok.hd hc) it a hai its.toArray
    refine wpAny_pyNext_enum_itemD D he ⟨hit, p⟩ hlt hne (by simp [hne, hea]) fun x' h' tk hx' ho hs' hT hsz hk => ?_
    have ex : x' = u := by
      have z : its[i]? = some x' := by simpa using hx'
      rw [hu] at z
      exact (Option.some.inj z).symm
    subst ex
    refine ⟨_, rfl, wpAny_letOwnedTupleGo_enum (s := { s with heap := h', toks := tk + 1 }) ho fun h'' he' sb => ?_⟩
    have hT2 := (sb.2 _ (Nat.ne_of_gt hel)).trans hT
    have new : ObjOk X.prog X.w (upd H s.heap.objs.size (.tup [.int (i : Nat), x])) h'' s.heap.objs.size (.tup [.int (i : Nat), x]) :=
      ⟨by show 2 ≤ sizeLine; decide, [.int i tk, x'], .cons ⟨_, rfl⟩ (.cons ru .nil), ⟨_, hT2, rfl, _, rfl⟩⟩
    have I1 : Inv X pins σ (upd H s.heap.objs.size (.tup [.int (i : Nat), x])) { s with heap := h'', toks := tk + 1 } :=
      I.turnedNew (ch := [e, it]) (fun b ob hb q => (sb.2 b (fun z => hb (by simp [z]))).trans (hk b ob (fun z => hb (by simp [z])) (fun z => hb (by simp [z])) q)) hf (Nat.le_refl _) new
    refine ⟨.ref s.heap.objs.size, _, I1, rfl, ⟨_, x, rfl, I.hok.fresh (Nat.le_refl _), rfl, fun ys hy => by rw [I.tuple_inj hy hq]; exact hx⟩, ⟨⟨x', ?_⟩, hs'.1.at fun o q => (sb.2 it (Ne.symm hne)).trans q, hne⟩, fun b hb => ?_⟩
    · rw [show ((i + 1 : Nat) : Int) = (i : Int) + 1 by omega]
      exact he'
    · have hb' : b < s.heap.objs.size := by
        rcases (show b = e ∨ b = it by simpa using hb) with rfl | rfl
        · exact hel
        · exact hil
      rw [upd_ne (Nat.ne_of_lt hb')]
      exact (hf b hb).1
  done := by
    intro X hP hw hK hc i pins s σ H E I hf st hg
    subst hP hw hK
    obtain ⟨⟨old, he⟩, hit, hne⟩ := st
    obtain ⟨xs, hq, hx⟩ := hg
    obtain ⟨its, rv, p, hz⟩ := I.tuple hq
    obtain ⟨f0, f1, f2, f3, f4, f5⟩ := hf it (by simp)
    have hl := rv.length
    exact next_enum_endT (I.ok.hd hc) he hit p (by simp; omega) fun h' eb => ⟨rfl, I.turned (t' := s.toks) (fun b o hb q => eb b o hb q) f0 f1 f3 f4 f5⟩
  self := fun A i s Q E st h => let ⟨⟨_, he⟩, _⟩ := st; wpAny_pyIter_enum he h
def iEnT (K : PySem.W.Frag) (ta : TA) : TI := fun σ H R => ta σ H fun vs H1 => ∃ a xs, vs = [.ref a] ∧ SqT K H1 a xs ∧ R (IteT K a) H1
theorem pi_enT {X : Cx} {e : Expr} {ta : TA} {p pos tpos : Pos} {elts : List Expr} {kk : Nat} (hg : Gl X "enumerate") (hm : X.mg "enumerate" = none) (ha : PA X [e] ta) (hs : starEach [e] X.env = [(false, eval e X.env)] := by rfl) :
    PI X (.Tuple elts kk tpos) (.Call (.Name "enumerate" p) [e] [] pos) (iEnT X.K ta) := by
  refine ⟨fun pins s σ H R I h => ?_⟩
  refine Call_ (ld_blt I hg hm boot_enumerate (PyProof.Rows.callWith_type1 (thn (ha.run pos pins s σ H _ I h) fun us s1 ⟨vs, H1, I1, r1, q1⟩ => ?_) hs rfl))
  obtain ⟨a, xs, rfl, hq, q⟩ := q1
  cases r1 with
  | cons r rr =>
    cases rr
    cases r
    obtain ⟨its, rv, p', hz⟩ := I1.tuple hq
    have al : a < s1.heap.objs.size := by
      obtain ⟨o, q', _⟩ := p'
      exact Heap.lt_size q'
    refine call_enum1 (begins_tuple a its.toArray) p' fun h' he hit hsz hk => wpAny_pyIter_enum he ?_
    have I2 : Inv X pins σ H1 { s1 with heap := h' } := I1.kept (t' := s1.toks) hk
    refine ⟨s1.heap.objs.size + 1, [s1.heap.objs.size + 1, s1.heap.objs.size], _, _, H1, rfl, I2, turn_enumT (Nat.ne_of_lt al) (Nat.ne_of_gt (Nat.lt_succ_of_lt al)), ⟨⟨.none, he⟩, ⟨_, hit, rfl, rfl⟩, Nat.succ_ne_self _⟩, fun b hb => ?_, q⟩
    have hle : s1.heap.objs.size ≤ b := by
      rcases (show b = s1.heap.objs.size + 1 ∨ b = s1.heap.objs.size by simpa using hb) with rfl | rfl
      · exact Nat.le_add_right _ _
      · exact Nat.le_refl _
    exact I1.fpOk hle (I1.hok.fresh hle)
theorem walk_enT {K : PySem.W.Frag} {a : Addr} {xs : List V} : Walk (IteT K a) xs.length (fun H => SqT K H a xs) (YPair (fun i => some (.int (i : Nat))) (fun i => xs[i]?)) :=
  ⟨fun i H hi h => ⟨xs, xs[i], h, by simp [hi]⟩, fun H h => ⟨xs, h, Nat.le_refl _⟩,
    fun i H x H' hi h y => by
      obtain ⟨T, u, e1, e2, e3, q⟩ := y
      exact ⟨T, _, u, e1, e2, e3, rfl, q xs h⟩⟩
end Xh
namespace Xh
open PySem PySem.Spec PyProof.Rows L2
/-- xs[i] of a list, i not below 0, for `xs[i] op= e` -/
theorem get_list {X : Cx} : PGet X (rIxL X.K) := by
  intro pins s σ H o i ov iv Q I ro ri h
  obtain ⟨p, xs, k, z, rfl, rfl, hq, he, q⟩ := h
  cases ro
  obtain ⟨t, rfl⟩ := ri
  obtain ⟨its, r, pl, hz⟩ := I.list hq
  obtain ⟨j, h1, h2, h3, h4, h5⟩ := atI_get he
  obtain ⟨w, ew, rw'⟩ := r.get h2
  have hl := r.length
  have hn := line63
  have fin : EP X pins σ Q w s := ⟨z, H, I, rw', q⟩
  by_cases h0 : 0 ≤ k
  · have hj : k.toNat = j := by
      rw [seqIndex_of h0 h5] at h1
      exact Option.some.inj h1
    exact wpAny_getItem_list pl.isList h0 (by omega) (by rw [hj]; simpa using ew) fin
  · have hj : (k + (its.toArray.size : Int)).toNat = j := by
      rw [seqIndex_neg (by omega) h4] at h1
      rw [List.size_toArray, ← hl]
      exact Option.some.inj h1
    exact wpAny_getItem_list_neg pl.isList (by omega) (by rw [List.size_toArray] <;> omega) (by omega) (by rw [hj]; simpa using ew) fin
end Xh
end
section
set_option Elab.async false
set_option linter.all false
set_option maxRecDepth 100000
set_option maxHeartbeats 4000000
namespace Xk
open PySem PySem.Spec PyProof.Rows L2 Xh
def topS (i : Nat) : Stmt := PySem.Challenge.pw_rungfields_k18_rows_made_or_barred.main.body.getD i (.Pass ⟨0, 0, 0, 0⟩)
/-- names that are the built-in ones still -/
structure Fre (mg : Str → Option Value) : Prop where
  f_len : mg "len" = none
  f_abs : mg "abs" = none
  f_list : mg "list" = none
  f_tuple : mg "tuple" = none
  f_int : mg "int" = none
  f_bool : mg "bool" = none
  f_str : mg "str" = none
  f_isinstance : mg "isinstance" = none
  f_range : mg "range" = none
  f_all : mg "all" = none
  f_zip : mg "zip" = none
  f_enumerate : mg "enumerate" = none
  f_max : mg "max" = none
  f_reversed : mg "reversed" = none
  f_any : mg "any" = none
  f_sorted : mg "sorted" = none
  f_set : mg "set" = none
  f_sum : mg "sum" = none
/-! ### what is drawn -/
/-- a row of draws stands at d -/
def Draw (H : Hp) (d : Addr) : Prop := ∃ (c : Addr) (ns : List Int) (i : Nat) (r g : Int), H d = some (.lst [.ref c, .int i, .int r, .int g]) ∧ H c = some (.lst (ns.map V.int)) ∧ 0 ≤ g ∧ g < 2147483647
/-- all but what stands at d is as it was -/
structure But (d : Addr) (H H' : Hp) : Prop where
  f : ∀ b o, b ≠ d → H b = some o → H' b = some o
  c : ∀ c r, H d = some (.lst (.ref c :: r)) → ∃ r', H' d = some (.lst (.ref c :: r'))
instance {d : Addr} {H H' : Hp} : CoeFun (But d H H') (fun _ => ∀ b o, b ≠ d → H b = some o → H' b = some o) := ⟨But.f⟩
theorem But.refl (d : Addr) (H : Hp) : But d H H := ⟨fun _ _ _ e => e, fun _ r e => ⟨r, e⟩⟩
theorem But.trans {d : Addr} {H H1 H2 : Hp} (a : But d H H1) (b : But d H1 H2) : But d H H2 := ⟨fun c o h e => b.f c o h (a.f c o h e), fun c r e => by
  obtain ⟨r1, e1⟩ := a.c c r e
  exact b.c c r1 e1⟩
theorem But.same {d : Addr} {H H1 : Hp} (a : Same H H1) : But d H H1 := ⟨fun c o _ e => a c o e, fun c r e => ⟨r, a _ _ e⟩⟩
theorem But.upd {d c : Addr} {H : Hp} {r r' : List V} (h : H d = some (.lst (.ref c :: r))) : But d H (upd H d (.lst (.ref c :: r'))) := ⟨fun b u h e => by rw [upd_ne h]; exact e, fun c' r2 e => by
  rw [h] at e
  cases e
  exact ⟨r', upd_same⟩⟩
theorem But.updN {d p : Addr} {H : Hp} {o : HO} (h : H p = none) : But d H (L2.upd H p o) := ⟨fun b u _ e => by rw [upd_ne (ne_of_none e h)]; exact e, fun c r e => ⟨r, by rw [upd_ne (ne_of_none e h)]; exact e⟩⟩
theorem But.free {d p : Addr} {H H' : Hp} (a : But d H H') (h : H' p = none) (hd : p ≠ d) : H p = none := by
  cases q : H p with
  | none => rfl
  | some o =>
    rw [a p o hd q] at h
    cases h
theorem same_upd {p : Addr} {H : Hp} {o : HO} (h : H p = none) : Same H (L2.upd H p o) := fun b u e => by rw [upd_ne (ne_of_none e h)]; exact e
theorem Draw.there {H : Hp} {d : Addr} (D : Draw H d) : ∃ o, H d = some o := by
  obtain ⟨c, ns, i, r, g, h, _⟩ := D
  exact ⟨_, h⟩
theorem Draw.same {H H' : Hp} {d : Addr} (D : Draw H d) (s : Same H H') : Draw H' d := by
  obtain ⟨c, ns, i, r, g, h1, h2, h3⟩ := D
  exact ⟨c, ns, i, r, g, s _ _ h1, s _ _ h2, h3⟩
theorem Draw.ne {H : Hp} {d p : Addr} (D : Draw H d) (h : H p = none) : p ≠ d := fun z => by
  obtain ⟨o, e⟩ := D.there
  rw [z, e] at h
  cases h
theorem But.seq {K : PySem.W.Frag} {d a : Addr} {H H' : Hp} {xs : List V} (b : But d H H') (hd : a ≠ d) (h : SqL K H a xs) : SqL K H' a xs := by
  rcases h with (h | ⟨o, h⟩) | h
  · exact .inl (.inl (b _ _ hd h))
  · exact .inl (.inr ⟨o, b _ _ hd h⟩)
  · exact .inr h
/-- a row that is not the drawing one -/
theorem Draw.apart {H : Hp} {d p : Addr} {ns : List Int} (D : Draw H d) (h : H p = some (.lst (ns.map V.int))) : p ≠ d := fun z => by
  obtain ⟨c, ms, i, r, g, h1, h2, h3⟩ := D
  rw [z, h1] at h
  cases ns with
  | nil => cases h
  | cons n ns => cases h
/-- a list of the comprehension's own grows while draws go on -/
theorem Draw.updR {H0 H2 : Hp} {d D : Addr} {xs ys : List V} (D0 : Draw H0 d) (hD : H0 D = none) (b : But d H0 H2) (D2 : Draw H2 d) (e : H2 D = some (.lst xs)) : Draw (L2.upd H2 D (.lst ys)) d := by
  obtain ⟨c, ns, i, r, g, h1, h2, _⟩ := D0
  obtain ⟨c', ns', i', r', g', f1, f2, f3⟩ := D2
  obtain ⟨q, e1⟩ := b.c _ _ h1
  rw [f1] at e1
  cases e1
  exact ⟨_, ns', i', r', g', by rw [upd_ne (ne_of_none h1 hD)]; exact f1, by rw [upd_ne (ne_of_none h2 hD)]; exact f2, f3⟩
theorem cutV_ints (ns : List Int) (lo hi : Option Int) : ∃ ms : List Int, cutV (ns.map V.int) lo hi = ms.map V.int := by
  refine ⟨(ns.drop (HT.sIx ns.length 0 lo)).take (HT.sIx ns.length ns.length hi - HT.sIx ns.length 0 lo), ?_⟩
  unfold cutV
  rw [List.length_map, ← List.map_drop, ← List.map_take]
theorem ne_of_none' {H : Hp} {a b : Addr} {o : HO} (h : H a = none) (h' : H b = some o) : a ≠ b := fun z => by
  rw [z, h'] at h
  cases h
def spBegin (K : PySem.W.Frag) : Sp := fun vs H Q _ => ∃ (a : Addr) (ns : List Int), vs = [.ref a] ∧ SqL K H a (ns.map V.int) ∧ ∀ d H', Same H H' → H d = none → Draw H' d → Q (.ref d) H'
def spTake : Sp := fun vs H Q _ => ∃ (d : Addr) (n : Int), vs = [.ref d, .int n] ∧ Draw H d ∧ 1 ≤ n ∧ n.natAbs < 2 ^ 200 ∧ ∀ (m : Int) (H' : Hp), 0 ≤ m → m < n → Draw H' d → But d H H' → Q (.int m) H'
def spOf (K : PySem.W.Frag) : Sp := fun vs H Q _ => ∃ (d a : Addr) (xs : List V), vs = [.ref d, .ref a] ∧ Draw H d ∧ SqL K H a xs ∧ a ≠ d ∧ 0 < xs.length ∧ xs.length ≤ 1000 ∧ ∀ (x : V) (H' : Hp), x ∈ xs → Draw H' d → But d H H' → Q x H'
def primes : List Int := [2, 3, 5, 7, 11, 13, 17, 19, 23, 29, 31, 37, 41, 43, 47, 53, 59, 61, 67, 71, 73, 79, 83, 89, 97]
def spPrimes : Sp := fun vs H Q _ => vs = [] ∧ ∀ (p : Addr) (H' : Hp), Same H H' → H p = none → H' p = some (.lst (primes.map V.int)) → Q (.ref p) H'
def spAnyPrime : Sp := fun vs H Q _ => ∃ (d : Addr), vs = [.ref d] ∧ Draw H d ∧ ∀ (p : Int) (H' : Hp), p ∈ primes → Draw H' d → But d H H' → Q (.int p) H'
theorem big {n : Nat} (h : n ≤ 1000) : n < 2 ^ 200 := Nat.lt_of_le_of_lt h (by decide)
section
variable {P : Program} {w : World} {K : PySem.W.Frag} {mg : Str → Option Value} {base : Heap}
abbrev s_law_begin : Stmt := topS 42
theorem sc_law_begin : FnScope (["_law_script"] : List Str) ["_law_script"] (defScope s_law_begin) := ⟨rfl, rfl, rfl, by decide +kernel, rfl, by decide +kernel, by decide +kernel⟩
theorem ok_begin {f : Addr} {fd : FuncData} (F : FunD K "_law_begin" "_law_begin" (defArgs s_law_begin) (defBody s_law_begin) (defScope s_law_begin) [] [] f fd) (T : Fre mg) : FnOk P w K mg base CX0 1 f fd ["_law_script"] (spBegin K) := by
  refine F.ok sc_law_begin (fun vs H Q E h => ?_) (fun cdv A outer s H vs Q E hr h => ?_)
  · obtain ⟨a, ns, rfl, _⟩ := h
    rfl
  · obtain ⟨a, ns, rfl, hS, k⟩ := h
    refine ⟨_, PSs.nox (pss_one (ps_ret (pe_lst (pa_cons (pe_callTy call_list_of (by rfl) T.f_list (by decide +kernel) (pa_cons (pe_slice sl_list (pv 0) po_none (po_some pe_int)) pa_nil)) (pa_cons pe_int (pa_cons pe_int (pa_cons pe_int pa_nil))))))) , ?_⟩
    refine ⟨_, rfl, 63, rfl, a, _, rfl, hS, fun p hp => ⟨p, _, rfl, .inl (SqL.of upd_same), fun l hl => ⟨(by show 4 ≤ sizeLine; decide), fun d hd => ?_⟩⟩⟩
    obtain ⟨ms, em⟩ := cutV_ints ns none (some 63)
    have h1 : H l = none := by rw [← upd_ne (H := H) (o := .lst (cutV (ns.map V.int) none (some 63))) (ne_of_none' hl upd_same)]; exact hl
    have s1 : Same H (L2.upd H p (.lst (cutV (ns.map V.int) none (some 63)))) := same_upd hp
    have s2 := s1.trans (same_upd (o := .lst (cutV (ns.map V.int) none (some 63))) hl)
    refine k d _ (s2.trans (same_upd hd)) (s2.free hd) ⟨l, ms, 0, 0, 37, upd_same, ?_, by decide, by decide⟩
    rw [upd_ne (ne_of_none upd_same hd), upd_same, em]
abbrev s_law_take : Stmt := topS 43
theorem sc_law_take : FnScope (["_law_draw", "_law_sides", "_law_cell", "_law_got"] : List Str) ["_law_draw", "_law_sides"] (defScope s_law_take) := ⟨rfl, rfl, rfl, by decide +kernel, rfl, by decide +kernel, by decide +kernel⟩
theorem ok_take {f : Addr} {fd : FuncData} (F : FunD K "_law_take" "_law_take" (defArgs s_law_take) (defBody s_law_take) (defScope s_law_take) [] [] f fd) (T : Fre mg) : FnOk P w K mg base CX0 1 f fd ["_law_draw", "_law_sides"] spTake := by
  refine F.ok sc_law_take (fun vs H Q E h => ?_) (fun cdv A outer s H vs Q E hr h => ?_)
  · obtain ⟨d, n, rfl, _⟩ := h
    rfl
  · obtain ⟨d, n, rfl, D, h1, h2, k⟩ := h
    obtain ⟨c, ns, i, r, g, e1, e2, g0, g1⟩ := id D
    have hcd : c ≠ d := D.apart e2
    refine ⟨_, PSs.nox (C8.pss_cut (ps_if (PW.pt (pw_and (pt_cmpR op_lt (pe_ix ix_list (pv 0) pe_int (fun _ _ => rfl)) (pv 1) (nomark _)) (pw_and1 (pt_cmpR op_lt (pe_ix ix_list (pv 0) pe_int (fun _ _ => rfl)) (pe_callB call_len_seq (by rfl) T.f_len PySem.boot_len (pa_cons (pe_ix ix_list (pv 0) pe_int (fun _ _ => rfl)) pa_nil)) (nomark _))))) (pss_cons (ps_set (i := 2) sc_law_take.nd rfl (Or.inl rfl) (pe_ix ix_list (pe_ix ix_list (pv 0) pe_int (fun _ _ => rfl)) (pe_ix ix_list (pv 0) pe_int (fun _ _ => rfl)) (fun _ _ => rfl)))
      (pss_cons (ps_asg (pe_op op_add (pe_ix ix_list (pv 0) pe_int (fun _ _ => rfl)) pe_int) (pg_sub (pv 0) pe_int set_list))
      (pss_cons (ps_asg pe_int (pg_sub (pv 0) pe_int set_list))
      (pss_one (ps_if (pt_cmpR op_ge (pe_callB call_abs (by rfl) T.f_abs (by decide +kernel) (pa_cons (pv 2) pa_nil)) (pe_op op_pow pe_int pe_int) (nomark _)) (pss_one (ps_asg (pe_callB call_abs (by rfl) T.f_abs (by decide +kernel) (pa_cons (pv 2) pa_nil)) (pg_sub (pv 0) pe_int set_list))) (pss_one (ps_asg (pe_op op_modN (pe_op op_add (pe_op op_add (pe_op op_mul (pe_ix ix_list (pv 0) pe_int (fun _ _ => rfl)) pe_int) (pe_op op_mul (pe_op op_modN (pv 2) pe_int) pe_int)) pe_int) pe_int) (pg_sub (pv 0) pe_int set_list)))))))) pss_nil)
      (pss_cons (ps_if (pt_cmpR op_ge (pe_ix ix_list (pv 0) pe_int (fun _ _ => rfl)) (pv 1) (nomark _)) (pss_cons (ps_set (i := 3) sc_law_take.nd rfl (Or.inl rfl) (pe_op op_modN (pe_ix ix_list (pv 0) pe_int (fun _ _ => rfl)) (pv 1)))
      (pss_cons (ps_asg (pe_op op_fdivW (pe_ix ix_list (pv 0) pe_int (fun _ _ => rfl)) (pv 1)) (pg_sub (pv 0) pe_int set_list))
      (pss_one (ps_ret (pv 3))))) pss_nil)
      (pss_cons (ps_asg (pe_op op_modN (pe_op op_add (pe_op op_add (pe_op op_mul (pe_op op_modN (pe_op op_mul (pe_ix ix_list (pv 0) pe_int (fun _ _ => rfl)) (pe_ix ix_list (pv 0) pe_int (fun _ _ => rfl))) pe_int) pe_int) (pe_op op_mul (pe_ix ix_list (pv 0) pe_int (fun _ _ => rfl)) pe_int)) pe_int) pe_int) (pg_sub (pv 0) pe_int set_list))
      (pss_one (ps_ret (pe_op op_modN (pe_op op_add (pe_op op_fdivW (pe_ix ix_list (pv 0) pe_int (fun _ _ => rfl)) pe_int) (pe_op op_mul (pe_op op_modN (pe_ix ix_list (pv 0) pe_int (fun _ _ => rfl)) pe_int) pe_int)) (pv 1))))))) , ?_⟩
    refine ⟨fun σ' H' => ∃ x, σ' = [some (.ref d), some (.int n), x, none] ∧ Draw H' d ∧ But d H H', ?_, ?_⟩
    · have same : ∃ x, L2.start ["_law_draw", "_law_sides", "_law_cell", "_law_got"] [V.ref d, V.int n] = [some (.ref d), some (.int n), x, none] ∧ Draw H d ∧ But d H H := ⟨none, rfl, D, But.refl d H⟩
      refine ⟨_, rfl, d, _, 2, _, rfl, rfl, SqL.of e1, rfl, _, rfl, _, _, rfl, rfl, _, rfl, ?_⟩
      refine ite2 (fun hc => ?_) (fun hc => ?_)
      · refine ⟨_, rfl, d, _, 1, _, rfl, rfl, SqL.of e1, rfl, _, rfl, d, _, 0, _, rfl, rfl, SqL.of e1, rfl, c, _, rfl, .inl (SqL.of e2), _, _, rfl, rfl, _, rfl, ?_⟩
        refine ite2 (fun hi => ?_) (fun hi => ?_)
        · have hi' : i < ns.length := by
            have z := of_decide_eq_true hi
            rw [List.length_map] at z
            omega
          have e1a : ∀ o : HO, L2.upd H d o d = some o := fun o => upd_same
          refine ⟨_, rfl, d, _, 0, _, rfl, rfl, SqL.of e1, rfl, _, rfl, d, _, 1, _, rfl, rfl, SqL.of e1, rfl, c, _, i, .int ns[i], rfl, rfl, SqL.of e2, atI_nat (by simp [hi']), ?_⟩
          refine ⟨_, rfl, d, _, 1, _, rfl, rfl, SqL.of e1, rfl, _, _, rfl, rfl, _, rfl, d, _, 1, 1, rfl, rfl, e1, rfl, ?_⟩
          refine ⟨_, rfl, d, _, 2, 2, rfl, rfl, upd_same, rfl, ?_⟩
          rw [upd_upd]
          refine ⟨_, rfl, _, rfl, _, _, rfl, rfl, ⟨by decide, by decide, by decide⟩, _, _, rfl, rfl, _, rfl, ?_⟩
          have fin : ∀ (r' g' : Int), 0 ≤ g' → g' < 2147483647 → ∃ x, [some (V.ref d), some (V.int n), some (V.int ns[i]), none] = [some (.ref d), some (.int n), x, none] ∧ Draw (L2.upd H d (.lst [.ref c, .int ((i : Int) + 1), .int r', .int g'])) d ∧ But d H (L2.upd H d (.lst [.ref c, .int ((i : Int) + 1), .int r', .int g'])) := fun r' g' a1 a2 =>
            ⟨_, rfl, ⟨c, ns, i + 1, r', g', upd_same, by rw [upd_ne hcd]; exact e2, a1, a2⟩, But.upd e1⟩
          refine ite2 (fun ha => ?_) (fun ha => ?_)
          · refine ⟨_, rfl, _, rfl, _, rfl, d, _, 2, 2, rfl, rfl, upd_same, rfl, ?_⟩
            rw [upd_upd]
            exact fin _ g g0 g1
          · refine ⟨_, rfl, d, _, 3, _, rfl, rfl, SqL.of upd_same, rfl, _, _, rfl, rfl, .inr ⟨by decide, by decide⟩, _, rfl, _, _, rfl, rfl, (fun z => absurd z (by decide)), _, _, rfl, rfl, .inr ⟨by decide, by decide⟩, _, _, rfl, rfl, _, _, rfl, rfl, _, _, rfl, rfl, (fun z => absurd z (by decide)), _, rfl, d, _, 3, 3, rfl, rfl, upd_same, rfl, ?_⟩
            rw [upd_upd]
            exact fin 0 _ (Int.fmod_nonneg_of_pos _ (by decide)) (Int.fmod_lt_of_pos _ (by decide))
        · exact same
      · exact same
    · rintro σ' H' ⟨x, rfl, ⟨c', ns', i', r', g', f1, f2, b0, b1⟩, hb⟩
      have D' : Draw H' d := ⟨c', ns', i', r', g', f1, f2, b0, b1⟩
      have hcd' : c' ≠ d := D'.apart f2
      have hwd : CDivW r' n := wide_div (b := 200) (by omega) h2 (by decide) (by decide)
      refine ⟨_, rfl, d, _, 2, _, rfl, rfl, SqL.of f1, rfl, _, rfl, _, _, rfl, rfl, _, rfl, ?_⟩
      refine ite2 (fun hc => ?_) (fun hc => ?_)
      · refine ⟨_, rfl, d, _, 2, _, rfl, rfl, SqL.of f1, rfl, _, rfl, _, _, rfl, rfl, (by show n ≠ 0; omega), ?_⟩
        refine ⟨_, rfl, d, _, 2, _, rfl, rfl, SqL.of f1, rfl, _, rfl, _, _, rfl, rfl, hwd, _, rfl, d, _, 2, 2, rfl, rfl, f1, rfl, _, rfl, ?_⟩
        refine k _ _ (Int.fmod_nonneg_of_pos _ (by omega)) (Int.fmod_lt_of_pos _ (by omega)) ⟨c', ns', i', _, g', upd_same, by rw [upd_ne hcd']; exact f2, b0, b1⟩ (hb.trans (But.upd f1))
      · refine ⟨_, rfl, d, _, 3, _, rfl, rfl, SqL.of f1, rfl, _, rfl, d, _, 3, _, rfl, rfl, SqL.of f1, rfl, _, _, rfl, rfl, .inl ⟨by omega, by omega⟩, _, _, rfl, rfl, (fun z => absurd z (by decide)), _, _, rfl, rfl, .inr ⟨by decide, by decide⟩, _, rfl, d, _, 3, _, rfl, rfl, SqL.of f1, rfl, _, _, rfl, rfl, .inr ⟨by decide, by decide⟩, _, _, rfl, rfl, _, _, rfl, rfl, _, _, rfl, rfl, (fun z => absurd z (by decide)), _, rfl, d, _, 3, 3, rfl, rfl, f1, rfl, ?_⟩
        refine ⟨_, rfl, d, _, 3, _, rfl, rfl, SqL.of upd_same, rfl, _, _, rfl, rfl, wide_div (b := 6) (by decide) (by decide) (by decide) (by decide), _, rfl, d, _, 3, _, rfl, rfl, SqL.of upd_same, rfl, _, _, rfl, rfl, (fun z => absurd z (by decide)), _, _, rfl, rfl, .inr ⟨by decide, by decide⟩, _, _, rfl, rfl, _, rfl, _, _, rfl, rfl, (by show n ≠ 0; omega), ?_⟩
        refine k _ _ (Int.fmod_nonneg_of_pos _ (by omega)) (Int.fmod_lt_of_pos _ (by omega)) ⟨c', ns', i', _, _, upd_same, by rw [upd_ne hcd']; exact f2, Int.fmod_nonneg_of_pos _ (by decide), Int.fmod_lt_of_pos _ (by decide)⟩ (hb.trans (But.upd f1))
abbrev s_law_of : Stmt := topS 44
theorem sc_law_of : FnScope (["_law_draw", "_law_row"] : List Str) ["_law_draw", "_law_row"] (defScope s_law_of) := ⟨rfl, rfl, rfl, by decide +kernel, rfl, by decide +kernel, by decide +kernel⟩
theorem ok_of {f : Addr} {fd : FuncData} (F : FunD K "_law_of" "_law_of" (defArgs s_law_of) (defBody s_law_of) (defScope s_law_of) [] [] f fd) (T : Fre mg) (o_law_take : Own P w K mg base CX0 1 "_law_take" ["_law_draw", "_law_sides"] [] spTake) : FnOk P w K mg base CX0 2 f fd ["_law_draw", "_law_row"] (spOf K) := by
  refine F.ok sc_law_of (fun vs H Q E h => ?_) (fun cdv A outer s H vs Q E hr h => ?_)
  · obtain ⟨d, a, xs, rfl, _⟩ := h
    rfl
  · obtain ⟨d, a, xs, rfl, D, hS, had, h1, h2, k⟩ := h
    refine ⟨_, PSs.nox (pss_one (ps_ret (pe_ix ix_list (pv 1) (pe_own o_law_take (hr.mono (by decide)) rfl pass0 (pa_cons (pv 0) (pa_cons (pe_callB call_len_seq (by rfl) T.f_len PySem.boot_len (pa_cons (pv 1) pa_nil)) pa_nil))) (fun _ _ => rfl)))) , ?_⟩
    refine ⟨_, rfl, _, rfl, _, rfl, a, _, rfl, .inl hS, d, _, rfl, D, (by show 1 ≤ ((xs.length : Nat) : Int); omega), (by show ((xs.length : Nat) : Int).natAbs < 2 ^ 200; exact big (by omega)), fun m H' m0 m1 D' B => ?_⟩
    obtain ⟨j, rfl⟩ := Int.eq_ofNat_of_zero_le m0
    have hj : j < xs.length := by omega
    refine ⟨a, xs, j, xs[j], rfl, rfl, B.seq had hS, atI_nat (by simp [hj]), k _ _ (List.getElem_mem hj) D' B⟩
abbrev s_law_primes : Stmt := topS 47
theorem sc_law_primes : FnScope ([] : List Str) [] (defScope s_law_primes) := ⟨rfl, rfl, rfl, by decide +kernel, rfl, by decide +kernel, by decide +kernel⟩
theorem ok_primes {f : Addr} {fd : FuncData} (F : FunD K "_law_primes" "_law_primes" (defArgs s_law_primes) (defBody s_law_primes) (defScope s_law_primes) [] [] f fd) : FnOk P w K mg base CX0 1 f fd [] spPrimes := by
  refine F.ok sc_law_primes (fun vs H Q E h => ?_) (fun cdv A outer s H vs Q E hr h => ?_)
  · obtain ⟨rfl, _⟩ := h
    rfl
  · obtain ⟨rfl, k⟩ := h
    refine ⟨_, PSs.nox (pss_one (ps_ret (pe_lst (pa_cons pe_int (pa_cons pe_int (pa_cons pe_int (pa_cons pe_int (pa_cons pe_int (pa_cons pe_int (pa_cons pe_int (pa_cons pe_int (pa_cons pe_int (pa_cons pe_int (pa_cons pe_int (pa_cons pe_int (pa_cons pe_int (pa_cons pe_int (pa_cons pe_int (pa_cons pe_int (pa_cons pe_int (pa_cons pe_int (pa_cons pe_int (pa_cons pe_int (pa_cons pe_int (pa_cons pe_int (pa_cons pe_int (pa_cons pe_int (pa_cons pe_int pa_nil)))))))))))))))))))))))))))) , ?_⟩
    exact ⟨(by show 25 ≤ sizeLine; decide), fun p hp => k p _ (same_upd hp) hp upd_same⟩
abbrev s_law_any_prime : Stmt := topS 48
theorem sc_law_any_prime : FnScope (["_law_draw"] : List Str) ["_law_draw"] (defScope s_law_any_prime) := ⟨rfl, rfl, rfl, by decide +kernel, rfl, by decide +kernel, by decide +kernel⟩
theorem ok_any_prime {f : Addr} {fd : FuncData} (F : FunD K "_law_any_prime" "_law_any_prime" (defArgs s_law_any_prime) (defBody s_law_any_prime) (defScope s_law_any_prime) [] [] f fd) (o_law_of : Own P w K mg base CX0 2 "_law_of" ["_law_draw", "_law_row"] [] (spOf K)) (o_law_primes : Own P w K mg base CX0 1 "_law_primes" [] [] spPrimes) : FnOk P w K mg base CX0 3 f fd ["_law_draw"] spAnyPrime := by
  refine F.ok sc_law_any_prime (fun vs H Q E h => ?_) (fun cdv A outer s H vs Q E hr h => ?_)
  · obtain ⟨d, rfl, _⟩ := h
    rfl
  · obtain ⟨d, rfl, D, k⟩ := h
    refine ⟨_, PSs.nox (pss_one (ps_ret (pe_own o_law_of (hr.mono (by decide)) rfl pass0 (pa_cons (pv 0) (pa_cons (pe_own o_law_of (hr.mono (by decide)) rfl pass0 (pa_cons (pv 0) (pa_cons (pe_lst (pa_cons (pe_lst (pa_cons pe_int pa_nil)) (pa_cons (pe_lst (pa_cons pe_int (pa_cons pe_int (pa_cons pe_int pa_nil)))) (pa_cons (pe_lst (pa_cons pe_int (pa_cons pe_int pa_nil))) (pa_cons (pe_own0 o_law_primes (hr.mono (by decide)) rfl pass0) pa_nil))))) pa_nil))) pa_nil))))) , ?_⟩
    refine ⟨_, rfl, _, rfl, (by show 1 ≤ sizeLine; decide), fun p1 n1 => ⟨(by show 3 ≤ sizeLine; decide), fun p2 n2 => ⟨(by show 2 ≤ sizeLine; decide), fun p3 n3 => ⟨rfl, fun p4 H4 s4 n4 e4 => ⟨(by show 4 ≤ sizeLine; decide), fun p5 n5 => ?_⟩⟩⟩⟩⟩
    have S1 := same_upd (o := .lst [.int 2]) n1
    have S2 := same_upd (o := .lst [.int 3, .int 5, .int 7]) n2
    have S3 := same_upd (o := .lst [.int 2, .int 97]) n3
    have S5 := same_upd (o := .lst [.ref p1, .ref p2, .ref p3, .ref p4]) n5
    have S := (((S1.trans S2).trans S3).trans s4).trans S5
    have D5 := D.same S
    have q1 : L2.upd H4 p5 (.lst [.ref p1, .ref p2, .ref p3, .ref p4]) p1 = some (.lst ([2].map V.int)) := S5 _ _ (s4 _ _ (S3 _ _ (S2 _ _ upd_same)))
    have q2 : L2.upd H4 p5 (.lst [.ref p1, .ref p2, .ref p3, .ref p4]) p2 = some (.lst ([3, 5, 7].map V.int)) := S5 _ _ (s4 _ _ (S3 _ _ upd_same))
    have q3 : L2.upd H4 p5 (.lst [.ref p1, .ref p2, .ref p3, .ref p4]) p3 = some (.lst ([2, 97].map V.int)) := S5 _ _ (s4 _ _ upd_same)
    have q4 : L2.upd H4 p5 (.lst [.ref p1, .ref p2, .ref p3, .ref p4]) p4 = some (.lst (primes.map V.int)) := S5 _ _ e4
    refine ⟨d, p5, _, rfl, D5, SqL.of upd_same, (D.same (((S1.trans S2).trans S3).trans s4)).ne n5, (by show 0 < 4; decide), (by show 4 ≤ 1000; decide), fun x H6 hx D6 B6 => ?_⟩
    have : ∃ (p : Addr) (ms : List Int), x = .ref p ∧ L2.upd H4 p5 (.lst [.ref p1, .ref p2, .ref p3, .ref p4]) p = some (.lst (ms.map V.int)) ∧ 0 < ms.length ∧ ms.length ≤ 1000 ∧ ∀ m ∈ ms, m ∈ primes := by
      rcases List.mem_cons.mp hx with rfl | hx
      · exact ⟨p1, _, rfl, q1, by decide, by decide, by decide⟩
      rcases List.mem_cons.mp hx with rfl | hx
      · exact ⟨p2, _, rfl, q2, by decide, by decide, by decide⟩
      rcases List.mem_cons.mp hx with rfl | hx
      · exact ⟨p3, _, rfl, q3, by decide, by decide, by decide⟩
      rcases List.mem_cons.mp hx with rfl | hx
      · exact ⟨p4, _, rfl, q4, by decide, by decide, fun m hm => hm⟩
      · cases hx
    obtain ⟨p, ms, rfl, hp, l0, l1, hm⟩ := this
    have hpd : p ≠ d := D5.apart hp
    refine ⟨d, p, _, rfl, D6, SqL.of (B6 _ _ hpd hp), hpd, by rw [List.length_map]; exact l0, by rw [List.length_map]; exact l1, fun y H7 hy D7 B7 => ?_⟩
    obtain ⟨m, hm1, rfl⟩ := List.mem_map.mp hy
    exact k m H7 (hm m hm1) D7 (((But.same S).trans B6).trans B7)
end
end Xk
end
section
set_option Elab.async false
set_option linter.all false
set_option maxRecDepth 100000
set_option maxHeartbeats 2000000
/-! a lambda as a thing that is handed about: with parameters, kept, called in another def -/
namespace Xh
open PySem PySem.Spec PyProof.Rows L2 LamX NdefX
/-- at f stands the lambda of the words F and the body b -/
def LamO (f : Addr) (F : NF) (b : Expr) : HO := .ext fun h => ∃ pm ctv : Value, h.get? f = some (PySem.W.kla_obj "<lambda>" F.qual F.params b F.scope F.cl pm F.c ctv)
theorem lamO_ne {f : Addr} {F : NF} {b : Expr} (ps : Array Value) : LamO f F b ≠ .tbl ps := fun z => by
  unfold LamO at z
  cases z
theorem lamO_at {P : Program} {w : World} {H : Hp} {h : Heap} {f : Addr} {F : NF} {b : Expr} (hok : HOk P w H h) (e : H f = some (LamO f F b)) : ∃ pm ctv : Value, h.get? f = some (PySem.W.kla_obj "<lambda>" F.qual F.params b F.scope F.cl pm F.c ctv) := (hok f _ e).1
/-- all but the tables stays, nothing tracked is lost, the tables are tables -/
structure Gr (T : List (Addr × Str)) (H H' : Hp) : Prop where
  x : ExtN H H'
  n : ∀ b, H' b = none → H b = none
  t : Tabs T H'
section
variable {T : List (Addr × Str)} {H H1 H2 : Hp}
theorem Gr.refl (t : Tabs T H) : Gr T H H := ⟨ExtN.refl H, fun _ e => e, t⟩
theorem Gr.trans (a : Gr T H H1) (b : Gr T H1 H2) : Gr T H H2 := ⟨a.x.trans b.x, fun c e => a.n c (b.n c e), b.t⟩
theorem Gr.of (t : Tabs T H) (s : Same H H1) : Gr T H H1 := ⟨ExtN.of s, fun b e => s.free e, t.ext s⟩
theorem Gr.same (a : Gr T H H1) (s : Same H1 H2) : Gr T H H2 := a.trans (.of a.t s)
end
section
variable {X : Cx} {pins : List (Addr × Obj)} {σ : L2.St} {H : Hp} {s : Shared}
theorem inv_lamO {F : NF} {b : Expr} {pm ctv : Value} {t' : Nat} (I : Inv X pins σ H s) :
    Inv X pins σ (upd H s.heap.objs.size (LamO s.heap.objs.size F b)) { s with heap := s.heap.push (PySem.W.kla_obj "<lambda>" F.qual F.params b F.scope F.cl pm F.c ctv), toks := t' } := by
  have e : (s.heap.push (PySem.W.kla_obj "<lambda>" F.qual F.params b F.scope F.cl pm F.c ctv)).get? s.heap.objs.size = some (PySem.W.kla_obj "<lambda>" F.qual F.params b F.scope F.cl pm F.c ctv) := Heap.get?_push_size _ rfl
  exact I.laid (fun c u q => Heap.get?_push_of_some _ q) (Nat.le_refl _) ⟨⟨pm, ctv, e⟩, ⟨_, e⟩, fun g1 g2 ⟨u, v, z⟩ st => ⟨u, v, st _ z⟩⟩
/-- the lambda's words, by the maker's context -/
def lamF (X : Cx) (params : Arguments) (scope : Scope) (c' : Addr) : NF := ⟨"<lambda>", X.env.qual ++ "<lambda>", params, [], scope, cloFrom X.env.cells scope.names [], c'⟩
theorem lamV_make {T : List (Addr × Str)} {c P : Addr} {params : Arguments} {body : Expr} {scope : Scope} {pos : Pos} {E : Value → Shared → Prop} {Q : Value → Shared → Prop} (I : Inv X pins σ H s) (TB : TabB X.base X.mg c P) (hcode : X.env.code = .ref c)
    (hm : (P, X.env.qual ++ "<lambda>") ∈ T) (hu : ∀ p ∈ T, p.1 = P → p.2 = X.env.qual ++ "<lambda>") (hT : Tabs T H) (hdef : defaultsOf params X.env = ([], [])) (hfree : ∀ y ∈ scope.names, y.2 = .free → ∃ c, X.env.cells.lookup y.1 = some c)
    (fin : ∀ (f c' : Addr) (H1 : Hp) (s' : Shared), Inv X pins σ H1 s' → Gr T H H1 → H f = none → H1 f = some (LamO f (lamF X params scope c') body) → H1 c' = some (CodeO c' (X.env.qual ++ "<lambda>")) → f ∉ frs X.stack → Q (.ref f) s') :
    wpAny (model X.prog X.w) X.A (eval (.Lambda params body scope pos) X.env) Q E s := by
  obtain ⟨tb, onP, good, known⟩ := hT _ hm
  have inHeap : s.heap.get? P = some { cls := .none, data := .fields tb } := I.hok P _ onP
  have bt : s.heap.BuiltinsAt X.mg P := TB.bm.keeps I.bk
  have off : ∀ f, s.heap.objs.size ≤ f → f ∉ frs X.stack := fun f le z => by
    rcases List.mem_cons.mp (I.stkSub _ z) with e | e
    · exact absurd I.lt (by rw [← e]; exact Nat.not_lt_of_le le)
    · exact I.nofs le e
  refine PySem.W.kla_eval hdef ?_
  cases look : codeAmong pos tb.toList with
  | some cv =>
    obtain ⟨c', rfl, co⟩ := known pos cv look
    refine PySem.W.kla_makeFunctionHit (mg := X.mg) (c := c) (P := P) (ps := tb) (closure_ok hfree) I.ok.glob (I.mod.glob.keeps I.bk) hcode (TB.code.keeps I.bk) inHeap good look bt fun ctv g tk up le => ?_
    have J : Inv X pins σ H { s with heap := g, toks := tk } := I.kept up
    have nw : H g.objs.size = none := J.hok.fresh (Nat.le_refl _)
    have sm : Same H (upd H g.objs.size (LamO g.objs.size (lamF X params scope c') body)) := fun b u e => by rw [upd_ne (ne_of_none e nw)]; exact e
    exact fin g.objs.size c' _ _ (inv_lamO (F := lamF X params scope c') (b := body) (pm := (X.mg "__name__").getD .none) (ctv := ctv) (t' := tk) J) (.of hT sm) nw upd_same (sm _ _ co) (off _ le)
  | none =>
    refine PySem.W.kla_makeFunction (mg := X.mg) (c := c) (P := P) (ps := tb) (closure_ok hfree) I.ok.glob (I.mod.glob.keeps I.bk) hcode (TB.code.keeps I.bk) inHeap good look TB.gP bt fun c' ctv g tk but le lt rec tab => ?_
    obtain ⟨c2, oc, vs, t, e2, g1, g2, g3⟩ := rec
    cases e2
    have nC : H c' = none := I.hok.fresh le
    have J := inv_table (t' := tk) (more := #[rawInt pos.line, rawInt pos.col, .ref c']) (h' := g) I onP (fun b o hb e => but b o hb e) tab le ⟨oc, vs, t, g1, g2, g3⟩
    have ex : ExtN H (upd (upd H P (.tbl (tb ++ #[rawInt pos.line, rawInt pos.col, .ref c']))) c' (CodeO c' (X.env.qual ++ "<lambda>"))) := fun b o e no => by
      have b1 : b ≠ P := fun z => by
        rw [z, onP] at e
        exact no tb (Option.some.inj e).symm
      rw [upd_ne (ne_of_none e nC), upd_ne b1]
      exact e
    have nn : ∀ b, upd (upd H P (.tbl (tb ++ #[rawInt pos.line, rawInt pos.col, .ref c']))) c' (CodeO c' (X.env.qual ++ "<lambda>")) b = none → H b = none := fun b e => upd_none (upd_none e)
    have lst : (tb ++ #[rawInt pos.line, rawInt pos.col, .ref c']).toList = tb.toList ++ [rawInt pos.line, rawInt pos.col, .ref c'] := by simp
    have tabs : Tabs T (upd (upd H P (.tbl (tb ++ #[rawInt pos.line, rawInt pos.col, .ref c']))) c' (CodeO c' (X.env.qual ++ "<lambda>"))) := fun p hp => by
      by_cases same : p.1 = P
      · refine ⟨_, by rw [same, upd_ne (ne_of_none onP nC), upd_same], by rw [lst]; exact PySem.TriplesOk_snoc _ _ _ _ good, fun p' cv q => ?_⟩
        rw [lst] at q
        rw [hu p hp same]
        rcases among_app _ good q with z | z
        · obtain ⟨c0, a1, a2⟩ := known p' cv z
          exact ⟨c0, a1, ex _ _ a2 codeO_ne⟩
        · exact ⟨c', z, upd_same⟩
      · obtain ⟨tb2, a1, a2, a3⟩ := hT p hp
        refine ⟨tb2, by rw [upd_ne (ne_of_none a1 nC), upd_ne same]; exact a1, a2, fun p' cv q => ?_⟩
        obtain ⟨c0, d1, d2⟩ := a3 p' cv q
        exact ⟨c0, d1, ex _ _ d2 codeO_ne⟩
    have nw := J.hok.fresh (Nat.le_refl g.objs.size)
    have sm := fun (o : HO) => (show Same _ (upd _ g.objs.size o) from fun b u e => by rw [upd_ne (ne_of_none e nw)]; exact e)
    exact fin g.objs.size c' _ _ (inv_lamO (F := lamF X params scope c') (b := body) (pm := (X.mg "__name__").getD .none) (ctv := ctv) (t' := tk) J) ((Gr.mk ex nn tabs).same (sm _)) (nn _ nw) upd_same (sm _ _ _ upd_same) (off _ (Nat.le_trans le (Nat.le_of_lt lt)))
end
/-- the lambda as a value -/
def tLamV (X : Cx) (T : List (Addr × Str)) (params : Arguments) (scope : Scope) (body : Expr) : TE := fun _ H Q => Tabs T H ∧ ∀ (f c' : Addr) (H1 : Hp), Gr T H H1 → H f = none → H1 f = some (LamO f (lamF X params scope c') body) → H1 c' = some (CodeO c' (X.env.qual ++ "<lambda>")) → f ∉ frs X.stack → Q (.ref f) H1
theorem pe_lamV {X : Cx} {T : List (Addr × Str)} {c P : Addr} {params : Arguments} {body : Expr} {scope : Scope} {pos : Pos} (TB : TabB X.base X.mg c P) (hcode : X.env.code = .ref c) (hm : (P, X.env.qual ++ "<lambda>") ∈ T) (hu : ∀ p ∈ T, p.1 = P → p.2 = X.env.qual ++ "<lambda>")
    (hdef : defaultsOf params X.env = ([], [])) (hfree : ∀ y ∈ scope.names, y.2 = .free → X.env.scope.names.lookup y.1 = some .cell ∨ X.env.scope.names.lookup y.1 = some .free) : PE X (.Lambda params body scope pos) (tLamV X T params scope body) := by
  refine ⟨fun pins s σ H Q I h => ?_⟩
  obtain ⟨hT, h⟩ := h
  have hfr : ∀ y ∈ scope.names, y.2 = .free → ∃ c, X.env.cells.lookup y.1 = some c := fun y hy e => (hfree y hy e).elim (fun z => I.ok.has _ (.inl z)) fun z => I.ok.has _ (.inr z)
  exact lamV_make I TB hcode hm hu hT hdef hfr fun f c' H1 s' J g n e1 e2 e3 => ⟨.ref f, H1, J, rfl, h f c' H1 g n e1 e2 e3⟩
/-! ### its promise -/
structure NOkL (P : Program) (w : World) (K : PySem.W.Frag) (mg : Str → Option Value) (base : Heap) (CX : CXT) (k : Nat) (f : Addr) (F : NF) (b : Expr) (ps fr : List Str) (sp : List (Option V) → Sp) : Prop where
  run : ∀ (A : Around) (outer : List Env) (s : Shared) (H : Hp) (us : List Value) (vs : List V) (ws : List (Option V)) (Q : VK) (E : XK), Room k A → Env0 P w K mg base A outer s H → H f = some (LamO f F b) → H F.c = some (CodeO F.c F.qual) →
    CellsAt F.cl fr ws s.heap H → Vals vs us → sp ws vs H Q E → codeAny (model P w) A (.call (.ref f) ⟨us, []⟩) (CR CX outer P w H s Q E) s
section
variable {CX : CXT} {P : Program} {w : World} {K : PySem.W.Frag} {mg : Str → Option Value} {base : Heap} {N ps fr : List Str} {F : NF} {b : Expr} {f : Addr} {k : Nat} {sp : List (Option V) → Sp}
theorem nokL_of (S : NScope N ps fr F.scope) (hb : ∀ (pm ctv : Value) (us : List Value), us.length = ps.length → bindArgs (PySem.W.kla_fn "<lambda>" F.qual F.params b F.scope F.cl pm (.ref F.c) ctv) ⟨us, []⟩ = pure (ps.zip us)) (len : ∀ ws vs H Q E, sp ws vs H Q E → vs.length = ps.length)
    (hbody : ∀ (A : Around) (outer : List Env) (s : Shared) (H : Hp) (vs : List V) (ws : List (Option V)) (Q : VK) (E : XK), Room k (A.deeper (envF F f s.heap.objs.size)) → ws.length = fr.length → sp ws vs H Q E →
      ∃ t, PE (ncx CX P w K mg base N F f A outer s H E) b t ∧ t (startF N vs ws) H Q) : NOkL P w K mg base CX (k + 1) f F b ps fr sp := by
  refine ⟨fun A outer s H us vs ws Q E room e0 hf hc C r hsp => ?_⟩
  have many := len _ _ _ _ _ hsp
  obtain ⟨pm, ctv, onF⟩ := lamO_at e0.hok hf
  have lim : s.heap.NoLimit := e0.mod.nolimit.keeps fun c o e => (e0.bs c o e).1
  refine PySem.W.kla_callFunE room.depth onF rfl S.co S.gen rfl (codeO_at e0.hok hc) ?_
  rw [hb pm ctv us (by rw [← r.length]; exact many)]
  refine wpAny_pure (wpAny_newFunctionEnv S.nocell (fun ⟨n, _⟩ hy => S.par n (List.of_mem_zip hy).1) (fun h₁ hns hsb => ⟨lim.fresh _ hsb, ?_⟩) S.kind)
  show codeAny _ _ (.expr b (envF F f s.heap.objs.size)) _ _
  have up : ∀ c o, s.heap.get? c = some o → h₁.get? c = some o := fun c o e => hsb.extBut c o (Nat.ne_of_lt (Heap.lt_size e)) (Heap.get?_push_of_some _ e)
  obtain ⟨t, ht, q⟩ := hbody A outer s H vs ws Q E (room.deeper _) C.len hsp
  have I : Inv (ncx CX P w K mg base N F f A outer s H E) [] (startF N vs ws) H { s with heap := h₁, toks := s.toks + (ps.zip us).length } := inv_startN S room.hd e0 many r C hns up
  refine PySem.W.kla_codeExpr (wpAny_mono (ht.run [] _ _ H Q I q) (fun u s' z => ?_) fun e s' z => z)
  obtain ⟨v, H', J, rv, y⟩ := z
  exact ⟨v, H', J.os, J.bare, J.base, J.hok, rv, y⟩
/-- the cells hold what they held -/
theorem cells_on {cl : List (Str × Addr)} {ws : List (Option V)} {fs : List Addr} {H H1 : Hp} {h h1 : Heap} (C : CellsAt cl fr ws h H) (un : Un fs [] H H1 h h1) : CellsAt cl fr ws h1 H1 := by
  have kp : ∀ y c, cl.lookup y = some c → ∀ v, h.IsCell c v → h1.IsCell c v := fun y c e v ⟨o, a1, a2⟩ => by
    obtain ⟨sl, q⟩ := un.any a1 (C.all y c e).1 (fun z => nomatch z)
    exact ⟨_, q, a2⟩
  refine ⟨C.len, fun y c e => ?_, C.inj, fun i y e => ?_⟩
  · obtain ⟨no, v, z⟩ := C.all y c e
    obtain ⟨o, ho, _⟩ := id z
    exact ⟨un.free c o ho no (fun z => nomatch z), v, kp y c e v z⟩
  · obtain ⟨c, a1, a2⟩ := C.has i y e
    refine ⟨c, a1, fun v ev => ?_⟩
    obtain ⟨u, r, z⟩ := a2 v ev
    exact ⟨u, r, kp y c a1 _ z⟩
end
/-- what is known of the thing at f, and of what it does with what its cells hold -/
def spGot (f : Addr) (F : NF) (b : Expr) (ws : List (Option V)) (sp : List (Option V) → Sp) : Sp := fun vs H Q E => H f = some (LamO f F b) ∧ H F.c = some (CodeO F.c F.qual) ∧ sp ws vs H Q E
section
variable {X : Cx} {CX : CXT} {F : NF} {b : Expr} {ps fr : List Str} {ws : List (Option V)} {i j k : Nat} {f : Addr} {x : Str} {sp : List (Option V) → Sp} {E : XK} {t : TA} {e : Expr} {es : List Expr} {p pos : Pos}
/-- x(..), x a name that holds a lambda of another frame -/
theorem pe_callP (Fn : NOkL X.prog X.w X.K X.mg X.base CX k f F b ps fr sp) (C : CellsAt F.cl fr ws X.s_0.heap X.H_0) (hex : X.ex = []) (hr : Room j X.A) (hk : k ≤ j) (hx : Passes CX X E) (hN : X.N[i]? = some x) (hv : Vis X.env.scope x) (ha : PA X (e :: es) t)
    (hd : (x == ("__debug__" : Str)) = false := by decide) (hcd : (x == ("__classdict__" : Str)) = false := by decide)
    (he : starEach (e :: es) X.env = (false, eval e X.env) :: starEach es X.env := by rfl) (hpl : (backTo pos (starEach es X.env)).any (·.1) = false := by rfl) :
    PE X (.Call (.Name x p) (e :: es) [] pos) (fun σ H Q => σ[i]? = some (some (.ref f)) ∧ H f = some (LamO f F b) ∧ t σ H fun vs H1 => spGot f F b ws sp vs H1 Q E) := by
  refine ⟨fun pins s σ H Q I h => ?_⟩
  obtain ⟨hs, hf, ht⟩ := h
  have at_ : ∀ {H : Hp} {s : Shared}, Inv X pins σ H s → H f = some (LamO f F b) → PySem.W.FnAt f s.heap := fun J e => by
    obtain ⟨pm, ctv, o⟩ := lamO_at J.hok e
    exact ⟨_, _, _, _, o⟩
  refine wpAny_Call_Name_kw (thn ((pe_var (pos := p) hN hv hd hcd).run pins s σ H (fun v H1 => v = .ref f ∧ H1 = H) I ⟨.ref f, hs, rfl, rfl⟩) fun u s1 ⟨v, H1, I1, r1, q1⟩ => ?_)
  obtain ⟨ev, eH⟩ := q1
  subst ev
  rw [eH] at I1
  obtain rfl : u = Value.ref f := r1
  refine PySem.W.callWith_F (first := []) (at_ I1 hf) (thn (ha.run pos pins s1 σ H _ I1 ht) fun us s2 ⟨vs, H2, I2, r, h1, h2, q⟩ => ⟨at_ I2 h1, ?_⟩) he hpl
  show wpAny _ _ (call (.ref f) us) _ _ _
  have un := I2.base
  rw [hex] at un
  refine wpAny_call (codeAny_mono (Fn.run X.A X.stack s2 H2 us vs _ Q E (hr.mono hk) I2.env0 h1 h2 (cells_on C un) r q) fun r s' hq => ?_)
  cases r with
  | error e => exact hx pins σ H2 s2 e s' I2 hq
  | ok fl =>
    cases fl with
    | ret u => exact I2.after hq
    | next => exact False.elim hq
    | brk => exact False.elim hq
    | cont => exact False.elim hq
end
/-! ### a def that gets a lambda to call -/
structure GivesV (P : Program) (w : World) (K : PySem.W.Frag) (mg : Str → Option Value) (base : Heap) (k kl : Nat) (x : Str) (g : Addr) (TT : Addr → Sp → Sp) : Prop where
  m : mg x = some (.ref g)
  kp : PySem.W.keepIn K (.ref g) = true
  run : ∀ (A : Around) (outer : List Env) (f : Addr) (F : NF) (b : Expr) (lps fr : List Str) (ws : List (Option V)) (spl : List (Option V) → Sp) (s : Shared) (H : Hp) (us : List Value) (vs : List V) (Q : VK), Room k A → Env0 P w K mg base A outer s H → NOkL P w K mg base CX0 kl f F b lps fr spl → CellsAt F.cl fr ws s.heap H → H f = some (LamO f F b) → Vals vs us → TT f (spGot f F b ws spl) vs H Q E0 →
    codeAny (model P w) A (.call (.ref g) ⟨us, []⟩) (CR CX0 outer P w H s Q E0) s
theorem givesV_of {P : Program} {w : World} {K : PySem.W.Frag} {mg : Str → Option Value} {base : Heap} {k kl : Nat} {x : Str} {g : Addr} {fd : FuncData} {pg : Arguments} {bg : List Stmt} {sg : Scope} {Ng ps : List Str} {TT : Addr → Sp → Sp}
    (F : FunD K x x pg bg sg [] [] g fd) (hm : mg x = some (.ref g)) (Sg : FnScope Ng ps sg)
    (hb : ∀ (kV doc pm : Value) (an : Option Addr) (cdv ct : Value) (us : List Value), us.length = ps.length → bindArgs (PySem.W.fnOf x x pg bg sg .none kV doc pm an cdv ct) ⟨us, []⟩ = pure (ps.zip us))
    (len : ∀ f c vs H Q E, TT f c vs H Q E → vs.length = ps.length)
    (hG : ∀ (cdg : Value) (A : Around) (outer : List Env) (f : Addr) (F : NF) (b : Expr) (lps fr : List Str) (ws : List (Option V)) (spl : List (Option V) → Sp) (s : Shared) (H : Hp) (vs : List V) (Q : VK), Room k (A.deeper (envOfC x sg s.heap.objs.size g cdg)) → NOkL P w K mg base CX0 kl f F b lps fr spl → CellsAt F.cl fr ws s.heap H → H f = some (LamO f F b) → TT f (spGot f F b ws spl) vs H Q E0 →
      ∃ t, PSs (cxOf CX0 P w K mg base Ng x sg g cdg A outer s H E0).nox bg t ∧ t { nx := fun _ H' => Q .non H', rt := Q } (L2.start Ng vs) H) : GivesV P w K mg base (k + 1) kl x g TT := by
  have bd := FunD.bindsN F hb
  refine ⟨hm, F.kp, fun A outer f FF b lps fr ws spl s H us vs Q room e0 Fn C hf r hT => ?_⟩
  have many := len _ _ _ _ _ _ hT
  obtain ⟨oc, od, dV, kV, doc, pm, an, cdv, ct, osl, rfl, lk, hcd, _, _⟩ := F.ex
  refine run_ofS (N := Ng) (ps := ps) (us := us) (vs := vs) lk hcd Sg room e0 (by
      have z := bd s us (e0.mod.kin.keeps fun c o e => (e0.bs c o e).1) (by rw [List.append_nil, ← r.length]; exact many)
      rw [List.append_nil] at z
      exact z) r many fun room' => ?_
  obtain ⟨t, h1, h2⟩ := hG cdv A outer f FF b lps fr ws spl s H vs Q room' Fn C hf hT
  exact ⟨t, h1.nox, h2⟩
/-- g(lambda, ..): the call -/
def tGiveV (mk : Addr → NF) (b : Expr) (js : List Nat) (TT : Addr → Sp → Sp) (sp : List (Option V) → Sp) (t : TA) : TE := fun σ H Q => t σ H fun vs H1 => ∃ f c', H1 f = some (LamO f (mk c') b) ∧ TT f (spGot f (mk c') b (js.map (slotAt σ)) sp) vs H1 Q E0
theorem pe_giveV {X : Cx} {k kl : Nat} {g : Addr} {TT : Addr → Sp → Sp} {mk : Addr → NF} {cl : List (Str × Addr)} {lps fr : List Str} {js : List Nat} {x : Str} {sp : List (Option V) → Sp} {t : TA} {b e : Expr} {es : List Expr} {p pos : Pos}
    (G : GivesV X.prog X.w X.K X.mg X.base k kl x g TT) (Fn : ∀ f c', NOkL X.prog X.w X.K X.mg X.base CX0 kl f (mk c') b lps fr sp) (hcl : ∀ c', (mk c').cl = cl) (cp : X.Ok → Caps X cl fr js) (hr : Room k X.A) (hg : Gl X x) (ha : PA X (e :: es) t)
    (hdb : (x == ("__debug__" : Str)) = false := by decide) (he : starEach (e :: es) X.env = (false, eval e X.env) :: starEach es X.env := by rfl) (hpl : (backTo pos (starEach es X.env)).any (·.1) = false := by rfl) :
    PE X (.Call (.Name x p) (e :: es) [] pos) (tGiveV mk b js TT sp t) := by
  refine ⟨fun pins s σ H Q I h => ?_⟩
  refine wpAny_Call_Name_kw (ld_glob I hg G.m ?_ hdb)
  refine PySem.W.callWith_K (h₀ := X.base) I.ok.mod.kin G.kp (thn (ha.run pos pins s σ H _ I h) fun us s2 ⟨vs, H2, I2, r, q2⟩ => ⟨I2.kIn, ?_⟩) he hpl
  obtain ⟨f, c', h1, hT⟩ := q2
  have C : CellsAt (mk c').cl fr (js.map (slotAt σ)) s2.heap H2 := by
    rw [hcl c']
    exact cells_of I2 (cp I2.ok)
  show wpAny _ _ (call (.ref g) us) _ _ _
  refine wpAny_call (codeAny_mono (G.run X.A X.stack f (mk c') b lps fr _ sp s2 H2 us vs Q hr I2.env0 (Fn f c') C h1 r hT) fun r s3 hq => ?_)
  cases r with
  | error e => exact (show False from hq).elim
  | ok fl =>
    cases fl with
    | ret u => exact I2.after hq
    | next => exact False.elim hq
    | brk => exact False.elim hq
    | cont => exact False.elim hq
/-- a def whose own code object is known -/
theorem FunD_okC {P : Program} {w : World} {K : PySem.W.Frag} {mg : Str → Option Value} {base : Heap} {x qual : Str} {params : Arguments} {body : List Stmt} {scope : Scope} {dvs : List V} {kws : List (Str × V)} {f c : Addr} {fd : FuncData} {CX : CXT} {N ps : List Str} {k : Nat} {sp : Sp} (F : FunD K x qual params body scope dvs kws f fd) (hc : fd.code = .ref c) (S : FnScope N ps scope) (len : ∀ vs H Q E, sp vs H Q E → vs.length = ps.length)
    (hbody : ∀ (A : Around) (outer : List Env) (s : Shared) (H : Hp) (vs : List V) (Q : VK) (E : XK), Room k (A.deeper (envOfC qual scope s.heap.objs.size f (.ref c))) → sp vs H Q E →
      ∃ t, PSs (cxOf CX P w K mg base N qual scope f (.ref c) A outer s H E) body t ∧ t { nx := fun _ H' => Q .non H', rt := Q } (start N vs) H) : FnOk P w K mg base CX (k + 1) f fd ps sp := by
  obtain ⟨oc, od, dV, kV, doc, pm, an, cdv, ct, osl, rfl, lk, hcd, _, _⟩ := F.ex
  obtain rfl : cdv = .ref c := hc
  exact fn_of lk hcd S len fun A outer s H vs Q E hr hsp => hbody A outer s H vs Q E hr hsp
end Xh
end
section
set_option Elab.async false
set_option linter.all false
set_option maxRecDepth 100000
set_option maxHeartbeats 4000000
namespace Xk
open PySem PySem.Spec PyProof.Rows L2 Xh LamX NdefX
/-! ### two things alike -/
theorem tyT {K : PySem.W.Frag} {H : Hp} {a : Addr} {xs : List V} (h : SqT K H a xs) : TyX K H (.ref a) (.type "tuple") := by
  rcases h with (h | ⟨o, h⟩) | ⟨o, its, n, h, c, _⟩
  · exact .base (.tup h)
  · exact .fTuple h
  · exact .kTuple h c
theorem tyL {K : PySem.W.Frag} {H : Hp} {a : Addr} {xs : List V} (h : SqL K H a xs) : TyX K H (.ref a) (.type "list") := by
  rcases h with (h | ⟨o, h⟩) | ⟨o, its, n, h, c, _⟩
  · exact .base (.lst h)
  · exact .base (.frz h)
  · exact .kList h c
theorem sameT {K : PySem.W.Frag} {H H' : Hp} {a : Addr} {xs : List V} (e : Same H H') (h : SqT K H a xs) : SqT K H' a xs := by
  rcases h with (h | ⟨o, h⟩) | h
  · exact .inl (.inl (e _ _ h))
  · exact .inl (.inr ⟨o, e _ _ h⟩)
  · exact .inr h
def tyF : V → String
  | .non => "NoneType"
  | .bl _ => "bool"
  | .int _ => "int"
  | _ => "str"
theorem flat_ty {K : PySem.W.Frag} {H : Hp} {x : V} (h : flatV x = true) : TyX K H x (.type (tyF x)) := by
  cases x with
  | non => exact .base .non
  | bl b => exact .base (.bl b)
  | int i => exact .base (.int i)
  | str s => exact .base (.str s)
  | _ => cases h
theorem flat_ty4 {x : V} (h : flatV x = true) : tyF x = "NoneType" ∨ tyF x = "bool" ∨ tyF x = "int" ∨ tyF x = "str" := by
  cases x with
  | non => exact .inl rfl
  | bl b => exact .inr (.inl rfl)
  | int i => exact .inr (.inr (.inl rfl))
  | str s => exact .inr (.inr (.inr rfl))
  | _ => cases h
theorem any_lt {K : PySem.W.Frag} : PySem.W.kitAny K (.type "list") [.type "list", .type "tuple"] = some true := kitAny_cons (b := true) (kit_ty (by decide +kernel)) (fun z => by cases z) (fun _ => rfl)
theorem any_tt {K : PySem.W.Frag} : PySem.W.kitAny K (.type "tuple") [.type "list", .type "tuple"] = some true := kitAny_cons (b := false) (kit_ty (by decide +kernel)) (fun _ => kitAny_cons (b := true) (kit_ty (by decide +kernel)) (fun z => by cases z) (fun _ => rfl)) (fun z => by cases z)
theorem any_f {K : PySem.W.Frag} {t : String} (h : t = "NoneType" ∨ t = "bool" ∨ t = "int" ∨ t = "str") : PySem.W.kitAny K (.type t) [.type "list", .type "tuple"] = some false := by
  have two : kitB t "list" = some false ∧ kitB t "tuple" = some false := by
    rcases h with rfl | rfl | rfl | rfl <;> exact ⟨by decide +kernel, by decide +kernel⟩
  exact kitAny_cons (b := false) (kit_ty two.1) (fun _ => kitAny_cons (b := false) (kit_ty two.2) (fun _ => kitAny_nil) (fun z => by cases z)) (fun z => by cases z)
theorem one_f {K : PySem.W.Frag} {t : String} (h : t = "NoneType" ∨ t = "bool" ∨ t = "int" ∨ t = "str") : (∃ b, PySem.W.kitOne K (.type t) (.type "bool") = some b) ∧ (∃ b, PySem.W.kitOne K (.type t) (.type "int") = some b) ∧ ∃ b, PySem.W.kitOne K (.type t) (.type "str") = some b := by
  rcases h with rfl | rfl | rfl | rfl
  · exact ⟨⟨_, kit_ty (r := false) (by decide +kernel)⟩, ⟨_, kit_ty (r := false) (by decide +kernel)⟩, ⟨_, kit_ty (r := false) (by decide +kernel)⟩⟩
  · exact ⟨⟨_, kit_ty (r := true) (by decide +kernel)⟩, ⟨_, kit_ty (r := true) (by decide +kernel)⟩, ⟨_, kit_ty (r := false) (by decide +kernel)⟩⟩
  · exact ⟨⟨_, kit_ty (r := false) (by decide +kernel)⟩, ⟨_, kit_ty (r := true) (by decide +kernel)⟩, ⟨_, kit_ty (r := false) (by decide +kernel)⟩⟩
  · exact ⟨⟨_, kit_ty (r := false) (by decide +kernel)⟩, ⟨_, kit_ty (r := false) (by decide +kernel)⟩, ⟨_, kit_ty (r := true) (by decide +kernel)⟩⟩
theorem walk_zipT {K : PySem.W.Frag} {a b : Addr} {xs ys : List V} (hn : xs.length = ys.length) : Walk (RZ.ItzT K a b) xs.length (fun H => SqT K H a xs ∧ SqT K H b ys) (YPair (fun i => xs[i]?) (fun i => ys[i]?)) :=
  ⟨fun i H hi h => ⟨xs, ys, xs[i], ys[i]'(by omega), h.1, h.2, by simp [hi], by simp [show i < ys.length by omega]⟩, fun H h => ⟨xs, ys, h.1, h.2, .inl (Nat.le_refl _)⟩,
    fun i H x H' hi h y => by
      obtain ⟨T, u, v, e1, e2, e3, q1, q2⟩ := y
      exact ⟨T, u, v, e1, e2, e3, q1 xs h.1, q2 ys h.2⟩⟩
/-- alike, to a depth -/
def SameAt (K : PySem.W.Frag) (H : Hp) : Nat → V → V → Prop
  | 0, v, u => flatV u = true ∧ v = u
  | n + 1, v, u => (flatV u = true ∧ v = u) ∨ ∃ (a b : Addr) (xs ys : List V), v = .ref a ∧ u = .ref b ∧ ((SqL K H a xs ∧ SqL K H b ys) ∨ (SqT K H a xs ∧ SqT K H b ys)) ∧ xs.length = ys.length ∧ xs.length ≤ 1000 ∧ ∀ (i : Nat) (x y : V), xs[i]? = some x → ys[i]? = some y → SameAt K H n x y
theorem SameAt.same {K : PySem.W.Frag} {H H' : Hp} (s : Same H H') : ∀ {n : Nat} {v u : V}, SameAt K H n v u → SameAt K H' n v u
  | 0, _, _, h => h
  | n + 1, _, _, .inl h => .inl h
  | n + 1, _, _, .inr ⟨a, b, xs, ys, e1, e2, h, l, l2, q⟩ => .inr ⟨a, b, xs, ys, e1, e2, h.imp (fun z => ⟨s.seq z.1, s.seq z.2⟩) (fun z => ⟨sameT s z.1, sameT s z.2⟩), l, l2, fun i x y hx hy => (q i x y hx hy).same s⟩
def spS (K : PySem.W.Frag) : Nat → Sp
  | 0 => fun _ _ _ _ => False
  | n + 1 => fun vs H Q _ => ∃ (v u : V), vs = [v, u] ∧ SameAt K H n v u ∧ ∀ H', Same H H' → Q (.bl true) H'
theorem spS_len {K : PySem.W.Frag} : ∀ (n : Nat) (vs : List V) (H : Hp) (Q : VK) (E : XK), spS K n vs H Q E → vs.length = (["_law_found", "_law_due"] : List Str).length
  | 0, _, _, _, _, h => h.elim
  | n + 1, _, _, _, _, ⟨v, u, e, _⟩ => by rw [e]; rfl
section
variable {P : Program} {w : World} {K : PySem.W.Frag} {mg : Str → Option Value} {base : Heap}

end
end Xk
end
section
set_option Elab.async false
set_option linter.all false
set_option maxRecDepth 100000
set_option maxHeartbeats 4000000
namespace Xk
open PySem PySem.Spec PyProof.Rows L2 Xh LamX NdefX
/-- N to the power e by P -/
def rpow (N : Nat) (e : Int) (P : Nat) : Nat := if N = 0 then (if e = 0 then 1 else 0) else N ^ (e.fmod ((P : Int) - 1)).toNat % P
def spRPow : Sp := fun vs H Q _ => ∃ (N P : Nat) (e : Int), vs = [.int N, .int e, .int P] ∧ 2 ≤ P ∧ P ≤ 1000 ∧ N < P ∧ Q (.int (rpow N e P)) H
theorem fmodN (a b : Nat) : (a : Int).fmod (b : Int) = ((a % b : Nat) : Int) := by
  rw [Int.fmod_eq_emod_of_nonneg _ (Int.natCast_nonneg b), Int.natCast_emod]
def slotN (i : Nat) (σ : L2.St) : Nat := match σ[i]? with
  | some (some (.int s)) => s.toNat
  | _ => 0
/-! ### powers by any multiplication -/
/-- c multiplies: Rel i x: x is the i-th power; what power_by promises by that -/
def TTpow : Addr → Sp → Sp := fun f c vs H Q E => ∃ (u o : V) (e : Nat) (Rel : Nat → V → Hp → Prop) (T : List (Addr × Str)), vs = [.ref f, u, o, .int e] ∧ Tabs T H ∧ Rel 0 u H ∧ Rel 1 o H ∧ (∀ i x H1 H2, Gr T H1 H2 → Rel i x H1 → Rel i x H2) ∧
  (∀ i j x y H1, Gr T H H1 → Rel i x H1 → Rel j y H1 → ∀ Q', (∀ z H2, Gr T H1 H2 → Rel (i + j) z H2 → Q' z H2) → c [x, y] H1 Q' E) ∧ ∀ z H1, Gr T H H1 → Rel e z H1 → Q z H1
/-- the lambda in a row `return g(lambda .., ..)` -/
def lamP (s : Stmt) : Arguments × Expr × Scope := match s with
  | .Return (some (.Call _ (.Lambda p b c _ :: _) _ _)) _ => (p, b, c)
  | s => (defArgs s, .Name "x" ⟨0, 0, 0, 0⟩, defScope s)
/-- of rests -/
def spMulP : List (Option V) → Sp := fun ws vs H Q _ => ∃ a b M : Nat, ws = [some (.int M)] ∧ vs = [.int a, .int b] ∧ a < M ∧ b < M ∧ 2 ≤ M ∧ M ≤ 1000 ∧ Q (.int ((a * b % M : Nat) : Int)) H
def rpQ : Str := (envOfC "rest_power" ⟨.function, [], false, false, []⟩ 0 0 .none).qual ++ "<lambda>"
def spRPowT (T : List (Addr × Str)) : Sp := fun vs H Q _ => ∃ (N P : Nat) (e : Int), vs = [.int N, .int e, .int P] ∧ 2 ≤ P ∧ P ≤ 1000 ∧ N < P ∧ Tabs T H ∧ ∀ H', Gr T H H' → Q (.int (rpow N e P)) H'
section
variable {P : Program} {w : World} {K : PySem.W.Frag} {mg : Str → Option Value} {base : Heap}
abbrev s_power_by : Stmt := topS 16
theorem sc_power_by : FnScope (["times", "unit", "one", "exponent", "power", "square", "steps"] : List Str) ["times", "unit", "one", "exponent"] (defScope s_power_by) := ⟨rfl, rfl, rfl, by decide +kernel, rfl, by decide +kernel, by decide +kernel⟩
theorem ok_power_by {g : Addr} {fd : FuncData} {kl : Nat} (F : FunD K "power_by" "power_by" (defArgs s_power_by) (defBody s_power_by) (defScope s_power_by) [] [] g fd) (m : mg "power_by" = some (.ref g)) : GivesV P w K mg base (kl + 1) kl "power_by" g TTpow := by
  refine givesV_of (Ng := ["times", "unit", "one", "exponent", "power", "square", "steps"]) (ps := ["times", "unit", "one", "exponent"]) F m sc_power_by (fun _ _ _ _ _ _ us hl => match us, hl with | [_, _, _, _], _ => rfl) (fun f c vs H Q E h => ?_) fun cdg A outer f FF b lps fr ws spl s H vs Q hr Fn C hf h => ?_
  · obtain ⟨u, o, e, Rel, TG, rfl, _⟩ := h
    rfl
  · obtain ⟨u, o, e, Rel, TG, rfl, hTG, r0, r1, stay, step, k⟩ := h
    have pf : ∀ {H1 : Hp}, Gr TG H H1 → H1 f = some (LamO f FF b) := fun g => g.x _ _ hf lamO_ne
    refine ⟨_, (pss_cons (ps_set (i := 4) sc_power_by.nd rfl (Or.inl rfl) (pv 1))
      (pss_cons (ps_set (i := 5) sc_power_by.nd rfl (Or.inl rfl) (pv 2))
      (pss_cons (ps_set (i := 6) sc_power_by.nd rfl (Or.inl rfl) (pv 3))
      (pss_cons (ps_while PassesOwn.never (pt_cmpR op_gt (pv 6) pe_int (nomark _)) (C8.pss_cut (ps_if (pt_cmpR op_eq (pe_op op_modN (pv 6) pe_int) pe_int (nomark _)) (pss_one (ps_set (i := 4) sc_power_by.nd rfl (Or.inl rfl) (pe_callP (i := 0) Fn C rfl hr (Nat.le_refl _) pass0 rfl (Or.inl rfl) (pa_cons (pv 4) (pa_cons (pv 5) pa_nil))))) pss_nil)
      (pss_cons (ps_aug (i := 6) sc_power_by.nd rfl (Or.inl rfl) pe_int iop_fdivW)
      (pss_one (ps_if (pt_cmpR op_gt (pv 6) pe_int (nomark _)) (pss_one (ps_set (i := 5) sc_power_by.nd rfl (Or.inl rfl) (pe_callP (i := 0) Fn C rfl hr (Nat.le_refl _) pass0 rfl (Or.inl rfl) (pa_cons (pv 5) (pa_cons (pv 5) pa_nil))))) pss_nil)))))
      (pss_one (ps_ret (pv 4))))))) , ?_⟩
    refine ⟨_, rfl, _, rfl, _, rfl, ?_⟩
    refine while_by (fun σ' H' => ∃ (i j n : Nat) (x y : V), σ' = [some (.ref f), some u, some o, some (.int e), some x, some y, some (.int n)] ∧ Gr TG H H' ∧ Rel i x H' ∧ Rel j y H' ∧ i + j * n = e) (fun σ' _ => slotN 6 σ')
      ⟨0, 1, e, u, o, rfl, Gr.refl hTG, r0, r1, by omega⟩ ?_ (fun σ H Q Q' m ⟨v, h1, i, j, h2, h3, k, h4, q⟩ => ⟨v, h1, i, j, h2, h3, k, h4, m _ _ q⟩)
    rintro σ' H1 ⟨i, j, n, x, y, rfl, s1, ri, rj, inv⟩
    have en : (n : Int) / 2 = ((n / 2 : Nat) : Int) := by omega
    have e3 : (n : Int).fmod 2 = ((n % 2 : Nat) : Int) := fmodN n 2
    refine ⟨_, rfl, _, _, rfl, rfl, _, rfl, ite2 (fun hc => ?_) (fun hc => ?_)⟩
    · have n0 : 0 < n := by
        have z := of_decide_eq_true hc
        omega
      refine ⟨fun σ' H' => ∃ (i' : Nat) (x' : V), σ' = [some (.ref f), some u, some o, some (.int e), some x', some y, some (.int n)] ∧ Gr TG H H' ∧ Rel i' x' H' ∧ Rel j y H' ∧ i' + j * (2 * (n / 2)) = e, ?_, ?_⟩
      · refine ⟨_, rfl, _, _, rfl, rfl, (fun z => absurd z (by decide)), rfl, _, rfl, ite2 (fun hb => ?_) (fun hb => ?_)⟩
        · have hb' : n % 2 = 1 := by
            have z := V.int.inj (of_decide_eq_true hb)
            rw [e3] at z
            omega
          refine ⟨rfl, pf s1, _, rfl, _, rfl, step i j x y H1 s1 ri rj _ fun z H2 s2 rz => ⟨i + j, z, rfl, s1.trans s2, rz, stay j y _ _ s2 rj, ?_⟩⟩
          have h2 : n = 2 * (n / 2) + 1 := by omega
          rw [← inv]
          conv => rhs; rw [h2, Nat.mul_add]
          omega
        · have hb' : n % 2 ≠ 1 := fun z => hb (decide_eq_true (by show V.int ((n : Int).fmod 2) = V.int 1; rw [e3, z]; rfl))
          have h2 : n = 2 * (n / 2) := by omega
          exact ⟨i, x, rfl, s1, ri, rj, by rw [← h2]; exact inv⟩
      · rintro σ' H2 ⟨i', x', rfl, s2, ri', rj', inv'⟩
        refine ⟨_, rfl, _, _, rfl, rfl, wide_div (b := 2) (by decide) (by decide) (by decide) (by decide), ?_⟩
        have less : (n / 2) < n := by omega
        refine ⟨_, rfl, _, _, rfl, rfl, _, rfl, ite2 (fun hd => ?_) (fun hd => ?_)⟩
        · refine ⟨rfl, pf s2, _, rfl, _, rfl, step j j y y H2 s2 rj' rj' _ fun z H3 s3 rz => ⟨⟨i', j + j, n / 2, x', z, by rw [← en]; rfl, s2.trans s3, stay i' x' _ _ s3 ri', rz, ?_⟩, ?_⟩⟩
          · rw [← inv', Nat.add_mul, ← Nat.mul_assoc, Nat.mul_comm j 2, Nat.two_mul, Nat.add_mul]
          · show ((n : Int) / 2).toNat < (n : Int).toNat
            omega
        · have z0 : n / 2 = 0 := by
            by_cases z : n / 2 = 0
            · exact z
            · exact absurd (decide_eq_true (show (0 : Int) < (n : Int) / 2 by omega)) hd
          refine ⟨⟨i', j, n / 2, x', y, by rw [← en]; rfl, s2, ri', rj', ?_⟩, ?_⟩
          · rw [← inv', z0]
          · show ((n : Int) / 2).toNat < (n : Int).toNat
            omega
    · have z0 : n = 0 := by
        by_cases z : n = 0
        · exact z
        · exact absurd (decide_eq_true (show (0 : Int) < (n : Int) by omega)) hc
      refine ⟨_, rfl, k x H1 s1 ?_⟩
      rw [z0, Nat.mul_zero, Nat.add_zero] at inv
      rw [← inv]
      exact ri
abbrev s_rest_power : Stmt := topS 24
theorem sc_rest_power : FnScope (["rest", "exponent", "prime", "steps"] : List Str) ["rest", "exponent", "prime"] (defScope s_rest_power) := ⟨rfl, rfl, rfl, by decide +kernel, rfl, by decide +kernel, by decide +kernel⟩
abbrev lam_rpL : Arguments × Expr × Scope := (lamP ((defBody s_rest_power).getD 2 (.Pass ⟨0, 0, 0, 0⟩)))
theorem nb_rp : ndefB (defScope s_rest_power) lam_rpL.2.2 ["prime"] = true := by decide +kernel
theorem ns_rp : NScope ["first", "second", "prime"] ["first", "second"] ["prime"] lam_rpL.2.2 := nscope_by (by decide +kernel)
theorem lam_rp {f : Addr} {F : NF} (hp : F.params = lam_rpL.1) (hs : F.scope = lam_rpL.2.2) : NOkL P w K mg base CX0 1 f F lam_rpL.2.1 ["first", "second"] ["prime"] spMulP := by
  obtain ⟨fn, fq, fp, fb, fs, fc, fo⟩ := F
  have hp : fp = _ := hp
  have hs : fs = _ := hs
  subst hp hs
  refine nokL_of (N := ["first", "second", "prime"]) ns_rp (fun pm ctv us hl => match us, hl with | [_, _], _ => rfl) (fun ws vs H Q E h => ?_) fun A outer s H vs ws Q E hr hw h => ?_
  · obtain ⟨a, b, M, _, rfl, _⟩ := h
    rfl
  · obtain ⟨a, b, M, rfl, rfl, ha, hb, h2, h3, k⟩ := h
    refine ⟨_, (pe_op op_modN (pe_op op_mul (pv 0) (pv 1)) (pv 2)), ?_⟩
    refine ⟨_, rfl, _, rfl, _, _, rfl, rfl, .inl ⟨by omega, by omega⟩, _, rfl, _, _, rfl, rfl, (fun z => by omega), ?_⟩
    show Q (.int (((a : Int) * (b : Int)).fmod (M : Int))) H
    rw [← Int.natCast_mul, fmodN]
    exact k
theorem ok_rest_power {T : List (Addr × Str)} {f cR PR g : Addr} {fd : FuncData} (F : FunD K "rest_power" "rest_power" (defArgs s_rest_power) (defBody s_rest_power) (defScope s_rest_power) [] [] f fd) (hcd : fd.code = .ref cR) (TB : TabB base mg cR PR) (hmT : (PR, rpQ) ∈ T) (hu : ∀ p ∈ T, p.1 = PR → p.2 = rpQ)
    (G_power_by : GivesV P w K mg base 2 1 "power_by" g TTpow) : FnOk P w K mg base CX0 3 f fd ["rest", "exponent", "prime"] (spRPowT T) := by
  refine FunD_okC F hcd sc_rest_power (fun vs H Q E h => ?_) (fun A outer s H vs Q E hr h => ?_)
  · obtain ⟨N, p, e, rfl, _⟩ := h
    rfl
  · obtain ⟨N, M, e, rfl, h2, hM, hN, hT, k⟩ := h
    refine ⟨_, PSs.nox (pss_cons (ps_if (pt_cmpR op_eq (pv 0) pe_int (nomark _)) (pss_one (ps_ret (pe_ifExp (pt_cmpR op_eq (pv 1) pe_int (nomark _)) pe_int pe_int))) pss_nil)
      (pss_cons (ps_set (i := 3) sc_rest_power.nd rfl (Or.inl rfl) (pe_op op_modN (pv 1) (pe_op op_sub (pv 2) pe_int)))
      (pss_one (ps_ret (pe_giveV (mk := lamF _ lam_rpL.1 lam_rpL.2.2) (js := [2]) G_power_by (fun f c' => lam_rp rfl rfl) (fun _ => rfl) (fun ok => Caps.made ok (ndef_free nb_rp) (ndef_fr nb_rp) rfl) (hr.mono (by decide)) rfl (pa_cons (pe_lamV TB rfl hmT hu rfl (ndef_free nb_rp)) (pa_cons pe_int (pa_cons (pv 0) (pa_cons (pv 3) pa_nil))))))))) , ?_⟩
    refine ⟨_, rfl, rfl, _, rfl, ite2 (fun hc => ?_) (fun hc => ?_)⟩
    · have hN0 : N = 0 := by
        have z := V.int.inj (of_decide_eq_true hc)
        omega
      have k := k H (Gr.refl hT)
      refine ⟨_, rfl, rfl, _, rfl, ?_⟩
      by_cases he : e = 0
      · rw [decide_eq_true (by rw [he])]
        refine iteT ?_
        unfold rpow at k
        rw [if_pos hN0, if_pos he] at k
        exact k
      · rw [decide_eq_false (fun z => he (V.int.inj z))]
        refine iteF ?_
        unfold rpow at k
        rw [if_pos hN0, if_neg he] at k
        exact k
    · have hN0 : N ≠ 0 := fun z => hc (decide_eq_true (by rw [z]; rfl))
      refine ⟨_, rfl, _, rfl, _, _, rfl, rfl, _, _, rfl, rfl, (fun z => by omega), ?_⟩
      obtain ⟨s0, hs0⟩ := Int.eq_ofNat_of_zero_le (Int.fmod_nonneg_of_pos e (show (0 : Int) < (M : Int) - 1 by omega))
      have rk : rpow N e M = N ^ s0 % M := by
        unfold rpow
        rw [if_neg hN0, hs0, Int.toNat_natCast]
      refine ⟨hT, fun fl c' H1 g1 nf e1 e2 _ => ⟨_, rfl, _, rfl, fl, c', e1, ?_⟩⟩
      refine ⟨.int 1, .int N, s0, fun i v _ => v = .int ((N ^ i % M : Nat) : Int), T, (by show [V.ref fl, V.int 1, V.int N, V.int (e.fmod ((M : Int) - 1))] = _; rw [hs0]), g1.t, ?_, ?_, fun _ _ _ _ _ z => z, fun i j x y H2 s2 ri rj Q' q => ⟨s2.x _ _ e1 lamO_ne, s2.x _ _ e2 codeO_ne, N ^ i % M, N ^ j % M, M, rfl, by rw [ri, rj], Nat.mod_lt _ (by omega), Nat.mod_lt _ (by omega), h2, hM, q _ _ (Gr.refl s2.t) ?_⟩, fun z H2 s2 rz => ?_⟩
      · show V.int 1 = V.int ((N ^ 0 % M : Nat) : Int)
        rw [Nat.pow_zero, Nat.mod_eq_of_lt (show 1 < M by omega)]
        rfl
      · show V.int N = V.int ((N ^ 1 % M : Nat) : Int)
        rw [Nat.pow_one, Nat.mod_eq_of_lt hN]
      · show V.int ((N ^ i % M * (N ^ j % M) % M : Nat) : Int) = V.int ((N ^ (i + j) % M : Nat) : Int)
        rw [← Nat.mul_mod, ← Nat.pow_add]
      · have rz : z = V.int ((N ^ s0 % M : Nat) : Int) := rz
        rw [rz, ← rk]
        exact k _ (g1.trans s2)
end
end Xk
end
section
set_option Elab.async false
set_option linter.all false
set_option maxRecDepth 100000
set_option maxHeartbeats 4000000
namespace Xk
open PySem PySem.Spec PyProof.Rows L2 Xh LamX NdefX
/-! ### rests -/
/-- what is wanted of a refusal: an own exception of the class at C, its word alone -/
def Ex (H : Hp) (E : XK) (C : Addr) (nm : Str) : Prop := ∀ (d : Addr) (H' : Hp), Same H H' → H' d = some (.xd [("word", .str nm)]) → H d = none → E (.ref C) (some d) H'
theorem Ex.imp {H : Hp} {E E' : XK} {C : Addr} {nm : Str} (x : Ex H E C nm) (h : ∀ c d H', E c d H' → E' c d H') : Ex H E' C nm := fun d H' a b c => h _ _ _ (x d H' a b c)
def spIsPrime : Sp := fun vs H Q _ => ∃ p : Int, vs = [.int p] ∧ Q (.bl (decide (p ∈ primes))) H
def spIsNum : Sp := fun vs H Q _ => ∃ n : Int, vs = [.int n] ∧ Q (.bl true) H
def spIsRest : Sp := fun vs H Q _ => ∃ n p : Int, vs = [.int n, .int p] ∧ Q (.bl (decide (0 ≤ n ∧ n < p))) H
def spRefP (C : Addr) : Sp := fun vs H Q E => ∃ p : Int, vs = [.int p] ∧ (p ∈ primes → Q .non H) ∧ (p ∉ primes → Ex H E C "BadPrime")
theorem inV_ints (p : Int) : ∀ ns : List Int, inV (.int p) (ns.map V.int) = decide (p ∈ ns)
  | [] => rfl
  | n :: ns => by
    have ih := inV_ints p ns
    unfold inV at ih ⊢
    rw [List.map_cons, List.any_cons, ih]
    show ((n == p) || decide (p ∈ ns)) = decide (p ∈ n :: ns)
    by_cases h : n = p
    · subst h
      simp
    · have h' : p ≠ n := fun z => h z.symm
      simp [h, h']
theorem all_flat (ns : List Int) : (ns.map V.int).all flatV = true := by
  rw [List.all_eq_true]
  intro x hx
  obtain ⟨n, _, rfl⟩ := List.mem_map.mp hx
  rfl
section
variable {P : Program} {w : World} {K : PySem.W.Frag} {mg : Str → Option Value} {base : Heap}
abbrev s_is_prime : Stmt := topS 20
theorem sc_is_prime : FnScope (["number"] : List Str) ["number"] (defScope s_is_prime) := ⟨rfl, rfl, rfl, by decide +kernel, rfl, by decide +kernel, by decide +kernel⟩
theorem ok_is_prime {f : Addr} {fd : FuncData} {cP : Addr} (F : FunD K "is_prime" "is_prime" (defArgs s_is_prime) (defBody s_is_prime) (defScope s_is_prime) [] [] f fd) (mP : mg "PRIMES" = some (.ref cP)) (hP : ∀ H, SqT K H cP (primes.map V.int)) : FnOk P w K mg base CX0 1 f fd ["number"] spIsPrime := by
  refine F.ok sc_is_prime (fun vs H Q E h => ?_) (fun cdv A outer s H vs Q E hr h => ?_)
  · obtain ⟨p, rfl, _⟩ := h
    rfl
  · obtain ⟨p, rfl, k⟩ := h
    refine ⟨_, PSs.nox (pss_one (ps_ret (pe_cmpR op_in_seq (pv 0) (pe_glob (v := .ref cP) rfl mP rfl) (by rfl)))) , ?_⟩
    refine ⟨_, rfl, cP, _, rfl, .inr (hP H), rfl, all_flat _, ?_⟩
    rw [if_neg (by decide), inV_ints]
    exact k
abbrev s_is_number : Stmt := topS 21
theorem sc_is_number : FnScope (["told"] : List Str) ["told"] (defScope s_is_number) := ⟨rfl, rfl, rfl, by decide +kernel, rfl, by decide +kernel, by decide +kernel⟩
theorem ok_is_number {f : Addr} {fd : FuncData} (F : FunD K "is_number" "is_number" (defArgs s_is_number) (defBody s_is_number) (defScope s_is_number) [] [] f fd) (T : Fre mg) : FnOk P w K mg base CX0 1 f fd ["told"] spIsNum := by
  refine F.ok sc_is_number (fun vs H Q E h => ?_) (fun cdv A outer s H vs Q E hr h => ?_)
  · obtain ⟨p, rfl, _⟩ := h
    rfl
  · obtain ⟨n, rfl, k⟩ := h
    refine ⟨_, PSs.nox (pss_one (ps_ret (pe_and (pe_callB call_isi (by rfl) T.f_isinstance PyProof.Rows.boot_isinstance (pa_cons (pv 0) (pa_cons (pe_bltn (v := .ty "int") rfl T.f_int boot_int rfl) pa_nil))) (pe_one (pe_not (pe_callB call_isi (by rfl) T.f_isinstance PyProof.Rows.boot_isinstance (pa_cons (pv 0) (pa_cons (pe_bltn (v := .ty "bool") rfl T.f_bool boot_bool rfl) pa_nil)))))))) , ?_⟩
    exact ⟨_, rfl, .int n, _, _, _, true, rfl, .ty _, .base (.int n), kit_ty (by decide +kernel), _, rfl, iteT ⟨_, rfl, .int n, _, _, _, false, rfl, .ty _, .base (.int n), kit_ty (by decide +kernel), _, rfl, k⟩⟩
abbrev s_is_rest : Stmt := topS 22
theorem sc_is_rest : FnScope (["told", "prime"] : List Str) ["told", "prime"] (defScope s_is_rest) := ⟨rfl, rfl, rfl, by decide +kernel, rfl, by decide +kernel, by decide +kernel⟩
theorem ok_is_rest {f : Addr} {fd : FuncData} (F : FunD K "is_rest" "is_rest" (defArgs s_is_rest) (defBody s_is_rest) (defScope s_is_rest) [] [] f fd) (o_is_number : Own P w K mg base CX0 1 "is_number" ["told"] [] spIsNum) : FnOk P w K mg base CX0 2 f fd ["told", "prime"] spIsRest := by
  refine F.ok sc_is_rest (fun vs H Q E h => ?_) (fun cdv A outer s H vs Q E hr h => ?_)
  · obtain ⟨n, p, rfl, _⟩ := h
    rfl
  · obtain ⟨n, p, rfl, k⟩ := h
    refine ⟨_, PSs.nox (pss_one (ps_ret (pe_and (pe_own o_is_number (hr.mono (by decide)) rfl pass0 (pa_cons (pv 0) pa_nil)) (pe_one (pe_chain op_le op_lt pe_int (pv 0) (pv 1)))))) , ?_⟩
    refine ⟨_, rfl, n, rfl, _, rfl, iteT ⟨_, rfl, _, _, rfl, rfl, _, rfl, ?_⟩⟩
    by_cases h0 : 0 ≤ n
    · rw [decide_eq_true h0]
      refine iteT ⟨_, rfl, _, _, rfl, rfl, ?_⟩
      show Q (.bl (decide (n < p))) H
      rw [show decide (n < p) = decide (0 ≤ n ∧ n < p) from by simp [h0]]
      exact k
    · rw [decide_eq_false h0]
      refine iteF ?_
      rw [show decide (0 ≤ n ∧ n < p) = false from decide_eq_false fun z => h0 z.1] at k
      exact k
abbrev s_refuse_prime : Stmt := topS 23
theorem sc_refuse_prime : FnScope (["prime"] : List Str) ["prime"] (defScope s_refuse_prime) := ⟨rfl, rfl, rfl, by decide +kernel, rfl, by decide +kernel, by decide +kernel⟩
theorem ok_refuse_prime {f C fI : Addr} {fd : FuncData} (F : FunD K "refuse_prime" "refuse_prime" (defArgs s_refuse_prime) (defBody s_refuse_prime) (defScope s_refuse_prime) [] [] f fd) (o_is_prime : Own P w K mg base CX0 1 "is_prime" ["number"] [] spIsPrime) (xP : RX K mg C fI "BadPrime") (o_init : FnR P w K mg base (L2.CX P w) 1 fI (spRI1 K)) : FnOk P w K mg base (L2.CX P w) 3 f fd ["prime"] (spRefP C) := by
  refine F.ok sc_refuse_prime (fun vs H Q E h => ?_) (fun cdv A outer s H vs Q E hr h => ?_)
  · obtain ⟨p, rfl, _⟩ := h
    rfl
  · obtain ⟨p, rfl, h1, h2⟩ := h
    refine ⟨_, (pss_one (ps_if (pt_not (pt_val (pe_own o_is_prime (hr.mono (by decide)) rfl pass0 (pa_cons (pv 0) pa_nil)))) (pss_one (ps_raise rfl (takes_of rfl rfl rfl rfl) (pmk_rung xP o_init hr rfl))) pss_nil)) , ?_⟩
    refine ⟨_, rfl, p, rfl, _, rfl, ?_⟩
    by_cases hp : p ∈ primes
    · rw [decide_eq_true hp]
      exact iteF (h1 hp)
    · rw [decide_eq_false hp]
      exact iteT fun d H' a b c => h2 hp d H' a b c
end
end Xk
end
section
set_option Elab.async false
set_option linter.all false
set_option maxRecDepth 100000
set_option maxHeartbeats 4000000
namespace Xk
open PySem PySem.Spec PyProof.Rows L2 Xh LamX NdefX
/-! ### polynomials: rests without a nought at their end -/
def trim : List Int → List Int
  | [] => []
  | x :: xs => if trim xs = [] ∧ x = 0 then [] else x :: trim xs
theorem trim_nil : ∀ {a : List Int}, (∀ i, a.getD i 0 = 0) → trim a = []
  | [], _ => rfl
  | x :: xs, h => by
    have h0 : x = 0 := h 0
    have h1 : trim xs = [] := trim_nil fun i => h (i + 1)
    unfold trim
    rw [if_pos ⟨h1, h0⟩]
theorem trim_congr : ∀ (a b : List Int), (∀ i, a.getD i 0 = b.getD i 0) → trim a = trim b
  | [], b, h => (trim_nil fun i => (h i).symm).symm
  | a, [], h => trim_nil fun i => h i
  | x :: xs, y :: ys, h => by
    have h0 : x = y := h 0
    have h1 : trim xs = trim ys := trim_congr xs ys fun i => h (i + 1)
    unfold trim
    rw [h0, h1]
theorem trim_getD : ∀ (a : List Int) (i : Nat), (trim a).getD i 0 = a.getD i 0
  | [], i => rfl
  | x :: xs, i => by
    unfold trim
    by_cases h : trim xs = [] ∧ x = 0
    · rw [if_pos h, h.2]
      cases i with
      | zero => rfl
      | succ i =>
        have z := trim_getD xs i
        rw [h.1] at z
        exact z
    · rw [if_neg h]
      cases i with
      | zero => rfl
      | succ i => exact trim_getD xs i
theorem trim_trim (a : List Int) : trim (trim a) = trim a := trim_congr _ _ fun i => trim_getD a i
theorem trim_length : ∀ a : List Int, (trim a).length ≤ a.length
  | [] => Nat.le_refl _
  | x :: xs => by
    unfold trim
    split
    · exact Nat.zero_le _
    · exact Nat.succ_le_succ (trim_length xs)
theorem trim_mem : ∀ {a : List Int} {x : Int}, x ∈ trim a → x ∈ a
  | y :: ys, x, h => by
    unfold trim at h
    split at h
    · cases h
    · rcases List.mem_cons.mp h with h | h
      · exact List.mem_cons.mpr (.inl h)
      · exact List.mem_cons.mpr (.inr (trim_mem h))
theorem trim_last : ∀ (a : List Int) (n : Nat), n + 1 = a.length → a.getD n 0 ≠ 0 → trim a = a
  | x :: xs, n, hn, hz => by
    have hn' : n = xs.length := Nat.succ.inj hn
    unfold trim
    cases n with
    | zero =>
      have : xs = [] := List.length_eq_zero_iff.mp hn'.symm
      subst this
      rw [if_neg (fun z => hz z.2)]
      rfl
    | succ n =>
      have ih := trim_last xs n hn' hz
      rw [if_neg (fun z => by rw [ih] at z; rw [z.1] at hn'; cases hn'), ih]
theorem trim_ne (a : List Int) (h : a ≠ []) (ht : trim a = a) : a.getD (a.length - 1) 0 ≠ 0 := by
  induction a with
  | nil => exact absurd rfl h
  | cons x xs ih =>
    unfold trim at ht
    split at ht
    · cases ht
    · rename_i hc
      have hx : trim xs = xs := (List.cons.inj ht).2
      cases xs with
      | nil => exact fun z => hc ⟨rfl, z⟩
      | cons y ys => exact ih (by intro z; cases z) hx
theorem take_getD (a : List Int) (n i : Nat) : (a.take n).getD i 0 = if i < n then a.getD i 0 else 0 := by
  rw [List.getD_eq_getElem?_getD, List.getD_eq_getElem?_getD, List.getElem?_take]
  split <;> rfl
/-- what the count from the end leaves -/
theorem take_trim {a : List Int} {n : Nat} (hn : n ≤ a.length) (hz : ∀ i, n ≤ i → a.getD i 0 = 0) (hl : n = 0 ∨ a.getD (n - 1) 0 ≠ 0) : a.take n = trim a := by
  have e : trim (a.take n) = trim a := trim_congr _ _ fun i => by
    rw [take_getD]
    split
    · rfl
    · rw [hz i (by omega)]
  rw [← e]
  rcases hl with rfl | hl
  · rfl
  · cases n with
    | zero => rfl
    | succ n => exact (trim_last _ n (by rw [List.length_take]; omega) (by rw [take_getD, if_pos (Nat.lt_succ_self n)]; exact hl)).symm
theorem cutV_take (ns : List Int) (n : Nat) : cutV (ns.map V.int) none (some (n : Int)) = (ns.take n).map V.int := by
  unfold cutV
  rw [HT.sIx_none, HT.sIx_nat, Nat.sub_zero, List.drop_zero, ← List.map_take]
  congr 1
  rw [List.length_map]
  by_cases h : n ≤ ns.length
  · rw [Nat.min_eq_left h]
  · rw [Nat.min_eq_right (by omega), List.take_length, List.take_of_length_le (by omega)]
theorem map_at (ns : List Int) (i : Nat) (h : i < ns.length) : (ns.map V.int)[i]? = some (.int (ns.getD i 0)) := by
  rw [List.getElem?_map, List.getD_eq_getElem?_getD, List.getElem?_eq_getElem h]
  rfl
/-- a new tuple of these -/
def NewT (H : Hp) (ms : List Int) (Q : VK) : Prop := ∀ (p : Addr) (H' : Hp), Same H H' → H p = none → H' p = some (.tup (ms.map V.int)) → Q (.ref p) H'
theorem out_take {H : Hp} {ns : List Int} {n : Nat} {Q : VK} (e : ns.take n = trim ns) (k : NewT H (trim ns) Q) {p l : Addr} (hp : H p = none) (hl : L2.upd H p (.lst (cutV (ns.map V.int) none (some (n : Int)))) l = none) :
    Q (.ref l) (L2.upd (L2.upd H p (.lst (cutV (ns.map V.int) none (some (n : Int))))) l (.tup (cutV (ns.map V.int) none (some (n : Int))))) := by
  refine k l _ ((same_upd hp).trans (same_upd hl)) ((same_upd hp).free hl) ?_
  rw [upd_same, cutV_take, e]
def spTrim (K : PySem.W.Frag) : Sp := fun vs H Q _ => ∃ (a : Addr) (ns : List Int), vs = [.ref a] ∧ SqL K H a (ns.map V.int) ∧ ns.length ≤ 1000 ∧ NewT H (trim ns) Q
section
variable {P : Program} {w : World} {K : PySem.W.Frag} {mg : Str → Option Value} {base : Heap}

end
end Xk
end
section
set_option Elab.async false
set_option linter.all false
set_option maxRecDepth 100000
set_option maxHeartbeats 4000000
namespace Xk
open PySem PySem.Spec PyProof.Rows L2 Xh LamX NdefX
/-- the coefficients of ms, without a nought at the end, at most n of them -/
structure Is (f : Nat → Int) (n : Nat) (ms : List Int) : Prop where
  at_ : ∀ j, ms.getD j 0 = f j
  tr : trim ms = ms
  len : ms.length ≤ n
theorem Is.uniq {f g : Nat → Int} {n m : Nat} {a b : List Int} (x : Is f n a) (y : Is g m b) (h : ∀ j, f j = g j) : a = b := by
  rw [← x.tr, ← y.tr]
  exact trim_congr _ _ fun i => by rw [x.at_, y.at_, h]
def NewP (H : Hp) (f : Nat → Int) (n : Nat) (Q : VK) : Prop := ∀ ms, Is f n ms → NewT H ms Q
theorem is_trim {f : Nat → Int} {n : Nat} {ms : List Int} (h : ∀ j, ms.getD j 0 = f j) (l : ms.length ≤ n) : Is f n (trim ms) := ⟨fun j => by rw [trim_getD, h], trim_trim _, Nat.le_trans (trim_length _) l⟩
theorem NewT.same {H H' : Hp} {ms : List Int} {Q : VK} (k : NewT H ms Q) (s : Same H H') : NewT H' ms Q := fun p H2 a b c => k p H2 (s.trans a) (s.free b) c
theorem NewP.same {H H' : Hp} {f : Nat → Int} {n : Nat} {Q : VK} (k : NewP H f n Q) (s : Same H H') : NewP H' f n Q := fun ms h => (k ms h).same s
/-- rests by p -/
def Rs (p : Int) (ms : List Int) : Prop := ∀ j, 0 ≤ ms.getD j 0 ∧ ms.getD j 0 < p
structure Pm (p : Int) : Prop where
  lo : 2 ≤ p
  hi : p ≤ 1000
theorem Pm.pos {p : Int} (h : Pm p) : 0 < p := by have := h.lo; omega
theorem fm_rs {p : Int} (h : Pm p) {ms : List Int} {f : Nat → Int} (e : ∀ j, ms.getD j 0 = (f j).fmod p) : Rs p ms := fun j => by
  rw [e]
  exact ⟨Int.fmod_nonneg_of_pos _ h.pos, Int.fmod_lt_of_pos _ h.pos⟩
theorem fm_id {x p : Int} (h0 : 0 ≤ x) (h1 : x < p) : x.fmod p = x := by rw [Int.fmod_eq_emod_of_nonneg _ (by omega), Int.emod_eq_of_lt h0 h1]
theorem getD_over {a : List Int} {i : Nat} (h : a.length ≤ i) : a.getD i 0 = 0 := by
  rw [List.getD_eq_getElem?_getD, List.getElem?_eq_none h]
  rfl
theorem getD_map {a : List Int} {i : Nat} {g : Int → Int} (h : g 0 = 0) : (a.map g).getD i 0 = g (a.getD i 0) := by
  rw [List.getD_eq_getElem?_getD, List.getD_eq_getElem?_getD, List.getElem?_map]
  cases a[i]? with
  | none => exact h.symm
  | some x => rfl
theorem lcs {H H2 : Hp} {D : Addr} {o : HO} (hD : H D = none) (s : Same H H2) : Same H (L2.upd H2 D o) := fun b o h => by
  rw [upd_ne (ne_of_none h hD)]
  exact s b o h
theorem take_map {ns : List Int} {i : Nat} (g : Int → Int) (hi : i < ns.length) : ((ns.take i).map g).map V.int ++ [V.int (g (ns.getD i 0))] = ((ns.take (i + 1)).map g).map V.int := by
  rw [List.take_succ, List.getD_eq_getElem?_getD, List.getElem?_eq_getElem hi, List.map_append, List.map_append]
  rfl
theorem take_len (ns : List Int) (g : Int → Int) (i : Nat) : (((ns.take i).map g).map V.int).length ≤ ns.length := by
  rw [List.length_map, List.length_map, List.length_take]
  omega
theorem ixN_nat {n i : Nat} (h : i < n) : ixN n (i : Int) = some i := by
  unfold ixN
  rw [if_pos (by omega), if_pos (by omega), Int.toNat_natCast]
theorem getD_set {a : List Int} {i j : Nat} {v : Int} (h : i < a.length) : (a.set i v).getD j 0 = if j = i then v else a.getD j 0 := by
  rw [List.getD_eq_getElem?_getD, List.getD_eq_getElem?_getD, List.getElem?_set]
  by_cases e : j = i
  · rw [if_pos e, if_pos e.symm, if_pos h]
    rfl
  · rw [if_neg e, if_neg (fun z => e z.symm)]
def spScale (K : PySem.W.Frag) : Sp := fun vs H Q _ => ∃ (a : Addr) (ns : List Int) (r p : Int), vs = [.ref a, .int r, .int p] ∧ SqT K H a (ns.map V.int) ∧ ns.length ≤ 100 ∧ Rs p ns ∧ Pm p ∧ NewP H (fun j => (ns.getD j 0 * r).fmod p) ns.length Q
def spPlus (K : PySem.W.Frag) : Sp := fun vs H Q _ => ∃ (a b : Addr) (xs ys : List Int) (p : Int), vs = [.ref a, .ref b, .int p] ∧ SqT K H a (xs.map V.int) ∧ SqT K H b (ys.map V.int) ∧ xs.length ≤ 100 ∧ ys.length ≤ 100 ∧ Rs p xs ∧ Rs p ys ∧ Pm p ∧
  NewP H (fun j => (xs.getD j 0 + ys.getD j 0).fmod p) (max xs.length ys.length) Q
def spMinus (K : PySem.W.Frag) : Sp := fun vs H Q _ => ∃ (a b : Addr) (xs ys : List Int) (p : Int), vs = [.ref a, .ref b, .int p] ∧ SqT K H a (xs.map V.int) ∧ SqT K H b (ys.map V.int) ∧ xs.length ≤ 100 ∧ ys.length ≤ 100 ∧ Rs p xs ∧ Rs p ys ∧ Pm p ∧
  NewP H (fun j => (xs.getD j 0 + (p - 1) * ys.getD j 0).fmod p) 100 Q
section
variable {P : Program} {w : World} {K : PySem.W.Frag} {mg : Str → Option Value} {base : Heap}

end
end Xk
end
section
set_option Elab.async false
set_option linter.all false
set_option maxRecDepth 100000
set_option maxHeartbeats 4000000
namespace Xk
open PySem PySem.Spec PyProof.Rows L2 Xh LamX NdefX
theorem Is.imp {f g : Nat → Int} {n m : Nat} {ms : List Int} (x : Is f n ms) (h : ∀ j, f j = g j) (l : n ≤ m) : Is g m ms := ⟨fun j => (x.at_ j).trans (h j), x.tr, Nat.le_trans x.len l⟩
theorem NewP.imp {H : Hp} {f g : Nat → Int} {n m : Nat} {Q : VK} (k : NewP H g m Q) (h : ∀ j, f j = g j) (l : n ≤ m) : NewP H f n Q := fun ms x => k ms (x.imp h l)
theorem fm_add {a b p : Int} (h : 0 < p) : (a + b.fmod p).fmod p = (a + b).fmod p := by
  rw [Int.fmod_eq_emod_of_nonneg _ (by omega), Int.fmod_eq_emod_of_nonneg _ (by omega), Int.fmod_eq_emod_of_nonneg _ (by omega), Int.add_emod_emod]
theorem fm_add2 {a b p : Int} (h : 0 < p) : (a.fmod p + b).fmod p = (a + b).fmod p := by rw [Int.add_comm, fm_add h, Int.add_comm]
/-- one row of a product -/
def In (g : Nat → Int) (i : Nat) (x : Int) (ys : List Int) : Nat → Nat → Int
  | 0 => g
  | j + 1 => fun k => if k = i + j then In g i x ys j k + x * ys.getD j 0 else In g i x ys j k
/-- a product's coefficients, i rows of it -/
def Ou (xs ys : List Int) : Nat → Nat → Int
  | 0 => fun _ => 0
  | i + 1 => In (Ou xs ys i) i (xs.getD i 0) ys ys.length
def cvf (xs ys : List Int) : Nat → Int := Ou xs ys xs.length
theorem In_over {g : Nat → Int} {i n : Nat} {x : Int} {ys : List Int} (h : ∀ k, n ≤ k → g k = 0) (hn : i + ys.length ≤ n) : ∀ j, j ≤ ys.length → ∀ k, n ≤ k → In g i x ys j k = 0
  | 0, _, k, hk => h k hk
  | j + 1, hj, k, hk => by
    unfold In
    rw [if_neg (by omega)]
    exact In_over h hn j (by omega) k hk
theorem Ou_nil (xs : List Int) : ∀ i k, Ou xs [] i k = 0
  | 0, _ => rfl
  | i + 1, k => Ou_nil xs i k
theorem rep_zero (n : Nat) : (List.replicate n [V.int 0]).flatten = (List.replicate n (0 : Int)).map V.int := by
  induction n with
  | zero => rfl
  | succ n ih => rw [List.replicate_succ, List.replicate_succ, List.flatten_cons, ih]; rfl
theorem getD_rep (n j : Nat) : (List.replicate n (0 : Int)).getD j 0 = 0 := by
  rw [List.getD_eq_getElem?_getD, List.getElem?_replicate]
  split <;> rfl
def spTimes (K : PySem.W.Frag) : Sp := fun vs H Q _ => ∃ (a b : Addr) (xs ys : List Int) (p : Int), vs = [.ref a, .ref b, .int p] ∧ SqT K H a (xs.map V.int) ∧ SqT K H b (ys.map V.int) ∧ xs.length ≤ 50 ∧ ys.length ≤ 50 ∧ Rs p xs ∧ Rs p ys ∧ Pm p ∧
  NewP H (fun j => (cvf xs ys j).fmod p) 100 Q
section
variable {P : Program} {w : World} {K : PySem.W.Frag} {mg : Str → Option Value} {base : Heap}

end
end Xk
end
section
set_option Elab.async false
set_option linter.all false
set_option maxRecDepth 100000
set_option maxHeartbeats 4000000
namespace Xk
open PySem PySem.Spec PyProof.Rows L2 Xh LamX NdefX
def spIsPoly (K : PySem.W.Frag) : Sp := fun vs H Q _ => ∃ (a : Addr) (ns : List Int) (p : Int), vs = [.ref a, .int p] ∧ SqT K H a (ns.map V.int) ∧ ns.length ≤ 25 ∧ Rs p ns ∧ trim ns = ns ∧ ∀ H', Same H H' → Q (.bl true) H'
theorem atI_back (n : Int) (ns : List Int) : atI ((n :: ns).map V.int) (-1) = some (.int ((n :: ns).getD ns.length 0)) := by
  unfold atI ixN
  rw [List.length_map, List.length_cons, if_neg (by decide), if_pos (by omega)]
  show ((n :: ns).map V.int)[((-1 : Int) + ((ns.length + 1 : Nat) : Int)).toNat]? = _
  rw [show ((-1 : Int) + ((ns.length + 1 : Nat) : Int)).toNat = ns.length by omega]
  exact map_at (n :: ns) ns.length (by rw [List.length_cons]; omega)
theorem dp_ints {K : PySem.W.Frag} {H : Hp} : ∀ ns : List Int, DpAll K H (ns.map V.int) (ns.map PyData.int)
  | [] => .nil
  | n :: ns => .cons (.int n) (dp_ints ns)
theorem dp_tup {K : PySem.W.Frag} {H : Hp} {a : Addr} {ns : List Int} (h : SqT K H a (ns.map V.int)) : Dp K H (.ref a) (.tuple (ns.map PyData.int)) := .tup h (dp_ints ns)
section
variable {P : Program} {w : World} {K : PySem.W.Frag} {mg : Str → Option Value} {base : Heap}

end
end Xk
end
section
set_option Elab.async false
set_option linter.all false
set_option maxRecDepth 100000
set_option maxHeartbeats 4000000
namespace Xk
open PySem PySem.Spec PyProof.Rows L2 Xh LamX NdefX
theorem pm_all : ∀ p ∈ primes, 2 ≤ p ∧ p ≤ 1000 := by decide
theorem pm_of {p : Int} (h : p ∈ primes) : Pm p := ⟨(pm_all p h).1, (pm_all p h).2⟩
structure Pol (K : PySem.W.Frag) (H : Hp) (a : Addr) (p : Int) (ns : List Int) : Prop where
  at_ : SqT K H a (ns.map V.int)
  len : ns.length ≤ 25
  rs : Rs p ns
  tr : trim ns = ns
theorem Pol.same {H H' : Hp} {K : PySem.W.Frag} {a : Addr} {p : Int} {ns : List Int} (x : Pol K H a p ns) (s : Same H H') : Pol K H' a p ns := ⟨sameT s x.at_, x.len, x.rs, x.tr⟩
theorem two_of {H : Hp} {K : PySem.W.Frag} {a b : Addr} {p : Int} {xs ys : List Int} (x : Pol K H a p xs) (y : Pol K H b p ys) : ∀ r ∈ [V.ref a, V.ref b], ∃ a ns, r = .ref a ∧ Pol K H a p ns := fun r hr => by
  rcases List.mem_cons.mp hr with rfl | hr
  · exact ⟨_, _, rfl, x⟩
  · rw [List.mem_singleton.mp hr]
    exact ⟨_, _, rfl, y⟩
def spRefPs (K : PySem.W.Frag) : Sp := fun vs H Q _ => ∃ (c : Addr) (rs : List V) (p : Int), vs = [.ref c, .int p] ∧ p ∈ primes ∧ SqT K H c rs ∧ (∀ r ∈ rs, ∃ a ns, r = .ref a ∧ Pol K H a p ns) ∧ ∀ H', Same H H' → Q .non H'
def spPoly (K : PySem.W.Frag) (g : Int → List Int → List Int → Nat → Int) : Sp := fun vs H Q _ => ∃ (a b : Addr) (xs ys : List Int) (p : Int), vs = [.ref a, .ref b, .int p] ∧ p ∈ primes ∧ Pol K H a p xs ∧ Pol K H b p ys ∧ NewP H (g p xs ys) 100 Q
def gPlus : Int → List Int → List Int → Nat → Int := fun p xs ys j => (xs.getD j 0 + ys.getD j 0).fmod p
def gMinus : Int → List Int → List Int → Nat → Int := fun p xs ys j => (xs.getD j 0 + (p - 1) * ys.getD j 0).fmod p
def gTimes : Int → List Int → List Int → Nat → Int := fun p xs ys j => (cvf xs ys j).fmod p
section
variable {P : Program} {w : World} {K : PySem.W.Frag} {mg : Str → Option Value} {base : Heap}

end
end Xk
end
section
set_option Elab.async false
set_option linter.all false
set_option maxRecDepth 100000
set_option maxHeartbeats 4000000
namespace Xk
open PySem PySem.Spec PyProof.Rows L2 Xh LamX NdefX
theorem Draw.updL {H : Hp} {d p : Addr} {ms : List Int} (D : Draw H d) (h : p ≠ d) : Draw (L2.upd H p (.lst (ms.map V.int))) d := by
  obtain ⟨c, ns, i, r, g, h1, h2, h3⟩ := D
  by_cases hc : c = p
  · exact ⟨c, ms, i, r, g, by rw [upd_ne (Ne.symm h)]; exact h1, by rw [hc, upd_same], h3⟩
  · exact ⟨c, ns, i, r, g, by rw [upd_ne (Ne.symm h)]; exact h1, by rw [upd_ne hc]; exact h2, h3⟩
theorem But.lcs {H H2 : Hp} {d D : Addr} {o : HO} (hD : H D = none) (b : But d H H2) : But d H (L2.upd H2 D o) := ⟨fun c u h e => by
  rw [upd_ne (ne_of_none e hD)]
  exact b.f c u h e, fun c r e => by
  obtain ⟨r', e'⟩ := b.c c r e
  exact ⟨r', by rw [upd_ne (ne_of_none e hD)]; exact e'⟩⟩
theorem Rs.nil (p : Int) (h : 0 < p) : Rs p [] := fun j => ⟨Int.le_refl _, h⟩
theorem Rs.add {p x : Int} {ms : List Int} (r : Rs p ms) (h0 : 0 ≤ x) (h1 : x < p) : Rs p (ms ++ [x]) := fun j => by
  rw [List.getD_eq_getElem?_getD, List.getElem?_append]
  split
  · have z := r j
    rw [List.getD_eq_getElem?_getD] at z
    exact z
  · cases e : j - ms.length with
    | zero => exact ⟨h0, h1⟩
    | succ n => exact ⟨Int.le_refl _, show (0 : Int) < p by omega⟩
/-- a new list of rests, drawn -/
def NewL (H : Hp) (d : Addr) (p : Int) (n : Nat) (Q : VK) : Prop := ∀ (ms : List Int) (a : Addr) (H' : Hp), ms.length = n → Rs p ms → Draw H' d → But d H H' → H' a = some (.lst (ms.map V.int)) → a ≠ d → H a = none → Q (.ref a) H'
def spRestsD : Sp := fun vs H Q _ => ∃ (d : Addr) (n : Nat) (p : Int), vs = [.ref d, .int n, .int p] ∧ Draw H d ∧ n ≤ 100 ∧ Pm p ∧ NewL H d p n Q
def spPolyD (K : PySem.W.Frag) : Sp := fun vs H Q _ => ∃ (d : Addr) (n : Nat) (p : Int), vs = [.ref d, .int n, .int p] ∧ Draw H d ∧ n ≤ 25 ∧ Pm p ∧ ∀ (ms : List Int) (a : Addr) (H' : Hp), Draw H' d → But d H H' → Pol K H' a p ms → ms.length ≤ n → a ≠ d → H a = none → H' a = some (.tup (ms.map V.int)) → Q (.ref a) H'
theorem natAbs_small {p : Int} (h : Pm p) : p.natAbs < 2 ^ 200 := big (by have := h.lo; have := h.hi; omega)
section
variable {P : Program} {w : World} {K : PySem.W.Frag} {mg : Str → Option Value} {base : Heap}
abbrev s_law_rests : Stmt := topS 51
theorem sc_law_rests : FnScope (["_law_draw", "_law_many", "_law_p", "_law_k"] : List Str) ["_law_draw", "_law_many", "_law_p"] (defScope s_law_rests) := ⟨rfl, rfl, rfl, by decide +kernel, rfl, by decide +kernel, by decide +kernel⟩
theorem ok_law_rests {f : Addr} {fd : FuncData} (F : FunD K "_law_rests" "_law_rests" (defArgs s_law_rests) (defBody s_law_rests) (defScope s_law_rests) [] [] f fd) (T : Fre mg) (o_law_take : Own P w K mg base CX0 1 "_law_take" ["_law_draw", "_law_sides"] [] spTake) : FnOk P w K mg base CX0 2 f fd ["_law_draw", "_law_many", "_law_p"] spRestsD := by
  refine F.ok sc_law_rests (fun vs H Q E h => ?_) (fun cdv A outer s H vs Q E hr h => ?_)
  · obtain ⟨d, n, p, rfl, _⟩ := h
    rfl
  · obtain ⟨d, n, p, rfl, Dr, hn, hp, k⟩ := h
    refine ⟨_, PSs.nox (pss_one (ps_ret (pe_lc (own := [("_law_k", 3)]) rfl sc_law_rests.nd (pi_range1 (by rfl) T.f_range (pa_cons (pv 1) pa_nil)) (blkOk_by (own := [("_law_k", 3)]) (N := ["_law_draw", "_law_many", "_law_p", "_law_k"]) (sc := defScope s_law_rests) (by decide +kernel)) (fun _ _ _ _ _ => pg_name (i := 3) sc_law_rests.nd rfl (Or.inl rfl) (Or.inr rfl)) (fun _ _ _ _ _ => pts_nil) (fun _ _ _ _ _ => (pe_own o_law_take (hr.mono (by decide)) rfl pass0 (pa_cons (pv 0) (pa_cons (pv 2) pa_nil))))))) , ?_⟩
    refine ⟨_, rfl, (n : Int), rfl, by omega, by omega, fun D hD => ?_⟩
    rw [Int.toNat_natCast]
    have hDd : D ≠ d := Dr.ne hD
    refine lc_range (lo := 0) (n := n) (fun i H1 => ∃ ms : List Int, H1 D = some (.lst (ms.map V.int)) ∧ ms.length = i ∧ Rs p ms ∧ Draw H1 d ∧ But d H H1) ⟨[], upd_same, rfl, Rs.nil p hp.pos, Dr.same (same_upd hD), But.updN hD⟩ ?_ ?_
    · rintro i H1 hi ⟨ms, e1, l1, r1, D1, B1⟩
      have lo := hp.lo
      refine ⟨rfl, _, rfl, _, rfl, d, p, rfl, D1, by omega, natAbs_small hp, fun m H2 m0 m1 D2 B2 => ⟨_, B2 _ _ hDd e1, ?_, ms ++ [m], ?_, ?_, r1.add m0 m1, ?_, But.lcs hD (B1.trans B2)⟩⟩
      · rw [List.length_map]
        exact small1000 (by omega)
      · rw [upd_same, List.map_append]
        rfl
      · rw [List.length_append, l1]
        rfl
      · have z := D2.updL (p := D) (ms := ms ++ [m]) hDd
        rw [List.map_append] at z
        exact z
    · rintro H1 ⟨ms, e1, l1, r1, D1, B1⟩
      exact k ms D H1 (by omega) r1 D1 B1 e1 hDd hD
end
end Xk
end
section
set_option Elab.async false
set_option linter.all false
set_option maxRecDepth 100000
set_option maxHeartbeats 4000000
namespace Xk
open PySem PySem.Spec PyProof.Rows L2 Xh LamX NdefX
def spBlend (K : PySem.W.Frag) : Sp := fun vs H Q _ => ∃ (a b : Addr) (xs ys : List Int) (w p : Int), vs = [.ref a, .ref b, .int w, .int p] ∧ SqT K H a (xs.map V.int) ∧ SqT K H b (ys.map V.int) ∧ xs.length ≤ 100 ∧ ys.length ≤ 100 ∧ 0 ≤ w ∧ w ≤ 1000 ∧ Pm p ∧
  NewP H (fun j => (xs.getD j 0 + w * ys.getD j 0).fmod p) (max xs.length ys.length) Q
def pad (n : Nat) (xs : List Int) : List Int := xs ++ List.replicate (n - xs.length) 0
theorem pad_len {n : Nat} {xs : List Int} (h : xs.length ≤ n) : (pad n xs).length = n := by
  unfold pad
  rw [List.length_append, List.length_replicate]
  omega
theorem pad_getD (n : Nat) (xs : List Int) (j : Nat) : (pad n xs).getD j 0 = xs.getD j 0 := by
  unfold pad
  rw [List.getD_eq_getElem?_getD, List.getElem?_append]
  split
  · rw [List.getD_eq_getElem?_getD]
  · rename_i h
    rw [getD_over (by omega), ← List.getD_eq_getElem?_getD, getD_rep]
theorem getD_app (a : List Int) (x : Int) (j : Nat) : (a ++ [x]).getD j 0 = if j < a.length then a.getD j 0 else if j = a.length then x else 0 := by
  rw [List.getD_eq_getElem?_getD, List.getElem?_append]
  split
  · rw [List.getD_eq_getElem?_getD]
  · rename_i h
    by_cases e : j = a.length
    · rw [if_pos e, e, Nat.sub_self]
      rfl
    · rw [if_neg e]
      cases e2 : j - a.length with
      | zero => omega
      | succ n => rfl
section
variable {P : Program} {w : World} {K : PySem.W.Frag} {mg : Str → Option Value} {base : Heap}

end
end Xk
end
section
set_option Elab.async false
set_option linter.all false
set_option maxRecDepth 100000
set_option maxHeartbeats 4000000
namespace Xk
open PySem PySem.Spec PyProof.Rows L2 Xh LamX NdefX
def bks (N P i : Nat) : List Nat := (List.range i).filter fun j => (j + 1) * N % P == 1
def bk (N P : Nat) : Nat := (bks N P (P - 1)).headD 0 + 1
def spBack : Sp := fun vs H Q _ => ∃ N P : Nat, vs = [.int N, .int P] ∧ 2 ≤ P ∧ P ≤ 1000 ∧ bks N P (P - 1) ≠ [] ∧ ∀ H', Same H H' → Q (.int (bk N P)) H'
theorem undo_facts : ∀ M ∈ primes, ∀ N < M.toNat, N ≠ 0 → bks N M.toNat (M.toNat - 1) ≠ [] ∧ bk N M.toNat < M.toNat ∧ bk N M.toNat * N % M.toNat = 1 ∧ N ^ (M.toNat - 1) % M.toNat = 1 ∧ rpow N (-1) M.toNat = bk N M.toNat := by decide +kernel
section
variable {P : Program} {w : World} {K : PySem.W.Frag} {mg : Str → Option Value} {base : Heap}

end
end Xk
end
section
set_option Elab.async false
set_option linter.all false
set_option maxRecDepth 100000
set_option maxHeartbeats 4000000
namespace Xk
open PySem PySem.Spec PyProof.Rows L2 Xh LamX NdefX
/-! ### the law's own state -/
/-- the draws stand at d, the tables stand, and what qs tells stands -/
structure Wd (d : Addr) (T : List (Addr × Str)) (qs : List (Addr × HO)) (H : Hp) : Prop where
  D : Draw H d
  T : Tabs T H
  q : ∀ p ∈ qs, p.1 ≠ d ∧ H p.1 = some p.2 ∧ ∀ ps, p.2 ≠ .tbl ps
section
variable {d : Addr} {T : List (Addr × Str)} {qs : List (Addr × HO)} {H H' : Hp}
theorem Draw.ext (D : Draw H d) (x : ExtN H H') : Draw H' d := by
  obtain ⟨c, ns, i, r, g, h1, h2, h3⟩ := D
  exact ⟨c, ns, i, r, g, x _ _ h1 (fun _ z => by cases z), x _ _ h2 (fun _ z => by cases z), h3⟩
theorem Wd.ext (w : Wd d T qs H) (x : ExtN H H') (t : Tabs T H') : Wd d T qs H' := ⟨w.D.ext x, t, fun p hp => ⟨(w.q p hp).1, x _ _ (w.q p hp).2.1 (w.q p hp).2.2, (w.q p hp).2.2⟩⟩
theorem Wd.gr (w : Wd d T qs H) (g : Gr T H H') : Wd d T qs H' := w.ext g.x g.t
theorem Wd.same (w : Wd d T qs H) (s : Same H H') : Wd d T qs H' := ⟨w.D.same s, w.T.ext s, fun p hp => ⟨(w.q p hp).1, s _ _ (w.q p hp).2.1, (w.q p hp).2.2⟩⟩
theorem Tabs.but (t : Tabs T H) (D : Draw H d) (b : But d H H') : Tabs T H' := fun p hp => by
  obtain ⟨ps, h1, h2, h3⟩ := t p hp
  obtain ⟨c, ns, i, r, g, e, _⟩ := D
  refine ⟨ps, b _ _ (fun z => ?_) h1, h2, fun pos cv hc => ?_⟩
  · rw [z, e] at h1
    cases h1
  · obtain ⟨c', e1, e2⟩ := h3 pos cv hc
    refine ⟨c', e1, b _ _ (fun z => ?_) e2⟩
    rw [z, e] at e2
    unfold CodeO at e2
    cases e2
theorem Wd.but (w : Wd d T qs H) (b : But d H H') (D' : Draw H' d) : Wd d T qs H' := ⟨D', Tabs.but w.T w.D b, fun p hp => ⟨(w.q p hp).1, b _ _ (w.q p hp).1 (w.q p hp).2.1, (w.q p hp).2.2⟩⟩
theorem Wd.add (w : Wd d T qs H) {p : Addr} {o : HO} (hp : H p = none) (ho : ∀ ps, o ≠ .tbl ps) : Wd d T ((p, o) :: qs) (L2.upd H p o) := by
  have w' := w.same (same_upd (o := o) hp)
  refine ⟨w'.D, w'.T, fun r hr => ?_⟩
  rcases List.mem_cons.mp hr with rfl | hr
  · exact ⟨w.D.ne hp, upd_same, ho⟩
  · exact w'.q r hr
theorem Wd.sub {rs : List (Addr × HO)} (w : Wd d T qs H) (h : ∀ p ∈ rs, p ∈ qs) : Wd d T rs H := ⟨w.D, w.T, fun p hp => w.q p (h p hp)⟩
theorem Wd.at {p : Addr} {o : HO} (w : Wd d T qs H) (h : (p, o) ∈ qs) : H p = some o := (w.q _ h).2.1
end
theorem same_tup {K : PySem.W.Frag} {H : Hp} {p q : Addr} {xs : List V} (hp : H p = some (.tup xs)) (hq : H q = some (.tup xs)) (hf : xs.all flatV = true) (hl : xs.length ≤ 1000) : SameAt K H 1 (.ref p) (.ref q) :=
  .inr ⟨p, q, xs, xs, rfl, rfl, .inr ⟨SqT.of hp, SqT.of hq⟩, rfl, hl, fun i x y hx hy => by
    rw [hx] at hy
    cases hy
    exact ⟨List.all_eq_true.mp hf _ (List.mem_of_getElem? hx), rfl⟩⟩

end Xk
end
section
set_option linter.all false
/-! Polynomials by their coefficients: sums, products (no program in it; for k04, k07). -/
namespace Xp
/-- f 0 + .. + f (n - 1) -/
def sm : Nat → (Nat → Int) → Int
  | 0, _ => 0
  | n + 1, f => sm n f + f n
theorem sm_congr {f g : Nat → Int} : ∀ {n : Nat}, (∀ i, i < n → f i = g i) → sm n f = sm n g
  | 0, _ => rfl
  | n + 1, h => by
    show sm n f + f n = sm n g + g n
    rw [sm_congr (n := n) fun i hi => h i (by omega), h n (by omega)]
theorem sm_zero {f : Nat → Int} {n : Nat} (h : ∀ i, i < n → f i = 0) : sm n f = 0 := by
  induction n with
  | zero => rfl
  | succ n ih =>
    show sm n f + f n = 0
    rw [ih fun i hi => h i (by omega), h n (by omega)]
    rfl
theorem sm_add (f g : Nat → Int) : ∀ n, sm n (fun i => f i + g i) = sm n f + sm n g
  | 0 => rfl
  | n + 1 => by
    show sm n (fun i => f i + g i) + (f n + g n) = (sm n f + f n) + (sm n g + g n)
    rw [sm_add f g n]
    omega
theorem sm_mul (c : Int) (f : Nat → Int) : ∀ n, sm n (fun i => c * f i) = c * sm n f
  | 0 => (Int.mul_zero c).symm
  | n + 1 => by
    show sm n (fun i => c * f i) + c * f n = c * (sm n f + f n)
    rw [sm_mul c f n, Int.mul_add]
theorem sm_mul_right (c : Int) (f : Nat → Int) (n : Nat) : sm n (fun i => f i * c) = sm n f * c := by
  rw [Int.mul_comm, ← sm_mul]
  exact sm_congr fun i _ => Int.mul_comm _ _
/-- the first one apart -/
theorem sm_head (f : Nat → Int) : ∀ n, sm (n + 1) f = f 0 + sm n (fun i => f (i + 1))
  | 0 => by
    show 0 + f 0 = f 0 + 0
    omega
  | n + 1 => by
    show sm (n + 1) f + f (n + 1) = f 0 + (sm n (fun i => f (i + 1)) + f (n + 1))
    rw [sm_head f n]
    omega
theorem sm_rev (f : Nat → Int) : ∀ n, sm n (fun i => f (n - 1 - i)) = sm n f
  | 0 => rfl
  | n + 1 => by
    rw [sm_head]
    show f n + _ = sm n f + f n
    rw [← sm_rev f n, Int.add_comm]
    congr 1
    exact sm_congr fun i hi => by rw [show n + 1 - 1 - (i + 1) = n - 1 - i by omega]
theorem sm_swap (f : Nat → Nat → Int) (m : Nat) : ∀ n, sm n (fun i => sm m (fun j => f i j)) = sm m (fun j => sm n (fun i => f i j))
  | 0 => (sm_zero fun _ _ => rfl).symm
  | n + 1 => by
    show sm n (fun i => sm m (fun j => f i j)) + sm m (fun j => f n j) = sm m (fun j => sm n (fun i => f i j) + f n j)
    rw [sm_swap f m n, sm_add]
/-- beyond m all is nought -/
theorem sm_ext {f : Nat → Int} {m : Nat} (h : ∀ i, m ≤ i → f i = 0) : ∀ d, sm (m + d) f = sm m f
  | 0 => rfl
  | d + 1 => by
    show sm (m + d) f + f (m + d) = sm m f
    rw [sm_ext h d, h _ (by omega), Int.add_zero]
/-- a product's coefficient -/
def cv (f g : Nat → Int) (k : Nat) : Int := sm (k + 1) fun i => f i * g (k - i)
theorem cv_comm (f g : Nat → Int) (k : Nat) : cv f g k = cv g f k := by
  unfold cv
  rw [← sm_rev (fun i => g i * f (k - i)) (k + 1)]
  exact sm_congr fun i hi => by rw [show k + 1 - 1 - i = k - i by omega, show k - (k - i) = i by omega, Int.mul_comm]
theorem cv_add (f g h : Nat → Int) (k : Nat) : cv f (fun i => g i + h i) k = cv f g k + cv f h k := by
  unfold cv
  rw [← sm_add]
  exact sm_congr fun i _ => Int.mul_add _ _ _
theorem cv_mul (c : Int) (f g : Nat → Int) (k : Nat) : cv f (fun i => c * g i) k = c * cv f g k := by
  unfold cv
  rw [← sm_mul]
  exact sm_congr fun i _ => by rw [← Int.mul_assoc, Int.mul_comm (f i) c, Int.mul_assoc]
/-- the same sum, as far as one likes -/
theorem cv_wide (f g : Nat → Int) {k n : Nat} (h : k < n) : cv f g k = sm n fun i => if i ≤ k then f i * g (k - i) else 0 := by
  obtain ⟨d, rfl⟩ : ∃ d, n = k + 1 + d := ⟨n - (k + 1), by omega⟩
  rw [sm_ext (fun i hi => if_neg (by omega))]
  exact sm_congr fun i hi => (if_pos (by omega)).symm
theorem cv_assoc (f g h : Nat → Int) (k : Nat) : cv (cv f g) h k = cv f (cv g h) k := by
  have l : cv (cv f g) h k = sm (k + 1) fun j => sm (k + 1) fun i => if i ≤ j then f i * g (j - i) * h (k - j) else 0 := by
    show sm (k + 1) (fun j => cv f g j * h (k - j)) = _
    refine sm_congr fun j hj => ?_
    rw [cv_wide f g hj, ← sm_mul_right]
    refine sm_congr fun i _ => ?_
    split
    · rfl
    · exact Int.zero_mul _
  have r : cv f (cv g h) k = sm (k + 1) fun i => sm (k + 1) fun j => if i ≤ j then f i * g (j - i) * h (k - j) else 0 := by
    show sm (k + 1) (fun i => f i * cv g h (k - i)) = _
    refine sm_congr fun i hi => ?_
    rw [show (k + 1) = i + (k - i + 1) by omega]
    show f i * sm (k - i + 1) (fun j => g j * h (k - i - j)) = _
    rw [← sm_mul]
    have sh : ∀ (F : Nat → Int) (m n : Nat), (∀ j, j < m → F j = 0) → sm (m + n) F = sm n (fun j => F (m + j)) := fun F m n hF => by
      induction n with
      | zero => exact sm_zero hF
      | succ n ih =>
        show sm (m + n) F + F (m + n) = sm n (fun j => F (m + j)) + F (m + n)
        rw [ih]
    rw [sh _ i (k - i + 1) fun j hj => if_neg (by omega)]
    refine sm_congr fun j hj => ?_
    rw [if_pos (by omega), show i + j - i = j by omega, show k - (i + j) = k - i - j by omega, Int.mul_assoc]
  rw [l, r, sm_swap]
/-! ### by a prime -/
/-- alike by p -/
def Eqm (p : Int) (f g : Nat → Int) : Prop := ∀ k, f k % p = g k % p
theorem Eqm.refl (p : Int) (f : Nat → Int) : Eqm p f f := fun _ => rfl
theorem Eqm.symm {p : Int} {f g : Nat → Int} (h : Eqm p f g) : Eqm p g f := fun k => (h k).symm
theorem Eqm.trans {p : Int} {f g h : Nat → Int} (a : Eqm p f g) (b : Eqm p g h) : Eqm p f h := fun k => (a k).trans (b k)
theorem Eqm.add {p : Int} {f g f' g' : Nat → Int} (a : Eqm p f f') (b : Eqm p g g') : Eqm p (fun k => f k + g k) (fun k => f' k + g' k) := fun k => by
  show (f k + g k) % p = (f' k + g' k) % p
  rw [Int.add_emod, a k, b k, ← Int.add_emod]
theorem Eqm.mul {p : Int} {f f' : Nat → Int} (c : Int) (a : Eqm p f f') : Eqm p (fun k => c * f k) (fun k => c * f' k) := fun k => by
  show (c * f k) % p = (c * f' k) % p
  rw [Int.mul_emod, a k, ← Int.mul_emod]
theorem sm_mod {p : Int} {f g : Nat → Int} (h : ∀ i, f i % p = g i % p) : ∀ n, sm n f % p = sm n g % p
  | 0 => rfl
  | n + 1 => by
    show (sm n f + f n) % p = (sm n g + g n) % p
    rw [Int.add_emod, sm_mod h n, h n, ← Int.add_emod]
theorem Eqm.cv {p : Int} {f g f' g' : Nat → Int} (a : Eqm p f f') (b : Eqm p g g') : Eqm p (cv f g) (cv f' g') := fun k => by
  unfold Xp.cv
  exact sm_mod (fun i => by rw [Int.mul_emod, a i, b (k - i), ← Int.mul_emod]) _
/-- the highest place of a product -/
theorem cv_top {f g : Nat → Int} {a b : Nat} (hf : ∀ i, a < i → f i = 0) (hg : ∀ i, b < i → g i = 0) : cv f g (a + b) = f a * g b := by
  unfold cv
  rw [show a + b + 1 = (a + 1) + b by omega, sm_ext (fun i hi => by rw [hf i (by omega), Int.zero_mul])]
  show sm a (fun i => f i * g (a + b - i)) + f a * g (a + b - a) = f a * g b
  rw [sm_zero (fun i hi => by rw [hg _ (by omega), Int.mul_zero]), Int.zero_add, show a + b - a = b by omega]
theorem cv_over {f g : Nat → Int} {a b : Nat} (hf : ∀ i, a < i → f i = 0) (hg : ∀ i, b < i → g i = 0) {k : Nat} (hk : a + b < k) : cv f g k = 0 :=
  sm_zero fun i _ => by
    by_cases h : a < i
    · rw [hf i h, Int.zero_mul]
    · rw [hg _ (by omega), Int.mul_zero]
end Xp
end
section
set_option linter.all false
/-! Divisors of polynomials by a prime, by coefficients (no program in it). -/
namespace Xp
def Fi (t : Nat → Int) : Prop := ∃ n, ∀ k, n ≤ k → t k = 0
/-- d divides x by p -/
def Dv (p : Int) (d x : Nat → Int) : Prop := ∃ t, Fi t ∧ Eqm p x (cv d t)
theorem Fi.zero : Fi (fun _ => 0) := ⟨0, fun _ _ => rfl⟩
theorem Fi.add {f g : Nat → Int} (a : Fi f) (b : Fi g) : Fi (fun k => f k + g k) := by
  obtain ⟨n, ha⟩ := a
  obtain ⟨m, hb⟩ := b
  exact ⟨n + m, fun k hk => by show f k + g k = 0; rw [ha k (by omega), hb k (by omega)]; rfl⟩
theorem Fi.mul {f : Nat → Int} (c : Int) (a : Fi f) : Fi (fun k => c * f k) := by
  obtain ⟨n, ha⟩ := a
  exact ⟨n, fun k hk => by show c * f k = 0; rw [ha k hk, Int.mul_zero]⟩
theorem Fi.cv {f g : Nat → Int} (a : Fi f) (b : Fi g) : Fi (Xp.cv f g) := by
  obtain ⟨n, ha⟩ := a
  obtain ⟨m, hb⟩ := b
  exact ⟨n + m + 1, fun k hk => cv_over (a := n) (b := m) (fun i hi => ha i (by omega)) (fun i hi => hb i (by omega)) (by omega)⟩
theorem Fi.list (xs : List Int) : Fi (fun j => xs.getD j 0) := ⟨xs.length, fun k hk => by
  show xs.getD k 0 = 0
  rw [List.getD_eq_getElem?_getD, List.getElem?_eq_none hk]
  rfl⟩
theorem cv_funext {f f' g g' : Nat → Int} (hf : ∀ i, f i = f' i) (hg : ∀ i, g i = g' i) (k : Nat) : cv f g k = cv f' g' k := by
  rw [show f = f' from funext hf, show g = g' from funext hg]
theorem cv_zero (f : Nat → Int) (k : Nat) : cv f (fun _ => 0) k = 0 := sm_zero fun _ _ => Int.mul_zero _
theorem cv_zero' (f : Nat → Int) (k : Nat) : cv (fun _ => 0) f k = 0 := sm_zero fun _ _ => Int.zero_mul _
def one : Nat → Int := fun k => if k = 0 then 1 else 0
theorem cv_one' (f : Nat → Int) (k : Nat) : cv one f k = f k := by
  unfold cv
  rw [sm_head]
  show one 0 * f (k - 0) + _ = _
  rw [sm_zero (fun i _ => by show one (i + 1) * _ = 0; unfold one; rw [if_neg (by omega), Int.zero_mul])]
  unfold one
  rw [if_pos rfl, Int.one_mul, Int.add_zero, Nat.sub_zero]
theorem cv_one (f : Nat → Int) (k : Nat) : cv f one k = f k := by rw [cv_comm, cv_one']
theorem Dv.congr {p : Int} {d x y : Nat → Int} (h : Dv p d x) (e : Eqm p x y) : Dv p d y := by
  obtain ⟨t, ft, et⟩ := h
  exact ⟨t, ft, e.symm.trans et⟩
theorem Dv.add {p : Int} {d x y : Nat → Int} (a : Dv p d x) (b : Dv p d y) : Dv p d (fun k => x k + y k) := by
  obtain ⟨t, ft, et⟩ := a
  obtain ⟨u, fu, eu⟩ := b
  exact ⟨_, ft.add fu, fun k => by
    show (x k + y k) % p = cv d (fun i => t i + u i) k % p
    rw [cv_add]
    exact (et.add eu) k⟩
theorem Dv.cv {p : Int} {d x q : Nat → Int} (fq : Fi q) (a : Dv p d x) : Dv p d (Xp.cv q x) := by
  obtain ⟨t, ft, et⟩ := a
  refine ⟨Xp.cv q t, fq.cv ft, fun k => ?_⟩
  have e : Xp.cv d (Xp.cv q t) k = Xp.cv q (Xp.cv d t) k := by
    rw [← cv_assoc, ← cv_assoc]
    exact cv_funext (cv_comm d q) (fun _ => rfl) k
  rw [e]
  exact (Eqm.cv (Eqm.refl p q) et) k
theorem Dv.self (p : Int) (d : Nat → Int) : Dv p d d := ⟨one, ⟨1, fun k hk => if_neg (by omega)⟩, fun k => by rw [cv_one]⟩
theorem Dv.zero (p : Int) (d : Nat → Int) : Dv p d (fun _ => 0) := ⟨_, Fi.zero, fun k => by rw [cv_zero]⟩
theorem Dv.of (p : Int) (d : Nat → Int) {t : Nat → Int} (h : Fi t) : Dv p d (Xp.cv d t) := ⟨t, h, Eqm.refl _ _⟩
theorem Dv.trans {p : Int} {d x y : Nat → Int} (a : Dv p d x) (b : Dv p x y) : Dv p d y := by
  obtain ⟨u, fu, eu⟩ := b
  exact (a.cv fu).congr fun k => by rw [cv_comm]; exact (eu k).symm
theorem Dv.nought {p : Int} {d x : Nat → Int} (h : Dv p d x) (hd : Eqm p d (fun _ => 0)) : Eqm p x (fun _ => 0) := by
  obtain ⟨t, ft, et⟩ := h
  exact et.trans ((hd.cv (Eqm.refl p t)).trans fun k => by rw [cv_zero'])
theorem Dv.scale {p : Int} {d x : Nat → Int} (c : Int) (h : Dv p d x) : Dv p d (fun k => c * x k) := by
  obtain ⟨t, ft, et⟩ := h
  exact ⟨_, ft.mul c, fun k => by rw [cv_mul]; exact (et.mul c) k⟩
/-- a product that is shorter than its first one is nought -/
theorem short_nought {p c : Int} {g u r : Nat → Int} {d : Nat} (hc : (c * g d) % p = 1 % p) (hg : ∀ i, d < i → g i = 0) (fu : Fi u) (hr : ∀ k, d ≤ k → r k % p = 0) (e : Eqm p r (cv g u)) : Eqm p u (fun _ => 0) := by
  obtain ⟨n, hn⟩ := fu
  have key : ∀ m, ∀ k, n ≤ k + m → u k % p = 0 := by
    intro m
    induction m with
    | zero => intro k hk; rw [hn k (by omega)]; exact Int.zero_emod p
    | succ m ih =>
      intro k hk
      have e1 : Eqm p u (fun i => if i ≤ k then u i else 0) := fun i => by
        show u i % p = (if i ≤ k then u i else 0) % p
        by_cases hi : i ≤ k
        · rw [if_pos hi]
        · rw [if_neg hi, ih i (by omega), Int.zero_emod]
      have e2 := (e.trans ((Eqm.refl p g).cv e1)) (d + k)
      rw [cv_top (a := d) (b := k) hg (fun i hi => if_neg (by omega)), hr _ (by omega)] at e2
      have e3 : (g d * u k) % p = 0 := by
        rw [if_pos (Nat.le_refl k)] at e2
        exact e2.symm
      have e4 : u k % p = (c * (g d * u k)) % p := by
        rw [← Int.mul_assoc, Int.mul_emod, hc, ← Int.mul_emod, Int.one_mul]
      rw [e4, Int.mul_emod, e3, Int.mul_zero, Int.zero_emod]
  exact fun k => by rw [key n k (by omega)]; exact (Int.zero_emod p).symm
end Xp
end
section
set_option linter.all false
/-! Sums, products, powers of polynomials as things; one put into another; alike by a rule; the power to a prime of a sum (no program in it). -/
namespace Xp
abbrev Cf := Nat → Int
def ad (f g : Cf) : Cf := fun k => f k + g k
def sc (c : Int) (f : Cf) : Cf := fun k => c * f k
def nul : Cf := fun _ => 0
theorem cvC (f g : Cf) : cv f g = cv g f := funext (cv_comm f g)
theorem cvA (f g h : Cf) : cv (cv f g) h = cv f (cv g h) := funext (cv_assoc f g h)
theorem cv_ad (f g h : Cf) : cv f (ad g h) = ad (cv f g) (cv f h) := funext fun k => cv_add f g h k
theorem ad_cv (f g h : Cf) : cv (ad f g) h = ad (cv f h) (cv g h) := by rw [cvC, cv_ad, cvC h f, cvC h g]
theorem cv_sc (c : Int) (f g : Cf) : cv f (sc c g) = sc c (cv f g) := funext fun k => cv_mul c f g k
theorem sc_cv (c : Int) (f g : Cf) : cv (sc c f) g = sc c (cv f g) := by rw [cvC, cv_sc, cvC]
theorem cv1 (f : Cf) : cv f one = f := funext (cv_one f)
theorem one_cv (f : Cf) : cv one f = f := funext (cv_one' f)
theorem cv_nul (f : Cf) : cv f nul = nul := funext fun k => cv_zero f k
theorem nul_cv (f : Cf) : cv nul f = nul := funext fun k => cv_zero' f k
theorem adC (f g : Cf) : ad f g = ad g f := funext fun k => Int.add_comm _ _
theorem adA (f g h : Cf) : ad (ad f g) h = ad f (ad g h) := funext fun k => Int.add_assoc _ _ _
theorem ad_nul (f : Cf) : ad f nul = f := funext fun k => Int.add_zero _
theorem nul_ad (f : Cf) : ad nul f = f := funext fun k => Int.zero_add _
theorem sc_nul (c : Int) : sc c nul = nul := funext fun k => Int.mul_zero _
theorem sc_zero (f : Cf) : sc 0 f = nul := funext fun k => Int.zero_mul _
theorem sc_one (f : Cf) : sc 1 f = f := funext fun k => Int.one_mul _
theorem sc_ad (c : Int) (f g : Cf) : sc c (ad f g) = ad (sc c f) (sc c g) := funext fun k => Int.mul_add _ _ _
theorem ad_sc (a b : Int) (f : Cf) : sc (a + b) f = ad (sc a f) (sc b f) := funext fun k => Int.add_mul _ _ _
theorem sc_sc (a b : Int) (f : Cf) : sc (a * b) f = sc a (sc b f) := funext fun k => Int.mul_assoc _ _ _
theorem ad_neg (f : Cf) : ad f (sc (-1) f) = nul := funext fun k => by show f k + -1 * f k = 0; omega
theorem Fi.nul : Fi nul := Fi.zero
theorem Fi.one : Fi one := ⟨1, fun k hk => if_neg (by omega)⟩
theorem Fi.ad {f g : Cf} (a : Fi f) (b : Fi g) : Fi (ad f g) := Fi.add a b
theorem Fi.sc {f : Cf} (c : Int) (a : Fi f) : Fi (sc c f) := Fi.mul c a
theorem Eqm.ad {p : Int} {f f' g g' : Cf} (a : Eqm p f f') (b : Eqm p g g') : Eqm p (ad f g) (ad f' g') := Eqm.add a b
theorem Eqm.sc {p : Int} {f f' : Cf} (c : Int) (a : Eqm p f f') : Eqm p (sc c f) (sc c f') := Eqm.mul c a
theorem Eqm.sc2 {p a b : Int} (h : a % p = b % p) (f : Cf) : Eqm p (Xp.sc a f) (Xp.sc b f) := fun k => by
  show (a * f k) % p = (b * f k) % p
  rw [Int.mul_emod, h, ← Int.mul_emod]
theorem Eqm.of_eq {p : Int} {f g : Cf} (h : f = g) : Eqm p f g := by rw [h]; exact Eqm.refl p g
/-! ### powers -/
def pw (f : Cf) : Nat → Cf
  | 0 => one
  | n + 1 => cv f (pw f n)
theorem pw_one (f : Cf) : pw f 1 = f := cv1 f
theorem pw_add (f : Cf) (m : Nat) : ∀ n, pw f (m + n) = cv (pw f m) (pw f n)
  | 0 => (cv1 _).symm
  | n + 1 => by
    show cv f (pw f (m + n)) = cv (pw f m) (cv f (pw f n))
    rw [pw_add f m n, ← cvA, ← cvA, cvC f]
theorem pw_cv (f g : Cf) : ∀ n, pw (cv f g) n = cv (pw f n) (pw g n)
  | 0 => (cv1 _).symm
  | n + 1 => by
    show cv (cv f g) (pw (cv f g) n) = cv (cv f (pw f n)) (cv g (pw g n))
    rw [pw_cv f g n, cvA, cvA, ← cvA g, cvC g (pw f n), cvA (pw f n)]
theorem Fi.pw {f : Cf} (h : Fi f) : ∀ n, Fi (pw f n)
  | 0 => Fi.one
  | n + 1 => h.cv (Fi.pw h n)
theorem Eqm.pw {p : Int} {f g : Cf} (h : Eqm p f g) : ∀ n, Eqm p (pw f n) (pw g n)
  | 0 => Eqm.refl p _
  | n + 1 => h.cv (Eqm.pw h n)
/-! ### sums to the power of a prime -/
def row : Nat → List Int
  | 0 => [1]
  | n + 1 => List.zipWith (· + ·) (0 :: row n) (row n ++ [0])
def ch (n k : Nat) : Int := (row n).getD k 0
theorem zw_getD : ∀ (a b : List Int) (k : Nat), a.length = b.length → (List.zipWith (· + ·) a b).getD k 0 = a.getD k 0 + b.getD k 0
  | [], [], k, _ => rfl
  | x :: a, y :: b, 0, _ => rfl
  | x :: a, y :: b, k + 1, h => zw_getD a b k (Nat.succ.inj h)
  | [], _ :: _, _, h => by cases h
  | _ :: _, [], _, h => by cases h
theorem app_getD : ∀ (a : List Int) (k : Nat), (a ++ [0]).getD k 0 = a.getD k 0
  | [], 0 => rfl
  | [], k + 1 => rfl
  | x :: a, 0 => rfl
  | x :: a, k + 1 => app_getD a k
theorem row_len : ∀ n, (row n).length = n + 1
  | 0 => rfl
  | n + 1 => by
    unfold row
    rw [List.length_zipWith, List.length_cons, List.length_append, row_len n]
    show min (n + 1 + 1) (n + 1 + 1) = _
    omega
theorem ch_step (n k : Nat) : ch (n + 1) k = (0 :: row n).getD k 0 + ch n k := by
  unfold ch
  rw [show row (n + 1) = List.zipWith (· + ·) (0 :: row n) (row n ++ [0]) from rfl, zw_getD _ _ _ (by rw [List.length_cons, List.length_append]; rfl), app_getD]
theorem ch_succ (n k : Nat) : ch (n + 1) (k + 1) = ch n k + ch n (k + 1) := ch_step n (k + 1)
theorem ch_head (n : Nat) : ch (n + 1) 0 = ch n 0 := by
  rw [ch_step]
  exact Int.zero_add _
theorem ch_over (n : Nat) : ch n (n + 1) = 0 := by
  unfold ch
  rw [List.getD_eq_getElem?_getD, List.getElem?_eq_none (by rw [row_len]; omega)]
  rfl
theorem ch_zero : ∀ n, ch n 0 = 1
  | 0 => rfl
  | n + 1 => by rw [ch_head, ch_zero n]
theorem ch_last : ∀ n, ch n n = 1
  | 0 => rfl
  | n + 1 => by rw [ch_succ, ch_last n, ch_over]; rfl
theorem cv_sm (f : Cf) (F : Nat → Cf) (k : Nat) : ∀ n, cv f (fun j => sm n fun i => F i j) k = sm n fun i => cv f (F i) k
  | 0 => cv_zero f k
  | n + 1 => by
    show cv f (fun j => (fun j => sm n fun i => F i j) j + F n j) k = _
    rw [cv_add, cv_sm f F k n]
    rfl
theorem binom (f g : Cf) : ∀ n k, pw (ad f g) n k = sm (n + 1) fun i => ch n i * cv (pw f i) (pw g (n - i)) k
  | 0, k => by
    show one k = 0 + ch 0 0 * cv one one k
    rw [cv1, ch_zero, Int.one_mul, Int.zero_add]
  | n + 1, k => by
    have ih : pw (ad f g) n = fun j => sm (n + 1) fun i => ch n i * cv (pw f i) (pw g (n - i)) j := funext (binom f g n)
    show cv (ad f g) (pw (ad f g) n) k = _
    rw [ad_cv]
    show cv f (pw (ad f g) n) k + cv g (pw (ad f g) n) k = _
    have c : ∀ q : Cf, cv q (fun j => sm (n + 1) fun i => ch n i * cv (pw f i) (pw g (n - i)) j) k = sm (n + 1) fun i => cv q (sc (ch n i) (cv (pw f i) (pw g (n - i)))) k := fun q => cv_sm q (fun i => sc (ch n i) (cv (pw f i) (pw g (n - i)))) k (n + 1)
    rw [ih, c f, c g]
    have e1 : (sm (n + 1) fun i => cv f (sc (ch n i) (cv (pw f i) (pw g (n - i)))) k) = sm (n + 1) fun i => ch n i * cv (pw f (i + 1)) (pw g (n + 1 - (i + 1))) k := sm_congr fun i hi => by
      rw [cv_sc, ← cvA, show n + 1 - (i + 1) = n - i by omega]
      rfl
    have e2 : (sm (n + 1) fun i => cv g (sc (ch n i) (cv (pw f i) (pw g (n - i)))) k) = sm (n + 1) fun i => ch n i * cv (pw f i) (pw g (n + 1 - i)) k := sm_congr fun i hi => by
      rw [cv_sc, show n + 1 - i = (n - i) + 1 by omega, show pw g (n - i + 1) = cv g (pw g (n - i)) from rfl, ← cvA, cvC g, cvA]
      rfl
    rw [e1, e2, sm_head _ (n + 1)]
    have e3 : (sm (n + 1) fun i => ch (n + 1) (i + 1) * cv (pw f (i + 1)) (pw g (n + 1 - (i + 1))) k) = (sm (n + 1) fun i => ch n i * cv (pw f (i + 1)) (pw g (n + 1 - (i + 1))) k) + sm (n + 1) fun i => ch n (i + 1) * cv (pw f (i + 1)) (pw g (n + 1 - (i + 1))) k := by
      rw [← sm_add]
      exact sm_congr fun i _ => by rw [ch_succ, Int.add_mul]
    have e4 : (sm (n + 1) fun i => ch n i * cv (pw f i) (pw g (n + 1 - i)) k) = ch n 0 * cv (pw f 0) (pw g (n + 1 - 0)) k + sm (n + 1) fun i => ch n (i + 1) * cv (pw f (i + 1)) (pw g (n + 1 - (i + 1))) k := by
      rw [← sm_head (fun i => ch n i * cv (pw f i) (pw g (n + 1 - i)) k) (n + 1)]
      show _ = sm (n + 1) _ + ch n (n + 1) * _
      rw [ch_over, Int.zero_mul, Int.add_zero]
    rw [e3, e4, ch_head]
    omega
/-- a sum to the power of a prime -/
theorem frob {p : Nat} (hp : 2 ≤ p) (h : ∀ k, 0 < k → k < p → ch p k % (p : Int) = 0) (f g : Cf) : Eqm p (pw (ad f g) p) (ad (pw f p) (pw g p)) := fun k => by
  obtain ⟨q, rfl⟩ : ∃ q, p = q + 1 + 1 := ⟨p - 2, by omega⟩
  rw [binom]
  show (sm (q + 1 + 1) _ + ch (q + 1 + 1) (q + 1 + 1) * _) % _ = _
  rw [sm_head, ch_zero, ch_last, Int.one_mul, Int.one_mul]
  have mid : (sm (q + 1) fun i => ch (q + 1 + 1) (i + 1) * cv (pw f (i + 1)) (pw g (q + 1 + 1 - (i + 1))) k) % ((q + 1 + 1 : Nat) : Int) = 0 := by
    have : ∀ n, n ≤ q + 1 → (sm n fun i => ch (q + 1 + 1) (i + 1) * cv (pw f (i + 1)) (pw g (q + 1 + 1 - (i + 1))) k) % ((q + 1 + 1 : Nat) : Int) = 0 := by
      intro n
      induction n with
      | zero => intro _; exact Int.zero_emod _
      | succ n ih =>
        intro hn
        show (sm n _ + _ * _) % _ = 0
        rw [Int.add_emod, ih (by omega), Int.mul_emod, h (n + 1) (by omega) (by omega), Int.zero_mul, Int.zero_emod]
        rfl
    exact this _ (Nat.le_refl _)
  have e : pw f 0 = one := rfl
  rw [e, one_cv, Nat.sub_zero, Nat.sub_self, show pw g 0 = one from rfl, cv1]
  show _ = (pw f (q + 1 + 1) k + pw g (q + 1 + 1) k) % _
  rw [show ∀ a b c : Int, a + b + c = b + (c + a) from fun a b c => by omega, Int.add_emod, mid, Int.zero_add, Int.emod_emod]
def rowOk (p : Nat) : Bool := (List.range (p - 1)).all fun k => ((row p).getD (k + 1) 0) % (p : Int) == 0
theorem rowOk_ok {p : Nat} (h : rowOk p = true) : ∀ k, 0 < k → k < p → ch p k % (p : Int) = 0 := fun k h0 h1 => by
  have z := List.all_eq_true.mp h (k - 1) (List.mem_range.mpr (by omega))
  rw [show k - 1 + 1 = k by omega] at z
  exact eq_of_beq z
theorem rows_ok : ([2, 3, 5, 7, 11, 13, 17, 19, 23, 29, 31, 37, 41, 43, 47, 53, 59, 61, 67, 71, 73, 79, 83, 89, 97] : List Nat).all rowOk = true := by decide +kernel
/-! ### one put into another -/
def sh (f : Cf) : Cf := fun k => f (k + 1)
def xs (h : Cf) : Cf
  | 0 => 0
  | k + 1 => h k
def hor (o : Cf) : Nat → Cf → Cf
  | 0, _ => nul
  | n + 1, f => ad (sc (f 0) one) (cv o (hor o n (sh f)))
theorem hor_ad (o : Cf) : ∀ n f g, hor o n (ad f g) = ad (hor o n f) (hor o n g)
  | 0, f, g => (ad_nul nul).symm
  | n + 1, f, g => by
    show ad (sc (f 0 + g 0) one) (cv o (hor o n (ad (sh f) (sh g)))) = ad (ad (sc (f 0) one) (cv o (hor o n (sh f)))) (ad (sc (g 0) one) (cv o (hor o n (sh g))))
    rw [hor_ad o n, ad_sc, cv_ad]
    generalize sc (f 0) one = a
    generalize sc (g 0) one = b
    generalize cv o (hor o n (sh f)) = c
    generalize cv o (hor o n (sh g)) = d
    exact funext fun k => by show (a k + b k) + (c k + d k) = (a k + c k) + (b k + d k); omega
theorem hor_sc (o : Cf) (c : Int) : ∀ n f, hor o n (sc c f) = sc c (hor o n f)
  | 0, f => (sc_nul c).symm
  | n + 1, f => by
    show ad (sc (c * f 0) one) (cv o (hor o n (sc c (sh f)))) = sc c (ad (sc (f 0) one) (cv o (hor o n (sh f))))
    rw [hor_sc o c n, sc_ad, sc_sc, cv_sc]
theorem hor_nul (o : Cf) : ∀ n, hor o n nul = nul
  | 0 => rfl
  | n + 1 => by
    show ad (sc 0 one) (cv o (hor o n nul)) = nul
    rw [hor_nul o n, sc_zero, cv_nul, ad_nul]
theorem hor_ext (o : Cf) : ∀ n f, (∀ k, n ≤ k → f k = 0) → ∀ d, hor o (n + d) f = hor o n f
  | 0, f, h, d => by
    rw [show f = nul from funext fun k => h k (Nat.zero_le _), hor_nul, hor_nul]
  | n + 1, f, h, d => by
    rw [show n + 1 + d = (n + d) + 1 by omega]
    show ad _ (cv o (hor o (n + d) (sh f))) = ad _ (cv o (hor o n (sh f)))
    rw [hor_ext o n (sh f) (fun k hk => h (k + 1) (by omega)) d]
theorem hor_eqm {p : Int} (o : Cf) : ∀ n {f g : Cf}, Eqm p f g → Eqm p (hor o n f) (hor o n g)
  | 0, f, g, h => Eqm.refl p _
  | n + 1, f, g, h => (Eqm.sc2 (h 0) one).ad ((Eqm.refl p o).cv (hor_eqm o n fun k => h (k + 1)))
theorem Fi.hor {o : Cf} (ho : Fi o) : ∀ n f, Fi (hor o n f)
  | 0, f => Fi.nul
  | n + 1, f => ((Fi.one).sc _).ad (ho.cv (Fi.hor ho n _))
theorem cv_head (f g : Cf) : cv f g = ad (sc (f 0) g) (xs (cv (sh f) g)) := funext fun k => by
  show sm (k + 1) (fun i => f i * g (k - i)) = f 0 * g k + xs (cv (sh f) g) k
  rw [sm_head]
  show f 0 * g (k - 0) + _ = _
  rw [Nat.sub_zero]
  congr 1
  cases k with
  | zero => rfl
  | succ k =>
    show sm (k + 1) _ = sm (k + 1) _
    exact sm_congr fun i hi => by
      show f (i + 1) * g (k + 1 - (i + 1)) = f (i + 1) * g (k - i)
      rw [show k + 1 - (i + 1) = k - i by omega]
theorem hor_xs (o : Cf) (n : Nat) (h : Cf) : hor o (n + 1) (xs h) = cv o (hor o n h) := by
  show ad (sc 0 one) (cv o (hor o n (sh (xs h)))) = _
  rw [sc_zero, nul_ad]
  rfl
theorem hor_cv (o : Cf) : ∀ n f, (∀ k, n ≤ k → f k = 0) → ∀ g m, (∀ k, m ≤ k → g k = 0) → hor o (n + m) (cv f g) = cv (hor o n f) (hor o m g)
  | 0, f, h, g, m, hg => by
    rw [show f = nul from funext fun k => h k (Nat.zero_le _), nul_cv, hor_nul]
    exact (nul_cv _).symm
  | n + 1, f, h, g, m, hg => by
    rw [cv_head, hor_ad, hor_sc, show n + 1 + m = m + (n + 1) by omega, hor_ext o m g hg (n + 1), show m + (n + 1) = (n + m) + 1 by omega, hor_xs, hor_cv o n (sh f) (fun k hk => h (k + 1) (by omega)) g m hg]
    show _ = cv (ad (sc (f 0) one) (cv o (hor o n (sh f)))) (hor o m g)
    rw [ad_cv, sc_cv, one_cv, cvA]
/-! ### alike by a rule -/
def Cg (p : Int) (r f g : Cf) : Prop := Dv p r (ad f (sc (-1) g))
theorem Cg.of {p : Int} {r f g : Cf} (h : Eqm p f g) : Cg p r f g := (Dv.zero p r).congr fun k => by
  have e := h k
  show 0 % p = (f k + -1 * g k) % p
  rw [show f k + -1 * g k = f k - g k by omega, Int.sub_emod, e, Int.sub_self]
theorem Cg.refl (p : Int) (r f : Cf) : Cg p r f f := Cg.of (Eqm.refl p f)
theorem Cg.symm {p : Int} {r f g : Cf} (h : Cg p r f g) : Cg p r g f := (h.scale (-1)).congr fun k => by
  show (-1 * (f k + -1 * g k)) % p = (g k + -1 * f k) % p
  congr 1
  omega
theorem Cg.trans {p : Int} {r f g h : Cf} (a : Cg p r f g) (b : Cg p r g h) : Cg p r f h := (a.add b).congr fun k => by
  show ((f k + -1 * g k) + (g k + -1 * h k)) % p = (f k + -1 * h k) % p
  congr 1
  omega
theorem Cg.ad {p : Int} {r f g f' g' : Cf} (a : Cg p r f f') (b : Cg p r g g') : Cg p r (ad f g) (Xp.ad f' g') := (a.add b).congr fun k => by
  show ((f k + -1 * f' k) + (g k + -1 * g' k)) % p = ((f k + g k) + -1 * (f' k + g' k)) % p
  congr 1
  omega
theorem Cg.sc {p : Int} {r f g : Cf} (c : Int) (a : Cg p r f g) : Cg p r (sc c f) (Xp.sc c g) := (a.scale c).congr fun k => by
  show (c * (f k + -1 * g k)) % p = (c * f k + -1 * (c * g k)) % p
  rw [Int.mul_add, ← Int.mul_assoc, ← Int.mul_assoc, Int.mul_comm c (-1)]
theorem Cg.cv {p : Int} {r f g f' g' : Cf} (a : Cg p r f f') (b : Cg p r g g') (h1 : Fi g) (h2 : Fi f') : Cg p r (cv f g) (Xp.cv f' g') := by
  have x := Dv.cv h1 a
  have y := Dv.cv h2 b
  rw [cv_ad, cv_sc] at x y
  refine (Dv.add x y).congr fun k => ?_
  show ((Xp.cv g f k + -1 * Xp.cv g f' k) + (Xp.cv f' g k + -1 * Xp.cv f' g' k)) % p = (Xp.cv f g k + -1 * Xp.cv f' g' k) % p
  rw [cv_comm g f, cv_comm g f']
  congr 1
  omega
theorem Cg.pw {p : Int} {r f g : Cf} (h : Cg p r f g) (hf : Fi f) (hg : Fi g) : ∀ n, Cg p r (pw f n) (Xp.pw g n)
  | 0 => Cg.refl p r _
  | n + 1 => h.cv (Cg.pw h hf hg n) (hf.pw n) hg
theorem Cg.dv {p : Int} {r f g : Cf} (h : Cg p r f g) (d : Dv p r g) : Dv p r f := (h.add d).congr fun k => by
  show (f k + -1 * g k + g k) % p = f k % p
  congr 1
  omega
end Xp
end
section
set_option linter.all false
/-! Rows by a prime: what they span, reduced rows, that there is one reduced form (no program in it). -/
namespace Xp
/-- what is made of A -/
inductive Sp (p : Int) (A : Cf → Prop) : Cf → Prop
  | nul : Sp p A nul
  | add {u v : Cf} (c : Int) : A u → Sp p A v → Sp p A (ad (sc c u) v)
  | eqm {v w : Cf} : Sp p A v → Eqm p v w → Sp p A w
theorem Sp.one {p : Int} {A : Cf → Prop} {u : Cf} (h : A u) : Sp p A u := .eqm (.add 1 h .nul) (Eqm.of_eq (by rw [sc_one, ad_nul]))
theorem Sp.ad {p : Int} {A : Cf → Prop} {u v : Cf} (a : Sp p A u) (b : Sp p A v) : Sp p A (Xp.ad u v) := by
  induction a with
  | nul => rw [nul_ad]; exact b
  | add c h _ ih => rw [adA]; exact .add c h ih
  | eqm _ e ih => exact .eqm ih (e.ad (Eqm.refl p v))
theorem Sp.sc {p : Int} {A : Cf → Prop} {u : Cf} (c : Int) (a : Sp p A u) : Sp p A (Xp.sc c u) := by
  induction a with
  | nul => rw [sc_nul]; exact .nul
  | add d h _ ih => rw [sc_ad, ← sc_sc]; exact .add _ h ih
  | eqm _ e ih => exact .eqm ih (e.sc c)
theorem Sp.trans {p : Int} {A B : Cf → Prop} (h : ∀ u, A u → Sp p B u) {v : Cf} (a : Sp p A v) : Sp p B v := by
  induction a with
  | nul => exact .nul
  | add c hu _ ih => exact ((h _ hu).sc c).ad ih
  | eqm _ e ih => exact .eqm ih e
/-- what stands at a place where all of A are nought -/
theorem Sp.zero {p : Int} {A : Cf → Prop} {k : Nat} (h : ∀ u, A u → u k % p = 0) {v : Cf} (a : Sp p A v) : v k % p = 0 := by
  induction a with
  | nul => exact Int.zero_emod p
  | @add u v c hu _ ih =>
    show (c * u k + v k) % p = 0
    rw [Int.add_emod, Int.mul_emod, h u hu, ih, Int.mul_zero, Int.zero_emod, Int.add_zero, Int.zero_emod]
  | eqm _ e ih => rw [← e k]; exact ih
/-- a row of places and rows: each its place's own, the only one there -/
structure Red (p : Int) (L : List (Nat × Cf)) : Prop where
  one : ∀ x ∈ L, x.2 x.1 % p = 1 % p
  low : ∀ x ∈ L, ∀ k, k < x.1 → x.2 k % p = 0
  own : ∀ x ∈ L, ∀ y ∈ L, x.1 ≠ y.1 → y.2 x.1 % p = 0
  nd : (L.map (·.1)).Nodup
def rows (L : List (Nat × Cf)) : Cf → Prop := fun u => ∃ x ∈ L, x.2 = u
def lsum : List (Nat × Cf) → Cf → Cf
  | [], _ => nul
  | x :: L, v => ad (sc (v x.1) x.2) (lsum L v)
theorem lsum_ad : ∀ L v w, lsum L (ad v w) = ad (lsum L v) (lsum L w)
  | [], v, w => (ad_nul nul).symm
  | x :: L, v, w => by
    show ad (sc (v x.1 + w x.1) x.2) (lsum L (ad v w)) = _
    rw [lsum_ad L, ad_sc]
    show ad (ad (sc (v x.1) x.2) (sc (w x.1) x.2)) (ad (lsum L v) (lsum L w)) = ad (ad (sc (v x.1) x.2) (lsum L v)) (ad (sc (w x.1) x.2) (lsum L w))
    generalize sc (v x.1) x.2 = a
    generalize sc (w x.1) x.2 = b
    generalize lsum L v = c
    generalize lsum L w = d
    exact funext fun k => by show (a k + b k) + (c k + d k) = (a k + c k) + (b k + d k); omega
theorem lsum_sc (c : Int) : ∀ L v, lsum L (sc c v) = sc c (lsum L v)
  | [], v => (sc_nul c).symm
  | x :: L, v => by
    show ad (sc (c * v x.1) x.2) (lsum L (sc c v)) = sc c (ad (sc (v x.1) x.2) (lsum L v))
    rw [lsum_sc c L, sc_ad, sc_sc]
theorem lsum_eqm {p : Int} {v w : Cf} (h : Eqm p v w) : ∀ L, Eqm p (lsum L v) (lsum L w)
  | [] => Eqm.refl p _
  | x :: L => (Eqm.sc2 (h x.1) x.2).ad (lsum_eqm h L)
theorem lsum_nul : ∀ L, lsum L nul = nul
  | [] => rfl
  | x :: L => by
    show ad (sc 0 x.2) (lsum L nul) = nul
    rw [lsum_nul L, sc_zero, ad_nul]
theorem lsum_zero {p : Int} {v : Cf} : ∀ L : List (Nat × Cf), (∀ x ∈ L, v x.1 % p = 0) → Eqm p (lsum L v) nul
  | [], _ => Eqm.refl p _
  | x :: L, h => ((Eqm.sc2 (b := 0) (by rw [h x List.mem_cons_self, Int.zero_emod]) x.2).ad (lsum_zero L fun y hy => h y (List.mem_cons_of_mem _ hy))).trans (Eqm.of_eq (by rw [sc_zero, nul_ad]))
theorem Red.tail {p : Int} {x : Nat × Cf} {L : List (Nat × Cf)} (h : Red p (x :: L)) : Red p L := ⟨fun y hy => h.one y (List.mem_cons_of_mem _ hy), fun y hy => h.low y (List.mem_cons_of_mem _ hy), fun y hy z hz => h.own y (List.mem_cons_of_mem _ hy) z (List.mem_cons_of_mem _ hz), (List.nodup_cons.mp h.nd).2⟩
theorem Red.nin {p : Int} {x : Nat × Cf} {L : List (Nat × Cf)} (h : Red p (x :: L)) : ∀ y ∈ L, x.1 ≠ y.1 := fun y hy e => (List.nodup_cons.mp h.nd).1 (List.mem_map.mpr ⟨y, hy, e.symm⟩)
/-- a row of the family by itself -/
theorem Red.self {p : Int} : ∀ {L : List (Nat × Cf)}, Red p L → ∀ x ∈ L, Eqm p (lsum L x.2) x.2
  | [], _, x, hx => by cases hx
  | y :: L, h, x, hx => by
    have n := h.nin
    rcases List.mem_cons.mp hx with rfl | hx
    · have z := lsum_zero (p := p) (v := x.2) L fun z hz => h.own z (List.mem_cons_of_mem _ hz) x List.mem_cons_self (fun e => n z hz e.symm)
      exact ((Eqm.sc2 (b := 1) (h.one x List.mem_cons_self) x.2).ad z).trans (Eqm.of_eq (by rw [sc_one, ad_nul]))
    · have e : x.2 y.1 % p = 0 % p := by rw [h.own y List.mem_cons_self x (List.mem_cons_of_mem _ hx) (n x hx), Int.zero_emod]
      exact ((Eqm.sc2 e y.2).ad (h.tail.self x hx)).trans (Eqm.of_eq (by rw [sc_zero, nul_ad]))
theorem Red.made {p : Int} {L : List (Nat × Cf)} (h : Red p L) {v : Cf} (a : Sp p (rows L) v) : Eqm p v (lsum L v) := by
  induction a with
  | nul => rw [lsum_nul]; exact Eqm.refl p _
  | @add u v c hu _ ih =>
    obtain ⟨x, hx, rfl⟩ := hu
    rw [lsum_ad, lsum_sc]
    exact ((h.self x hx).symm.sc c).ad ih
  | eqm _ e ih => exact (e.symm.trans ih).trans (lsum_eqm e L)
theorem lsum_sp {p : Int} (v : Cf) : ∀ L : List (Nat × Cf), Sp p (rows L) (lsum L v)
  | [] => .nul
  | x :: L => .add _ ⟨x, List.mem_cons_self, rfl⟩ ((lsum_sp v L).trans fun u ⟨y, hy, e⟩ => .one ⟨y, List.mem_cons_of_mem _ hy, e⟩)
/-- the first place that isn't nought -/
def Ld (p : Int) (v : Cf) (s : Nat) : Prop := v s % p ≠ 0 ∧ ∀ k, k < s → v k % p = 0
theorem Red.ld {p : Int} (hp : 2 ≤ p) {L : List (Nat × Cf)} (h : Red p L) : ∀ x ∈ L, Ld p x.2 x.1 := fun x hx => ⟨by
  rw [h.one x hx, Int.emod_eq_of_lt (by decide) (by omega)]
  decide, h.low x hx⟩
theorem lsum_at {p : Int} {v : Cf} {s : Nat} : ∀ L : List (Nat × Cf), (∀ x ∈ L, (v x.1 * x.2 s) % p = 0) → lsum L v s % p = 0
  | [], _ => Int.zero_emod p
  | x :: L, h => by
    show (v x.1 * x.2 s + lsum L v s) % p = 0
    rw [Int.add_emod, h x List.mem_cons_self, lsum_at L fun y hy => h y (List.mem_cons_of_mem _ hy)]
    exact Int.zero_emod p
theorem Red.spot {p : Int} {L : List (Nat × Cf)} (h : Red p L) {v : Cf} (a : Sp p (rows L) v) {s : Nat} (l : Ld p v s) : s ∈ L.map (·.1) := by
  by_cases hs : s ∈ L.map (·.1)
  · exact hs
  · exfalso
    refine l.1 ?_
    rw [h.made a s]
    refine lsum_at L fun x hx => ?_
    have ne : x.1 ≠ s := fun e => hs (List.mem_map.mpr ⟨x, hx, e⟩)
    rcases Nat.lt_or_ge x.1 s with q | q
    · rw [Int.mul_emod, l.2 _ q, Int.zero_mul, Int.zero_emod]
    · rw [Int.mul_emod, h.low x hx s (by omega), Int.mul_zero, Int.zero_emod]
theorem Red.sub {p : Int} (hp : 2 ≤ p) {L M : List (Nat × Cf)} (h : Red p L) (g : Red p M) (e : ∀ u, rows L u → Sp p (rows M) u) : ∀ s ∈ L.map (·.1), s ∈ M.map (·.1) := fun s hs => by
  obtain ⟨x, hx, rfl⟩ := List.mem_map.mp hs
  exact g.spot (e _ ⟨x, hx, rfl⟩) (h.ld hp x hx)
/-- alike places: alike rows -/
theorem Red.row {p : Int} {L M : List (Nat × Cf)} (h : Red p L) (g : Red p M) (e : ∀ u, rows L u → Sp p (rows M) u) (sp : ∀ s ∈ M.map (·.1), s ∈ L.map (·.1)) {x y : Nat × Cf} (hx : x ∈ L) (hy : y ∈ M) (q : x.1 = y.1) : Eqm p x.2 y.2 := by
  refine (g.made (e _ ⟨x, hx, rfl⟩)).trans (Eqm.trans (fun k => ?_) (g.self y hy))
  have key : ∀ z ∈ M, x.2 z.1 % p = y.2 z.1 % p := fun z hz => by
    by_cases w : z.1 = y.1
    · rw [w, g.one y hy, ← q, h.one x hx]
    · rw [g.own z hz y hy w]
      obtain ⟨t, ht, et⟩ := List.mem_map.mp (sp z.1 (List.mem_map.mpr ⟨z, hz, rfl⟩))
      rw [← et]
      exact h.own t ht x hx (by rw [et, q]; exact w)
  have go : ∀ N : List (Nat × Cf), (∀ z ∈ N, z ∈ M) → lsum N x.2 k % p = lsum N y.2 k % p := by
    intro N
    induction N with
    | nil => intro _; rfl
    | cons z N ih =>
      intro hN
      show (x.2 z.1 * z.2 k + lsum N x.2 k) % p = (y.2 z.1 * z.2 k + lsum N y.2 k) % p
      rw [Int.add_emod, Int.mul_emod, key z (hN z List.mem_cons_self), ih fun w hw => hN w (List.mem_cons_of_mem _ hw), ← Int.mul_emod, ← Int.add_emod]
  exact go M fun _ h => h
theorem sorted_eq : ∀ {a b : List Nat}, a.Pairwise (· < ·) → b.Pairwise (· < ·) → (∀ s, s ∈ a ↔ s ∈ b) → a = b
  | [], [], _, _, _ => rfl
  | [], y :: b, _, _, h => absurd ((h y).mpr List.mem_cons_self) (by simp)
  | x :: a, [], _, _, h => absurd ((h x).mp List.mem_cons_self) (by simp)
  | x :: a, y :: b, pa, pb, h => by
    obtain ⟨p1, p2⟩ := List.pairwise_cons.mp pa
    obtain ⟨q1, q2⟩ := List.pairwise_cons.mp pb
    have e : x = y := by
      rcases List.mem_cons.mp ((h x).mp List.mem_cons_self) with e | m
      · exact e
      · rcases List.mem_cons.mp ((h y).mpr List.mem_cons_self) with e | n
        · exact e.symm
        · have := q1 x m
          have := p1 y n
          omega
    subst e
    rw [sorted_eq p2 q2 fun s => ⟨fun m => by
      rcases List.mem_cons.mp ((h s).mp (List.mem_cons_of_mem _ m)) with e | n
      · have := p1 s m
        omega
      · exact n, fun m => by
      rcases List.mem_cons.mp ((h s).mpr (List.mem_cons_of_mem _ m)) with e | n
      · have := q1 s m
        omega
      · exact n⟩]
theorem nodup_len : ∀ {a b : List Nat}, a.Nodup → (∀ s ∈ a, s ∈ b) → a.length ≤ b.length
  | [], b, _, _ => Nat.zero_le _
  | x :: a, b, na, h => by
    obtain ⟨n1, n2⟩ := List.nodup_cons.mp na
    have z := nodup_len (b := b.erase x) n2 fun s hs => by
      have ne : s ≠ x := fun e => n1 (e ▸ hs)
      exact (List.mem_erase_of_ne ne).mpr (h s (List.mem_cons_of_mem _ hs))
    have l := List.length_erase_of_mem (h x List.mem_cons_self)
    have pos : 0 < b.length := List.length_pos_of_mem (h x List.mem_cons_self)
    show a.length + 1 ≤ b.length
    omega
/-- v less its share of h at c -/
def clr (p : Int) (c : Nat) (h v : Cf) : Cf := ad v (sc (-(v c)) h)
theorem clr_at {p : Int} {c : Nat} {h v : Cf} (h1 : h c % p = 1 % p) : clr p c h v c % p = 0 := by
  show (v c + -(v c) * h c) % p = 0
  rw [Int.add_emod, Int.mul_emod, h1, ← Int.mul_emod, ← Int.add_emod, Int.mul_one, Int.add_right_neg, Int.zero_emod]
theorem clr_keep {p : Int} {c k : Nat} {h v : Cf} (h0 : h k % p = 0) : clr p c h v k % p = v k % p := by
  show (v k + -(v c) * h k) % p = v k % p
  rw [Int.add_emod, Int.mul_emod, h0, Int.mul_zero, Int.zero_emod, Int.add_zero, Int.emod_emod]
theorem clr_none {p : Int} {c : Nat} {h v : Cf} (hv : v c % p = 0) : Eqm p (clr p c h v) v := fun k => by
  show (v k + -(v c) * h k) % p = v k % p
  have e : -(v c) % p = 0 := Int.emod_eq_zero_of_dvd (Int.dvd_neg.mpr (Int.dvd_of_emod_eq_zero hv))
  rw [Int.add_emod, Int.mul_emod, e, Int.zero_mul, Int.zero_emod, Int.add_zero, Int.emod_emod]
end Xp
end
section
set_option Elab.async false
set_option linter.all false
set_option maxRecDepth 100000
set_option maxHeartbeats 4000000
namespace Xk
open PySem PySem.Spec PyProof.Rows L2 Xh LamX NdefX
/-! ### tables: rows by a prime -/
abbrev co (xs : List Int) : Nat → Int := fun j => xs.getD j 0
theorem fm_em {x p : Int} (h : 0 < p) : x.fmod p = x % p := Int.fmod_eq_emod_of_nonneg _ (by omega)
structure Rw (p : Int) (n : Nat) (r : List Int) : Prop where
  len : r.length = n
  rs : Rs p r
theorem row_eq {p : Int} {n : Nat} {r s : List Int} (a : Rw p n r) (b : Rw p n s) (e : Xp.Eqm p (co r) (co s)) : r = s := by
  apply List.ext_getElem?
  intro i
  by_cases h : i < n
  · have e1 : r.getD i 0 % p = s.getD i 0 % p := e i
    obtain ⟨r0, r1⟩ := a.rs i
    obtain ⟨s0, s1⟩ := b.rs i
    rw [Int.emod_eq_of_lt r0 r1, Int.emod_eq_of_lt s0 s1, List.getD_eq_getElem?_getD, List.getD_eq_getElem?_getD, List.getElem?_eq_getElem (by rw [a.len]; exact h), List.getElem?_eq_getElem (by rw [b.len]; exact h)] at e1
    rw [List.getElem?_eq_getElem (by rw [a.len]; exact h), List.getElem?_eq_getElem (by rw [b.len]; exact h)]
    exact congrArg some e1
  · rw [List.getElem?_eq_none (by rw [a.len]; omega), List.getElem?_eq_none (by rw [b.len]; omega)]
theorem Rw.zero {p : Int} {n : Nat} {r : List Int} (a : Rw p n r) {k : Nat} : co r k % p = 0 ↔ r.getD k 0 = 0 := by
  obtain ⟨r0, r1⟩ := a.rs k
  show r.getD k 0 % p = 0 ↔ _
  rw [Int.emod_eq_of_lt r0 r1]
/-- the rows of a table, as what they span -/
def rset (rs : List (List Int)) : Xp.Cf → Prop := fun u => ∃ r ∈ rs, co r = u
abbrev fam (sp : List Nat) (ts : List (List Int)) : List (Nat × Xp.Cf) := sp.zip (ts.map co)
theorem mem_fam {sp : List Nat} {ts : List (List Int)} {x : Nat × Xp.Cf} (h : x ∈ fam sp ts) : ∃ (j s : Nat) (r : List Int), sp[j]? = some s ∧ ts[j]? = some r ∧ x = (s, co r) := by
  obtain ⟨j, hj⟩ := List.mem_iff_getElem?.mp h
  rw [List.getElem?_zip_eq_some, List.getElem?_map] at hj
  obtain ⟨h1, h2⟩ := hj
  obtain ⟨r, hr, e⟩ := Option.map_eq_some_iff.mp h2
  exact ⟨j, x.1, r, h1, hr, by rw [e]⟩
theorem fam_mem {sp : List Nat} {ts : List (List Int)} {j s : Nat} {r : List Int} (h1 : sp[j]? = some s) (h2 : ts[j]? = some r) : (s, co r) ∈ fam sp ts := by
  refine List.mem_iff_getElem?.mpr ⟨j, ?_⟩
  rw [List.getElem?_zip_eq_some, List.getElem?_map, h2]
  exact ⟨h1, rfl⟩
theorem fam_spots {sp : List Nat} {ts : List (List Int)} (h : sp.length = ts.length) : (fam sp ts).map (·.1) = sp := by
  show (sp.zip (ts.map co)).map Prod.fst = sp
  rw [List.map_fst_zip (by rw [List.length_map]; omega)]
theorem fam_row {sp : List Nat} {ts : List (List Int)} {r : List Int} (h : sp.length = ts.length) (hr : r ∈ ts) : Xp.rows (fam sp ts) (co r) := by
  obtain ⟨j, hj⟩ := List.mem_iff_getElem?.mp hr
  have lt : j < ts.length := by
    rcases Nat.lt_or_ge j ts.length with q | q
    · exact q
    · rw [List.getElem?_eq_none q] at hj
      cases hj
  exact ⟨_, fam_mem (List.getElem?_eq_getElem (show j < sp.length by omega)) hj, rfl⟩
/-- how the rows stand at place c -/
structure St (p : Int) (n c : Nat) (rs ls : List (List Int)) (sp : List Nat) (ts : List (List Int)) : Prop where
  lrw : ∀ r ∈ ls, Rw p n r
  lz : ∀ r ∈ ls, ∀ k, k < c → r.getD k 0 = 0
  len : sp.length = ts.length
  trw : ∀ r ∈ ts, Rw p n r
  red : Xp.Red p (fam sp ts)
  srt : sp.Pairwise (· < ·)
  lt : ∀ s ∈ sp, s < c
  up : ∀ r ∈ rs, Xp.Sp p (fun u => rset ls u ∨ Xp.rows (fam sp ts) u) (co r)
  dn : ∀ u, (rset ls u ∨ Xp.rows (fam sp ts) u) → Xp.Sp p (rset rs) u
theorem St.init {p : Int} {n : Nat} {rs : List (List Int)} (h : ∀ r ∈ rs, Rw p n r) : St p n 0 rs rs [] [] where
  lrw := h
  lz := fun _ _ k hk => absurd hk (Nat.not_lt_zero k)
  len := rfl
  trw := fun _ hr => by cases hr
  red := ⟨fun _ hx => (nomatch hx), fun _ hx => (nomatch hx), fun _ hx => (nomatch hx), List.nodup_nil⟩
  srt := .nil
  lt := fun _ hs => by cases hs
  up := fun r hr => .one (.inl ⟨r, hr, rfl⟩)
  dn := fun u hu => by
    rcases hu with hu | ⟨x, hx, _⟩
    · exact .one hu
    · cases hx
theorem St.skip {p : Int} {n c : Nat} {rs ls : List (List Int)} {sp : List Nat} {ts : List (List Int)} (S : St p n c rs ls sp ts) (h : ∀ r ∈ ls, r.getD c 0 = 0) : St p n (c + 1) rs ls sp ts :=
  ⟨S.lrw, fun r hr k hk => (Nat.lt_or_ge k c).elim (fun q => S.lz r hr k q) (fun q => by rw [show k = c by omega]; exact h r hr), S.len, S.trw, S.red, S.srt, fun s hs => Nat.lt_succ_of_lt (S.lt s hs), S.up, S.dn⟩
/-- each of the one is what is cleared of the other -/
structure Clr (p : Int) (n c : Nat) (h : List Int) (as bs : List (List Int)) : Prop where
  len : bs.length = as.length
  at_ : ∀ (j : Nat) (a b : List Int), as[j]? = some a → bs[j]? = some b → Rw p n b ∧ Xp.Eqm p (co b) (Xp.clr p c (co h) (co a))
theorem Clr.of {p : Int} {n c : Nat} {h : List Int} {as bs : List (List Int)} (C : Clr p n c h as bs) {b : List Int} (hb : b ∈ bs) : ∃ a ∈ as, Rw p n b ∧ Xp.Eqm p (co b) (Xp.clr p c (co h) (co a)) := by
  obtain ⟨j, hj⟩ := List.mem_iff_getElem?.mp hb
  have lt : j < bs.length := by
    rcases Nat.lt_or_ge j bs.length with q | q
    · exact q
    · rw [List.getElem?_eq_none q] at hj
      cases hj
  have ha := List.getElem?_eq_getElem (show j < as.length by rw [← C.len]; exact lt)
  exact ⟨_, List.mem_of_getElem? ha, C.at_ j _ b ha hj⟩
theorem Clr.to {p : Int} {n c : Nat} {h : List Int} {as bs : List (List Int)} (C : Clr p n c h as bs) {a : List Int} (ha : a ∈ as) : ∃ b ∈ bs, Rw p n b ∧ Xp.Eqm p (co b) (Xp.clr p c (co h) (co a)) := by
  obtain ⟨j, hj⟩ := List.mem_iff_getElem?.mp ha
  have lt : j < as.length := by
    rcases Nat.lt_or_ge j as.length with q | q
    · exact q
    · rw [List.getElem?_eq_none q] at hj
      cases hj
  have hb := List.getElem?_eq_getElem (show j < bs.length by rw [C.len]; exact lt)
  exact ⟨_, List.mem_of_getElem? hb, C.at_ j a _ hj hb⟩
theorem clr_back {p : Int} {c : Nat} (h v : Xp.Cf) : Xp.Eqm p v (Xp.ad (Xp.sc (v c) h) (Xp.clr p c h v)) := Xp.Eqm.of_eq (funext fun k => by
  show v k = v c * h k + (v k + -(v c) * h k)
  rw [Int.neg_mul]
  omega)
theorem St.step {p : Int} {n c : Nat} {rs ls ls' : List (List Int)} {sp : List Nat} {ts ts' : List (List Int)} {r0 hs : List Int} {s : Int} (S : St p n c rs ls sp ts) (hr0 : r0 ∈ ls) (hrw : Rw p n hs) (he : Xp.Eqm p (co hs) (Xp.sc s (co r0))) (h1 : co hs c % p = 1 % p)
    (CL : Clr p n c hs ls ls') (CT : Clr p n c hs ts ts') : St p n (c + 1) rs ls' (sp ++ [c]) (ts' ++ [hs]) := by
  have hz : ∀ k, k < c → co hs k % p = 0 := fun k hk => by
    rw [he k]
    show (s * r0.getD k 0) % p = 0
    rw [S.lz r0 hr0 k hk, Int.mul_zero, Int.zero_emod]
  have hlen : (sp ++ [c]).length = (ts' ++ [hs]).length := by rw [List.length_append, List.length_append, CT.len, S.len]; rfl
  -- where a row of the new family comes from
  have mem : ∀ x ∈ fam (sp ++ [c]) (ts' ++ [hs]), (x = (c, co hs)) ∨ ∃ (j : Nat) (t : Nat) (a b : List Int), sp[j]? = some t ∧ ts[j]? = some a ∧ x = (t, co b) ∧ Rw p n b ∧ Xp.Eqm p (co b) (Xp.clr p c (co hs) (co a)) := fun x hx => by
    obtain ⟨j, t, r, h1, h2, rfl⟩ := mem_fam hx
    by_cases hj : j < sp.length
    · rw [List.getElem?_append_left hj] at h1
      have hj2 : j < ts'.length := by rw [CT.len, ← S.len]; exact hj
      rw [List.getElem?_append_left hj2] at h2
      have h3 := List.getElem?_eq_getElem (show j < ts.length by rw [← S.len]; exact hj)
      exact .inr ⟨j, t, _, r, h1, h3, rfl, CT.at_ j _ r h3 h2⟩
    · left
      have e1 : j = sp.length := by
        rcases Nat.lt_or_ge j (sp.length + 1) with q | q
        · omega
        · rw [List.getElem?_eq_none (by rw [List.length_append]; exact q)] at h1
          cases h1
      subst e1
      rw [List.getElem?_append_right (Nat.le_refl _), Nat.sub_self] at h1
      have e2 : sp.length = ts'.length := by rw [CT.len, S.len]
      rw [e2, List.getElem?_append_right (Nat.le_refl _), Nat.sub_self] at h2
      cases h1
      cases h2
      rfl
  have tc : ∀ {j t : Nat}, sp[j]? = some t → t < c := fun h => S.lt _ (List.mem_of_getElem? h)
  have srt' : (sp ++ [c]).Pairwise (· < ·) := List.pairwise_append.mpr ⟨S.srt, List.pairwise_singleton _ _, fun a ha b hb => by
    rw [List.mem_singleton.mp hb]
    exact S.lt a ha⟩
  have red' : Xp.Red p (fam (sp ++ [c]) (ts' ++ [hs])) := by
    refine ⟨fun x hx => ?_, fun x hx k hk => ?_, fun x hx y hy ne => ?_, ?_⟩
    · rcases mem x hx with rfl | ⟨j, t, a, b, q1, q2, rfl, _, e⟩
      · exact h1
      · show co b t % p = 1 % p
        rw [e t, Xp.clr_keep (hz t (tc q1))]
        exact S.red.one _ (fam_mem q1 q2)
    · rcases mem x hx with rfl | ⟨j, t, a, b, q1, q2, rfl, _, e⟩
      · exact hz k hk
      · have hk : k < t := hk
        have := tc q1
        show co b k % p = 0
        rw [e k, Xp.clr_keep (hz k (by omega))]
        exact S.red.low _ (fam_mem q1 q2) k hk
    · rcases mem x hx with rfl | ⟨j, t, a, b, q1, q2, rfl, _, e⟩
      · rcases mem y hy with rfl | ⟨j', t', a', b', q1', q2', rfl, _, e'⟩
        · exact absurd rfl ne
        · show co b' c % p = 0
          rw [e' c]
          exact Xp.clr_at h1
      · rcases mem y hy with rfl | ⟨j', t', a', b', q1', q2', rfl, _, e'⟩
        · exact hz t (tc q1)
        · show co b' t % p = 0
          rw [e' t, Xp.clr_keep (hz t (tc q1))]
          exact S.red.own _ (fam_mem q1 q2) _ (fam_mem q1' q2') ne
    · rw [fam_spots hlen]
      exact srt'.imp (fun h => Nat.ne_of_lt h)
  have hh : Xp.rows (fam (sp ++ [c]) (ts' ++ [hs])) (co hs) := fam_row hlen (List.mem_append_right _ (List.mem_singleton.mpr rfl))
  have hsp : Xp.Sp p (rset rs) (co hs) := ((S.dn _ (.inl ⟨r0, hr0, rfl⟩)).sc s).eqm he.symm
  refine ⟨fun r hr => ?_, fun r hr k hk => ?_, hlen, fun r hr => ?_, red', srt', fun t ht => ?_, fun r hr => ?_, fun u hu => ?_⟩
  · obtain ⟨a, _, h, _⟩ := CL.of hr
    exact h
  · obtain ⟨a, ha, hb, e⟩ := CL.of hr
    refine hb.zero.mp ?_
    rw [e k]
    rcases Nat.lt_or_ge k c with q | q
    · rw [Xp.clr_keep (hz k q)]
      show a.getD k 0 % p = 0
      rw [S.lz a ha k q, Int.zero_emod]
    · rw [show k = c by omega]
      exact Xp.clr_at h1
  · rcases List.mem_append.mp hr with hr | hr
    · obtain ⟨a, _, h, _⟩ := CT.of hr
      exact h
    · rw [List.mem_singleton.mp hr]
      exact hrw
  · rcases List.mem_append.mp ht with ht | ht
    · exact Nat.lt_succ_of_lt (S.lt t ht)
    · rw [List.mem_singleton.mp ht]
      exact Nat.lt_succ_self c
  · refine (S.up r hr).trans fun u hu => ?_
    have put : ∀ {a b : List Int}, Xp.Eqm p (co b) (Xp.clr p c (co hs) (co a)) → (rset ls' (co b) ∨ Xp.rows (fam (sp ++ [c]) (ts' ++ [hs])) (co b)) → Xp.Sp p (fun u => rset ls' u ∨ Xp.rows (fam (sp ++ [c]) (ts' ++ [hs])) u) (co a) := fun {a b} e hb =>
      .eqm (.add (co a c) (.inr hh) (.one hb)) (Xp.Eqm.trans ((Xp.Eqm.refl p _).ad e) (clr_back (co hs) (co a)).symm)
    rcases hu with ⟨a, ha, rfl⟩ | ⟨x, hx, rfl⟩
    · obtain ⟨b, hb, _, e⟩ := CL.to ha
      exact put e (.inl ⟨b, hb, rfl⟩)
    · obtain ⟨j, t, a, q1, q2, rfl⟩ := mem_fam hx
      obtain ⟨b, hb, _, e⟩ := CT.to (List.mem_of_getElem? q2)
      exact put e (.inr (fam_row hlen (List.mem_append_left _ hb)))
  · have get : ∀ {a b : List Int}, Xp.Eqm p (co b) (Xp.clr p c (co hs) (co a)) → Xp.Sp p (rset rs) (co a) → Xp.Sp p (rset rs) (co b) := fun {a b} e ha => (ha.ad (hsp.sc (-(co a c)))).eqm e.symm
    rcases hu with ⟨b, hb, rfl⟩ | ⟨x, hx, rfl⟩
    · obtain ⟨a, ha, _, e⟩ := CL.of hb
      exact get e (S.dn _ (.inl ⟨a, ha, rfl⟩))
    · rcases mem x hx with rfl | ⟨j, t, a, b, q1, q2, rfl, _, e⟩
      · exact hsp
      · exact get e (S.dn _ (.inr ⟨_, fam_mem q1 q2, rfl⟩))
/-- the told form of rs -/
structure Form (p : Int) (n : Nat) (rs : List (List Int)) (sp : List Nat) (ts : List (List Int)) : Prop where
  len : sp.length = ts.length
  trw : ∀ r ∈ ts, Rw p n r
  red : Xp.Red p (fam sp ts)
  srt : sp.Pairwise (· < ·)
  lt : ∀ s ∈ sp, s < n
  up : ∀ r ∈ rs, Xp.Sp p (Xp.rows (fam sp ts)) (co r)
  dn : ∀ r ∈ ts, Xp.Sp p (rset rs) (co r)
theorem St.form {p : Int} {n : Nat} {rs ls : List (List Int)} {sp : List Nat} {ts : List (List Int)} (S : St p n n rs ls sp ts) : Form p n rs sp ts :=
  ⟨S.len, S.trw, S.red, S.srt, S.lt, fun r hr => (S.up r hr).trans fun u hu => by
    rcases hu with ⟨a, ha, rfl⟩ | hu
    · refine .eqm .nul fun k => ?_
      show 0 % p = a.getD k 0 % p
      rcases Nat.lt_or_ge k n with q | q
      · rw [S.lz a ha k q]
      · rw [getD_over (by rw [(S.lrw a ha).len]; exact q)]
    · exact .one hu, fun r hr => S.dn _ (.inr (fam_row S.len hr))⟩
/-- there is one told form of what spans the same -/
theorem Form.uniq {p : Int} (hp : 2 ≤ p) {n : Nat} {rs qs : List (List Int)} {sp sq : List Nat} {ts us : List (List Int)} (F : Form p n rs sp ts) (G : Form p n qs sq us) (a : ∀ r ∈ rs, Xp.Sp p (rset qs) (co r)) (b : ∀ r ∈ qs, Xp.Sp p (rset rs) (co r)) : sp = sq ∧ ts = us := by
  have m1 : ∀ u, Xp.rows (fam sp ts) u → Xp.Sp p (Xp.rows (fam sq us)) u := fun u ⟨x, hx, e⟩ => by
    obtain ⟨j, t, r, q1, q2, rfl⟩ := mem_fam hx
    subst e
    have t1 : Xp.Sp p (rset qs) (co r) := (F.dn r (List.mem_of_getElem? q2)).trans fun u hu => by
      obtain ⟨w, hw, rfl⟩ := hu
      exact a w hw
    exact t1.trans fun u hu => by
      obtain ⟨w, hw, rfl⟩ := hu
      exact G.up w hw
  have m2 : ∀ u, Xp.rows (fam sq us) u → Xp.Sp p (Xp.rows (fam sp ts)) u := fun u ⟨x, hx, e⟩ => by
    obtain ⟨j, t, r, q1, q2, rfl⟩ := mem_fam hx
    subst e
    have t1 : Xp.Sp p (rset rs) (co r) := (G.dn r (List.mem_of_getElem? q2)).trans fun u hu => by
      obtain ⟨w, hw, rfl⟩ := hu
      exact b w hw
    exact t1.trans fun u hu => by
      obtain ⟨w, hw, rfl⟩ := hu
      exact F.up w hw
  have s1 := F.red.sub hp G.red m1
  have s2 := G.red.sub hp F.red m2
  rw [fam_spots F.len, fam_spots G.len] at s1 s2
  have es : sp = sq := Xp.sorted_eq F.srt G.srt fun s => ⟨s1 s, s2 s⟩
  refine ⟨es, ?_⟩
  subst es
  have l : ts.length = us.length := by rw [← F.len, G.len]
  apply List.ext_getElem?
  intro i
  by_cases h : i < ts.length
  · have g1 := List.getElem?_eq_getElem h
    have g2 := List.getElem?_eq_getElem (show i < us.length by omega)
    have g3 := List.getElem?_eq_getElem (show i < sp.length by rw [F.len]; exact h)
    rw [g1, g2]
    congr 1
    refine row_eq (F.trw _ (List.getElem_mem h)) (G.trw _ (List.getElem_mem _)) ?_
    exact F.red.row G.red m1 (fun s hs => by rw [fam_spots G.len] at hs; rw [fam_spots F.len]; exact hs) (fam_mem g3 g1) (fam_mem g3 g2) rfl
  · rw [List.getElem?_eq_none (by omega), List.getElem?_eq_none (by omega)]

end Xk
end
section
set_option Elab.async false
set_option linter.all false
set_option maxRecDepth 100000
set_option maxHeartbeats 4000000
namespace Xk
open PySem PySem.Spec PyProof.Rows L2 Xh LamX NdefX
theorem psNo {X : Cx} {st : Stmt} : PS X st (fun _ _ _ => False) := ⟨fun _ _ _ _ _ _ h => h.elim⟩
theorem sqD {K : PySem.W.Frag} {H : Hp} {a : Addr} {xs : List V} (e : H a = some (.tup xs)) : SqT K H a xs := .inl (.inl e)
theorem kpS {H H' : Hp} (s : Same H H') : ∀ a xs, H a = some (.tup xs) → H' a = some (.tup xs) := fun _ _ e => s _ _ e
theorem kpX {H H' : Hp} (x : ExtN H H') : ∀ a xs, H a = some (.tup xs) → H' a = some (.tup xs) := fun _ _ e => x _ _ e (fun _ z => by cases z)
theorem kpU {H : Hp} {D : Addr} {xs ys : List V} (e : H D = some (.lst xs)) : ∀ a us, H a = some (.tup us) → L2.upd H D (.lst ys) a = some (.tup us) := fun a us h => by
  rw [upd_ne (fun z => by rw [z, e] at h; cases h)]
  exact h
/-- rows stand at these -/
def Rws (H : Hp) : List Addr → List (List Int) → Prop
  | [], [] => True
  | l :: ls, r :: rs => H l = some (.tup (r.map V.int)) ∧ Rws H ls rs
  | _, _ => False
theorem Rws.len {H : Hp} : ∀ {ls : List Addr} {rs : List (List Int)}, Rws H ls rs → ls.length = rs.length
  | [], [], _ => rfl
  | _ :: _, _ :: _, h => congrArg Nat.succ (Rws.len h.2)
  | [], _ :: _, h => h.elim
  | _ :: _, [], h => h.elim
theorem Rws.keep {H H' : Hp} (k : ∀ a xs, H a = some (.tup xs) → H' a = some (.tup xs)) : ∀ {ls : List Addr} {rs : List (List Int)}, Rws H ls rs → Rws H' ls rs
  | [], [], _ => trivial
  | _ :: _, _ :: _, h => ⟨k _ _ h.1, Rws.keep k h.2⟩
  | [], _ :: _, h => h.elim
  | _ :: _, [], h => h.elim
theorem Rws.app {H : Hp} {ls' : List Addr} {rs' : List (List Int)} (g : Rws H ls' rs') : ∀ {ls : List Addr} {rs : List (List Int)}, Rws H ls rs → Rws H (ls ++ ls') (rs ++ rs')
  | [], [], _ => g
  | _ :: _, _ :: _, h => ⟨h.1, Rws.app g h.2⟩
  | [], _ :: _, h => h.elim
  | _ :: _, [], h => h.elim
theorem Rws.snoc {H : Hp} {l : Addr} {r : List Int} (e : H l = some (.tup (r.map V.int))) {ls : List Addr} {rs : List (List Int)} (h : Rws H ls rs) : Rws H (ls ++ [l]) (rs ++ [r]) := Rws.app (ls' := [l]) (rs' := [r]) ⟨e, trivial⟩ h
theorem Rws.get {H : Hp} : ∀ {ls : List Addr} {rs : List (List Int)}, Rws H ls rs → ∀ (i : Nat) (l : Addr), ls[i]? = some l → ∃ r, rs[i]? = some r ∧ H l = some (.tup (r.map V.int))
  | [], [], _, i, l, e => by cases e
  | _ :: _, r :: _, h, 0, l, e => by
    cases e
    exact ⟨r, rfl, h.1⟩
  | _ :: ls, _ :: rs, h, i + 1, l, e => Rws.get (ls := ls) (rs := rs) h.2 i l e
  | [], _ :: _, h, _, _, _ => h.elim
  | _ :: _, [], h, _, _, _ => h.elim
/-- the i-th of the refs, and the row there -/
theorem Rws.at {H : Hp} {ls : List Addr} {rs : List (List Int)} (h : Rws H ls rs) {i : Nat} {x : V} (hx : (ls.map V.ref)[i]? = some x) : ∃ (l : Addr) (r : List Int), x = .ref l ∧ rs[i]? = some r ∧ H l = some (.tup (r.map V.int)) := by
  rw [List.getElem?_map] at hx
  obtain ⟨l, hl, e⟩ := Option.map_eq_some_iff.mp hx
  obtain ⟨r, hr, e2⟩ := h.get i l hl
  exact ⟨l, r, e.symm, hr, e2⟩
theorem _root_.Xh.Gr.tup {T : List (Addr × Str)} {H H' : Hp} (g : Gr T H H') {a : Addr} {xs : List V} (e : H a = some (.tup xs)) : H' a = some (.tup xs) := g.x _ _ e (fun _ z => by cases z)
theorem _root_.Xh.Gr.lt {T : List (Addr × Str)} {H H' : Hp} (g : Gr T H H') {a : Addr} {xs : List V} (e : H a = some (.lst xs)) : H' a = some (.lst xs) := g.x _ _ e (fun _ z => by cases z)
theorem atI_map {ns : List Int} {c : Nat} (h : c < ns.length) : atI (ns.map V.int) ((c : Nat) : Int) = some (.int (ns.getD c 0)) := atI_nat (map_at ns c h)
/-- what undoes a rest -/
theorem inv_of {p x : Int} (hp : p ∈ primes) (h0 : 0 ≤ x) (h1 : x < p) (hx : x ≠ 0) : ∃ l P : Nat, x = (l : Int) ∧ p = (P : Int) ∧ 2 ≤ P ∧ P ≤ 1000 ∧ l < P ∧ rpow l (-1) P = bk l P ∧ bk l P < P ∧ (((bk l P : Nat) : Int) * x) % p = 1 % p ∧ bks l P (P - 1) ≠ [] := by
  have hm := pm_of hp
  have lo := hm.lo
  have hi := hm.hi
  obtain ⟨l, hl⟩ := Int.eq_ofNat_of_zero_le h0
  obtain ⟨P, hP⟩ := Int.eq_ofNat_of_zero_le (show 0 ≤ p by omega)
  have f := undo_facts p hp l (by rw [hP, Int.toNat_natCast]; omega) (fun z => hx (by rw [hl, z]; rfl))
  rw [hP, Int.toNat_natCast] at f
  obtain ⟨f1, f2, f3, _, f5⟩ := f
  refine ⟨l, P, hl, hP, by omega, by omega, by omega, f5, f2, ?_, f1⟩
  rw [hl, hP, ← Int.natCast_mul, ← Int.natCast_emod, f3, Int.emod_eq_of_lt (by decide) (by omega)]
  rfl
def spClr : Sp := fun vs H Q _ => ∃ (r h : Addr) (rr hh : List Int) (c n : Nat) (p : Int), vs = [.ref r, .ref h, .int c, .int p] ∧ H r = some (.tup (rr.map V.int)) ∧ H h = some (.tup (hh.map V.int)) ∧ Rw p n rr ∧ Rw p n hh ∧ c < n ∧ n ≤ 50 ∧ Pm p ∧
  ∀ (v : Addr) (ms : List Int) (H' : Hp), Same H H' → H' v = some (.tup (ms.map V.int)) → Rw p n ms → Xp.Eqm p (co ms) (Xp.clr p c (co hh) (co rr)) → Q (.ref v) H'
def spStep (T : List (Addr × Str)) : Sp := fun vs H Q _ => ∃ (R : Addr) (la : List Addr) (rs : List (List Int)) (n : Nat) (p : Int), vs = [.ref R, .int n, .int p] ∧ H R = some (.lst (la.map V.ref)) ∧ Rws H la rs ∧ (∀ r ∈ rs, Rw p n r) ∧ rs.length ≤ 24 ∧ 1 ≤ n ∧ n ≤ 24 ∧ p ∈ primes ∧ Tabs T H ∧
  ∀ (D : Addr) (ds : List Addr) (sp : List Nat) (ts : List (List Int)) (H' : Hp), Gr T H H' → H D = none → H' D = some (.lst (ds.map V.ref)) → Rws H' ds ts → Form p n rs sp ts → Q (.ref D) H'
/-- rows may be wider than the places stepped over -/
def spStepW (T : List (Addr × Str)) : Sp := fun vs H Q _ => ∃ (R : Addr) (la : List Addr) (rs : List (List Int)) (n m : Nat) (p : Int), vs = [.ref R, .int n, .int p] ∧ H R = some (.lst (la.map V.ref)) ∧ Rws H la rs ∧ (∀ r ∈ rs, Rw p m r) ∧ rs.length ≤ 24 ∧ 1 ≤ n ∧ n ≤ m ∧ m ≤ 50 ∧ n ≤ 24 ∧ p ∈ primes ∧ Tabs T H ∧
  ∀ (D : Addr) (ds : List Addr) (sp : List Nat) (ls ts : List (List Int)) (H' : Hp), Gr T H H' → H D = none → H' D = some (.lst (ds.map V.ref)) → Rws H' ds ts → St p m n rs ls sp ts → Q (.ref D) H'
theorem stepW {T : List (Addr × Str)} {vs : List V} {H : Hp} {Q : VK} {E E' : XK} (h : spStep T vs H Q E) : spStepW T vs H Q E' := by
  obtain ⟨R, la, rs, n, p, rfl, eR, hR, hrw, lrs, n1, n24, hp, hT, k⟩ := h
  exact ⟨R, la, rs, n, n, p, rfl, eR, hR, hrw, lrs, n1, Nat.le_refl n, by omega, n24, hp, hT, fun D ds sp ls ts H' g nD eD hD S => k D ds sp ts H' g nD eD hD S.form⟩
theorem sp_len {sp : List Nat} {c : Nat} (s : sp.Pairwise (· < ·)) (h : ∀ x ∈ sp, x < c) : sp.length ≤ c := by
  have z := Xp.nodup_len (b := List.range c) (s.imp (fun h => Nat.ne_of_lt h)) fun x hx => List.mem_range.mpr (h x hx)
  rw [List.length_range] at z
  exact z
section
variable {P : Program} {w : World} {K : PySem.W.Frag} {mg : Str → Option Value} {base : Heap}
abbrev s_cleared : Stmt := topS 34
theorem sc_cleared : FnScope (["row", "head", "place", "prime", "share", "rest", "by"] : List Str) ["row", "head", "place", "prime"] (defScope s_cleared) := ⟨rfl, rfl, rfl, by decide +kernel, rfl, by decide +kernel, by decide +kernel⟩
theorem ok_cleared {f : Addr} {fd : FuncData} (F : FunD K "cleared" "cleared" (defArgs s_cleared) (defBody s_cleared) (defScope s_cleared) [] [] f fd) (T : Fre mg) : FnOk P w K mg base CX0 1 f fd ["row", "head", "place", "prime"] spClr := by
  refine F.ok sc_cleared (fun vs H Q E h => ?_) (fun cdv A outer s H vs Q E hr h => ?_)
  · obtain ⟨r, h, rr, hh, c, n, p, rfl, _⟩ := h
    rfl
  · obtain ⟨r, h, rr, hh, c, n, p, rfl, er, eh, wr, wh, hc, hn, hp, k⟩ := h
    have lo := hp.lo
    have hi := hp.hi
    have nz : p ≠ 0 := by omega
    have l1 := wr.len
    have l2 := wh.len
    refine ⟨_, PSs.nox (pss_cons (ps_set (i := 4) sc_cleared.nd rfl (Or.inr rfl) (pe_ix ix_tup (pv 0) (pv 2) (fun _ _ => rfl)))
      (pss_cons (ps_if (pt_cmpR op_eq (pv 4) pe_int (nomark _)) (pss_one (ps_ret (pv 0))) pss_nil)
      (pss_one (ps_ret (pe_callTy call_tuple_of (by rfl) T.f_tuple (by decide +kernel) (pa_cons (pe_lc (own := [("rest", 5), ("by", 6)]) (g := (gTup K 2 (gCons (gName 5) (gCons (gName 6) gNil)))) rfl sc_cleared.nd (RZ.pi_zipA (by rfl) T.f_zip (pa_cons (pv 0) (pa_cons (pv 1) pa_nil))) (blkOk_by (own := [("rest", 5), ("by", 6)]) (N := ["row", "head", "place", "prime", "share", "rest", "by"]) (sc := defScope s_cleared) (by decide +kernel)) (fun _ _ _ _ _ => pg_tup rfl (pgs_cons (pg_name (i := 5) sc_cleared.nd rfl (Or.inl rfl) (Or.inr rfl)) (pgs_cons (pg_name (i := 6) sc_cleared.nd rfl (Or.inl rfl) (Or.inr rfl)) pgs_nil))) (fun _ _ _ _ _ => pts_nil) (fun _ _ _ _ _ => (pe_op op_modN (pe_op op_sub (pv 5) (pe_op op_mul (pv 4) (pv 6))) (pv 3)))) pa_nil)))))) , ?_⟩
    refine ⟨_, rfl, _, rfl, r, _, _, .int (rr.getD c 0), rfl, rfl, sqD er, atI_map (by omega), ?_⟩
    refine ⟨_, rfl, rfl, _, rfl, ite2 (fun hz => ?_) (fun hz => ?_)⟩
    · have z := V.int.inj (of_decide_eq_true hz)
      refine ⟨_, rfl, k r rr H (fun _ _ z => z) er wr (Xp.clr_none ?_).symm⟩
      show rr.getD c 0 % p = 0
      rw [z, Int.zero_emod]
    · refine ⟨_, rfl, _, rfl, r, h, _, _, rfl, .inr ⟨sqD er, sqD eh, fun D hD => ?_⟩⟩
      obtain ⟨s0, s1⟩ := wr.rs c
      refine lc_it (walk_zipT (xs := rr.map V.int) (ys := hh.map V.int) (by rw [List.length_map, List.length_map]; omega)) (fun i H1 => Same H H1 ∧ ∃ ms : List Int, H1 D = some (.lst (ms.map V.int)) ∧ ms.length = i ∧ ∀ j, j < i → ms.getD j 0 = (rr.getD j 0 - rr.getD c 0 * hh.getD j 0).fmod p)
        ⟨same_upd hD, [], upd_same, rfl, fun j hj => absurd hj (Nat.not_lt_zero j)⟩ (fun i H1 _ h => ⟨sqD (h.1 _ _ er), sqD (h.1 _ _ eh)⟩) ?_ ?_
      · rintro i x H1 H2 hi2 ⟨s3, ms, e3, l3, c3⟩ ⟨Tp, x1, y1, rfl, hTp, rfl, g1, g2⟩
        rw [List.length_map] at hi2
        have h1 := (map_at rr i (by omega)).symm.trans g1
        have h2 := (map_at hh i (by omega)).symm.trans g2
        cases h1
        cases h2
        obtain ⟨b0, b1⟩ := wh.rs i
        have s4 := s3.trans (same_upd (o := .tup [.int (rr.getD i 0), .int (hh.getD i 0)]) hTp)
        refine ⟨Tp, _, rfl, .inl (.inl upd_same), rfl, _, _, rfl, _, _, rfl, rfl, rfl, _, rfl, _, rfl, _, rfl, _, _, rfl, rfl, .inl ⟨by omega, by omega⟩, _, _, rfl, rfl, _, rfl, _, _, rfl, rfl, nz, _, by rw [upd_ne (ne_of_none e3 hTp)]; exact e3, ?_, lcs hD s4, ms ++ [(rr.getD i 0 - rr.getD c 0 * hh.getD i 0).fmod p], ?_, ?_, fun j hj => ?_⟩
        · rw [List.length_map]
          exact small1000 (by omega)
        · rw [upd_same, List.map_append]
          rfl
        · rw [List.length_append, l3]
          rfl
        · rw [getD_app, l3]
          by_cases hj2 : j < i
          · rw [if_pos hj2]
            exact c3 j hj2
          · rw [if_neg hj2, show j = i by omega, if_pos rfl]
      · rintro H1 ⟨s3, ms, e3, l3, c3⟩
        rw [List.length_map] at l3 c3
        refine ⟨D, _, rfl, .inl ⟨SqL.of e3, fun v hv => ?_⟩⟩
        have cf : ∀ j, ms.getD j 0 = (rr.getD j 0 - rr.getD c 0 * hh.getD j 0).fmod p := fun j => by
          by_cases hj : j < rr.length
          · exact c3 j hj
          · rw [getD_over (by omega), getD_over (a := rr) (by omega), getD_over (a := hh) (by omega), Int.mul_zero, Int.sub_zero, Int.zero_fmod]
        refine k v ms _ (s3.trans (same_upd hv)) upd_same ⟨by omega, fm_rs hp cf⟩ fun j => ?_
        show ms.getD j 0 % p = (rr.getD j 0 + -(rr.getD c 0) * hh.getD j 0) % p
        rw [cf, fm_em hp.pos, Int.emod_emod, Int.neg_mul]
        rfl
abbrev s_raw_stepped : Stmt := topS 33
theorem sc_raw_stepped : FnScope (["rows", "width", "prime", "left", "told", "place", "heads", "scale", "head", "row", "rest"] : List Str) ["rows", "width", "prime"] (defScope s_raw_stepped) := ⟨rfl, rfl, rfl, by decide +kernel, rfl, by decide +kernel, by decide +kernel⟩
theorem ok_raw_stepped {TT : List (Addr × Str)} {f : Addr} {fd : FuncData} (F : FunD K "raw_stepped" "raw_stepped" (defArgs s_raw_stepped) (defBody s_raw_stepped) (defScope s_raw_stepped) [] [] f fd) (T : Fre mg) (o_rest_power : Own P w K mg base CX0 3 "rest_power" ["rest", "exponent", "prime"] [] (spRPowT TT)) (o_cleared : Own P w K mg base CX0 1 "cleared" ["row", "head", "place", "prime"] [] spClr) : FnOk P w K mg base CX0 4 f fd ["rows", "width", "prime"] (spStepW TT) := by
  refine F.ok sc_raw_stepped (fun vs H Q E h => ?_) (fun cdv A outer s H vs Q E hr h => ?_)
  · obtain ⟨R, la, rs, n, m, p, rfl, _⟩ := h
    rfl
  · obtain ⟨R, la, rs, n, m, p, rfl, eR, hR, hrw, lrs, n1, nm, m50, n24, hp, hT, k⟩ := h
    have hpm := pm_of hp
    have lo := hpm.lo
    have hi := hpm.hi
    have nz : p ≠ 0 := by omega
    have lla := hR.len
    refine ⟨_, PSs.nox (pss_cons (ps_set (i := 3) sc_raw_stepped.nd rfl (Or.inl rfl) (pe_callTy call_list_of (by rfl) T.f_list (by decide +kernel) (pa_cons (pv 0) pa_nil)))
      (pss_cons (ps_set (i := 4) sc_raw_stepped.nd rfl (Or.inl rfl) (pe_lst pa_nil))
      (pss_cons (ps_for PassesOwn.never rfl (pi_range1 (by rfl) T.f_range (pa_cons (pv 1) pa_nil)) (pg_name (i := 5) sc_raw_stepped.nd rfl (Or.inr rfl)) (pss_cons (ps_setLc (i := 6) (own := [("row", 9)]) (tt := tTest (tOp _ (tOp (rIxT K) (tVar 9) (tVar 5)) (tC (.int 0)))) rfl sc_raw_stepped.nd rfl rfl (sw_true rfl rfl rfl (by decide +kernel)) (pi_list (pv 3)) (blkOk_by (own := [("row", 9)]) (N := ["rows", "width", "prime", "left", "told", "place", "heads", "scale", "head", "row", "rest"]) (sc := defScope s_raw_stepped) (by decide +kernel)) (fun _ _ _ _ _ => pg_name (i := 9) sc_raw_stepped.nd rfl (Or.inl rfl) (Or.inr rfl)) (fun _ _ _ _ _ => (pts_one (pt_cmpR op_ne (pe_ix ix_tup (pv 9) (pv 5) (fun _ _ => rfl)) pe_int (nomark _)))) (fun _ _ _ _ _ => (pv 9)))
      (pss_one (ps_if (pt_truth (pv 6) (by intro _; rfl)) (pss_cons (ps_set (i := 7) sc_raw_stepped.nd rfl (Or.inr rfl) (pe_own o_rest_power (hr.mono (by decide)) rfl pass0 (pa_cons (pe_ix ix_tup (pe_ix ix_list (pv 6) pe_int (fun _ _ => rfl)) (pv 5) (fun _ _ => rfl)) (pa_cons (pe_un un_neg pe_int) (pa_cons (pv 2) pa_nil)))))
      (pss_cons (ps_set (i := 8) sc_raw_stepped.nd rfl (Or.inr rfl) (pe_callTy call_tuple_of (by rfl) T.f_tuple (by decide +kernel) (pa_cons (pe_lc (own := [("rest", 10)]) rfl sc_raw_stepped.nd (pi_tup (pe_ix ix_list (pv 6) pe_int (fun _ _ => rfl))) (blkOk_by (own := [("rest", 10)]) (N := ["rows", "width", "prime", "left", "told", "place", "heads", "scale", "head", "row", "rest"]) (sc := defScope s_raw_stepped) (by decide +kernel)) (fun _ _ _ _ _ => pg_name (i := 10) sc_raw_stepped.nd rfl (Or.inl rfl) (Or.inr rfl)) (fun _ _ _ _ _ => pts_nil) (fun _ _ _ _ _ => (pe_op op_modN (pe_op op_mul (pv 10) (pv 7)) (pv 2)))) pa_nil)))
      (pss_cons (ps_setLc (i := 3) (own := [("row", 9)]) rfl sc_raw_stepped.nd rfl rfl (sw_true rfl rfl rfl (by decide +kernel)) (pi_list (pv 3)) (blkOk_by (own := [("row", 9)]) (N := ["rows", "width", "prime", "left", "told", "place", "heads", "scale", "head", "row", "rest"]) (sc := defScope s_raw_stepped) (by decide +kernel)) (fun _ _ _ _ _ => pg_name (i := 9) sc_raw_stepped.nd rfl (Or.inl rfl) (Or.inr rfl)) (fun _ _ _ _ _ => pts_nil) (fun _ _ _ _ _ => (pe_own o_cleared (hr.mono (by decide)) rfl pass0 (pa_cons (pv 9) (pa_cons (pv 8) (pa_cons (pv 5) (pa_cons (pv 2) pa_nil)))))))
      (pss_one (ps_set (i := 4) sc_raw_stepped.nd rfl (Or.inl rfl) (pe_op op_cat (pe_lc (own := [("row", 9)]) rfl sc_raw_stepped.nd (pi_list (pv 4)) (blkOk_by (own := [("row", 9)]) (N := ["rows", "width", "prime", "left", "told", "place", "heads", "scale", "head", "row", "rest"]) (sc := defScope s_raw_stepped) (by decide +kernel)) (fun _ _ _ _ _ => pg_name (i := 9) sc_raw_stepped.nd rfl (Or.inl rfl) (Or.inr rfl)) (fun _ _ _ _ _ => pts_nil) (fun _ _ _ _ _ => (pe_own o_cleared (hr.mono (by decide)) rfl pass0 (pa_cons (pv 9) (pa_cons (pv 8) (pa_cons (pv 5) (pa_cons (pv 2) pa_nil))))))) (pe_lst (pa_cons (pv 8) pa_nil)))))))) pss_nil))))
      (pss_one (ps_ret (pv 4)))))) , ?_⟩
    refine ⟨_, rfl, R, _, rfl, .inl (SqL.of eR), fun L hL => ?_⟩
    have s1 := same_upd (o := .lst (la.map V.ref)) hL
    refine ⟨(by show 0 ≤ sizeLine; decide), fun TL hTL => ?_⟩
    have s2 := s1.trans (same_upd (o := .lst []) hTL)
    refine ⟨_, rfl, (n : Int), rfl, by omega, by omega, ?_⟩
    rw [Int.toNat_natCast]
    refine for_range (lo := 0) (n := n) (fun c σ' H' => ∃ (L TL : Addr) (ll tl : List Addr) (ls ts : List (List Int)) (sp : List Nat) (x5 x6 x7 x8 x9 x10 : Option V), σ' = [some (.ref R), some (.int n), some (.int p), some (.ref L), some (.ref TL), x5, x6, x7, x8, x9, x10] ∧ Gr TT H H' ∧ H TL = none ∧ H' L = some (.lst (ll.map V.ref)) ∧ Rws H' ll ls ∧ H' TL = some (.lst (tl.map V.ref)) ∧ Rws H' tl ts ∧ ls.length = rs.length ∧ St p m c rs ls sp ts)
      ⟨L, TL, la, [], rs, [], [], none, none, none, none, none, none, rfl, Gr.of hT s2, s1.free hTL, same_upd hTL _ _ upd_same, hR.keep (kpS s2), upd_same, trivial, rfl, St.init hrw⟩ ?_ ?_
    · rintro c σ' H1 hc ⟨L, TL, ll, tl, ls, ts, sp, x5, x6, x7, x8, x9, x10, rfl, g1, nTL, eL, hl, eTL, ht, len, S⟩
      have lll := hl.len
      have ltl := ht.len
      have lsp := sp_len S.srt S.lt
      have lst := S.len
      refine ⟨_, rfl, L, rfl, ⟨_, SqL.of eL⟩, fun D hD => ?_⟩
      refine lc_it (walk_list (xs := ll.map V.ref)) (fun i H' => Same H1 H' ∧ ∃ (ds : List Addr) (hs : List (List Int)), H' D = some (.lst (ds.map V.ref)) ∧ Rws H' ds hs ∧ hs.length ≤ i ∧ (∀ r ∈ hs, r ∈ ls ∧ r.getD c 0 ≠ 0) ∧ (hs = [] → ∀ (j : Nat) (r : List Int), j < i → ls[j]? = some r → r.getD c 0 = 0)) ?_ (fun i H' _ h => SqL.of (h.1 _ _ eL)) ?_ ?_
      · exact ⟨same_upd hD, [], [], upd_same, trivial, Nat.le_refl _, fun r h => (nomatch h), fun _ j r h => absurd h (Nat.not_lt_zero j)⟩
      · rintro i x H2 H3 hi2 ⟨s2, ds, hs, e2, h2, l2, m2, z2⟩ ⟨rfl, hx⟩
        obtain ⟨l, r, rfl, hr, er⟩ := (hl.keep (kpS s2)).at hx
        rw [List.length_map] at hi2
        have wr := S.lrw r (List.mem_of_getElem? hr)
        have lr := wr.len
        refine ⟨rfl, _, rfl, _, rfl, l, _, _, .int (r.getD c 0), rfl, rfl, sqD er, by rw [Int.zero_add]; exact atI_map (by omega), rfl, _, rfl, ?_⟩
        by_cases hz : r.getD c 0 = 0
        · rw [show (!decide (V.int (r.getD c 0) = V.int 0)) = false from by rw [hz]; rfl]
          refine iteF ⟨s2, ds, hs, e2, h2, by omega, m2, fun h j r' hj hr' => ?_⟩
          rcases Nat.lt_or_ge j i with q | q
          · exact z2 h j r' q hr'
          · have ji : j = i := by omega
            subst ji
            rw [hr] at hr'
            cases hr'
            exact hz
        · rw [show (!decide (V.int (r.getD c 0) = V.int 0)) = true from by simpa using hz]
          refine iteT ⟨_, rfl, _, e2, ?_, lcs hD s2, ds ++ [l], hs ++ [r], ?_, ?_, ?_, fun r' hr' => ?_, fun h => ?_⟩
          · rw [List.length_map, h2.len]
            exact small1000 (by omega)
          · rw [upd_same, List.map_append]
            rfl
          · exact (Rws.snoc er h2).keep (kpU e2)
          · rw [List.length_append]
            show hs.length + 1 ≤ i + 1
            omega
          · rcases List.mem_append.mp hr' with q | q
            · exact m2 r' q
            · rw [List.mem_singleton.mp q]
              exact ⟨List.mem_of_getElem? hr, hz⟩
          · simp at h
      rintro H2 ⟨s2, ds, hs, e2, h2, l2, m2, z2⟩
      rw [List.length_map] at z2
      refine ⟨_, rfl, _, .inl ⟨_, SqL.of e2, rfl⟩, ?_⟩
      cases hs with
      | nil =>
        have hds : ds = [] := List.length_eq_zero_iff.mp h2.len
        subst hds
        refine iteF ⟨L, TL, ll, tl, ls, ts, sp, _, _, _, _, _, _, rfl, g1.same s2, nTL, s2 _ _ eL, hl.keep (kpS s2), s2 _ _ eTL, ht.keep (kpS s2), len, S.skip fun r hr => ?_⟩
        obtain ⟨j, hj⟩ := List.mem_iff_getElem?.mp hr
        refine z2 rfl j r ?_ hj
        rcases Nat.lt_or_ge j ls.length with q | q
        · omega
        · rw [List.getElem?_eq_none q] at hj
          cases hj
      | cons h0 hs =>
        obtain ⟨l0, ds', rfl⟩ : ∃ l0 ds', ds = l0 :: ds' := by
          have := h2.len
          match ds, this with
          | l0 :: ds', _ => exact ⟨l0, ds', rfl⟩
        refine iteT ?_
        obtain ⟨h0m, h0z⟩ := m2 h0 List.mem_cons_self
        have w0 := S.lrw h0 h0m
        have l0n := w0.len
        obtain ⟨b0, b1⟩ := w0.rs c
        obtain ⟨q, Mm, hq, hM, M2, M3, qM, fr, bl, ec, _⟩ := inv_of hp b0 b1 h0z
        have G2 := g1.same s2
        refine ⟨_, rfl, D, _, 0, .ref l0, rfl, rfl, SqL.of e2, atI_nat (j := 0) rfl, _, rfl, l0, _, _, .int ((q : Nat) : Int), rfl, rfl, sqD h2.1, by rw [Int.zero_add, ← hq]; exact atI_map (by omega), _, rfl, _, rfl, q, Mm, -1, by rw [hM]; rfl, M2, M3, qM, G2.t, fun H3 g3 => ?_⟩
        rw [fr]
        have G3 := G2.trans g3
        have e3 := g3.lt e2
        have el0 := g3.tup h2.1
        generalize hsv : ((bk q Mm : Nat) : Int) = sv at ec
        have sv0 : 0 ≤ sv ∧ sv < 1000 := by omega
        refine ⟨_, rfl, D, _, 0, .ref l0, rfl, rfl, SqL.of e3, atI_nat (j := 0) rfl, l0, rfl, ⟨_, sqD el0⟩, fun D2 hD2 => ?_⟩
        refine lc_it (walk_tup (xs := h0.map V.int)) (fun i H' => Same H3 H' ∧ H' D2 = some (.lst (((h0.take i).map fun x => (x * sv).fmod p).map V.int))) ?_ (fun i H' _ h => sqD (h.1 _ _ el0)) ?_ ?_
        · exact ⟨same_upd hD2, upd_same⟩
        · rintro i x Ha Hb hi2 ⟨s4, e4⟩ ⟨rfl, hx⟩
          rw [List.length_map] at hi2
          have e5 := (map_at h0 i hi2).symm.trans hx
          cases e5
          obtain ⟨r0, r1⟩ := w0.rs i
          refine ⟨rfl, _, rfl, _, rfl, _, _, rfl, rfl, .inl ⟨by omega, by omega⟩, _, rfl, _, _, rfl, rfl, nz, _, e4, small1000 (Nat.le_trans (take_len _ _ _) (by omega)), lcs hD2 s4, ?_⟩
          rw [upd_same]
          exact congrArg (fun z => some (HO.lst z)) (take_map (fun x => (x * sv).fmod p) hi2)
        rintro H4 ⟨s4, e4⟩
        rw [List.length_map, List.take_length] at e4
        refine ⟨D2, _, rfl, .inl ⟨SqL.of e4, fun hv hhv => ?_⟩⟩
        have s5 := s4.trans (same_upd (o := .tup ((h0.map fun x => (x * sv).fmod p).map V.int)) hhv)
        have ehv : L2.upd H4 hv (.tup ((h0.map fun x => (x * sv).fmod p).map V.int)) hv = some (.tup ((h0.map fun x => (x * sv).fmod p).map V.int)) := upd_same
        generalize hH5 : L2.upd H4 hv (.tup ((h0.map fun x => (x * sv).fmod p).map V.int)) = H5 at s5 ehv
        have hhc : ∀ j, (h0.map fun x => (x * sv).fmod p).getD j 0 = (h0.getD j 0 * sv).fmod p := fun j => getD_map (g := fun x => (x * sv).fmod p) (by show (0 * sv).fmod p = 0; rw [Int.zero_mul]; exact Int.zero_fmod p)
        have lhh : (h0.map fun x => (x * sv).fmod p).length = m := by rw [List.length_map]; exact l0n
        generalize (h0.map fun x => (x * sv).fmod p) = hh at ehv hhc lhh
        have whh : Rw p m hh := ⟨lhh, fm_rs hpm hhc⟩
        have ehh : Xp.Eqm p (co hh) (Xp.sc sv (co h0)) := fun j => by
          show hh.getD j 0 % p = (sv * h0.getD j 0) % p
          rw [hhc, fm_em hpm.pos, Int.emod_emod, Int.mul_comm]
        have hh1 : co hh c % p = 1 % p := by
          rw [ehh c]
          exact ec
        have G5 := G3.same s5
        have S15 : ∀ a xs, H1 a = some (.lst xs) → H5 a = some (.lst xs) := fun a xs e => s5 _ _ (g3.lt (s2 _ _ e))
        have eL5 := S15 _ _ eL
        have eTL5 := S15 _ _ eTL
        have K15 : ∀ a xs, H1 a = some (.tup xs) → H5 a = some (.tup xs) := fun a xs e => s5 _ _ (g3.tup (s2 _ _ e))
        have hl5 := hl.keep K15
        have ht5 := ht.keep K15
        refine ⟨_, rfl, L, rfl, ⟨_, SqL.of eL5⟩, fun D3 hD3 => ?_⟩
        refine lc_it (walk_list (xs := ll.map V.ref)) (fun i H' => Same H5 H' ∧ ∃ (ds : List Addr) (rs' : List (List Int)), H' D3 = some (.lst (ds.map V.ref)) ∧ Rws H' ds rs' ∧ rs'.length = i ∧ ∀ (j : Nat) (a b : List Int), ls[j]? = some a → rs'[j]? = some b → Rw p m b ∧ Xp.Eqm p (co b) (Xp.clr p c (co hh) (co a))) ?_ (fun i H' _ h => SqL.of (h.1 _ _ eL5)) ?_ ?_
        · exact ⟨same_upd hD3, [], [], upd_same, trivial, rfl, fun j a b _ z => by cases z⟩
        · rintro i x Ha Hb hi2 ⟨s2, ds, rs', e2, h2, l2, m2⟩ ⟨rfl, hx⟩
          obtain ⟨l, r, rfl, hr, er⟩ := (hl5.keep (kpS s2)).at hx
          rw [List.length_map] at hi2
          refine ⟨rfl, _, rfl, _, rfl, _, rfl, _, rfl, l, hv, r, hh, c, m, p, by rw [Int.zero_add]; rfl, er, s2 _ _ ehv, S.lrw r (List.mem_of_getElem? hr), whh, by omega, m50, hpm, fun v ms Hc sc ev wm em => ?_⟩
          refine ⟨_, sc _ _ e2, ?_, lcs hD3 (s2.trans sc), ds ++ [v], rs' ++ [ms], ?_, ?_, ?_, fun j a b ha hb => ?_⟩
          · rw [List.length_map, h2.len, l2]
            exact small1000 (by omega)
          · rw [upd_same, List.map_append]
            rfl
          · exact (Rws.snoc ev (h2.keep (kpS sc))).keep (kpU (sc _ _ e2))
          · rw [List.length_append, l2]
            rfl
          · rw [List.getElem?_append] at hb
            split at hb
            · exact m2 j a b ha hb
            · rename_i hj
              cases ej : j - rs'.length with
              | succ k => rw [ej] at hb; cases hb
              | zero =>
                rw [ej] at hb
                cases hb
                have ji : j = i := by omega
                subst ji
                rw [hr] at ha
                cases ha
                exact ⟨wm, em⟩
        rintro H6 ⟨s6, ds3, rs3, e6, h6, l6, m6⟩
        rw [List.length_map] at l6
        have eTL6 := s6 _ _ eTL5
        have ht6 := ht5.keep (kpS s6)
        have ehv6 := s6 _ _ ehv
        refine ⟨_, rfl, TL, rfl, ⟨_, SqL.of eTL6⟩, fun D4 hD4 => ?_⟩
        refine lc_it (walk_list (xs := tl.map V.ref)) (fun i H' => Same H6 H' ∧ ∃ (ds : List Addr) (rs' : List (List Int)), H' D4 = some (.lst (ds.map V.ref)) ∧ Rws H' ds rs' ∧ rs'.length = i ∧ ∀ (j : Nat) (a b : List Int), ts[j]? = some a → rs'[j]? = some b → Rw p m b ∧ Xp.Eqm p (co b) (Xp.clr p c (co hh) (co a))) ?_ (fun i H' _ h => SqL.of (h.1 _ _ eTL6)) ?_ ?_
        · exact ⟨same_upd hD4, [], [], upd_same, trivial, rfl, fun j a b _ z => by cases z⟩
        · rintro i x Ha Hb hi2 ⟨s2, ds, rs', e2, h2, l2, m2⟩ ⟨rfl, hx⟩
          obtain ⟨l, r, rfl, hr, er⟩ := (ht6.keep (kpS s2)).at hx
          rw [List.length_map] at hi2
          refine ⟨rfl, _, rfl, _, rfl, _, rfl, _, rfl, l, hv, r, hh, c, m, p, by rw [Int.zero_add]; rfl, er, s2 _ _ ehv6, S.trw r (List.mem_of_getElem? hr), whh, by omega, m50, hpm, fun v ms Hc sc ev wm em => ?_⟩
          refine ⟨_, sc _ _ e2, ?_, lcs hD4 (s2.trans sc), ds ++ [v], rs' ++ [ms], ?_, ?_, ?_, fun j a b ha hb => ?_⟩
          · rw [List.length_map, h2.len, l2]
            exact small1000 (by omega)
          · rw [upd_same, List.map_append]
            rfl
          · exact (Rws.snoc ev (h2.keep (kpS sc))).keep (kpU (sc _ _ e2))
          · rw [List.length_append, l2]
            rfl
          · rw [List.getElem?_append] at hb
            split at hb
            · exact m2 j a b ha hb
            · rename_i hj
              cases ej : j - rs'.length with
              | succ k => rw [ej] at hb; cases hb
              | zero =>
                rw [ej] at hb
                cases hb
                have ji : j = i := by omega
                subst ji
                rw [hr] at ha
                cases ha
                exact ⟨wm, em⟩
        rintro H7 ⟨s7, ds4, rs4, e7, h7, l7, m7⟩
        rw [List.length_map] at l7
        have lds4 := h7.len
        refine ⟨_, rfl, (by show 1 ≤ sizeLine; decide), fun l8 hl8 => ?_⟩
        have s8 := same_upd (o := .lst [.ref hv]) hl8
        refine ⟨D4, l8, _, _, rfl, rfl, s8 _ _ e7, upd_same, ?_, fun D5 hD5 => ?_⟩
        · rw [List.length_map]
          exact Nat.le_trans (show ds4.length + 1 ≤ 1000 by omega) (Nat.le_of_lt (small1000 (Nat.le_refl _)))
        have s9 := s8.trans (same_upd (o := .lst (ds4.map V.ref ++ [.ref hv])) hD5)
        have G9 := ((G5.same s6).same s7).same s9
        refine ⟨D3, D5, ds3, ds4 ++ [hv], rs3, rs4 ++ [hh], sp ++ [c], _, _, _, _, _, _, rfl, G9, (((G5.same s6).same s7).same s8).n _ hD5, s9 _ _ (s7 _ _ e6), (h6.keep (kpS s7)).keep (kpS s9), ?_, ?_, ?_, ?_⟩
        · rw [upd_same, List.map_append]
          rfl
        · exact Rws.snoc (s9 _ _ (s7 _ _ ehv6)) (h7.keep (kpS s9))
        · omega
        · exact S.step h0m whh ehh hh1 ⟨by omega, m6⟩ ⟨by omega, m7⟩
    · rintro σ' H' ⟨L, TL, ll, tl, ls, ts, sp, x5, x6, x7, x8, x9, x10, rfl, g, nTL, eL, hl, eTL, ht, len, S⟩
      exact ⟨_, rfl, k TL tl sp _ ts H' g nTL eTL ht S⟩
end
end Xk
end
section
set_option Elab.async false
set_option linter.all false
set_option maxRecDepth 100000
set_option maxHeartbeats 4000000
namespace Xk
open PySem PySem.Spec PyProof.Rows L2 Xh LamX NdefX
/-! ### rows, refusals, the told form asked for -/
def spIsRow (K : PySem.W.Frag) : Sp := fun vs H Q _ => ∃ (a : Addr) (r : List Int) (n : Nat) (p : Int), vs = [.ref a, .int n, .int p] ∧ SqT K H a (r.map V.int) ∧ Rw p n r ∧ n ≤ 50 ∧ ∀ H', Same H H' → Q (.bl true) H'
def spRefT : Sp := fun vs H Q _ => ∃ (R : Addr) (la : List Addr) (rs : List (List Int)) (n : Nat) (p : Int), vs = [.ref R, .int n, .int p] ∧ H R = some (.lst (la.map V.ref)) ∧ Rws H la rs ∧ (∀ r ∈ rs, Rw p n r) ∧ rs.length ≤ 24 ∧ 1 ≤ n ∧ n ≤ 24 ∧ p ∈ primes ∧ ∀ H', Same H H' → Q .non H'
section
variable {P : Program} {w : World} {K : PySem.W.Frag} {mg : Str → Option Value} {base : Heap}
abbrev s_is_row : Stmt := topS 28
theorem sc_is_row : FnScope (["told", "width", "prime", "rest"] : List Str) ["told", "width", "prime"] (defScope s_is_row) := ⟨rfl, rfl, rfl, by decide +kernel, rfl, by decide +kernel, by decide +kernel⟩
theorem ok_is_row {f : Addr} {fd : FuncData} (F : FunD K "is_row" "is_row" (defArgs s_is_row) (defBody s_is_row) (defScope s_is_row) [] [] f fd) (T : Fre mg) (o_is_rest : Own P w K mg base CX0 2 "is_rest" ["told", "prime"] [] spIsRest) : FnOk P w K mg base CX0 3 f fd ["told", "width", "prime"] (spIsRow K) := by
  refine F.ok sc_is_row (fun vs H Q E h => ?_) (fun cdv A outer s H vs Q E hr h => ?_)
  · obtain ⟨a, r, n, p, rfl, _⟩ := h
    rfl
  · obtain ⟨a, ns, n, p, rfl, hS, hR, hn, k⟩ := h
    have hl := hR.len
    refine ⟨_, PSs.nox (pss_one (ps_ret (pe_and (pe_callB call_isi (by rfl) T.f_isinstance PyProof.Rows.boot_isinstance (pa_cons (pv 0) (pa_cons (pe_bltn (v := .ty "tuple") rfl T.f_tuple boot_tuple rfl) pa_nil))) (pe_and (pe_cmpR op_eq (pe_callB call_len_seq (by rfl) T.f_len PySem.boot_len (pa_cons (pv 0) pa_nil)) (pv 1) (nomark _)) (pe_one (pe_callB (cr_all rfl) (by rfl) T.f_all (by decide +kernel) (pa_cons (pe_lc (own := [("rest", 3)]) rfl sc_is_row.nd (pi_tup (pv 0)) (blkOk_by (own := [("rest", 3)]) (N := ["told", "width", "prime", "rest"]) (sc := defScope s_is_row) (by decide +kernel)) (fun _ _ _ _ _ => pg_name (i := 3) sc_is_row.nd rfl (Or.inl rfl) (Or.inr rfl)) (fun _ _ _ _ _ => pts_nil) (fun _ _ _ _ _ => (pe_own o_is_rest (hr.mono (by decide)) rfl pass0 (pa_cons (pv 3) (pa_cons (pv 2) pa_nil))))) pa_nil))))))) , ?_⟩
    refine ⟨_, rfl, .ref a, _, _, _, true, rfl, .ty _, tyT hS, kit_ty (by decide +kernel), _, rfl, iteT ?_⟩
    refine ⟨_, rfl, _, _, rfl, .inr hS, _, rfl, ?_⟩
    rw [List.length_map, hl]
    refine ⟨rfl, _, rfl, ?_⟩
    rw [show decide (V.int ((n : Nat) : Int) = V.int ((n : Nat) : Int)) = true from decide_eq_true rfl]
    refine iteT ?_
    refine ⟨_, rfl, a, rfl, ⟨_, hS⟩, fun D hD => ?_⟩
    refine lc_it (walk_tup (xs := ns.map V.int)) (fun i H1 => Same H H1 ∧ H1 D = some (.lst ((List.replicate i true).map V.bl)) ∧ i ≤ ns.length) ⟨same_upd hD, upd_same, Nat.zero_le _⟩ (fun i H1 _ h => sameT h.1 hS) ?_ ?_
    · rintro i x H1 H2 hi ⟨s1, e1, _⟩ ⟨rfl, hx⟩
      rw [List.length_map] at hi
      have e3 := (map_at ns i hi).symm.trans hx
      cases e3
      refine ⟨rfl, _, rfl, _, rfl, _, _, rfl, ?_⟩
      rw [decide_eq_true (hR.rs i)]
      refine ⟨_, e1, ?_, lcs hD s1, ?_, hi⟩
      · rw [List.length_map, List.length_replicate]
        exact small1000 (by omega)
      · rw [upd_same, List.replicate_succ', List.map_append]
        rfl
    · rintro H1 ⟨s1, e1, _⟩
      refine ⟨D, List.replicate (ns.map V.int).length true, rfl, SqL.of e1, ?_⟩
      rw [show (List.replicate (ns.map V.int).length true).all id = true from by simp]
      exact k _ s1
abbrev s_refuse_table : Stmt := topS 29
theorem sc_refuse_table : FnScope (["rows", "width", "prime", "at", "row"] : List Str) ["rows", "width", "prime"] (defScope s_refuse_table) := ⟨rfl, rfl, rfl, by decide +kernel, rfl, by decide +kernel, by decide +kernel⟩
theorem ok_refuse_table {f fI : Addr} {C : Fin 14 → Addr} {fd : FuncData} (F : FunD K "refuse_table" "refuse_table" (defArgs s_refuse_table) (defBody s_refuse_table) (defScope s_refuse_table) [] [] f fd) (T : Fre mg) (mW : ∃ t, mg "MOST_WIDE" = some (.int 24 t)) (mR : ∃ t, mg "MOST_ROWS" = some (.int 24 t)) (o_refuse_prime : Own P w K mg base (L2.CX P w) 3 "refuse_prime" ["prime"] [] (spRefP (C 0)))
    (o_is_number : Own P w K mg base CX0 1 "is_number" ["told"] [] spIsNum) (o_is_row : Own P w K mg base CX0 3 "is_row" ["told", "width", "prime"] [] (spIsRow K)) (xP : RX K mg (C 1) fI "BadWidth") (o_init : FnR P w K mg base (L2.CX P w) 1 fI (spRI1 K)) : FnOk P w K mg base (L2.CX P w) 4 f fd ["rows", "width", "prime"] spRefT := by
  obtain ⟨tW, mW⟩ := mW
  obtain ⟨tR, mR⟩ := mR
  refine F.ok sc_refuse_table (fun vs H Q E h => ?_) (fun cdv A outer s H vs Q E hr h => ?_)
  · obtain ⟨R, la, rs, n, p, rfl, _⟩ := h
    rfl
  · obtain ⟨R, la, rs, n, p, rfl, eR, hR, hrw, lrs, n1, n24, hp, k⟩ := h
    have lla := hR.len
    refine ⟨_, (pss_cons (ps_expr (pe_own o_refuse_prime (hr.mono (by decide)) rfl (passes_call (takes_of rfl rfl rfl rfl) (fun _ _ _ _ h => h)) (pa_cons (pv 2) pa_nil)))
      (pss_cons (ps_if (PW.pt (pw_or (pt_not (pt_val (pe_own o_is_number (hr.mono (by decide)) rfl pass0 (pa_cons (pv 1) pa_nil)))) (pw_or1 (pt_not (pt_chain op_le op_le pe_int (pv 1) (pe_glob (v := .int 24) rfl mW ⟨_, rfl⟩)))))) (pss_one (ps_raise rfl (takes_of rfl rfl rfl rfl) (pmk_rung xP o_init (hr.mono (by decide)) rfl))) pss_nil)
      (pss_one (ps_for (passes_of rfl) rfl (pi_enum (by rfl) T.f_enumerate (pa_cons (pv 0) pa_nil)) (pg_tup rfl (pgs_cons (pg_name (i := 3) sc_refuse_table.nd rfl (Or.inl rfl)) (pgs_cons (pg_name (i := 4) sc_refuse_table.nd rfl (Or.inl rfl)) pgs_nil))) (pss_one (ps_if (PW.pt (pw_or (pt_cmpR op_ge (pv 3) (pe_glob (v := .int 24) rfl mR ⟨_, rfl⟩) (nomark _)) (pw_or1 (pt_not (pt_val (pe_own o_is_row (hr.mono (by decide)) rfl pass0 (pa_cons (pv 4) (pa_cons (pv 1) (pa_cons (pv 2) pa_nil))))))))) (pss_one psNo) pss_nil)))))) , ?_⟩
    refine ⟨_, rfl, p, rfl, fun _ => ?_, fun z => absurd hp z⟩
    refine ⟨_, rfl, (n : Int), rfl, _, rfl, iteF ⟨_, rfl, _, _, rfl, rfl, _, rfl, ?_⟩⟩
    rw [decide_eq_true (show (1 : Int) ≤ (n : Int) by omega)]
    refine iteT ⟨_, _, rfl, rfl, _, rfl, ?_⟩
    rw [decide_eq_true (show (n : Int) ≤ 24 by omega)]
    refine iteF ⟨_, rfl, R, _, rfl, SqL.of eR, ?_⟩
    refine for_it (walk_enum (xs := la.map V.ref)) (fun i σ' H2 => ∃ x y : Option V, σ' = [some (.ref R), some (.int n), some (.int p), x, y] ∧ Same H H2) ⟨none, none, rfl, fun _ _ h => h⟩ (fun i σ' H2 _ ⟨_, _, _, s2⟩ => SqL.of (s2 _ _ eR)) ?_ ?_
    · rintro i x σ' H2 H3 hi ⟨x0, y0, rfl, s2⟩ ⟨Tp, u, v, rfl, hTp, rfl, g1, g2⟩
      cases g1
      rw [List.length_map] at hi
      have s3 := s2.trans (same_upd (o := .tup [.int (i : Nat), v]) hTp)
      obtain ⟨l, r, rfl, hr, er⟩ := (hR.keep (kpS s3)).at g2
      refine ⟨Tp, _, rfl, .inl (.inl upd_same), rfl, _, _, rfl, _, _, rfl, rfl, _, rfl, _, _, rfl, rfl, _, rfl, ?_⟩
      rw [decide_eq_false (show ¬ (24 : Int) ≤ (i : Int) by omega)]
      refine iteF ⟨_, rfl, _, rfl, _, rfl, l, r, n, p, rfl, sqD er, hrw r (List.mem_of_getElem? hr), by omega, fun H4 s4 => ?_⟩
      exact ⟨_, rfl, iteF ⟨_, _, rfl, s3.trans s4⟩⟩
    · rintro σ' H2 ⟨x, y, rfl, s2⟩
      exact k _ s2
abbrev s_stepped : Stmt := topS 30
theorem sc_stepped : FnScope (["rows", "width", "prime"] : List Str) ["rows", "width", "prime"] (defScope s_stepped) := ⟨rfl, rfl, rfl, by decide +kernel, rfl, by decide +kernel, by decide +kernel⟩
theorem ok_stepped {TT : List (Addr × Str)} {f : Addr} {fd : FuncData} {kws : List (Str × V)} (F : FunD K "stepped" "stepped" (defArgs s_stepped) (defBody s_stepped) (defScope s_stepped) [] kws f fd) (o_refuse_table : Own P w K mg base (L2.CX P w) 4 "refuse_table" ["rows", "width", "prime"] [] spRefT) (o_raw_stepped : Own P w K mg base CX0 4 "raw_stepped" ["rows", "width", "prime"] [] (spStepW TT)) : FnOk P w K mg base (L2.CX P w) 5 f fd ["rows", "width", "prime"] (spStep TT) := by
  refine F.ok sc_stepped (fun vs H Q E h => ?_) (fun cdv A outer s H vs Q E hr h => ?_)
  · obtain ⟨R, la, rs, n, p, rfl, _⟩ := h
    rfl
  · obtain ⟨R, la, rs, n, p, rfl, eR, hR, hrw, lrs, n1, n24, hp, hT, k⟩ := h
    refine ⟨_, (pss_cons (ps_expr (pe_own o_refuse_table (hr.mono (by decide)) rfl (passes_call (takes_of rfl rfl rfl rfl) (fun _ _ _ _ h => h)) (pa_cons (pv 0) (pa_cons (pv 1) (pa_cons (pv 2) pa_nil)))))
      (pss_one (ps_ret (pe_own o_raw_stepped (hr.mono (by decide)) rfl pass0 (pa_cons (pv 0) (pa_cons (pv 1) (pa_cons (pv 2) pa_nil))))))) , ?_⟩
    refine ⟨_, rfl, _, rfl, _, rfl, R, la, rs, n, p, rfl, eR, hR, hrw, lrs, n1, n24, hp, fun H1 s1 => ?_⟩
    exact ⟨_, rfl, _, rfl, _, rfl, R, la, rs, n, n, p, rfl, s1 _ _ eR, hR.keep (kpS s1), hrw, lrs, n1, Nat.le_refl n, by omega, n24, hp, hT.ext s1, fun D ds sp _ ts H' g2 nD e2 h2 S => k D ds sp ts H' ((Gr.of hT s1).trans g2) (s1.free nD) e2 h2 S.form⟩
end
end Xk
end
section
set_option Elab.async false
set_option linter.all false
set_option maxRecDepth 100000
set_option maxHeartbeats 4000000
namespace Xk
open PySem PySem.Spec PyProof.Rows L2 Xh LamX NdefX
/-! ### the law's own steps -/
/-- a reduced table that spans what rs does, in any order -/
structure Fm (p : Int) (n : Nat) (rs : List (List Int)) (sp : List Nat) (ts : List (List Int)) : Prop where
  len : sp.length = ts.length
  trw : ∀ r ∈ ts, Rw p n r
  red : Xp.Red p (fam sp ts)
  lt : ∀ s ∈ sp, s < n
  up : ∀ r ∈ rs, Xp.Sp p (Xp.rows (fam sp ts)) (co r)
  dn : ∀ r ∈ ts, Xp.Sp p (rset rs) (co r)
theorem Form.fm {p : Int} {n : Nat} {rs ts : List (List Int)} {sp : List Nat} (F : Form p n rs sp ts) : Fm p n rs sp ts := ⟨F.len, F.trw, F.red, F.lt, F.up, F.dn⟩
theorem Fm.rows {p : Int} {n : Nat} {rs ts : List (List Int)} {sp : List Nat} (F : Fm p n rs sp ts) {u : Xp.Cf} (h : Xp.rows (fam sp ts) u) : Xp.Sp p (rset rs) u := by
  obtain ⟨x, hx, e⟩ := h
  obtain ⟨j, t, r, q1, q2, rfl⟩ := mem_fam hx
  subst e
  exact F.dn r (List.mem_of_getElem? q2)
theorem Fm.le {p : Int} (hp : 2 ≤ p) {n : Nat} {rs ts us : List (List Int)} {sp sq : List Nat} (F : Fm p n rs sp ts) (G : Fm p n rs sq us) : ts.length ≤ us.length := by
  have s := F.red.sub hp G.red fun u hu => (F.rows hu).trans fun v hv => by
    obtain ⟨w, hw, rfl⟩ := hv
    exact G.up w hw
  have nd := F.red.nd
  rw [fam_spots F.len] at s nd
  rw [fam_spots G.len] at s
  have z := Xp.nodup_len nd s
  have a := F.len
  have b := G.len
  omega
theorem Fm.len_eq {p : Int} (hp : 2 ≤ p) {n : Nat} {rs ts us : List (List Int)} {sp sq : List Nat} (F : Fm p n rs sp ts) (G : Fm p n rs sq us) : ts.length = us.length := Nat.le_antisymm (F.le hp G) (G.le hp F)
/-- the places of a row that aren't nought, below i -/
def nzs (r : List Int) (i : Nat) : List Nat := (List.range i).filter fun k => r.getD k 0 != 0
theorem nzs_len (r : List Int) (i : Nat) : (nzs r i).length ≤ i := by
  have z := List.length_filter_le (fun k => r.getD k 0 != 0) (List.range i)
  rw [List.length_range] at z
  exact z
theorem nzs_succ (r : List Int) (i : Nat) : nzs r (i + 1) = nzs r i ++ (if r.getD i 0 = 0 then [] else [i]) := by
  unfold nzs
  rw [List.range_succ, List.filter_append]
  congr 1
  by_cases h : r.getD i 0 = 0
  · rw [if_pos h, List.filter_cons_of_neg (by show ¬ (r.getD i 0 != 0) = true; rw [h]; decide), List.filter_nil]
  · rw [if_neg h, List.filter_cons_of_pos (by show (r.getD i 0 != 0) = true; exact bne_iff_ne.mpr h), List.filter_nil]
theorem nzs_nil {r : List Int} : ∀ {i : Nat}, (∀ k, k < i → r.getD k 0 = 0) → nzs r i = []
  | 0, _ => rfl
  | i + 1, h => by rw [nzs_succ, if_pos (h i (Nat.lt_succ_self i)), nzs_nil fun k hk => h k (Nat.lt_succ_of_lt hk)]; rfl
theorem nzs_at {r : List Int} {s : Nat} (h0 : ∀ k, k < s → r.getD k 0 = 0) (h1 : r.getD s 0 ≠ 0) : ∀ {n : Nat}, s < n → (nzs r n)[0]? = some s
  | 0, h => absurd h (Nat.not_lt_zero s)
  | n + 1, h => by
    rw [nzs_succ]
    rcases Nat.lt_or_ge s n with q | q
    · rw [List.getElem?_append_left (List.getElem?_eq_some_iff.mp (nzs_at h0 h1 q)).1]
      exact nzs_at h0 h1 q
    · have e : s = n := by omega
      subst e
      rw [if_neg h1, nzs_nil h0]
      rfl
/-- none of them: a row of noughts; else the first of them -/
theorem nzs_first {r : List Int} : ∀ {n : Nat} {s : Nat} {l : List Nat}, nzs r n = s :: l → s < n ∧ r.getD s 0 ≠ 0 ∧ ∀ k, k < s → r.getD k 0 = 0
  | 0, _, _, h => by cases h
  | n + 1, s, l, h => by
    rw [nzs_succ] at h
    cases e : nzs r n with
    | nil =>
      rw [e, List.nil_append] at h
      split at h
      · cases h
      · rename_i hn
        cases h
        refine ⟨Nat.lt_succ_self _, hn, fun k hk => ?_⟩
        have : ∀ m, m ≤ n → ∀ k, k < m → r.getD k 0 = 0 := fun m hm k hk => by
          by_cases z : r.getD k 0 = 0
          · exact z
          · have q : k ∈ nzs r n := by
              unfold nzs
              rw [List.mem_filter, List.mem_range]
              exact ⟨by omega, by simpa using z⟩
            rw [e] at q
            cases q
        exact this n (Nat.le_refl _) k hk
    | cons s' l' =>
      rw [e] at h
      cases h
      obtain ⟨a, b, c⟩ := nzs_first e
      exact ⟨Nat.lt_succ_of_lt a, b, c⟩
theorem nzs_none {r : List Int} {n : Nat} (e : nzs r n = []) : ∀ k, k < n → r.getD k 0 = 0 := fun k hk => by
  by_cases z : r.getD k 0 = 0
  · exact z
  · have q : k ∈ nzs r n := by
      unfold nzs
      rw [List.mem_filter, List.mem_range]
      exact ⟨hk, by simpa using z⟩
    rw [e] at q
    cases q
theorem Red_at {p : Int} (hp : 2 ≤ p) {n : Nat} {sp : List Nat} {ts : List (List Int)} (R : Xp.Red p (fam sp ts)) (W : ∀ r ∈ ts, Rw p n r) {j s : Nat} {r : List Int} (h1 : sp[j]? = some s) (h2 : ts[j]? = some r) : r.getD s 0 = 1 ∧ ∀ k, k < s → r.getD k 0 = 0 := by
  have w := W r (List.mem_of_getElem? h2)
  have m := fam_mem h1 h2
  refine ⟨?_, fun k hk => w.zero.mp (R.low _ m k hk)⟩
  have e : r.getD s 0 % p = 1 % p := R.one _ m
  obtain ⟨a, b⟩ := w.rs s
  rw [Int.emod_eq_of_lt a b, Int.emod_eq_of_lt (by decide) (by omega)] at e
  exact e
theorem less_rest (p x : Int) : (p - x % p + x) % p = 0 := by
  have h := Int.emod_add_mul_ediv x p
  refine Int.emod_eq_zero_of_dvd ⟨1 + x / p, ?_⟩
  rw [Int.mul_add, Int.mul_one]
  omega
/-- what is left of a row, lowered by a table -/
structure Low (p : Int) (sp : List Nat) (ts : List (List Int)) (j : Nat) (r ms : List Int) : Prop where
  up : Xp.Sp p (fun u => Xp.rows (fam sp ts) u ∨ u = co ms) (co r)
  dn : Xp.Sp p (fun u => Xp.rows (fam sp ts) u ∨ u = co r) (co ms)
  z : ∀ i s, i < j → sp[i]? = some s → co ms s % p = 0
theorem Low.init (p : Int) (sp : List Nat) (ts : List (List Int)) (r : List Int) : Low p sp ts 0 r r := ⟨.one (.inr rfl), .one (.inr rfl), fun i _ h => absurd h (Nat.not_lt_zero i)⟩
theorem Low.step {p : Int} {sp : List Nat} {ts : List (List Int)} (R : Xp.Red p (fam sp ts)) (ln : sp.length = ts.length) {j s : Nat} {w : Int} {r ms ms' one : List Int} (L : Low p sp ts j r ms) (h1 : sp[j]? = some s) (h2 : ts[j]? = some one) (hw : (w + ms.getD s 0) % p = 0) (e : Xp.Eqm p (co ms') (Xp.ad (Xp.sc w (co one)) (co ms))) : Low p sp ts (j + 1) r ms' := by
  have m := fam_mem h1 h2
  have ho : Xp.rows (fam sp ts) (co one) := ⟨_, m, rfl⟩
  have e2 : Xp.Eqm p (co ms) (Xp.ad (Xp.sc (-w) (co one)) (co ms')) := fun k => by
    have z := e k
    show ms.getD k 0 % p = (-w * one.getD k 0 + ms'.getD k 0) % p
    rw [Int.add_emod, show ms'.getD k 0 % p = (w * one.getD k 0 + ms.getD k 0) % p from z, ← Int.add_emod]
    congr 1
    rw [Int.neg_mul]
    omega
  refine ⟨L.up.trans fun u hu => ?_, ((L.dn).ad ((Xp.Sp.one (.inl ho)).sc w)).eqm (Xp.Eqm.trans (Xp.Eqm.of_eq (Xp.adC _ _)) e.symm), fun i t hi ht => ?_⟩
  · rcases hu with hu | rfl
    · exact .one (.inl hu)
    · exact .eqm (.add (-w) (.inl ho) (.one (.inr rfl))) e2.symm
  · rw [e t]
    show (w * one.getD t 0 + ms.getD t 0) % p = 0
    rcases Nat.lt_or_ge i j with q | q
    · have tl : ∃ r2, ts[i]? = some r2 := by
        have := (List.getElem?_eq_some_iff.mp ht).1
        exact ⟨_, List.getElem?_eq_getElem (show i < ts.length by omega)⟩
      obtain ⟨r2, hr2⟩ := tl
      have ne : t ≠ s := fun z => by
        subst z
        have nd := R.nd
        rw [fam_spots ln] at nd
        have a1 := List.getElem?_eq_some_iff.mp ht
        have a2 := List.getElem?_eq_some_iff.mp h1
        exact List.pairwise_iff_getElem.mp nd i j a1.1 a2.1 q (by rw [a1.2, a2.2])
      have o : co one t % p = 0 := R.own _ (fam_mem ht hr2) _ m ne
      rw [Int.add_emod, Int.mul_emod, o, L.z i t q ht, Int.mul_zero, Int.zero_emod, Int.add_zero, Int.zero_emod]
    · have : i = j := by omega
      subst this
      rw [h1] at ht
      cases ht
      have o : one.getD s 0 % p = 1 % p := R.one _ m
      rw [Int.add_emod, Int.mul_emod, o, ← Int.mul_emod, Int.mul_one, ← Int.add_emod]
      exact hw
def spSumL : Sp := fun vs H Q _ => ∃ (a b : Addr) (xs ys : List Int) (n : Nat) (w p : Int), vs = [.ref a, .ref b, .int w, .int p] ∧ H a = some (.tup (xs.map V.int)) ∧ H b = some (.tup (ys.map V.int)) ∧ Rw p n xs ∧ Rw p n ys ∧ n ≤ 24 ∧ 0 ≤ w ∧ w ≤ 1000 ∧ Pm p ∧
  ∀ (v : Addr) (ms : List Int) (H' : Hp), Same H H' → H' v = some (.tup (ms.map V.int)) → Rw p n ms → Xp.Eqm p (co ms) (Xp.ad (Xp.sc w (co ys)) (co xs)) → Q (.ref v) H'
def spLowered : Sp := fun vs H Q _ => ∃ (a R : Addr) (xs : List Int) (ls : List Addr) (ts : List (List Int)) (sp : List Nat) (n : Nat) (p : Int), vs = [.ref a, .ref R, .int p] ∧ H a = some (.tup (xs.map V.int)) ∧ H R = some (.lst (ls.map V.ref)) ∧ Rws H ls ts ∧ Rw p n xs ∧ (∀ r ∈ ts, Rw p n r) ∧ n ≤ 24 ∧ Pm p ∧ Xp.Red p (fam sp ts) ∧ sp.length = ts.length ∧ (∀ s ∈ sp, s < n) ∧
  ∀ (v : Addr) (ms : List Int) (H' : Hp), Same H H' → H' v = some (.tup (ms.map V.int)) → Rw p n ms → Low p sp ts ts.length xs ms → Q (.ref v) H'
section
variable {P : Program} {w : World} {K : PySem.W.Frag} {mg : Str → Option Value} {base : Heap}
abbrev s_law_sum : Stmt := topS 52
theorem sc_law_sum : FnScope (["_law_one", "_law_other", "_law_weight", "_law_p", "_law_a", "_law_b"] : List Str) ["_law_one", "_law_other", "_law_weight", "_law_p"] (defScope s_law_sum) := ⟨rfl, rfl, rfl, by decide +kernel, rfl, by decide +kernel, by decide +kernel⟩
theorem ok_law_sum {f : Addr} {fd : FuncData} (F : FunD K "_law_sum" "_law_sum" (defArgs s_law_sum) (defBody s_law_sum) (defScope s_law_sum) [] [] f fd) (T : Fre mg) : FnOk P w K mg base CX0 1 f fd ["_law_one", "_law_other", "_law_weight", "_law_p"] spSumL := by
  refine F.ok sc_law_sum (fun vs H Q E h => ?_) (fun cdv A outer s H vs Q E hr h => ?_)
  · obtain ⟨a, b, xs, ys, n, w, p, rfl, _⟩ := h
    rfl
  · obtain ⟨r, h, rr, hh, n, w, p, rfl, er, eh, wr, wh, hn, w0, w1, hp, k⟩ := h
    have lo := hp.lo
    have hi := hp.hi
    have nz : p ≠ 0 := by omega
    have l1 := wr.len
    have l2 := wh.len
    refine ⟨_, PSs.nox (pss_one (ps_ret (pe_callTy call_tuple_of (by rfl) T.f_tuple (by decide +kernel) (pa_cons (pe_lc (own := [("_law_a", 4), ("_law_b", 5)]) (g := (gTup K 2 (gCons (gName 4) (gCons (gName 5) gNil)))) rfl sc_law_sum.nd (RZ.pi_zipA (by rfl) T.f_zip (pa_cons (pv 0) (pa_cons (pv 1) pa_nil))) (blkOk_by (own := [("_law_a", 4), ("_law_b", 5)]) (N := ["_law_one", "_law_other", "_law_weight", "_law_p", "_law_a", "_law_b"]) (sc := defScope s_law_sum) (by decide +kernel)) (fun _ _ _ _ _ => pg_tup rfl (pgs_cons (pg_name (i := 4) sc_law_sum.nd rfl (Or.inl rfl) (Or.inr rfl)) (pgs_cons (pg_name (i := 5) sc_law_sum.nd rfl (Or.inl rfl) (Or.inr rfl)) pgs_nil))) (fun _ _ _ _ _ => pts_nil) (fun _ _ _ _ _ => (pe_op op_modN (pe_op op_add (pv 4) (pe_op op_mul (pv 2) (pv 5))) (pv 3)))) pa_nil)))) , ?_⟩
    refine ⟨_, rfl, _, rfl, r, h, _, _, rfl, .inr ⟨sqD er, sqD eh, fun D hD => ?_⟩⟩
    refine lc_it (walk_zipT (xs := rr.map V.int) (ys := hh.map V.int) (by rw [List.length_map, List.length_map]; omega)) (fun i H1 => Same H H1 ∧ ∃ ms : List Int, H1 D = some (.lst (ms.map V.int)) ∧ ms.length = i ∧ ∀ j, j < i → ms.getD j 0 = (rr.getD j 0 + w * hh.getD j 0).fmod p)
      ⟨same_upd hD, [], upd_same, rfl, fun j hj => absurd hj (Nat.not_lt_zero j)⟩ (fun i H1 _ h => ⟨sqD (h.1 _ _ er), sqD (h.1 _ _ eh)⟩) ?_ ?_
    · rintro i x H1 H2 hi2 ⟨s3, ms, e3, l3, c3⟩ ⟨Tp, x1, y1, rfl, hTp, rfl, g1, g2⟩
      rw [List.length_map] at hi2
      have h1 := (map_at rr i (by omega)).symm.trans g1
      have h2 := (map_at hh i (by omega)).symm.trans g2
      cases h1
      cases h2
      obtain ⟨b0, b1⟩ := wh.rs i
      have s4 := s3.trans (same_upd (o := .tup [.int (rr.getD i 0), .int (hh.getD i 0)]) hTp)
      refine ⟨Tp, _, rfl, .inl (.inl upd_same), rfl, _, _, rfl, _, _, rfl, rfl, rfl, _, rfl, _, rfl, _, rfl, _, _, rfl, rfl, .inl ⟨by omega, by omega⟩, _, _, rfl, rfl, _, rfl, _, _, rfl, rfl, nz, _, by rw [upd_ne (ne_of_none e3 hTp)]; exact e3, ?_, lcs hD s4, ms ++ [(rr.getD i 0 + w * hh.getD i 0).fmod p], ?_, ?_, fun j hj => ?_⟩
      · rw [List.length_map]
        exact small1000 (by omega)
      · rw [upd_same, List.map_append]
        rfl
      · rw [List.length_append, l3]
        rfl
      · rw [getD_app, l3]
        by_cases hj2 : j < i
        · rw [if_pos hj2]
          exact c3 j hj2
        · rw [if_neg hj2, show j = i by omega, if_pos rfl]
    · rintro H1 ⟨s3, ms, e3, l3, c3⟩
      rw [List.length_map] at l3 c3
      refine ⟨D, _, rfl, .inl ⟨SqL.of e3, fun v hv => ?_⟩⟩
      have cf : ∀ j, ms.getD j 0 = (rr.getD j 0 + w * hh.getD j 0).fmod p := fun j => by
        by_cases hj : j < rr.length
        · exact c3 j hj
        · rw [getD_over (by omega), getD_over (a := rr) (by omega), getD_over (a := hh) (by omega), Int.mul_zero, Int.add_zero, Int.zero_fmod]
      refine k v ms _ (s3.trans (same_upd hv)) upd_same ⟨by omega, fm_rs hp cf⟩ fun j => ?_
      show ms.getD j 0 % p = (w * hh.getD j 0 + rr.getD j 0) % p
      rw [cf, fm_em hp.pos, Int.emod_emod, Int.add_comm]
end
end Xk
end
section
set_option Elab.async false
set_option linter.all false
set_option maxRecDepth 100000
set_option maxHeartbeats 4000000
namespace Xk
open PySem PySem.Spec PyProof.Rows L2 Xh LamX NdefX
theorem Fm.init (p : Int) (n : Nat) : Fm p n [] [] [] := ⟨rfl, fun _ h => (nomatch h), ⟨fun _ hx => (nomatch hx), fun _ hx => (nomatch hx), fun _ hx => (nomatch hx), List.nodup_nil⟩, fun _ h => (nomatch h), fun _ h => (nomatch h), fun _ h => (nomatch h)⟩
theorem rset_app {rs : List (List Int)} {r : List Int} {p : Int} {v : Xp.Cf} (h : Xp.Sp p (rset rs) v) : Xp.Sp p (rset (rs ++ [r])) v := h.trans fun u ⟨w, hw, e⟩ => .one ⟨w, List.mem_append_left _ hw, e⟩
theorem Fm.len_le {p : Int} {n : Nat} {rs ts : List (List Int)} {sp : List Nat} (F : Fm p n rs sp ts) : ts.length ≤ n := by
  have nd := F.red.nd
  rw [fam_spots F.len] at nd
  have z := Xp.nodup_len (b := List.range n) nd fun x hx => List.mem_range.mpr (F.lt x hx)
  rw [List.length_range] at z
  have := F.len
  omega
theorem Fm.skip {p : Int} {n : Nat} {rs ts : List (List Int)} {sp : List Nat} {r ms : List Int} (F : Fm p n rs sp ts) (L : Low p sp ts ts.length r ms) (h : ∀ k, co ms k % p = 0) : Fm p n (rs ++ [r]) sp ts :=
  ⟨F.len, F.trw, F.red, F.lt, fun q hq => by
    rcases List.mem_append.mp hq with hq | hq
    · exact F.up q hq
    · rw [List.mem_singleton.mp hq]
      refine L.up.trans fun u hu => ?_
      rcases hu with hu | rfl
      · exact .one hu
      · exact .eqm .nul fun k => by
          rw [h k]
          exact Int.zero_emod p, fun q hq => rset_app (F.dn q hq)⟩
theorem Fm.step {p : Int} {n c : Nat} {q : Int} {rs ts ts' : List (List Int)} {sp : List Nat} {r ms hs : List Int} (F : Fm p n rs sp ts) (L : Low p sp ts ts.length r ms) (hw : Rw p n hs) (he : Xp.Eqm p (co hs) (Xp.sc q (co ms))) (h1 : co hs c % p = 1 % p) (hp : 2 ≤ p) (hc : c < n) (hz0 : ∀ k, k < c → co ms k = 0) (C : Clr p n c hs ts ts') : Fm p n (rs ++ [r]) (sp ++ [c]) (ts' ++ [hs]) := by
  have hz : ∀ k, k < c → co hs k % p = 0 := fun k hk => by
    rw [he k]
    show (q * co ms k) % p = 0
    rw [hz0 k hk, Int.mul_zero, Int.zero_emod]
  have hsp : ∀ t, t ∈ sp → co hs t % p = 0 := fun t ht => by
    obtain ⟨i, hi⟩ := List.mem_iff_getElem?.mp ht
    have il := (List.getElem?_eq_some_iff.mp hi).1
    have z := L.z i t (by rw [← F.len]; exact il) hi
    rw [he t]
    show (q * co ms t) % p = 0
    rw [Int.mul_emod, z, Int.mul_zero, Int.zero_emod]
  have one0 : (1 : Int) % p ≠ 0 := by
    rw [Int.emod_eq_of_lt (by decide) (by omega)]
    decide
  have cn : c ∉ sp := fun z => one0 (h1.symm.trans (hsp c z))
  have hlen : (sp ++ [c]).length = (ts' ++ [hs]).length := by rw [List.length_append, List.length_append, C.len, F.len]; rfl
  have mem : ∀ x ∈ fam (sp ++ [c]) (ts' ++ [hs]), (x = (c, co hs)) ∨ ∃ (j : Nat) (t : Nat) (a b : List Int), sp[j]? = some t ∧ ts[j]? = some a ∧ x = (t, co b) ∧ Rw p n b ∧ Xp.Eqm p (co b) (Xp.clr p c (co hs) (co a)) := fun x hx => by
    obtain ⟨j, t, r, h1, h2, rfl⟩ := mem_fam hx
    by_cases hj : j < sp.length
    · rw [List.getElem?_append_left hj] at h1
      have hj2 : j < ts'.length := by rw [C.len, ← F.len]; exact hj
      rw [List.getElem?_append_left hj2] at h2
      have h3 := List.getElem?_eq_getElem (show j < ts.length by rw [← F.len]; exact hj)
      exact .inr ⟨j, t, _, r, h1, h3, rfl, C.at_ j _ r h3 h2⟩
    · left
      have e1 : j = sp.length := by
        rcases Nat.lt_or_ge j (sp.length + 1) with q | q
        · omega
        · rw [List.getElem?_eq_none (by rw [List.length_append]; exact q)] at h1
          cases h1
      subst e1
      rw [List.getElem?_append_right (Nat.le_refl _), Nat.sub_self] at h1
      have e2 : sp.length = ts'.length := by rw [C.len, F.len]
      rw [e2, List.getElem?_append_right (Nat.le_refl _), Nat.sub_self] at h2
      cases h1
      cases h2
      rfl
  have red' : Xp.Red p (fam (sp ++ [c]) (ts' ++ [hs])) := by
    refine ⟨fun x hx => ?_, fun x hx k hk => ?_, fun x hx y hy ne => ?_, ?_⟩
    · rcases mem x hx with rfl | ⟨j, t, a, b, q1, q2, rfl, _, e⟩
      · exact h1
      · show co b t % p = 1 % p
        rw [e t, Xp.clr_keep (hsp t (List.mem_of_getElem? q1))]
        exact F.red.one _ (fam_mem q1 q2)
    · rcases mem x hx with rfl | ⟨j, t, a, b, q1, q2, rfl, _, e⟩
      · exact hz k hk
      · have hk : k < t := hk
        show co b k % p = 0
        have ak := F.red.low _ (fam_mem q1 q2) k hk
        rcases Nat.lt_or_ge c t with q | q
        · have ac : co a c % p = 0 := F.red.low _ (fam_mem q1 q2) c q
          rw [e k, Xp.clr_none ac k]
          exact ak
        · rw [e k, Xp.clr_keep (hz k (by omega))]
          exact ak
    · rcases mem x hx with rfl | ⟨j, t, a, b, q1, q2, rfl, _, e⟩
      · rcases mem y hy with rfl | ⟨j', t', a', b', q1', q2', rfl, _, e'⟩
        · exact absurd rfl ne
        · show co b' c % p = 0
          rw [e' c]
          exact Xp.clr_at h1
      · rcases mem y hy with rfl | ⟨j', t', a', b', q1', q2', rfl, _, e'⟩
        · exact hsp t (List.mem_of_getElem? q1)
        · show co b' t % p = 0
          rw [e' t, Xp.clr_keep (hsp t (List.mem_of_getElem? q1))]
          exact F.red.own _ (fam_mem q1 q2) _ (fam_mem q1' q2') ne
    · rw [fam_spots hlen]
      have nd := F.red.nd
      rw [fam_spots F.len] at nd
      exact List.nodup_append.mpr ⟨nd, by simp, fun a ha b hb e => cn (by rw [List.mem_singleton.mp hb] at e; rw [← e]; exact ha)⟩
  have hh : Xp.rows (fam (sp ++ [c]) (ts' ++ [hs])) (co hs) := fam_row hlen (List.mem_append_right _ (List.mem_singleton.mpr rfl))
  have put : ∀ u, Xp.rows (fam sp ts) u → Xp.Sp p (Xp.rows (fam (sp ++ [c]) (ts' ++ [hs]))) u := fun u hu => by
    obtain ⟨x, hx, rfl⟩ := hu
    obtain ⟨j, t, a, q1, q2, rfl⟩ := mem_fam hx
    obtain ⟨b, hb, _, e⟩ := C.to (List.mem_of_getElem? q2)
    exact .eqm (.add (co a c) hh (.one (fam_row hlen (List.mem_append_left _ hb)))) (Xp.Eqm.trans ((Xp.Eqm.refl p _).ad e) (clr_back (co hs) (co a)).symm)
  have msin : Xp.Sp p (Xp.rows (fam (sp ++ [c]) (ts' ++ [hs]))) (co ms) := by
    refine ((Xp.Sp.one hh).sc (co ms c)).eqm fun k => ?_
    show (co ms c * co hs k) % p = co ms k % p
    have e1 : (q * co ms c) % p = 1 % p := (he c).symm.trans h1
    rw [Int.mul_emod, he k]
    show (co ms c % p * ((q * co ms k) % p)) % p = _
    rw [← Int.mul_emod, show co ms c * (q * co ms k) = q * co ms c * co ms k by rw [← Int.mul_assoc, Int.mul_comm (co ms c)], Int.mul_emod, e1, ← Int.mul_emod, Int.one_mul]
  have msdn : Xp.Sp p (rset (rs ++ [r])) (co ms) := L.dn.trans fun u hu => by
    rcases hu with hu | rfl
    · exact rset_app (F.rows hu)
    · exact .one ⟨r, List.mem_append_right _ (List.mem_singleton.mpr rfl), rfl⟩
  have hsdn : Xp.Sp p (rset (rs ++ [r])) (co hs) := (msdn.sc q).eqm he.symm
  refine ⟨hlen, fun t ht => ?_, red', fun t ht => ?_, fun t ht => ?_, fun t ht => ?_⟩
  · rcases List.mem_append.mp ht with ht | ht
    · obtain ⟨a, _, h, _⟩ := C.of ht
      exact h
    · rw [List.mem_singleton.mp ht]
      exact hw
  · rcases List.mem_append.mp ht with ht | ht
    · exact F.lt t ht
    · rw [List.mem_singleton.mp ht]
      exact hc
  · rcases List.mem_append.mp ht with ht | ht
    · exact (F.up t ht).trans put
    · rw [List.mem_singleton.mp ht]
      refine L.up.trans fun u hu => ?_
      rcases hu with hu | rfl
      · exact put u hu
      · exact msin
  · rcases List.mem_append.mp ht with ht | ht
    · obtain ⟨a, ha, _, e⟩ := C.of ht
      exact ((rset_app (F.dn a ha)).ad (hsdn.sc (-(co a c)))).eqm e.symm
    · rw [List.mem_singleton.mp ht]
      exact hsdn
def spRank : Sp := fun vs H Q _ => ∃ (R : Addr) (la : List Addr) (rs : List (List Int)) (n : Nat) (p : Int), vs = [.ref R, .int n, .int p] ∧ H R = some (.lst (la.map V.ref)) ∧ Rws H la rs ∧ (∀ r ∈ rs, Rw p n r) ∧ n ≤ 24 ∧ p ∈ primes ∧
  ∀ (sp : List Nat) (ts : List (List Int)) (H' : Hp), Same H H' → Fm p n rs sp ts → Q (.int (ts.length : Nat)) H'
theorem dp_lstI {K : PySem.W.Frag} {H : Hp} {a : Addr} {ns : List Int} (h : SqL K H a (ns.map V.int)) : Dp K H (.ref a) (.list (ns.map PyData.int)) := .lst h (dp_ints ns)
theorem shl (ns : List Int) : SeqAt.shaped (.list (ns.map PyData.int)) = true := by
  simp [SeqAt.shaped, PyData.canLay0, PyData.depth, PySem.W.ke_canLayAll0, PySem.W.ke_depthAll]
abbrev nzI (r : List Int) (i : Nat) : List Int := (nzs r i).map fun j => ((j : Nat) : Int)
section
variable {P : Program} {w : World} {K : PySem.W.Frag} {mg : Str → Option Value} {base : Heap}

end
end Xk
end
section
set_option Elab.async false
set_option linter.all false
set_option maxRecDepth 100000
set_option maxHeartbeats 4000000
/-! t * k of a tuple, k from 1: one time is the very tuple -/
namespace Xh
open PySem PySem.Spec PyProof.Rows L2
theorem tup_once (l : Addr) (items : Array Value) (n : Nat) (dd : Option Addr) (sl : Array (Option Value)) (u : Tok) :
    Meets (Builtin.«tuple.__mul__» ⟨[.ref l, .int 1 u], []⟩) (fun _ R s => s.heap.get? l = some { cls := .type "tuple", dict := dd, data := .seq items n, slots := sl } ∧ R (.ok (.ret (.ref l))) s) :=
  .of_wp fun prog w A R s h => by
    obtain ⟨hp, g, d, tk, os⟩ := s
    obtain ⟨hl, h⟩ := h
    have f1 := AutoSeq1.idx_int
    have c0 : (decide ((1 : Int) < -(2 ^ 63)) || decide ((1 : Int) ≥ 2 ^ 63)) = false := by decide
    have c1 : (items.isEmpty || (1 : Int) == 1) = true := by simp
    wp_walk using wpAny_loadPart' hl
    repeat (first
      | (refine wpAny_ite_false (decide_eq_false (by rw [c0]; exact Bool.false_ne_true)) ?_; wp_walk using wpAny_loadPart' hl)
      | (refine wpAny_ite_true (decide_eq_true c1) ?_; wp_walk using wpAny_loadPart' hl))
    exact ⟨_, rfl, h⟩
def rRepP (K : PySem.W.Frag) : R2 := fun x y H Q => ∃ l k xs, x = .ref l ∧ y = .int k ∧ SqT K H l xs ∧ xs ≠ [] ∧ 1 ≤ k ∧ k ≤ 1000 ∧ xs.length ≤ 1000 ∧ (k = 1 → Q (.ref l) H) ∧ (2 ≤ k → ∀ p, H p = none → Q (.ref p) (upd H p (.tup (List.replicate k.toNat xs).flatten)))
theorem op_repP {X : Cx} : OpR X (binaryOp .Mult) (rRepP X.K) := by
  intro pins s σ H x y v u Q I rx ry h
  obtain ⟨l, k, xs, ex, ey, hT, hne, h1, h2, hz, q1, q2⟩ := h
  by_cases hk : k = 1
  · subst hk
    subst ex
    subst ey
    cases rx
    obtain ⟨t, rfl⟩ := ry
    obtain ⟨its, r, ⟨⟨cls, dd, data, sl⟩, ho, hc, n, hd⟩, hs⟩ := I.tuple hT
    simp only at hc hd
    subst hc hd
    exact wpAny_binaryOp_repeat_ref (T := "tuple") (U := "int") (by decide) ⟨_, ho, rfl⟩ (fun s' => typeIs_int s' 1 t) noFill_tuple_mul F.fills_int_mul F.slot_int_rmul repeat_tuple F.slot_int_index.lookup
      (call_meets F.slot_int_rmul (typeIs_int s 1 t) F.entry_int_rmul (F.args_int_rmul_2 _ _) (int_rmul_tuple 1 t l its.toArray n dd sl)
        ⟨ho, rfl, ⟨_, ho, rfl⟩, call_meets F.slot_tuple_mul ⟨_, ho, rfl⟩ F.entry_tuple_mul (F.args_tuple_mul_2 _ _) (tup_once l its.toArray n dd sl t) ⟨ho, ⟨.ref l, H, I, rfl, q1 rfl⟩⟩⟩)
  · exact op_repT pins s σ H x y v u Q I rx ry ⟨l, k, xs, ex, ey, hT, hne, by omega, h2, hz, q2 (by omega)⟩
theorem tup_none (l : Addr) (items : Array Value) (n : Nat) (dd : Option Addr) (sl : Array (Option Value)) (x : Int) (u : Tok) (h0 : x ≤ 0) (h1 : -1000 ≤ x) (ne : items.isEmpty = false) :
    Meets (Builtin.«tuple.__mul__» ⟨[.ref l, .int x u], []⟩) (fun _ R s => s.heap.get? l = some { cls := .type "tuple", dict := dd, data := .seq items n, slots := sl } ∧ R (.ok (.ret (.ref s.heap.objs.size))) { s with heap := s.heap.push { cls := Value.type "tuple", data := Data.seq #[] }, toks := s.toks }) :=
  .of_wp fun prog w A R s h => by
    obtain ⟨hp, g, d, tk, os⟩ := s
    obtain ⟨hl, h⟩ := h
    have f1 := AutoSeq1.idx_int
    have c0 : (decide (x < -(2 ^ 63)) || decide (x ≥ 2 ^ 63)) = false := by rw [decide_eq_false (by omega), decide_eq_false (by omega)]; rfl
    have c1 : (items.isEmpty || x == 1) = false := by rw [ne, Bool.false_or]; exact beq_eq_false_iff_ne.mpr (by omega)
    have c2 : (decide (x ≤ 0) || items.isEmpty) = true := by rw [decide_eq_true h0]; rfl
    wp_walk using wpAny_loadPart' hl
    repeat (first
      | (refine wpAny_ite_false (decide_eq_false (by rw [c0]; exact Bool.false_ne_true)) ?_; wp_walk using wpAny_loadPart' hl)
      | (refine wpAny_ite_false (decide_eq_false (by rw [c1]; exact Bool.false_ne_true)) ?_; wp_walk using wpAny_loadPart' hl)
      | (refine wpAny_ite_true (decide_eq_true c2) ?_; wp_walk using wpAny_loadPart' hl))
    exact ⟨_, rfl, h⟩
def rRepZ (K : PySem.W.Frag) : R2 := fun x y H Q => ∃ l k xs, x = .ref l ∧ y = .int k ∧ SqT K H l xs ∧ xs ≠ [] ∧ -1000 ≤ k ∧ k ≤ 1000 ∧ xs.length ≤ 1000 ∧ (k = 1 → Q (.ref l) H) ∧ (k ≠ 1 → ∀ p, H p = none → Q (.ref p) (upd H p (.tup (List.replicate k.toNat xs).flatten)))
/-- t * k, any k -/
theorem op_repZ {X : Cx} : OpR X (binaryOp .Mult) (rRepZ X.K) := by
  intro pins s σ H x y v u Q I rx ry h
  obtain ⟨l, k, xs, ex, ey, hT, hne, h1, h2, hz, q1, q2⟩ := h
  by_cases hk : k ≤ 0
  · have q := q2 (by omega)
    rw [show k.toNat = 0 by omega] at q
    subst ex
    subst ey
    cases rx
    obtain ⟨t, rfl⟩ := ry
    obtain ⟨its, r, ⟨⟨cls, dd, data, sl⟩, ho, hc, n, hd⟩, hs⟩ := I.tuple hT
    simp only at hc hd
    subst hc hd
    have hi : its.toArray.isEmpty = false := by
      cases its with
      | nil =>
        have := r.length
        exact absurd (List.eq_nil_of_length_eq_zero this) hne
      | cons a b => rfl
    refine wpAny_binaryOp_repeat_ref (T := "tuple") (U := "int") (by decide) ⟨_, ho, rfl⟩ (fun s' => typeIs_int s' k t) noFill_tuple_mul F.fills_int_mul F.slot_int_rmul repeat_tuple F.slot_int_index.lookup
      (call_meets F.slot_int_rmul (typeIs_int s k t) F.entry_int_rmul (F.args_int_rmul_2 _ _) (int_rmul_tuple k t l its.toArray n dd sl)
        ⟨ho, rfl, ⟨_, ho, rfl⟩, call_meets F.slot_tuple_mul ⟨_, ho, rfl⟩ F.entry_tuple_mul (F.args_tuple_mul_2 _ _) (tup_none l its.toArray n dd sl k t hk h1 hi) ⟨ho, ?_⟩⟩)
    refine ⟨.ref s.heap.objs.size, _, I.laid (t' := s.toks) (o := .tup []) (fun b ob q => Heap.get?_push_of_some _ q) (Nat.le_refl _) ?_, rfl, q _ (I.hok.fresh (Nat.le_refl _))⟩
    exact ⟨Nat.zero_le _, _, .nil, IsTup.new _ _⟩
  · exact op_repP pins s σ H x y v u Q I rx ry ⟨l, k, xs, ex, ey, hT, hne, by omega, h2, hz, q1, fun h => q2 (by omega)⟩
end Xh
end
section
set_option Elab.async false
set_option linter.all false
set_option maxRecDepth 100000
set_option maxHeartbeats 4000000
/-! set(xs) of a list of whole numbers; any(t) of a tuple of them -/
namespace Xh
open PySem PySem.Spec PyProof.Rows L2
section
variable {P : Program} {w : World} {A : Around} {E : Value → Shared → Prop} {s : Shared}
/-- the new empty set -/
abbrev newSet (w : World) : Obj := { cls := .type "set", dict := none, data := .set #[] 0 (.fresh 0 0 (!w.params.followText "set-order")) }
/-- set(x): what is wanted of filling it -/
theorem call_set_then {x : Value} {Q : Value → Shared → Prop}
    (h : wpAny (model P w) A.in1.in1 (Builtin.«set.__init__» ⟨[.ref s.heap.objs.size, x], []⟩)
      (fun fin s' => match fin with | .done f => wants (fun r s₂ => r = .none ∧ Q (.ref s.heap.objs.size) s₂) E (.ok f) s' | .again c' => c'.quiet = true ∧ codeAny (model P w) A.in1 c' (wants (fun r s₂ => r = .none ∧ Q (.ref s.heap.objs.size) s₂) E) s')
      (fun e s' => wants (fun r s₂ => r = .none ∧ Q (.ref s.heap.objs.size) s₂) E (.error e) s') { s with heap := s.heap.push (newSet w) }) :
    wpAny (model P w) A (call (.type "set") [x]) Q E s := by
  have ft := PySem.F.called_set
  obtain ⟨c, tl, hmro⟩ := ft.mro
  have hmade := ft.made
  have hsub := ft.sub
  have h1 := ft.notType
  have h2 := ft.canCreate
  have hct := PySem.F.typeCall_set_1 x
  have hS : (s.heap.push (newSet w)).get? s.heap.objs.size = some (newSet w) := Heap.get?_push_size _ rfl
  have hT : Shared.TypeIs { s with heap := s.heap.push (newSet w) } (.ref s.heap.objs.size) "set" := ⟨_, hS, rfl⟩
  refine wpAny_call (codeAny_of_tree ?_)
  show wpAny _ _ (callAny (.type "set") _) _ _ _
  refine wpAny_pure ⟨Code.quiet_builtin _ (by decide +kernel), codeAny_builtin PySem.F.entry_type_call ?_⟩
  rw [Around.under_plain (weight_type_call_type "set" [x] []) rfl]
  repeat (any_goals (first | assumption | wp_step))
  refine codeAny_mono (code_set_led1 x (E := E) (Q₁ := fun o t => o = .ref s.heap.objs.size ∧ t = { s with heap := s.heap.push (newSet w) }) ⟨rfl, rfl⟩) fun r t hr => ?_
  match r, hr with
  | .error e, hr => exact hr
  | .ok .next, hr => exact hr.elim
  | .ok .brk, hr => exact hr.elim
  | .ok .cont, hr => exact hr.elim
  | .ok (.ret o), hr =>
    obtain ⟨rfl, rfl⟩ := hr
    have hli := ft.init.lookup
    have hbi := ft.init.bind (.ref s.heap.objs.size)
    repeat (any_goals (first | assumption | wp_step))
    refine codeAny_mono (codeAny_call_builtin ft.init.plain PySem.F.entry_set_init (check_set_init_1 hT h)) fun r₂ t₂ hr₂ => ?_
    match r₂, hr₂ with
    | .error e, hr₂ => exact hr₂
    | .ok .next, hr₂ => exact hr₂.elim
    | .ok .brk, hr₂ => exact hr₂.elim
    | .ok .cont, hr₂ => exact hr₂.elim
    | .ok (.ret r), hr₂ =>
      obtain ⟨rfl, hq⟩ := hr₂
      repeat (any_goals (first | assumption | wp_step))
/-- set(l), l a list of whole numbers -/
theorem call_set_lstI {l : Addr} {items : Array Value} (ns : List Int) {Q : Value → Shared → Prop} (hh : A.handled = none) (hl : s.heap.IsList l items) (hit : IntsAre items.toList ns) (hb : ns.length + 1 < scanBound)
    (h : ∀ (h' : Heap) (tk c : Nat), SetR w h' s.heap.objs.size (fun j => decide (j ∈ ns)) c → c ≤ ns.length → (∀ b o, s.heap.get? b = some o → h'.get? b = some o) → Q (.ref s.heap.objs.size) { s with heap := h', toks := tk }) :
    wpAny (model P w) A (call (.type "set") [.ref l]) Q E s := by
  have z : items.size = ns.length := by
    have q := IntsAre.length hit
    rwa [Array.length_toList] at q
  refine call_set_then ?_
  have hS : (s.heap.push (newSet w)).get? s.heap.objs.size = some { cls := .type "set", dict := none, data := .set #[] 0 (.fresh 0 0 (!w.params.followText "set-order")) } := Heap.get?_push_size _ rfl
  have hT : Shared.TypeIs { s with heap := s.heap.push (newSet w) } (.ref s.heap.objs.size) "set" := ⟨_, hS, rfl⟩
  generalize hN : newSet w = N at hS hT ⊢
  obtain ⟨ol, hol, hcl, nl, hdl⟩ := hl
  obtain ⟨ocls, odict, odata, oslots⟩ := ol
  simp only at hcl hdl
  subst hcl
  subst hdl
  have f0 : (s.heap.push N).get? l = some { cls := .type "list", dict := odict, data := .seq items nl, slots := oslots } := Heap.get?_push_of_some _ hol
  have f1 : (s.heap.push N).IsList l items := ⟨_, f0, rfl, nl, rfl⟩
  have hsls := PySem.F.sub_list_set
  have hslf := PySem.F.sub_list_frozenset
  have hne : (Value.type "list" == Value.type "dict") = false := by decide
  unfold Builtin.«set.__init__» noKeywords Builtin.Frozenset.updateFrom
  generalize hPI : pyIter = PI
  wp_walk
  subst hPI
  refine wpAny_pyIter_list f1 ?_
  refine wpAny_bind (wpAny_runValue ?_)
  have ls : l < s.heap.objs.size := Heap.lt_size hol
  have zs : (s.heap.push N).objs.size = s.heap.objs.size + 1 := Heap.size_push ..
  have li : l ≠ (s.heap.push N).objs.size := by rw [zs]; exact Nat.ne_of_lt (Nat.lt_succ_of_lt ls)
  have off : s.heap.objs.size ∉ [(s.heap.push N).objs.size, l] := by
    rw [zs]
    intro m
    rcases List.mem_cons.mp m with e | m
    · exact absurd e (Nat.ne_of_lt (Nat.lt_succ_self _))
    · exact absurd (List.mem_singleton.mp m) (Nat.ne_of_gt ls)
  have val : ∀ (i : Nat) (v : Value), items[i]? = some v → ∃ k t, ns[i]? = some k ∧ v = .int k t := fun i v hv => by
    obtain ⟨t, e⟩ := PyProof.Rows.IntsAre.int_at hit i v (by rw [Array.getElem?_toList]; exact hv)
    have lt : i < ns.length := by rw [← z]; exact (Array.getElem?_eq_some_iff.mp hv).1
    exact ⟨_, t, List.getElem?_eq_getElem lt, by rw [e, List.getD_eq_getElem?_getD, List.getElem?_eq_getElem lt]; rfl⟩
  have hh3 : A.in1.in1.in1.handled = none := by simp [hh]
  refine set_update_ints ((Walks.list hh3 _ l li items).toS) s.heap.objs.size off ns z hb val (items.size - 0) 0 _ (by omega) (Nat.zero_le _) ⟨⟨_, Heap.get?_push_size _ rfl, rfl, rfl⟩, f1.push _⟩ ⟨0, Nat.le_refl 0, setR_new_at ?_⟩ fun t c hm hc hS => ?_
  · exact Heap.get?_push_of_some _ hS
  · obtain ⟨h', g, d, tk, os⟩ := t
    obtain rfl : g = s.gens := hm.gens
    obtain rfl : d = s.drawn := hm.drawn
    obtain rfl : os = s.os := hm.os
    show wpAny _ _ _ _ _ _
    refine wpAny_pure ?_
    show wpAny _ _ (ret Value.none) _ _ _
    rw [z] at hc
    refine wpAny_pure ⟨rfl, h h' tk c hS hc fun b o e => hm.heap b o (fun m => ?_) (Heap.get?_push_of_some _ (Heap.get?_push_of_some _ e))⟩
    have lt : b < s.heap.objs.size := Heap.lt_size e
    rcases List.mem_cons.mp m with q | m
    · exact absurd q (Nat.ne_of_lt lt)
    · have q := List.mem_singleton.mp m
      rw [zs] at q
      exact absurd q (Nat.ne_of_lt (Nat.lt_succ_of_lt lt))
end
section
variable {X : Cx}
theorem valsI : ∀ {ns : List Int} {us : List Value}, Vals (ns.map V.int) us → IntsAre us ns
  | [], _, .nil => .nil
  | n :: ns, _, .cons r t => by
    obtain ⟨k, rfl⟩ := r
    exact .cons n k (valsI t)
def rSetLI (K : PySem.W.Frag) (w : World) : List V → Hp → VK → Prop := fun vs H Q => ∃ (l : Addr) (ns : List Int), vs = [.ref l] ∧ SqL K H l (ns.map V.int) ∧ ns.length < 64 ∧
  ∀ (p : Addr) (c : Nat), H p = none → c ≤ ns.length → Q (.ref p) (upd H p (SetO w p (fun j => decide (j ∈ ns)) c))
theorem call_setLI (hc : X.calm = true) : CallR X (.type "set") (rSetLI X.K X.w) := by
  intro pins s σ H vs us Q I r h
  obtain ⟨l, ns, rfl, hq, hn, q⟩ := h
  obtain ⟨its, rv, pl, _⟩ := I.list hq
  rw [Vals.ref1 r]
  refine call_set_lstI ns (I.ok.hd hc) pl.isList (by simpa using valsI rv) (by unfold scanBound; omega) fun h' tk c R1 hcn k => ?_
  have I1 : Inv X pins σ H { s with toks := tk } := I.tok _
  exact ⟨.ref _, _, I1.laid (t' := tk) k (Nat.le_refl _) (setO_new R1), rfl, q _ c (I.hok.fresh (Nat.le_refl _)) hcn⟩
/-- any(t), t a tuple of whole numbers -/
def rAnyTI (K : PySem.W.Frag) : List V → Hp → VK → Prop := fun vs H Q => ∃ (a : Addr) (ns : List Int), vs = [V.ref a] ∧ SqT K H a (ns.map V.int) ∧ Q (.bl (ns.any (· != 0))) H
theorem any_rangeI : ∀ ns : List Int, (List.range ns.length).any (fun i => ns.getD i 0 != 0) = ns.any (· != 0)
  | [] => rfl
  | n :: ns => by
    rw [List.length_cons, List.range_succ_eq_map, List.any_cons, List.any_map, List.any_cons, ← any_rangeI ns]
    rfl
theorem call_anyTI (hc : X.calm = true) : CallR X (.builtin "any") (rAnyTI X.K) := by
  intro pins s σ H vs us Q I r h
  obtain ⟨a, ns, rfl, hs, q⟩ := h
  obtain ⟨its, rv, pt, _⟩ := I.tuple hs
  rw [Vals.ref1 r]
  have hi := valsI rv
  have al : a < s.heap.objs.size := by
    obtain ⟨o, e, _⟩ := pt
    exact Heap.lt_size e
  have zs : its.toArray.size = ns.length := by rw [List.size_toArray]; exact IntsAre.length hi
  refine call_any_walk (wpAny_pyIter_tuple pt ⟨_, _, _, _, _, _, (fun i => ns.getD i 0 != 0), rfl, Walks.tuple (A := X.A.in1) (I.ok.hd hc) _ a (Nat.ne_of_lt al) its.toArray, ⟨⟨_, Heap.get?_push_size _ rfl, rfl, rfl⟩, ⟨_, Heap.get?_push_of_some _ (pt.choose_spec.1), pt.choose_spec.2⟩⟩, fun i v t Q' E' hv hq => ?_, fun h' tk hk => ?_⟩)
  · obtain ⟨t', rfl⟩ := PyProof.Rows.IntsAre.int_at hi i v (by simpa using hv)
    exact truthy_int hq
  · rw [zs, any_rangeI]
    refine ⟨.bl _, H, I.kept (t' := tk) fun b o eo => hk b o (fun m => ?_) (Heap.get?_push_of_some _ eo), rfl, q⟩
    exact absurd (List.mem_singleton.mp m) (Nat.ne_of_lt (Heap.lt_size eo))
end
end Xh
end
section
set_option Elab.async false
set_option linter.all false
set_option maxRecDepth 100000
set_option maxHeartbeats 4000000
namespace Xk
open PySem PySem.Spec PyProof.Rows L2 Xh LamX NdefX
/-! ### rows weighed, tables drawn -/
/-- rows, each by its weight, put together -/
def wgt : List (List Int) → List Int → Xp.Cf
  | r :: rs, w :: ws => Xp.ad (Xp.sc w (co r)) (wgt rs ws)
  | _, _ => Xp.nul
theorem wgt_snoc : ∀ {rs : List (List Int)} {ws : List Int}, rs.length = ws.length → ∀ (r : List Int) (w : Int), wgt (rs ++ [r]) (ws ++ [w]) = Xp.ad (wgt rs ws) (Xp.sc w (co r))
  | [], [], _, r, w => Xp.adC _ _
  | a :: rs, b :: ws, h, r, w => by
    show Xp.ad (Xp.sc b (co a)) (wgt (rs ++ [r]) (ws ++ [w])) = Xp.ad (Xp.ad (Xp.sc b (co a)) (wgt rs ws)) (Xp.sc w (co r))
    rw [wgt_snoc (Nat.succ.inj h), Xp.adA]
  | [], _ :: _, h, _, _ => by cases h
  | _ :: _, [], h, _, _ => by cases h
def spWeighed : Sp := fun vs H Q _ => ∃ (R W : Addr) (la : List Addr) (rs : List (List Int)) (ws : List Int) (n : Nat) (p : Int), vs = [.ref R, .ref W, .int n, .int p] ∧ H R = some (.lst (la.map V.ref)) ∧ Rws H la rs ∧ (∀ r ∈ rs, Rw p n r) ∧ H W = some (.lst (ws.map V.int)) ∧ ws.length = rs.length ∧ Rs p ws ∧ 1 ≤ n ∧ n ≤ 24 ∧ Pm p ∧
  ∀ (v : Addr) (ms : List Int) (H' : Hp), Same H H' → H' v = some (.tup (ms.map V.int)) → Rw p n ms → Xp.Eqm p (co ms) (wgt rs ws) → Q (.ref v) H'
def spAllR (K : PySem.W.Frag) : Sp := fun vs H Q _ => ∃ (a : Addr) (ns : List Int) (p : Int), vs = [.ref a, .int p] ∧ SqT K H a (ns.map V.int) ∧ ns.length ≤ 100 ∧ Rs p ns ∧ ∀ H', Same H H' → Q (.bl true) H'
theorem getD_rep0 (n j : Nat) : (List.replicate n (0 : Int)).getD j 0 = 0 := getD_rep n j
theorem Rw.nought {p : Int} (hp : Pm p) (n : Nat) : Rw p n (List.replicate n 0) := ⟨List.length_replicate, fun j => by
  rw [getD_rep]
  exact ⟨Int.le_refl _, hp.pos⟩⟩
section
variable {P : Program} {w : World} {K : PySem.W.Frag} {mg : Str → Option Value} {base : Heap}
abbrev s_law_weighed : Stmt := topS 54
theorem sc_law_weighed : FnScope (["_law_rows", "_law_weights", "_law_width", "_law_p", "_law_found", "_law_row", "_law_weight"] : List Str) ["_law_rows", "_law_weights", "_law_width", "_law_p"] (defScope s_law_weighed) := ⟨rfl, rfl, rfl, by decide +kernel, rfl, by decide +kernel, by decide +kernel⟩
theorem ok_law_weighed {f : Addr} {fd : FuncData} (F : FunD K "_law_weighed" "_law_weighed" (defArgs s_law_weighed) (defBody s_law_weighed) (defScope s_law_weighed) [] [] f fd) (T : Fre mg) (o_law_sum : Own P w K mg base CX0 1 "_law_sum" ["_law_one", "_law_other", "_law_weight", "_law_p"] [] spSumL) : FnOk P w K mg base CX0 2 f fd ["_law_rows", "_law_weights", "_law_width", "_law_p"] spWeighed := by
  refine F.ok sc_law_weighed (fun vs H Q E h => ?_) (fun cdv A outer s H vs Q E hr h => ?_)
  · obtain ⟨R, W, la, rs, ws, n, p, rfl, _⟩ := h
    rfl
  · obtain ⟨R, W, la, rs, ws, n, p, rfl, eR, hR, hrw, eW, lws, rW, n1, n24, hp, k⟩ := h
    have lo := hp.lo
    have hi := hp.hi
    have lla := hR.len
    refine ⟨_, PSs.nox (C8.pss_cut (ps_set (i := 4) sc_law_weighed.nd rfl (Or.inl rfl) (pe_op op_repZ (pe_tup (pa_cons pe_int pa_nil)) (pv 2)))
      (pss_cons (ps_for PassesOwn.never rfl (pi_zip (by rfl) T.f_zip (pa_cons (pv 0) (pa_cons (pv 1) pa_nil))) (pg_tup rfl (pgs_cons (pg_name (i := 5) sc_law_weighed.nd rfl (Or.inl rfl)) (pgs_cons (pg_name (i := 6) sc_law_weighed.nd rfl (Or.inl rfl)) pgs_nil))) (pss_one (ps_set (i := 4) sc_law_weighed.nd rfl (Or.inl rfl) (pe_own o_law_sum (hr.mono (by decide)) rfl pass0 (pa_cons (pv 4) (pa_cons (pv 5) (pa_cons (pv 6) (pa_cons (pv 3) pa_nil))))))))
      (pss_one (ps_ret (pv 4))))) , ?_⟩
    refine ⟨fun σ' H' => ∃ v, σ' = [some (.ref R), some (.ref W), some (.int n), some (.int p), some (.ref v), none, none] ∧ Same H H' ∧ H' v = some (.tup ((List.replicate n (0 : Int)).map V.int)), ?_, ?_⟩
    · refine ⟨(by show 1 ≤ sizeLine; decide), fun Z hZ => ⟨_, rfl, Z, (n : Int), [.int 0], rfl, rfl, SqT.of upd_same, by simp, by omega, by omega, by decide, fun h => ?_, fun h v hv => ?_⟩⟩
      · have : n = 1 := by omega
        subst this
        exact ⟨Z, rfl, same_upd hZ, upd_same⟩
      · refine ⟨v, rfl, (same_upd hZ).trans (same_upd hv), ?_⟩
        rw [upd_same, Int.toNat_natCast, rep_zero]
    rintro σ1 H1 ⟨v, rfl, s1, ev⟩
    refine ⟨_, rfl, _, rfl, R, W, _, _, rfl, SqL.of (s1 _ _ eR), SqL.of (s1 _ _ eW), ?_⟩
    refine for_it (walk_zip (n := rs.length) (xs := la.map V.ref) (ys := ws.map V.int) (by rw [List.length_map, List.length_map]; omega)) (fun i σ' H2 => ∃ (v : Addr) (ms : List Int) (x5 x6 : Option V), σ' = [some (.ref R), some (.ref W), some (.int n), some (.int p), some (.ref v), x5, x6] ∧ Same H H2 ∧ H2 v = some (.tup (ms.map V.int)) ∧ Rw p n ms ∧ Xp.Eqm p (co ms) (wgt (rs.take i) (ws.take i))) ⟨v, _, none, none, rfl, s1, ev, Rw.nought hp n, fun k => by show (List.replicate n (0 : Int)).getD k 0 % p = _; rw [getD_rep]; rfl⟩ (fun i σ' H2 _ ⟨_, _, _, _, _, s2, _⟩ => ⟨SqL.of (s2 _ _ eR), SqL.of (s2 _ _ eW)⟩) ?_ ?_
    · rintro i x σ' H2 H3 hi2 ⟨v, ms, x5, x6, rfl, s2, ev, wm, em⟩ ⟨Tp, x1, y1, rfl, hTp, rfl, g1, g2⟩
      have s3 := s2.trans (same_upd (o := .tup [x1, y1]) hTp)
      obtain ⟨l, r, rfl, hr, er⟩ := (hR.keep (kpS s3)).at g1
      have g3 := (map_at ws i (by omega)).symm.trans g2
      cases g3
      obtain ⟨w0, w1⟩ := rW i
      have ev3 := same_upd (o := .tup [.ref l, .int (ws.getD i 0)]) hTp _ _ ev
      refine ⟨Tp, _, rfl, .inl (.inl upd_same), rfl, _, _, rfl, _, _, rfl, rfl, _, rfl, _, rfl, _, rfl, _, rfl, v, l, ms, r, n, ws.getD i 0, p, rfl, ev3, er, wm, hrw r (List.mem_of_getElem? hr), n24, w0, by omega, hp, fun v' ms' H4 s4 e4 wm' em' => ?_⟩
      refine ⟨v', ms', _, _, rfl, s3.trans s4, e4, wm', em'.trans ?_⟩
      have wl : ws[i]? = some (ws.getD i 0) := by
        rw [List.getD_eq_getElem?_getD, List.getElem?_eq_getElem (show i < ws.length by omega)]
        rfl
      rw [List.take_succ, List.take_succ, hr, wl]
      show Xp.Eqm p _ (wgt (rs.take i ++ [r]) (ws.take i ++ [ws.getD i 0]))
      rw [wgt_snoc (by rw [List.length_take, List.length_take]; omega), Xp.adC]
      exact em.ad (Xp.Eqm.refl p _)
    · rintro σ' H2 ⟨v, ms, x5, x6, rfl, s2, ev, wm, em⟩
      rw [List.take_length, ← lws, List.take_length] at em
      exact ⟨_, rfl, k v ms H2 s2 ev wm em⟩
abbrev s_law_all_rests : Stmt := topS 56
theorem sc_law_all_rests : FnScope (["_law_rows", "_law_p", "_law_number"] : List Str) ["_law_rows", "_law_p"] (defScope s_law_all_rests) := ⟨rfl, rfl, rfl, by decide +kernel, rfl, by decide +kernel, by decide +kernel⟩
theorem ok_law_all_rests {f : Addr} {fd : FuncData} (F : FunD K "_law_all_rests" "_law_all_rests" (defArgs s_law_all_rests) (defBody s_law_all_rests) (defScope s_law_all_rests) [] [] f fd) (T : Fre mg) : FnOk P w K mg base CX0 1 f fd ["_law_rows", "_law_p"] (spAllR K) := by
  refine F.ok sc_law_all_rests (fun vs H Q E h => ?_) (fun cdv A outer s H vs Q E hr h => ?_)
  · obtain ⟨a, ns, p, rfl, _⟩ := h
    rfl
  · obtain ⟨a, ns, p, rfl, hS, hl, hR, k⟩ := h
    refine ⟨_, PSs.nox (pss_one (ps_ret (pe_callB (cr_all rfl) (by rfl) T.f_all (by decide +kernel) (pa_cons (pe_lc (own := [("_law_number", 2)]) (te := (tAndV (tCB (rIsi K) (tCons (tVar 2) (tCons (tC (.ty "int")) tNil))) (tAndV (tNotV (tCB (rIsi K) (tCons (tVar 2) (tCons (tC (.ty "bool")) tNil)))) (tChain _ _ (tC (.int 0)) (tVar 2) (tVar 1))))) rfl sc_law_all_rests.nd (pi_tup (pv 0)) (blkOk_by (own := [("_law_number", 2)]) (N := ["_law_rows", "_law_p", "_law_number"]) (sc := defScope s_law_all_rests) (by decide +kernel)) (fun _ _ _ _ _ => pg_name (i := 2) sc_law_all_rests.nd rfl (Or.inl rfl) (Or.inr rfl)) (fun _ _ _ _ _ => pts_nil) (fun _ _ _ _ _ => (pe_and (pe_callB call_isi (by rfl) T.f_isinstance PyProof.Rows.boot_isinstance (pa_cons (pv 2) (pa_cons (pe_bltn (v := .ty "int") rfl T.f_int boot_int rfl) pa_nil))) (pe_and (pe_not (pe_callB call_isi (by rfl) T.f_isinstance PyProof.Rows.boot_isinstance (pa_cons (pv 2) (pa_cons (pe_bltn (v := .ty "bool") rfl T.f_bool boot_bool rfl) pa_nil)))) (pe_one (pe_chain op_le op_lt pe_int (pv 2) (pv 1))))))) pa_nil)))) , ?_⟩
    refine ⟨_, rfl, a, rfl, ⟨_, hS⟩, fun D hD => ?_⟩
    refine lc_it (walk_tup (xs := ns.map V.int)) (fun i H1 => Same H H1 ∧ H1 D = some (.lst ((List.replicate i true).map V.bl)) ∧ i ≤ ns.length) ⟨same_upd hD, upd_same, Nat.zero_le _⟩ (fun i H1 _ h => sameT h.1 hS) ?_ ?_
    · rintro i x H1 H2 hi ⟨s1, e1, _⟩ ⟨rfl, hx⟩
      rw [List.length_map] at hi
      have e3 := (map_at ns i hi).symm.trans hx
      cases e3
      obtain ⟨r0, r1⟩ := hR i
      refine ⟨rfl, _, rfl, .int (ns.getD i 0), _, _, _, true, rfl, .ty _, .base (.int _), kit_ty (by decide +kernel), _, rfl, iteT ⟨_, rfl, .int (ns.getD i 0), _, _, _, false, rfl, .ty _, .base (.int _), kit_ty (by decide +kernel), _, rfl, _, rfl, iteT ⟨_, rfl, _, _, rfl, rfl, _, rfl, ?_⟩⟩⟩
      rw [decide_eq_true r0]
      refine iteT ⟨_, rfl, _, _, rfl, rfl, ?_⟩
      dsimp only
      rw [show decide (ns.getD i 0 < p) = true from decide_eq_true r1]
      refine ⟨_, e1, ?_, lcs hD s1, ?_, hi⟩
      · rw [List.length_map, List.length_replicate]
        exact small1000 (by omega)
      · rw [upd_same, List.replicate_succ', List.map_append]
        rfl
    · rintro H1 ⟨s1, e1, _⟩
      refine ⟨D, List.replicate (ns.map V.int).length true, rfl, SqL.of e1, ?_⟩
      rw [show (List.replicate (ns.map V.int).length true).all id = true from by simp]
      exact k _ s1
end
end Xk
end
section
set_option Elab.async false
set_option linter.all false
set_option maxRecDepth 100000
set_option maxHeartbeats 4000000
namespace Xk
open PySem PySem.Spec PyProof.Rows L2 Xh LamX NdefX
def spMixed (K : PySem.W.Frag) : Sp := fun vs H Q _ => ∃ (d a : Addr) (xs : List V), vs = [.ref d, .ref a] ∧ Draw H d ∧ SqL K H a xs ∧ a ≠ d ∧ xs.length ≤ 100 ∧
  ∀ (b : Addr) (ys : List V) (H' : Hp), ys.Perm xs → Draw H' d → But d H H' → H' b = some (.lst ys) → H b = none → b ≠ d → Q (.ref b) H'
def spTable : Sp := fun vs H Q _ => ∃ (d : Addr) (n : Nat) (p : Int), vs = [.ref d, .int n, .int p] ∧ Draw H d ∧ 1 ≤ n ∧ n ≤ 24 ∧ Pm p ∧
  ∀ (R : Addr) (la : List Addr) (rs : List (List Int)) (H' : Hp), Draw H' d → But d H H' → H' R = some (.lst (la.map V.ref)) → Rws H' la rs → (∀ r ∈ rs, Rw p n r) → rs.length ≤ 8 → H R = none → R ≠ d → Q (.ref R) H'
/-- rows in another order stand at the addresses in that order -/
theorem Rws.perm {H : Hp} {la : List Addr} {rs : List (List Int)} (h : Rws H la rs) {ys : List V} (pm : ys.Perm (la.map V.ref)) : ∃ (lb : List Addr) (rb : List (List Int)), ys = lb.map V.ref ∧ Rws H lb rb ∧ rb.Perm rs := by
  generalize hx : la.map V.ref = xs at pm
  induction pm generalizing la rs with
  | nil => exact ⟨la, rs, hx.symm, h, .refl _⟩
  | @cons x l1 l2 p ih =>
    match la, rs, h, hx with
    | l :: la, r :: rs, h, hx =>
      injection hx with h1 h2
      obtain ⟨lb, rb, e1, e2, e3⟩ := ih h.2 h2
      exact ⟨l :: lb, r :: rb, by rw [e1, ← h1]; rfl, ⟨h.1, e2⟩, e3.cons r⟩
  | @swap x y l1 =>
    match la, rs, h, hx with
    | l :: l' :: la, r :: r' :: rs, h, hx =>
      injection hx with h1 h2
      injection h2 with h2 h3
      exact ⟨l' :: l :: la, r' :: r :: rs, by rw [← h1, ← h2, ← h3]; rfl, ⟨h.2.1, h.1, h.2.2⟩, .swap _ _ _⟩
  | trans p q ih1 ih2 =>
    obtain ⟨lb, rb, e1, e2, e3⟩ := ih2 h hx
    obtain ⟨lc, rc, f1, f2, f3⟩ := ih1 e2 e1.symm
    exact ⟨lc, rc, f1, f2, f3.trans e3⟩
theorem ins_perm {α : Type} (xs : List α) (y : α) (i : Nat) : (xs.take i ++ [y] ++ xs.drop i).Perm (xs ++ [y]) := by
  have h1 : (xs.take i ++ [y] ++ xs.drop i).Perm (xs.take i ++ xs.drop i ++ [y]) := by
    rw [List.append_assoc, List.append_assoc]
    exact (List.perm_append_comm).append_left _
  rw [List.take_append_drop] at h1
  exact h1
theorem kpB {H H' : Hp} {d : Addr} (D : Draw H d) (B : But d H H') : ∀ a xs, H a = some (.tup xs) → H' a = some (.tup xs) := fun a xs e => B a _ (fun z => by
  obtain ⟨c, ns, i, r, g, h1, _⟩ := D
  rw [z, h1] at e
  cases e) e
theorem dp_rws {K : PySem.W.Frag} {H : Hp} : ∀ {la : List Addr} {rs : List (List Int)}, Rws H la rs → DpAll K H (la.map V.ref) (rs.map fun r => .tuple (r.map PyData.int))
  | [], [], _ => .nil
  | l :: la, r :: rs, h => .cons (dp_tup (sqD h.1)) (dp_rws (la := la) (rs := rs) h.2)
  | [], _ :: _, h => h.elim
  | _ :: _, [], h => h.elim
theorem dp_tab {K : PySem.W.Frag} {H : Hp} {R : Addr} {la : List Addr} {rs : List (List Int)} (e : H R = some (.lst (la.map V.ref))) (h : Rws H la rs) : Dp K H (.ref R) (.list (rs.map fun r => .tuple (r.map PyData.int))) := .lst (SqL.of e) (dp_rws h)
theorem tab_lay : ∀ rs : List (List Int), PyData.canLayAll0 (rs.map fun r => .tuple (r.map PyData.int)) = true
  | [] => rfl
  | r :: rs => by simp [PyData.canLayAll0, PyData.canLay0, PySem.W.ke_canLayAll0, tab_lay rs]
theorem tab_deep : ∀ rs : List (List Int), PyData.depthAll (rs.map fun r => .tuple (r.map PyData.int)) ≤ 1
  | [] => Nat.zero_le _
  | r :: rs => by
    have := tab_deep rs
    simp [PyData.depthAll, PyData.depth, PySem.W.ke_depthAll]
    exact Nat.max_le.mpr ⟨Nat.le_refl 1, this⟩
theorem shT (rs : List (List Int)) : SeqAt.shaped (.list (rs.map fun r => .tuple (r.map PyData.int))) = true := by
  have h := tab_deep rs
  unfold SeqAt.shaped
  rw [Bool.and_eq_true]
  refine ⟨?_, decide_eq_true ?_⟩
  · simpa [PyData.canLay0] using tab_lay rs
  · simp only [PyData.depth]
    omega
section
variable {P : Program} {w : World} {K : PySem.W.Frag} {mg : Str → Option Value} {base : Heap}
abbrev s_law_mixed : Stmt := topS 45
theorem sc_law_mixed : FnScope (["_law_draw", "_law_row", "_law_found", "_law_one"] : List Str) ["_law_draw", "_law_row"] (defScope s_law_mixed) := ⟨rfl, rfl, rfl, by decide +kernel, rfl, by decide +kernel, by decide +kernel⟩
theorem ok_law_mixed {f : Addr} {fd : FuncData} (F : FunD K "_law_mixed" "_law_mixed" (defArgs s_law_mixed) (defBody s_law_mixed) (defScope s_law_mixed) [] [] f fd) (T : Fre mg) (o_law_take : Own P w K mg base CX0 1 "_law_take" ["_law_draw", "_law_sides"] [] spTake) : FnOk P w K mg base CX0 2 f fd ["_law_draw", "_law_row"] (spMixed K) := by
  refine F.ok sc_law_mixed (fun vs H Q E h => ?_) (fun cdv A outer s H vs Q E hr h => ?_)
  · obtain ⟨d, a, xs, rfl, _⟩ := h
    rfl
  · obtain ⟨d, a, xs, rfl, Dr, hS, had, hl, k⟩ := h
    refine ⟨_, PSs.nox (pss_cons (ps_set (i := 2) sc_law_mixed.nd rfl (Or.inl rfl) (pe_lst pa_nil))
      (pss_cons (ps_for PassesOwn.never rfl (pi_list (pv 1)) (pg_name (i := 3) sc_law_mixed.nd rfl (Or.inl rfl)) (pss_one (ps_expr (pe_bm PySem.F.plainAttrs_list PySem.F.slot_list_insert PySem.F.type_list_insert mt_insert (pv 2) (pa_cons (pe_own o_law_take (hr.mono (by decide)) rfl pass0 (pa_cons (pv 0) (pa_cons (pe_op op_add (pe_callB call_len_seq (by rfl) T.f_len PySem.boot_len (pa_cons (pv 2) pa_nil)) pe_int) pa_nil))) (pa_cons (pv 3) pa_nil))))))
      (pss_one (ps_ret (pv 2))))) , ?_⟩
    refine ⟨(by show 0 ≤ sizeLine; decide), fun FL hFL => ?_⟩
    have hFd : FL ≠ d := Dr.ne hFL
    refine ⟨_, rfl, a, rfl, ⟨_, (But.updN (d := d) hFL).seq had hS⟩, ?_⟩
    refine for_it (walk_list (xs := xs)) (fun i σ' H2 => ∃ (ys : List V) (x3 : Option V), σ' = [some (.ref d), some (.ref a), some (.ref FL), x3] ∧ H2 FL = some (.lst ys) ∧ ys.Perm (xs.take i) ∧ Draw H2 d ∧ But d H H2) ⟨[], none, rfl, upd_same, .nil, Dr.same (same_upd hFL), But.updN hFL⟩ (fun i σ' H2 _ ⟨_, _, _, _, _, _, B⟩ => B.seq had hS) ?_ ?_
    · rintro i x σ' H2 H3 hi ⟨ys, x3, rfl, e2, pm, D2, B2⟩ ⟨rfl, hx⟩
      have ly : ys.length ≤ i := by
        rw [pm.length_eq, List.length_take]
        exact Nat.min_le_left _ _
      refine ⟨_, rfl, .inl ⟨rfl, _, SqL.of e2⟩, _, rfl, _, rfl, FL, _, rfl, .inl (SqL.of e2), _, _, rfl, rfl, d, _, rfl, D2, by omega, big (by omega), fun m H4 m0 m1 D4 B4 => ?_⟩
      have e4 := B4 _ _ hFd e2
      have B24 := B2.trans B4
      refine ⟨_, rfl, FL, ys, m, x, rfl, rfl, e4, small1000 (by omega), m0, by omega, ?_⟩
      refine ⟨_, _, rfl, upd_same, ?_, Draw.updR Dr hFL B24 D4 e4, But.lcs hFL B24⟩
      rw [List.take_succ, hx]
      exact (ins_perm ys x m.toNat).trans (pm.append_right _)
    · rintro σ' H2 ⟨ys, x3, rfl, e2, pm, D2, B2⟩
      rw [List.take_length] at pm
      exact ⟨_, rfl, k FL ys H2 pm D2 B2 e2 hFL hFd⟩
abbrev s_law_table : Stmt := topS 55
theorem sc_law_table : FnScope (["_law_draw", "_law_width", "_law_p", "_law_rows", "_law_k"] : List Str) ["_law_draw", "_law_width", "_law_p"] (defScope s_law_table) := ⟨rfl, rfl, rfl, by decide +kernel, rfl, by decide +kernel, by decide +kernel⟩
theorem ok_law_table {f : Addr} {fd : FuncData} (F : FunD K "_law_table" "_law_table" (defArgs s_law_table) (defBody s_law_table) (defScope s_law_table) [] [] f fd) (T : Fre mg) (o_law_take : Own P w K mg base CX0 1 "_law_take" ["_law_draw", "_law_sides"] [] spTake) (o_law_rests : Own P w K mg base CX0 2 "_law_rests" ["_law_draw", "_law_many", "_law_p"] [] spRestsD) (o_law_weighed : Own P w K mg base CX0 2 "_law_weighed" ["_law_rows", "_law_weights", "_law_width", "_law_p"] [] spWeighed) (o_law_mixed : Own P w K mg base CX0 2 "_law_mixed" ["_law_draw", "_law_row"] [] (spMixed K)) : FnOk P w K mg base CX0 3 f fd ["_law_draw", "_law_width", "_law_p"] spTable := by
  refine F.ok sc_law_table (fun vs H Q E h => ?_) (fun cdv A outer s H vs Q E hr h => ?_)
  · obtain ⟨d, n, p, rfl, _⟩ := h
    rfl
  · obtain ⟨d, n, p, rfl, Dr, n1, n24, hp, k⟩ := h
    refine ⟨_, PSs.nox (pss_cons (ps_setLc (i := 3) (own := [("_law_k", 4)]) (te := (tCB (fun xs H Q => ∃ p ys, xs = [V.ref p] ∧ ((SqL K H p ys ∧ ∀ l, H l = none → Q (V.ref l) (L2.upd H l (.tup ys))) ∨ (SqT K H p ys ∧ Q (V.ref p) H))) (tCons (tCall _ _ _ (tCons (tVar 0) (tCons (tVar 1) (tCons (tVar 2) tNil)))) tNil))) rfl sc_law_table.nd rfl rfl (sw_true rfl rfl rfl (by decide +kernel)) (pi_range1 (by rfl) T.f_range (pa_cons (pe_own o_law_take (hr.mono (by decide)) rfl pass0 (pa_cons (pv 0) (pa_cons pe_int pa_nil))) pa_nil)) (blkOk_by (own := [("_law_k", 4)]) (N := ["_law_draw", "_law_width", "_law_p", "_law_rows", "_law_k"]) (sc := defScope s_law_table) (by decide +kernel)) (fun _ _ _ _ _ => pg_name (i := 4) sc_law_table.nd rfl (Or.inl rfl) (Or.inr rfl)) (fun _ _ _ _ _ => pts_nil) (fun _ _ _ _ _ => (pe_callTy call_tuple_of (by rfl) T.f_tuple (by decide +kernel) (pa_cons (pe_own o_law_rests (hr.mono (by decide)) rfl pass0 (pa_cons (pv 0) (pa_cons (pv 1) (pa_cons (pv 2) pa_nil)))) pa_nil))))
      (C8.pss_cut (ps_if (PW.pt (pw_and (pt_cmpR (op_neD hr.units) (pv 3) (pe_lst pa_nil) (nomark _)) (pw_and1 (pt_cmpR op_eq (pe_own o_law_take (hr.mono (by decide)) rfl pass0 (pa_cons (pv 0) (pa_cons pe_int pa_nil))) pe_int (nomark _))))) (pss_cons (ps_expr (pe_bm PySem.F.plainAttrs_list PySem.F.slot_list_append PySem.F.type_list_append mt_append (pv 3) (pa_cons (pe_own o_law_weighed (hr.mono (by decide)) rfl pass0 (pa_cons (pv 3) (pa_cons (pe_own o_law_rests (hr.mono (by decide)) rfl pass0 (pa_cons (pv 0) (pa_cons (pe_callB call_len_seq (by rfl) T.f_len PySem.boot_len (pa_cons (pv 3) pa_nil)) (pa_cons (pv 2) pa_nil)))) (pa_cons (pv 1) (pa_cons (pv 2) pa_nil))))) pa_nil)))
      (pss_one (ps_expr (pe_bm PySem.F.plainAttrs_list PySem.F.slot_list_append PySem.F.type_list_append mt_append (pv 3) (pa_cons (pe_op op_repZ (pe_tup (pa_cons pe_int pa_nil)) (pv 1)) pa_nil))))) pss_nil)
      (pss_one (ps_ret (pe_own o_law_mixed (hr.mono (by decide)) rfl pass0 (pa_cons (pv 0) (pa_cons (pv 3) pa_nil))))))) , ?_⟩
    refine ⟨_, rfl, d, 7, rfl, Dr, by decide, by decide, fun m H1 m0 m1 D1 B1 => ?_⟩
    obtain ⟨j, rfl⟩ := Int.eq_ofNat_of_zero_le m0
    refine ⟨(j : Int), rfl, by omega, by omega, fun FL hFL => ?_⟩
    have hFd : FL ≠ d := D1.ne hFL
    rw [Int.toNat_natCast]
    refine lc_range (lo := 0) (n := j) (fun i H2 => ∃ (la : List Addr) (rs : List (List Int)), H2 FL = some (.lst (la.map V.ref)) ∧ Rws H2 la rs ∧ (∀ r ∈ rs, Rw p n r) ∧ rs.length = i ∧ Draw H2 d ∧ But d H1 H2) ⟨[], [], upd_same, trivial, fun _ h => (nomatch h), rfl, D1.same (same_upd hFL), But.updN hFL⟩ ?_ ?_
    · rintro i H2 hi ⟨la, rs, e2, h2, w2, l2, D2, B2⟩
      have lla := h2.len
      refine ⟨rfl, _, rfl, _, rfl, _, rfl, d, n, p, rfl, D2, by omega, hp, fun ms a H3 lm rm D3 B3 ea had ha0 => ⟨a, _, rfl, .inl ⟨SqL.of ea, fun t ht => ?_⟩⟩⟩
      have st := same_upd (o := .tup (ms.map V.int)) ht
      have B24 := B3.trans (But.same (d := d) st)
      have e4 := st _ _ (B3 _ _ hFd e2)
      have B14 := B2.trans B24
      have D4 := D3.same st
      refine ⟨_, e4, ?_, la ++ [t], rs ++ [ms], ?_, ?_, fun r hr => ?_, ?_, Draw.updR D1 hFL B14 D4 e4, But.lcs hFL B14⟩
      · rw [List.length_map, lla, l2]
        exact small1000 (by omega)
      · rw [upd_same, List.map_append]
        rfl
      · exact (Rws.snoc upd_same (h2.keep (kpB D2 B24))).keep (kpU e4)
      · rcases List.mem_append.mp hr with hr | hr
        · exact w2 r hr
        · rw [List.mem_singleton.mp hr]
          exact ⟨lm, rm⟩
      · rw [List.length_append, l2]
        rfl
    rintro H2 ⟨la, rs, e2, h2, w2, l2, D2, B2⟩
    have nF : H FL = none := B1.free hFL hFd
    refine ⟨fun σ' H' => ∃ (FL : Addr) (la : List Addr) (rs : List (List Int)), σ' = [some (.ref d), some (.int n), some (.int p), some (.ref FL), none] ∧ H' FL = some (.lst (la.map V.ref)) ∧ Rws H' la rs ∧ (∀ r ∈ rs, Rw p n r) ∧ rs.length ≤ 8 ∧ Draw H' d ∧ But d H H' ∧ H FL = none ∧ FL ≠ d, ?_, ?_⟩
    · refine ⟨_, rfl, (by show 0 ≤ sizeLine; decide), fun t ht => ?_⟩
      have st := same_upd (o := .lst []) ht
      have e3 := st _ _ e2
      have h3 := h2.keep (kpS st)
      have D3 := D2.same st
      have B3 : But d H _ := (B1.trans B2).trans (But.same (d := d) st)
      refine ⟨_, _, dp_tab e3 h3, dp_lstI (ns := []) (SqL.of upd_same), shT rs, shl [], ?_⟩
      have lla := h2.len
      cases hrs : rs with
      | nil =>
        subst hrs
        exact ⟨false, rfl, iteF (iteF ⟨FL, la, [], rfl, e3, h3, w2, Nat.zero_le _, D3, B3, nF, hFd⟩)⟩
      | cons r0 rt =>
        rw [← hrs]
        refine ⟨true, by rw [hrs]; rfl, iteT ?_⟩
        refine ⟨_, rfl, d, 2, rfl, D3, by decide, by decide, fun m2 H4 _ _ D4 B4 => ?_⟩
        have e4 := B4 _ _ hFd e3
        have h4 := h3.keep (kpB D3 B4)
        have B04 := B3.trans B4
        refine ⟨rfl, _, rfl, ite2 (fun hc => ?_) (fun hc => ?_)⟩
        · have small8 : (rs.map (fun _ => ())).length = rs.length := List.length_map ..
          refine ⟨_, rfl, .inl ⟨rfl, _, SqL.of e4⟩, _, rfl, _, rfl, _, rfl, FL, _, rfl, .inl (SqL.of e4), _, rfl, d, (la.map V.ref).length, p, rfl, D4, by rw [List.length_map]; omega, hp, fun ws W H5 lw rw D5 B5 eW hWd nW => ?_⟩
          rw [List.length_map] at lw
          have e5 := B5 _ _ hFd e4
          have h5 := h4.keep (kpB D4 B5)
          refine ⟨_, rfl, _, rfl, FL, W, la, rs, ws, n, p, rfl, e5, h5, w2, eW, by omega, rw, n1, n24, hp, fun v ms H6 s6 ev wm em => ?_⟩
          have e6 := s6 _ _ e5
          have h6 := h5.keep (kpS s6)
          have D6 := D5.same s6
          have B46 := B5.trans (But.same (d := d) s6)
          have B16 : But d H1 H6 := (B2.trans (But.same (d := d) st)).trans (B4.trans B46)
          refine ⟨FL, _, _, rfl, rfl, e6, ?_, ?_⟩
          · rw [List.length_map]
            exact small1000 (by omega)
          generalize hH7 : L2.upd H6 FL (.lst (la.map V.ref ++ [.ref v])) = H7
          have e7 : H7 FL = some (.lst ((la ++ [v]).map V.ref)) := by
            rw [← hH7, upd_same, List.map_append]
            rfl
          have h7 : Rws H7 (la ++ [v]) (rs ++ [ms]) := by
            rw [← hH7]
            exact (Rws.snoc ev h6).keep (kpU e6)
          have D7 : Draw H7 d := by
            rw [← hH7]
            exact Draw.updR D1 hFL B16 D6 e6
          have B17 : But d H1 H7 := by
            rw [← hH7]
            exact But.lcs hFL B16
          generalize hla : la = la0 at *
          have fin : ∀ (Z : Addr) (Hz : Hp), Same H7 Hz → Hz Z = some (.tup ((List.replicate n (0 : Int)).map V.int)) → ∃ (FL' : Addr) (la : List Addr) (rs : List (List Int)), [some (V.ref d), some (V.int n), some (V.int p), some (V.ref FL), none] = [some (.ref d), some (.int n), some (.int p), some (.ref FL'), none] ∧ L2.upd Hz FL (.lst ((la0 ++ [v]).map V.ref ++ [.ref Z])) FL' = some (.lst (la.map V.ref)) ∧ Rws (L2.upd Hz FL (.lst ((la0 ++ [v]).map V.ref ++ [.ref Z]))) la rs ∧ (∀ r ∈ rs, Rw p n r) ∧ rs.length ≤ 8 ∧ Draw (L2.upd Hz FL (.lst ((la0 ++ [v]).map V.ref ++ [.ref Z]))) d ∧ But d H (L2.upd Hz FL (.lst ((la0 ++ [v]).map V.ref ++ [.ref Z]))) ∧ H FL' = none ∧ FL' ≠ d := fun Z Hz sz ez => by
            have ez7 := sz _ _ e7
            have Bz : But d H1 Hz := B17.trans (But.same (d := d) sz)
            refine ⟨FL, la0 ++ [v] ++ [Z], rs ++ [ms] ++ [List.replicate n 0], rfl, ?_, (Rws.snoc ez (h7.keep (kpS sz))).keep (kpU ez7), fun r hr => ?_, ?_, Draw.updR D1 hFL Bz (D7.same sz) ez7, B1.trans (But.lcs hFL Bz), nF, hFd⟩
            · rw [upd_same, List.map_append (l₂ := [Z])]
              rfl
            · rcases List.mem_append.mp hr with hr | hr
              · rcases List.mem_append.mp hr with hr | hr
                · exact w2 r hr
                · rw [List.mem_singleton.mp hr]
                  exact wm
              · rw [List.mem_singleton.mp hr]
                exact Rw.nought hp n
            · rw [List.length_append, List.length_append]
              show rs.length + 1 + 1 ≤ 8
              omega
          have lap : ((la0 ++ [v]).map V.ref).length < sizeLine := by
            rw [List.length_map, List.length_append]
            exact small1000 (show la0.length + 1 ≤ 1000 by omega)
          refine ⟨_, rfl, .inl ⟨rfl, _, SqL.of e7⟩, (by show 1 ≤ sizeLine; decide), fun Z hZ => ⟨_, rfl, Z, (n : Int), [.int 0], rfl, rfl, SqT.of upd_same, by simp, by omega, by omega, by decide, fun h => ?_, fun h u hu => ?_⟩⟩
          · have : n = 1 := by omega
            subst this
            have sz := same_upd (o := .tup [.int 0]) hZ
            exact ⟨FL, _, _, rfl, rfl, sz _ _ e7, lap, fin Z _ sz upd_same⟩
          · have sz := (same_upd (o := .tup [.int 0]) hZ).trans (same_upd (o := .tup (List.replicate (n : Int).toNat [V.int 0]).flatten) hu)
            refine ⟨FL, _, _, rfl, rfl, sz _ _ e7, lap, fin u _ sz ?_⟩
            rw [upd_same, Int.toNat_natCast, rep_zero]
        · exact ⟨FL, la, rs, rfl, e4, h4, w2, by omega, D4, B04, nF, hFd⟩
    · rintro σ' H' ⟨FL, la, rs, rfl, e3, h3, w3, l3, D3, B3, nF, hFd⟩
      refine ⟨_, rfl, _, rfl, d, FL, _, rfl, D3, SqL.of e3, hFd, ?_, fun b ys H4 pm D4 B4 e4 nb hb => ?_⟩
      · rw [List.length_map, h3.len]
        omega
      · obtain ⟨lb, rb, rfl, hr, pr⟩ := Rws.perm (h3.keep (kpB D3 B4)) pm
        exact k b lb rb H4 D4 (B3.trans B4) e4 hr (fun r hr => w3 r (pr.mem_iff.mp hr)) (by rw [pr.length_eq]; exact l3) (B3.free nb hb) hb
end
end Xk
end
section
set_option Elab.async false
set_option linter.all false
/-! ### counting tuples of rests -/
namespace Xp
theorem nodup_lenL : ∀ {a b : List (List Int)}, a.Nodup → (∀ s ∈ a, s ∈ b) → a.length ≤ b.length
  | [], b, _, _ => Nat.zero_le _
  | x :: a, b, na, h => by
    obtain ⟨n1, n2⟩ := List.nodup_cons.mp na
    have hx := h x List.mem_cons_self
    have z := nodup_lenL (a := a) (b := b.erase x) n2 fun s hs => by
      have ne : s ≠ x := fun e => n1 (e ▸ hs)
      exact (List.mem_erase_of_ne ne).mpr (h s (List.mem_cons_of_mem _ hs))
    rw [List.length_erase_of_mem hx] at z
    have := List.length_pos_of_mem hx
    rw [List.length_cons]
    omega
theorem nodup_map {f : List Int → List Int} : ∀ {a : List (List Int)}, a.Nodup → (∀ s ∈ a, ∀ t ∈ a, f s = f t → s = t) → (a.map f).Nodup
  | [], _, _ => List.nodup_nil
  | x :: a, na, h => by
    obtain ⟨n1, n2⟩ := List.nodup_cons.mp na
    rw [List.map_cons]
    refine List.nodup_cons.mpr ⟨fun m => ?_, nodup_map n2 fun s hs t ht => h s (List.mem_cons_of_mem _ hs) t (List.mem_cons_of_mem _ ht)⟩
    obtain ⟨y, hy, e⟩ := List.mem_map.mp m
    have := h y (List.mem_cons_of_mem _ hy) x List.mem_cons_self e
    exact n1 (this ▸ hy)
theorem inj_len {f : List Int → List Int} {a b : List (List Int)} (na : a.Nodup) (i : ∀ s ∈ a, ∀ t ∈ a, f s = f t → s = t) (h : ∀ s ∈ a, f s ∈ b) : a.length ≤ b.length := by
  have z := nodup_lenL (nodup_map na i) (b := b) fun s hs => by
    obtain ⟨t, ht, rfl⟩ := List.mem_map.mp hs
    exact h t ht
  rwa [List.length_map] at z
/-- all tuples of m rests, in the order of their making -/
def tp (p : Nat) : Nat → List (List Int)
  | 0 => [[]]
  | m + 1 => (tp p m).flatMap fun t => (List.range p).map fun x => t ++ [((x : Nat) : Int)]
theorem tp_mem {p : Nat} : ∀ {m : Nat} {t : List Int}, t ∈ tp p m ↔ t.length = m ∧ ∀ x ∈ t, 0 ≤ x ∧ x < (p : Int)
  | 0, t => by
    show t ∈ [[]] ↔ _
    rw [List.mem_singleton]
    constructor
    · rintro rfl
      exact ⟨rfl, fun x hx => (nomatch hx)⟩
    · exact fun h => List.length_eq_zero_iff.mp h.1
  | m + 1, t => by
    show t ∈ (tp p m).flatMap _ ↔ _
    rw [List.mem_flatMap]
    constructor
    · rintro ⟨u, hu, ht⟩
      obtain ⟨x, hx, rfl⟩ := List.mem_map.mp ht
      obtain ⟨l, r⟩ := tp_mem.mp hu
      refine ⟨by rw [List.length_append, l]; rfl, fun y hy => ?_⟩
      rcases List.mem_append.mp hy with hy | hy
      · exact r y hy
      · rw [List.mem_singleton.mp hy]
        have := List.mem_range.mp hx
        omega
    · rintro ⟨l, r⟩
      rcases List.eq_nil_or_concat t with rfl | ⟨u, x, rfl⟩
      · cases l
      · rw [List.length_concat] at l
        rw [List.concat_eq_append] at r ⊢
        obtain ⟨x0, x1⟩ := r x (by simp)
        obtain ⟨k, rfl⟩ := Int.eq_ofNat_of_zero_le x0
        exact ⟨u, tp_mem.mpr ⟨by omega, fun y hy => r y (List.mem_append_left _ hy)⟩, List.mem_map.mpr ⟨k, List.mem_range.mpr (by omega), rfl⟩⟩
theorem tp_len (p : Nat) : ∀ m, (tp p m).length = p ^ m
  | 0 => rfl
  | m + 1 => by
    show ((tp p m).flatMap _).length = _
    rw [List.length_flatMap]
    have : ((tp p m).map fun t => ((List.range p).map fun x => t ++ [((x : Nat) : Int)]).length) = List.replicate (p ^ m) p := by
      rw [← tp_len p m]
      generalize tp p m = ts
      induction ts with
      | nil => rfl
      | cons t ts ih =>
        rw [List.map_cons, ih, List.length_map, List.length_range]
        rfl
    rw [this, List.sum_replicate_nat, Nat.pow_succ]
theorem tp_nodup (p : Nat) : ∀ m, (tp p m).Nodup
  | 0 => by simp [tp]
  | m + 1 => by
    show ((tp p m).flatMap _).Nodup
    have ih := tp_nodup p m
    generalize tp p m = ts at ih
    induction ts with
    | nil => exact List.nodup_nil
    | cons t ts ih2 =>
      obtain ⟨n1, n2⟩ := List.nodup_cons.mp ih
      rw [List.flatMap_cons]
      refine List.nodup_append.mpr ⟨?_, ih2 n2, fun a ha b hb e => ?_⟩
      · refine List.pairwise_map.mpr (List.nodup_range.imp fun h e => h ?_)
        have := List.append_cancel_left e
        injection this with h1
        exact Int.ofNat.inj h1
      · obtain ⟨x, _, rfl⟩ := List.mem_map.mp ha
        obtain ⟨u, hu, hb⟩ := List.mem_flatMap.mp hb
        obtain ⟨y, _, rfl⟩ := List.mem_map.mp hb
        have := List.append_inj_left' e rfl
        exact n1 (this ▸ hu)
/-- as many as there are of another kind -/
theorem cnt {p n m : Nat} {P : List Int → Bool} (enc dec : List Int → List Int) (h1 : ∀ t ∈ tp p n, P t = true → enc t ∈ tp p m) (i1 : ∀ s t, s ∈ tp p n → t ∈ tp p n → P s = true → P t = true → enc s = enc t → s = t)
    (h2 : ∀ s ∈ tp p m, dec s ∈ tp p n ∧ P (dec s) = true) (i2 : ∀ s t, s ∈ tp p m → t ∈ tp p m → dec s = dec t → s = t) : ((tp p n).filter P).length = p ^ m := by
  have a := inj_len (f := enc) (a := (tp p n).filter P) (b := tp p m) ((tp_nodup p n).filter _) (fun s hs t ht e => by
    obtain ⟨s1, s2⟩ := List.mem_filter.mp hs
    obtain ⟨t1, t2⟩ := List.mem_filter.mp ht
    exact i1 s t s1 t1 s2 t2 e) (fun s hs => by
    obtain ⟨s1, s2⟩ := List.mem_filter.mp hs
    exact h1 s s1 s2)
  have b := inj_len (f := dec) (a := tp p m) (b := (tp p n).filter P) (tp_nodup p m) (fun s hs t ht e => i2 s t hs ht e) (fun s hs => by
    obtain ⟨d1, d2⟩ := h2 s hs
    exact List.mem_filter.mpr ⟨d1, d2⟩)
  rw [tp_len] at a b
  omega
theorem pow_inj {p a b : Nat} (hp : 2 ≤ p) (h : p ^ a = p ^ b) : a = b := by
  rcases Nat.lt_trichotomy a b with q | q | q
  · exact absurd h (Nat.ne_of_lt (Nat.pow_lt_pow_right (by omega) q))
  · exact q
  · exact absurd h.symm (Nat.ne_of_lt (Nat.pow_lt_pow_right (by omega) q))
end Xp
end
section
set_option Elab.async false
set_option linter.all false
set_option maxHeartbeats 1000000
/-! families of rows, each 1 at its own place and 0 at the places of the others; how many tuples they span -/
namespace Xp
structure Uni (p : Int) (L : List (Nat × Cf)) : Prop where
  one : ∀ x ∈ L, x.2 x.1 % p = 1 % p
  own : ∀ x ∈ L, ∀ y ∈ L, x.1 ≠ y.1 → y.2 x.1 % p = 0
  nd : (L.map (·.1)).Nodup
theorem Red.uni {p : Int} {L : List (Nat × Cf)} (h : Red p L) : Uni p L := ⟨h.one, h.own, h.nd⟩
theorem Uni.tail {p : Int} {x : Nat × Cf} {L : List (Nat × Cf)} (h : Uni p (x :: L)) : Uni p L := ⟨fun y hy => h.one y (List.mem_cons_of_mem _ hy), fun y hy z hz => h.own y (List.mem_cons_of_mem _ hy) z (List.mem_cons_of_mem _ hz), (List.nodup_cons.mp h.nd).2⟩
theorem Uni.nin {p : Int} {x : Nat × Cf} {L : List (Nat × Cf)} (h : Uni p (x :: L)) : ∀ y ∈ L, x.1 ≠ y.1 := fun y hy e => (List.nodup_cons.mp h.nd).1 (List.mem_map.mpr ⟨y, hy, e.symm⟩)
theorem Uni.self {p : Int} : ∀ {L : List (Nat × Cf)}, Uni p L → ∀ x ∈ L, Eqm p (lsum L x.2) x.2
  | [], _, x, hx => by cases hx
  | y :: L, h, x, hx => by
    have n := h.nin
    rcases List.mem_cons.mp hx with rfl | hx
    · have z := lsum_zero (p := p) (v := x.2) L fun z hz => h.own z (List.mem_cons_of_mem _ hz) x List.mem_cons_self (fun e => n z hz e.symm)
      exact ((Eqm.sc2 (b := 1) (h.one x List.mem_cons_self) x.2).ad z).trans (Eqm.of_eq (by rw [sc_one, ad_nul]))
    · have e : x.2 y.1 % p = 0 % p := by rw [h.own y List.mem_cons_self x (List.mem_cons_of_mem _ hx) (n x hx), Int.zero_emod]
      exact ((Eqm.sc2 e y.2).ad (h.tail.self x hx)).trans (Eqm.of_eq (by rw [sc_zero, nul_ad]))
theorem Uni.made {p : Int} {L : List (Nat × Cf)} (h : Uni p L) {v : Cf} (a : Sp p (rows L) v) : Eqm p v (lsum L v) := by
  induction a with
  | nul => rw [lsum_nul]; exact Eqm.refl p _
  | @add u v c hu _ ih =>
    obtain ⟨x, hx, rfl⟩ := hu
    rw [lsum_ad, lsum_sc]
    exact ((h.self x hx).symm.sc c).ad ih
  | eqm _ e ih => exact (e.symm.trans ih).trans (lsum_eqm e L)
/-- the rows of a family, each by its weight -/
def comb : List (Nat × Cf) → List Int → Cf
  | x :: L, a :: s => ad (sc a x.2) (comb L s)
  | _, _ => nul
theorem comb_zero {p : Int} {k : Nat} : ∀ (L : List (Nat × Cf)) (s : List Int), (∀ x ∈ L, x.2 k % p = 0) → comb L s k % p = 0
  | [], s, _ => Int.zero_emod p
  | x :: L, [], _ => Int.zero_emod p
  | x :: L, a :: s, h => by
    show (a * x.2 k + comb L s k) % p = 0
    rw [Int.add_emod, comb_zero L s fun y hy => h y (List.mem_cons_of_mem _ hy), Int.mul_emod, h x List.mem_cons_self, Int.mul_zero, Int.zero_emod]
    rfl
theorem comb_sp {p : Int} : ∀ (L : List (Nat × Cf)) (s : List Int), Sp p (rows L) (comb L s)
  | [], s => .nul
  | x :: L, [] => .nul
  | x :: L, a :: s => .add _ ⟨x, List.mem_cons_self, rfl⟩ ((comb_sp L s).trans fun u ⟨y, hy, e⟩ => .one ⟨y, List.mem_cons_of_mem _ hy, e⟩)
theorem Uni.comb_at {p : Int} : ∀ {L : List (Nat × Cf)}, Uni p L → ∀ (s : List Int) (i : Nat) (x : Nat × Cf) (a : Int), L[i]? = some x → s[i]? = some a → comb L s x.1 % p = a % p
  | [], _, _, _, _, _, hx, _ => by cases hx
  | y :: L, _, [], _, _, _, _, ha => by cases ha
  | y :: L, h, b :: s, 0, x, a, hx, ha => by
    cases hx
    cases ha
    show (b * y.2 y.1 + comb L s y.1) % p = b % p
    rw [Int.add_emod, comb_zero L s fun z hz => h.own y List.mem_cons_self z (List.mem_cons_of_mem _ hz) (h.nin z hz), Int.mul_emod, h.one y List.mem_cons_self, ← Int.mul_emod, Int.mul_one, Int.add_zero, Int.emod_emod]
  | y :: L, h, b :: s, i + 1, x, a, hx, ha => by
    have hx' : L[i]? = some x := hx
    have mx := List.mem_of_getElem? hx'
    show (b * y.2 x.1 + comb L s x.1) % p = a % p
    rw [Int.add_emod, h.tail.comb_at s i x a hx' ha, Int.mul_emod, h.own x (List.mem_cons_of_mem _ mx) y List.mem_cons_self (fun e => h.nin x mx e.symm), Int.mul_zero, Int.zero_emod, Int.zero_add, Int.emod_emod]
theorem lsum_map {v w : Cf} : ∀ L : List (Nat × Cf), (∀ x ∈ L, v x.1 = w x.1) → lsum L v = lsum L w
  | [], _ => rfl
  | x :: L, h => by
    show ad (sc (v x.1) x.2) (lsum L v) = ad (sc (w x.1) x.2) (lsum L w)
    rw [h x List.mem_cons_self, lsum_map L fun y hy => h y (List.mem_cons_of_mem _ hy)]
abbrev cof (t : List Int) : Cf := fun j => t.getD j 0
theorem tp_rs {p m : Nat} (hp : 0 < p) {t : List Int} (h : t ∈ tp p m) (k : Nat) : 0 ≤ t.getD k 0 ∧ t.getD k 0 < (p : Int) := by
  rw [List.getD_eq_getElem?_getD]
  cases e : t[k]? with
  | none => exact ⟨Int.le_refl _, by show (0 : Int) < p; omega⟩
  | some x => exact (tp_mem.mp h).2 x (List.mem_of_getElem? e)
theorem tp_ext {p m : Nat} (hp : 0 < p) {s t : List Int} (hs : s ∈ tp p m) (ht : t ∈ tp p m) (e : ∀ k, k < m → s.getD k 0 % (p : Int) = t.getD k 0 % (p : Int)) : s = t := by
  have ls := (tp_mem.mp hs).1
  have lt := (tp_mem.mp ht).1
  apply List.ext_getElem?
  intro k
  by_cases hk : k < m
  · have z := e k hk
    obtain ⟨a0, a1⟩ := tp_rs hp hs k
    obtain ⟨b0, b1⟩ := tp_rs hp ht k
    rw [Int.emod_eq_of_lt a0 a1, Int.emod_eq_of_lt b0 b1, List.getD_eq_getElem?_getD, List.getD_eq_getElem?_getD, List.getElem?_eq_getElem (by omega), List.getElem?_eq_getElem (by omega)] at z
    rw [List.getElem?_eq_getElem (by omega), List.getElem?_eq_getElem (by omega)]
    exact congrArg some z
  · rw [List.getElem?_eq_none (by omega), List.getElem?_eq_none (by omega)]
/-- a family of so many rows spans so many tuples -/
theorem Uni.count {p n : Nat} (hp : 0 < p) {L : List (Nat × Cf)} (h : Uni (p : Int) L) (lt : ∀ x ∈ L, x.1 < n) (out : ∀ x ∈ L, ∀ k, n ≤ k → x.2 k % (p : Int) = 0) {P : List Int → Bool} (hP : ∀ t ∈ tp p n, P t = true ↔ Sp (p : Int) (rows L) (cof t)) : ((tp p n).filter P).length = p ^ L.length := by
  have dl : ∀ s : List Int, ((List.range n).map fun k => comb L s k % (p : Int)) ∈ tp p n := fun s => tp_mem.mpr ⟨by rw [List.length_map, List.length_range], fun x hx => by
    obtain ⟨k, _, rfl⟩ := List.mem_map.mp hx
    exact ⟨Int.emod_nonneg _ (by omega), Int.emod_lt_of_pos _ (by omega)⟩⟩
  have dg : ∀ (s : List Int) (k : Nat), k < n → ((List.range n).map fun k => comb L s k % (p : Int)).getD k 0 = comb L s k % (p : Int) := fun s k hk => by
    rw [List.getD_eq_getElem?_getD, List.getElem?_map, List.getElem?_range hk]
    rfl
  refine cnt (fun t => L.map fun x => t.getD x.1 0) (fun s => (List.range n).map fun k => comb L s k % (p : Int)) (fun t ht _ => ?_) (fun s t hs ht ps pt e => ?_) (fun s hs => ⟨dl s, (hP _ (dl s)).mpr ?_⟩) (fun s t hs ht e => ?_)
  · exact tp_mem.mpr ⟨List.length_map .., fun x hx => by
      obtain ⟨y, _, rfl⟩ := List.mem_map.mp hx
      exact tp_rs hp ht y.1⟩
  · have z : ∀ x ∈ L, cof s x.1 = cof t x.1 := fun x hx => List.map_inj_left.mp e x hx
    have a := h.made ((hP s hs).mp ps)
    have b := h.made ((hP t ht).mp pt)
    rw [lsum_map L z] at a
    exact tp_ext hp hs ht fun k _ => (a.trans b.symm) k
  · refine (comb_sp L s).eqm fun k => ?_
    show comb L s k % (p : Int) = ((List.range n).map fun k => comb L s k % (p : Int)).getD k 0 % (p : Int)
    by_cases hk : k < n
    · rw [dg s k hk, Int.emod_emod]
    · rw [comb_zero L s fun x hx => out x hx k (by omega), List.getD_eq_getElem?_getD, List.getElem?_eq_none (by rw [List.length_map, List.length_range]; omega)]
      rfl
  · refine tp_ext hp hs ht fun i hi => ?_
    have ls := (tp_mem.mp hs).1
    have lt' := (tp_mem.mp ht).1
    have hx := List.getElem?_eq_getElem hi
    have k1 := lt _ (List.getElem_mem hi)
    have e1 : comb L s L[i].1 % (p : Int) = comb L t L[i].1 % (p : Int) := by
      rw [← dg s _ k1, ← dg t _ k1]
      exact congrArg (fun l => l.getD L[i].1 0) e
    have a := h.comb_at s i _ _ hx (List.getElem?_eq_getElem (show i < s.length by omega))
    have b := h.comb_at t i _ _ hx (List.getElem?_eq_getElem (show i < t.length by omega))
    rw [List.getD_eq_getElem?_getD, List.getD_eq_getElem?_getD, List.getElem?_eq_getElem (show i < s.length by omega), List.getElem?_eq_getElem (show i < t.length by omega)]
    exact (a.symm.trans e1).trans b
end Xp
end
section
set_option Elab.async false
set_option linter.all false
set_option maxHeartbeats 1000000
/-! what all rows of a family weigh to 0 -/
namespace Xp
def dt (n : Nat) (u v : Cf) : Int := sm n fun k => u k * v k
theorem dt_comm (n : Nat) (u v : Cf) : dt n u v = dt n v u := sm_congr fun k _ => Int.mul_comm _ _
theorem dt_ad (n : Nat) (a b v : Cf) : dt n (ad a b) v = dt n a v + dt n b v := by
  unfold dt
  rw [← sm_add]
  exact sm_congr fun k _ => Int.add_mul _ _ _
theorem dt_sc (n : Nat) (c : Int) (a v : Cf) : dt n (sc c a) v = c * dt n a v := by
  unfold dt
  rw [← sm_mul]
  exact sm_congr fun k _ => Int.mul_assoc _ _ _
theorem dt_eqm {p : Int} {n : Nat} {a a' : Cf} (h : Eqm p a a') (v : Cf) : dt n a v % p = dt n a' v % p := sm_mod (fun k => by
  rw [Int.mul_emod, h k, ← Int.mul_emod]) n
theorem dt_nul (n : Nat) (v : Cf) : dt n nul v = 0 := sm_zero fun k _ => Int.zero_mul _
/-- what is made of rows that weigh v to 0 does so too -/
theorem Sp.dt {p : Int} {A : Cf → Prop} {n : Nat} {v : Cf} (h : ∀ u, A u → dt n u v % p = 0) {u : Cf} (a : Sp p A u) : Xp.dt n u v % p = 0 := by
  induction a with
  | nul => rw [dt_nul]; exact Int.zero_emod p
  | @add u w c hu _ ih => rw [dt_ad, dt_sc, Int.add_emod, ih, Int.mul_emod, h u hu, Int.mul_zero, Int.zero_emod]; rfl
  | eqm _ e ih => rw [← dt_eqm e]; exact ih
theorem sm_at {i : Nat} {a : Int} : ∀ {n : Nat}, i < n → sm n (fun k => if k = i then a else 0) = a
  | 0, h => absurd h (Nat.not_lt_zero i)
  | n + 1, h => by
    show sm n _ + (if n = i then a else 0) = a
    by_cases e : n = i
    · rw [if_pos e, sm_zero fun k hk => if_neg (by omega)]
      omega
    · rw [if_neg e, sm_at (by omega)]
      omega
theorem sm_mod2 {p : Int} {f g : Nat → Int} {n : Nat} (h : ∀ k, k < n → f k % p = g k % p) : sm n f % p = sm n g % p := by
  rw [sm_congr (g := fun k => if k < n then f k else 0) (fun i hi => (if_pos hi).symm), sm_congr (f := g) (g := fun k => if k < n then g k else 0) (fun i hi => (if_pos hi).symm)]
  exact sm_mod (fun i => by
    by_cases hi : i < n
    · rw [if_pos hi, if_pos hi]
      exact h i hi
    · rw [if_neg hi, if_neg hi]) n
theorem sm_one {p : Int} {f : Nat → Int} {n i : Nat} (hi : i < n) (h : ∀ k, k < n → k ≠ i → f k % p = 0) : sm n f % p = f i % p := by
  rw [sm_mod2 (g := fun k => if k = i then f i else 0) fun k hk => ?_, sm_at hi]
  by_cases e : k = i
  · rw [if_pos e, e]
  · rw [if_neg e, h k hk e, Int.zero_emod]
theorem sm_two {p : Int} {f : Nat → Int} {n i j : Nat} (hi : i < n) (hj : j < n) (ne : i ≠ j) (h : ∀ k, k < n → k ≠ i → k ≠ j → f k % p = 0) : sm n f % p = (f i + f j) % p := by
  rw [sm_mod2 (g := fun k => (if k = i then f i else 0) + (if k = j then f j else 0)) fun k hk => ?_, sm_add, sm_at hi, sm_at hj]
  by_cases e : k = i
  · rw [if_pos e, if_neg (by omega), e, Int.add_zero]
  · rw [if_neg e]
    by_cases e2 : k = j
    · rw [if_pos e2, e2, Int.zero_add]
    · rw [if_neg e2, h k hk e e2, Int.add_zero, Int.zero_emod]
theorem Uni.lsum_at {p : Int} (v : Cf) : ∀ {L : List (Nat × Cf)}, Uni p L → ∀ x ∈ L, lsum L v x.1 % p = v x.1 % p
  | [], _, x, hx => by cases hx
  | y :: L, h, x, hx => by
    show (v y.1 * y.2 x.1 + lsum L v x.1) % p = _
    rcases List.mem_cons.mp hx with rfl | hx
    · rw [Int.add_emod, Xp.lsum_at L fun z hz => by rw [Int.mul_emod, h.own x List.mem_cons_self z (List.mem_cons_of_mem _ hz) (h.nin z hz), Int.mul_zero, Int.zero_emod], Int.mul_emod, h.one x List.mem_cons_self, ← Int.mul_emod, Int.mul_one, Int.add_zero, Int.emod_emod]
    · rw [Int.add_emod, h.tail.lsum_at v x hx, Int.mul_emod, h.own x (List.mem_cons_of_mem _ hx) y List.mem_cons_self (fun e => h.nin x hx e.symm), Int.mul_zero, Int.zero_emod, Int.zero_add, Int.emod_emod]
/-- the told row of the free place c -/
structure Bas (p : Int) (L : List (Nat × Cf)) (c : Nat) (b : Cf) : Prop where
  one : b c % p = 1 % p
  at_ : ∀ x ∈ L, b x.1 % p = (-(x.2 c)) % p
  els : ∀ k, k ≠ c → k ∉ L.map (·.1) → b k % p = 0
theorem Bas.ker {p : Int} {n c : Nat} {L : List (Nat × Cf)} {b : Cf} (h : Uni p L) (B : Bas p L c b) (hc : c < n) (cn : c ∉ L.map (·.1)) (lt : ∀ x ∈ L, x.1 < n) : ∀ x ∈ L, dt n x.2 b % p = 0 := fun x hx => by
  have ne : c ≠ x.1 := fun e => cn (List.mem_map.mpr ⟨x, hx, e.symm⟩)
  unfold dt
  rw [sm_two hc (lt x hx) ne fun k _ k1 k2 => ?_]
  · have e1 : (x.2 c * b c) % p = (x.2 c) % p := by rw [Int.mul_emod, B.one, ← Int.mul_emod, Int.mul_one]
    have e2 : (x.2 x.1 * b x.1) % p = (-(x.2 c)) % p := by rw [Int.mul_emod, h.one x hx, B.at_ x hx, ← Int.mul_emod, Int.one_mul]
    rw [Int.add_emod, e1, e2, ← Int.add_emod, Int.add_right_neg, Int.zero_emod]
  · by_cases hs : k ∈ L.map (·.1)
    · obtain ⟨y, hy, rfl⟩ := List.mem_map.mp hs
      rw [Int.mul_emod, h.own y hy x hx k2, Int.zero_mul, Int.zero_emod]
    · rw [Int.mul_emod, B.els k k1 hs, Int.mul_zero, Int.zero_emod]
/-- the told rows, one for each free place -/
structure Free (p : Int) (n : Nat) (L B : List (Nat × Cf)) : Prop where
  bas : ∀ y ∈ B, Bas p L y.1 y.2
  lt : ∀ y ∈ B, y.1 < n
  nin : ∀ y ∈ B, y.1 ∉ L.map (·.1)
  all : ∀ c, c < n → c ∉ L.map (·.1) → c ∈ B.map (·.1)
  nd : (B.map (·.1)).Nodup
theorem Free.uni {p : Int} {n : Nat} {L B : List (Nat × Cf)} (F : Free p n L B) : Uni p B := ⟨fun y hy => (F.bas y hy).one, fun x hx y hy ne => (F.bas y hy).els x.1 ne (F.nin x hx), F.nd⟩
theorem Free.out {p : Int} {n : Nat} {L B : List (Nat × Cf)} (F : Free p n L B) (lt : ∀ x ∈ L, x.1 < n) : ∀ y ∈ B, ∀ k, n ≤ k → y.2 k % p = 0 := fun y hy k hk => (F.bas y hy).els k (fun e => by have := F.lt y hy; omega) fun m => by
  obtain ⟨x, hx, rfl⟩ := List.mem_map.mp m
  have := lt x hx
  omega
/-- what they span is what the family weighs to 0 -/
theorem Free.iff {p : Int} {n : Nat} {L B : List (Nat × Cf)} (h : Uni p L) (lt : ∀ x ∈ L, x.1 < n) (F : Free p n L B) {v : Cf} (out : ∀ k, n ≤ k → v k % p = 0) : Sp p (rows B) v ↔ ∀ x ∈ L, dt n x.2 v % p = 0 := by
  have one : ∀ x ∈ L, ∀ u, rows B u → dt n u x.2 % p = 0 := fun x hx u ⟨y, hy, e⟩ => by
    rw [← e, dt_comm]
    exact (F.bas y hy).ker h (F.lt y hy) (F.nin y hy) lt x hx
  constructor
  · intro a x hx
    rw [dt_comm]
    exact a.dt (one x hx)
  · intro k
    have ls : Sp p (rows B) (lsum B v) := lsum_sp v B
    refine ls.eqm fun j => ?_
    have diff : ∀ j, (v j - lsum B v j) % p = 0 → lsum B v j % p = v j % p := fun j e => by
      have := Int.emod_emod_of_dvd (v j) (Int.dvd_refl p)
      exact ((Int.emod_emod_of_dvd _ (Int.dvd_refl p)).symm.trans (Int.emod_emod_of_dvd _ (Int.dvd_refl p))).trans ((Int.emod_eq_emod_iff_emod_sub_eq_zero).mpr e).symm
    have fr : ∀ c, c < n → c ∉ L.map (·.1) → lsum B v c % p = v c % p := fun c hc cn => by
      obtain ⟨y, hy, rfl⟩ := List.mem_map.mp (F.all c hc cn)
      exact F.uni.lsum_at v y hy
    by_cases hj : j < n
    · by_cases hs : j ∈ L.map (·.1)
      · obtain ⟨x, hx, rfl⟩ := List.mem_map.mp hs
        have e1 : dt n x.2 (ad v (sc (-1) (lsum B v))) % p = 0 := by
          rw [dt_comm, dt_ad, dt_sc, Int.add_emod, dt_comm n v, k x hx, Int.mul_emod, ls.dt (one x hx), Int.mul_zero, Int.zero_emod]
          rfl
        unfold dt at e1
        rw [sm_one (lt x hx) fun i hi ne => ?_] at e1
        · have e2 : (x.2 x.1 * (v x.1 + -1 * lsum B v x.1)) % p = (v x.1 + -1 * lsum B v x.1) % p := by rw [Int.mul_emod, h.one x hx, ← Int.mul_emod, Int.one_mul]
          refine diff _ ?_
          rw [show v x.1 - lsum B v x.1 = v x.1 + -1 * lsum B v x.1 by omega, ← e2]
          exact e1
        · show (x.2 i * (v i + -1 * lsum B v i)) % p = 0
          by_cases hi2 : i ∈ L.map (·.1)
          · obtain ⟨y, hy, rfl⟩ := List.mem_map.mp hi2
            rw [Int.mul_emod, h.own y hy x hx ne, Int.zero_mul, Int.zero_emod]
          · have z := fr i hi hi2
            have z2 : (v i + -1 * lsum B v i) % p = 0 := by
              rw [show v i + -1 * lsum B v i = v i - lsum B v i by omega]
              exact (Int.emod_eq_emod_iff_emod_sub_eq_zero).mp z.symm
            rw [Int.mul_emod, z2, Int.mul_zero, Int.zero_emod]
      · exact fr j hj hs
    · rw [out j (by omega)]
      exact ls.zero fun u ⟨y, hy, e⟩ => e ▸ F.out lt y hy j (by omega)
/-- as many as the width less the family -/
theorem Free.len {p : Int} {n : Nat} {L B : List (Nat × Cf)} (h : Uni p L) (lt : ∀ x ∈ L, x.1 < n) (F : Free p n L B) : B.length + L.length = n := by
  have a := nodup_len (a := B.map (·.1) ++ L.map (·.1)) (b := List.range n) (List.nodup_append.mpr ⟨F.nd, h.nd, fun s hs t ht e => by
    obtain ⟨y, hy, rfl⟩ := List.mem_map.mp hs
    exact F.nin y hy (e ▸ ht)⟩) fun s hs => by
      rcases List.mem_append.mp hs with hs | hs
      · obtain ⟨y, hy, rfl⟩ := List.mem_map.mp hs
        exact List.mem_range.mpr (F.lt y hy)
      · obtain ⟨y, hy, rfl⟩ := List.mem_map.mp hs
        exact List.mem_range.mpr (lt y hy)
  have b := nodup_len (a := List.range n) (b := B.map (·.1) ++ L.map (·.1)) List.nodup_range fun s hs => by
    have hs := List.mem_range.mp hs
    by_cases q : s ∈ L.map (·.1)
    · exact List.mem_append_right _ q
    · exact List.mem_append_left _ (F.all s hs q)
  rw [List.length_append, List.length_map, List.length_map, List.length_range] at a b
  omega
end Xp
namespace Xp
open Classical in
/-- two such families that span the same have the same number of rows -/
theorem Uni.same_len {p n : Nat} (hp : 2 ≤ p) {U B : List (Nat × Cf)} (u : Uni (p : Int) U) (b : Uni (p : Int) B) (lu : ∀ x ∈ U, x.1 < n) (ou : ∀ x ∈ U, ∀ k, n ≤ k → x.2 k % (p : Int) = 0) (lb : ∀ x ∈ B, x.1 < n) (ob : ∀ x ∈ B, ∀ k, n ≤ k → x.2 k % (p : Int) = 0)
    (e : ∀ v, Sp (p : Int) (rows U) v ↔ Sp (p : Int) (rows B) v) : U.length = B.length := by
  have a := u.count (by omega) lu ou (P := fun t => decide (Sp (p : Int) (rows U) (cof t))) (fun t _ => decide_eq_true_iff)
  have c := b.count (by omega) lb ob (P := fun t => decide (Sp (p : Int) (rows U) (cof t))) (fun t _ => decide_eq_true_iff.trans (e _))
  exact pow_inj hp (a.symm.trans c)
end Xp
end
section
set_option Elab.async false
set_option linter.all false
set_option maxHeartbeats 1000000
/-! what the told rows of the free places weigh to 0 is spanned by the family -/
namespace Xp
theorem Free.dual {p : Int} {n : Nat} {L B : List (Nat × Cf)} (h : Uni p L) (lt : ∀ x ∈ L, x.1 < n) (ol : ∀ x ∈ L, ∀ k, n ≤ k → x.2 k % p = 0) (F : Free p n L B) {v : Cf} (out : ∀ k, n ≤ k → v k % p = 0) : Sp p (rows L) v ↔ ∀ y ∈ B, dt n y.2 v % p = 0 := by
  have one : ∀ y ∈ B, ∀ u, rows L u → dt n u y.2 % p = 0 := fun y hy u ⟨x, hx, e⟩ => by
    rw [← e]
    exact (F.bas y hy).ker h (F.lt y hy) (F.nin y hy) lt x hx
  constructor
  · intro a y hy
    rw [dt_comm]
    exact a.dt (one y hy)
  · intro k
    have ls : Sp p (rows L) (lsum L v) := lsum_sp v L
    refine ls.eqm fun j => ?_
    have diff : ∀ j, (v j - lsum L v j) % p = 0 → lsum L v j % p = v j % p := fun j e => by
      exact ((Int.emod_eq_emod_iff_emod_sub_eq_zero).mpr e).symm
    have sp : ∀ x ∈ L, lsum L v x.1 % p = v x.1 % p := fun x hx => h.lsum_at v x hx
    by_cases hj : j < n
    · by_cases hs : j ∈ L.map (·.1)
      · obtain ⟨x, hx, rfl⟩ := List.mem_map.mp hs
        exact sp x hx
      · obtain ⟨y, hy, rfl⟩ := List.mem_map.mp (F.all j hj hs)
        have e1 : dt n y.2 (ad v (sc (-1) (lsum L v))) % p = 0 := by
          rw [dt_comm, dt_ad, dt_sc, Int.add_emod, dt_comm n v, k y hy, Int.mul_emod, ls.dt (one y hy), Int.mul_zero, Int.zero_emod]
          rfl
        unfold dt at e1
        rw [sm_one hj fun i hi ne => ?_] at e1
        · have e2 : (y.2 y.1 * (v y.1 + -1 * lsum L v y.1)) % p = (v y.1 + -1 * lsum L v y.1) % p := by rw [Int.mul_emod, (F.bas y hy).one, ← Int.mul_emod, Int.one_mul]
          refine diff _ ?_
          rw [show v y.1 - lsum L v y.1 = v y.1 + -1 * lsum L v y.1 by omega, ← e2]
          exact e1
        · show (y.2 i * (v i + -1 * lsum L v i)) % p = 0
          by_cases hi2 : i ∈ L.map (·.1)
          · obtain ⟨x, hx, rfl⟩ := List.mem_map.mp hi2
            have z2 : (v x.1 + -1 * lsum L v x.1) % p = 0 := by
              rw [show v x.1 + -1 * lsum L v x.1 = v x.1 - lsum L v x.1 by omega]
              exact (Int.emod_eq_emod_iff_emod_sub_eq_zero).mp (sp x hx).symm
            rw [Int.mul_emod, z2, Int.mul_zero, Int.zero_emod]
          · rw [Int.mul_emod, (F.bas y hy).els i ne hi2, Int.zero_mul, Int.zero_emod]
    · rw [out j (by omega)]
      exact ls.zero fun u ⟨x, hx, e⟩ => e ▸ ol x hx j (by omega)
end Xp
end
section
set_option Elab.async false
set_option linter.all false
set_option maxRecDepth 100000
set_option maxHeartbeats 4000000
namespace Xk
open PySem PySem.Spec PyProof.Rows L2 Xh LamX NdefX
/-- t + u, both of rests -/
theorem catA {K : PySem.W.Frag} {H : Hp} {a b : Addr} {xs ys : List Int} {Q : VK} (ha : SqT K H a (xs.map V.int)) (hb : SqT K H b (ys.map V.int)) (l : xs.length ≤ 100) (l2 : ys.length ≤ 100) (k : ∀ r H', Same H H' → SqT K H' r ((xs ++ ys).map V.int) → Q (.ref r) H') : rCatA K (.ref a) (.ref b) H Q := by
  refine ⟨a, b, _, _, rfl, rfl, ha, hb, ?_, fun e => ?_, fun _ e => ?_, fun _ _ p hp => ?_⟩
  · rw [List.length_map, List.length_map]
    exact Nat.le_trans (show xs.length + ys.length ≤ 200 by omega) (by decide)
  · have z : xs = [] := List.map_eq_nil_iff.mp e
    subst z
    exact k b H (fun _ _ z => z) hb
  · have z : ys = [] := List.map_eq_nil_iff.mp e
    subst z
    refine k a H (fun _ _ z => z) ?_
    rw [List.append_nil]
    exact ha
  · refine k p _ (same_upd hp) (.inl (.inl ?_))
    rw [upd_same, List.map_append]
/-! ### the first place that isn't nought; the row that is 1 at one place -/
def spHead (K : PySem.W.Frag) : Sp := fun vs H Q _ => ∃ (a : Addr) (r : List Int) (s : Nat), vs = [.ref a] ∧ SqT K H a (r.map V.int) ∧ s < r.length ∧ r.length ≤ 50 ∧ r.getD s 0 ≠ 0 ∧ (∀ k, k < s → r.getD k 0 = 0) ∧ Q (.int (s : Nat)) H
def unitL (c n : Nat) : List Int := List.replicate c 0 ++ [1] ++ List.replicate (n - c - 1) 0
def spUnit (K : PySem.W.Frag) : Sp := fun vs H Q _ => ∃ c n : Nat, vs = [.int c, .int n] ∧ c < n ∧ n ≤ 50 ∧ ∀ (a : Addr) (H' : Hp), Same H H' → SqT K H' a ((unitL c n).map V.int) → Q (.ref a) H'
theorem repZ0 {K : PySem.W.Frag} {H : Hp} {Z : Addr} {k : Int} {Q : VK} (hZ : SqT K H Z [.int 0]) (h1 : -1000 ≤ k) (h2 : k ≤ 1000) (f : ∀ (r : Addr) (H' : Hp), Same H H' → SqT K H' r ((List.replicate k.toNat (0 : Int)).map V.int) → Q (.ref r) H') : rRepZ K (.ref Z) (.int k) H Q :=
  ⟨Z, k, [.int 0], rfl, rfl, hZ, by simp, h1, h2, by decide, fun e => f Z H (fun _ _ z => z) (by subst e; exact hZ), fun _ p hp => f p _ (same_upd hp) (.inl (.inl (by rw [upd_same, rep_zero])))⟩
section
variable {P : Program} {w : World} {K : PySem.W.Frag} {mg : Str → Option Value} {base : Heap}
abbrev s_head_place : Stmt := topS 35
theorem sc_head_place : FnScope (["row", "place"] : List Str) ["row"] (defScope s_head_place) := ⟨rfl, rfl, rfl, by decide +kernel, rfl, by decide +kernel, by decide +kernel⟩
theorem ok_head_place {f : Addr} {fd : FuncData} (F : FunD K "head_place" "head_place" (defArgs s_head_place) (defBody s_head_place) (defScope s_head_place) [] [] f fd) (T : Fre mg) : FnOk P w K mg base CX0 1 f fd ["row"] (spHead K) := by
  refine F.ok sc_head_place (fun vs H Q E h => ?_) (fun cdv A outer s H vs Q E hr h => ?_)
  · obtain ⟨a, r, s, rfl, _⟩ := h
    rfl
  · obtain ⟨a, r, t, rfl, hS, ht, hl, h1, h0, k⟩ := h
    refine ⟨_, PSs.nox (pss_cons (ps_set (i := 1) sc_head_place.nd rfl (Or.inl rfl) pe_int)
      (pss_cons (ps_while PassesOwn.never (pt_cmpR op_eq (pe_ix ix_tup (pv 0) (pv 1) (fun _ _ => rfl)) pe_int (nomark _)) (pss_one (ps_aug (i := 1) sc_head_place.nd rfl (Or.inl rfl) pe_int ip_add)))
      (pss_one (ps_ret (pv 1))))) , ?_⟩
    refine while_by (fun σ' H' => ∃ n : Nat, σ' = [some (.ref a), some (.int n)] ∧ H' = H ∧ n ≤ t) (fun σ' _ => t - slotN 1 σ') ⟨0, rfl, rfl, Nat.zero_le _⟩ ?_ ?_
    · rintro σ' H' ⟨n, rfl, rfl, hn⟩
      refine ⟨_, rfl, _, rfl, a, _, _, .int (r.getD n 0), rfl, rfl, hS, atI_map (by omega), rfl, _, rfl, ite2 (fun hb => ?_) (fun hb => ?_)⟩
      · have z := V.int.inj (of_decide_eq_true hb)
        have lt : n < t := by
          rcases Nat.lt_or_ge n t with q | q
          · exact q
          · rw [show n = t by omega] at z
            exact absurd z h1
        refine ⟨_, rfl, _, _, rfl, rfl, ⟨n + 1, rfl, rfl, by omega⟩, ?_⟩
        show t - ((n : Int) + 1).toNat < t - (n : Int).toNat
        omega
      · have e : n = t := by
          rcases Nat.lt_or_ge n t with q | q
          · exact absurd (decide_eq_true (by rw [h0 n q])) hb
          · omega
        subst e
        exact ⟨_, rfl, k⟩
    · rintro σ H Q Q' m ⟨x, e1, y, e2, p1, p2, p3, p4, e5, e6, e7, e8, e9, b2, e10, q⟩
      exact ⟨x, e1, y, e2, p1, p2, p3, p4, e5, e6, e7, e8, e9, b2, e10, m _ _ q⟩
abbrev s_unit_row : Stmt := topS 36
theorem sc_unit_row : FnScope (["place", "width"] : List Str) ["place", "width"] (defScope s_unit_row) := ⟨rfl, rfl, rfl, by decide +kernel, rfl, by decide +kernel, by decide +kernel⟩
theorem ok_unit_row {f : Addr} {fd : FuncData} (F : FunD K "unit_row" "unit_row" (defArgs s_unit_row) (defBody s_unit_row) (defScope s_unit_row) [] [] f fd) (T : Fre mg) : FnOk P w K mg base CX0 1 f fd ["place", "width"] (spUnit K) := by
  refine F.ok sc_unit_row (fun vs H Q E h => ?_) (fun cdv A outer s H vs Q E hr h => ?_)
  · obtain ⟨c, n, rfl, _⟩ := h
    rfl
  · obtain ⟨c, n, rfl, hc, hn, k⟩ := h
    refine ⟨_, PSs.nox (pss_one (ps_ret (pe_op op_catA (pe_op op_catA (pe_op op_repZ (pe_tup (pa_cons pe_int pa_nil)) (pv 0)) (pe_tup (pa_cons pe_int pa_nil))) (pe_op op_repZ (pe_tup (pa_cons pe_int pa_nil)) (pe_op op_sub (pe_op op_sub (pv 1) (pv 0)) pe_int))))) , ?_⟩
    refine ⟨(by show 1 ≤ sizeLine; decide), fun Z hZ => ⟨_, rfl, repZ0 (SqT.of upd_same) (by omega) (by omega) fun r1 H1 s1 e1 => ⟨(by show 1 ≤ sizeLine; decide), fun O hO => ?_⟩⟩⟩
    rw [Int.toNat_natCast] at e1
    have sO := same_upd (o := .tup [.int 1]) hO
    refine catA (ys := [1]) (sameT sO e1) (SqT.of upd_same) (by rw [List.length_replicate]; omega) (by decide) fun r2 H2 s2 e2 => ?_
    refine ⟨(by show 1 ≤ sizeLine; decide), fun Z2 hZ2 => ⟨_, rfl, _, rfl, _, _, rfl, rfl, _, _, rfl, rfl, repZ0 (SqT.of upd_same) (by omega) (by omega) fun r3 H3 s3 e3 => ?_⟩⟩
    have sZ2 := same_upd (o := .tup [.int 0]) hZ2
    rw [show ((n : Int) - (c : Int) - 1).toNat = n - c - 1 by omega] at e3
    refine catA (sameT (sZ2.trans s3) e2) e3 ?_ ?_ fun r4 H4 s4 e4 => k r4 H4 ((((same_upd hZ).trans s1).trans (sO.trans s2)).trans ((sZ2.trans s3).trans s4)) e4
    · rw [List.length_append, List.length_replicate]
      show c + 1 ≤ 100
      omega
    · rw [List.length_replicate]
      omega
end
end Xk
end
section
set_option Elab.async false
set_option linter.all false
set_option maxRecDepth 100000
set_option maxHeartbeats 4000000
/-! y = {k: v for ..} of a local name -/
namespace Xh
open PySem PySem.Spec PyProof.Rows L2
theorem sw_trueD {kx vx : Expr} {gs : List Comprehension} {scope : Scope} {pos py : Pos} {y : Str} {l : Nat} {env : Env} (hk : env.scope.kind = .function) (hy : env.scope.names.lookup y = some .local) (hl : (py.line == pos.line) = true)
    (ha : (scope.names.any fun (n, k) => n == y && (k == .local || k == .cell)) = false) : swapsWith (.DictComp kx vx gs scope pos) (some (.Name y py)) l env = pure true := by
  have e1 : env.kindOf y = some .local := hy
  have e2 : env.blockKind = .function := by
    unfold Env.blockKind
    rw [hk]
    rfl
  unfold swapsWith
  simp only [e2, e1, ha, Expr.pos, hl]
  rfl
theorem ps_setDc {X : Cx} {i : Nat} {y : Str} {py : Pos} {kx vx tg iter : Expr} {ifs : List Expr} {scope : Scope} {own : List (Str × Nat)} {pos spos : Pos} {wi : TI} {g : TG} {tt : TT} {tk tv : TE} (hc : X.calm = true) (hN : X.N.Nodup) (hy : X.N[i]? = some y) (hyl : X.env.scope.names.lookup y = some .local)
    (hsw : swapsWith (.DictComp kx vx [⟨tg, iter, ifs, 0⟩] scope pos) (some (.Name y py)) spos.line X.env = pure true) (hi : PI X tg iter wi) (ok : BlkOk X.N X.env.scope scope own)
    (hg : ∀ (s : Shared) (H : Hp) (C : Addr) (cl : List (Str × Addr)) (fp : List Addr), PG (X.blk s H scope (compEnvC scope cl C X.env) fp) tg g) (ht : ∀ (s : Shared) (H : Hp) (C : Addr) (cl : List (Str × Addr)) (fp : List Addr), PTs (X.blk s H scope (compEnvC scope cl C X.env) fp) ifs tt)
    (hk : ∀ (s : Shared) (H : Hp) (C : Addr) (cl : List (Str × Addr)) (fp : List Addr), PE (X.blk s H scope (compEnvC scope cl C X.env) fp) kx tk)
    (he : ∀ (s : Shared) (H : Hp) (C : Addr) (cl : List (Str × Addr)) (fp : List Addr), PE (X.blk s H scope (compEnvC scope cl C X.env) fp) vx tv) (hs : ∀ x, foldedSetIterable iter X.env x = pure x := by intro _; rfl) :
    PS X (.Assign [.Name y py] (.DictComp kx vx [⟨tg, iter, ifs, 0⟩] scope pos) spos) (tAsg (tDc wi g tt tk tv (own.map (·.2))) (gName i)) := by
  refine ⟨fun pins s σ H D I h => ?_⟩
  rw [exec_Assign_Name_used _ _ _ _ hsw]
  refine wpAny_bind (wpAny_standAt (wpAny_bind ?_))
  show wpAny _ X.A (do let _ ← comprehension (.DictComp kx vx [⟨tg, iter, ifs, 0⟩] scope pos) scope X.env (firstIterPos [⟨tg, iter, ifs, 0⟩] pos) newDict false (eval iter X.env) (some (assign (.Name y py) X.env))) _ _ s
  have h : tDc wi g tt tk tv (own.map (·.2)) σ H (fun x H1 => gName i x σ H1 D.nx) := h
  refine wpAny_bind (thn (dc_core (Qf := fun _ s' => SP X pins D .next s') hc hN I hi ok hg ht hk he hs h fun L C s' m H' I' q hn f => ?_) fun _ s' hq => wpAny_pure (wpAny_pure hq))
  show wpAny _ _ (assign (.Name y py) X.env (.ref L)) _ _ _
  refine wpAny_assign_Name (store_ok2 (v := V.ref L) I' hN hy (.inl hyl) rfl (fun s2 I2 ⟨a, sb, ha⟩ => ?_) (.inr hyl))
  obtain ⟨f0, f1, f2, f3, f4, f5⟩ := f
  have apart : C ≠ a := ha.elim (fun z => by rw [z]; exact f1) fun z e => f4 y a z e.symm
  refine ⟨m, hn.sameBut sb apart, fun h3 sb3 => ?_⟩
  exact ⟨_, H', I2.turned (t' := s2.toks) (fun b o hb e => (sb3.2 b hb).trans e) f0 f1 f3 f4 f5, q⟩
end Xh
end
section
set_option Elab.async false
set_option linter.all false
set_option maxRecDepth 100000
set_option maxHeartbeats 4000000
namespace Xk
open PySem PySem.Spec PyProof.Rows L2 Xh LamX NdefX
/-! ### a dict of places and rows -/
theorem dc_it {J : It} {n : Nat} {G : Hp → Prop} {Y : Nat → Hp → V → Hp → Prop} (w : Walk J n G Y) {g : TG} {tt : TT} {tk tv : TE} {vs : List Nat} {σ : L2.St} {H1 : Hp} {D : Addr} {Qd : Hp → Prop} (Pv : Nat → Hp → Prop) (h0 : Pv 0 (L2.upd H1 D (.dK []))) (hG : ∀ i H, i ≤ n → Pv i H → G H)
    (hs : ∀ i x H H', i < n → Pv i H → Y i H x H' → g x (wipe σ vs) H' fun σ2 H2 => wipe σ2 vs = wipe σ vs ∧ tt σ2 H2 fun b H3 =>
      if b = true then tk σ2 H3 fun y H4 => tv σ2 H4 fun z H5 => ∃ kvs k, y = kV k ∧ H5 D = some (.dK kvs) ∧ kvs.length < sizeLine ∧ Pv (i + 1) (L2.upd H5 D (.dK (putK kvs k z))) else Pv (i + 1) H3) (hd : ∀ H, Pv n H → Qd H) :
    ∃ W : Nat → Nat → Hp → Prop, (∃ m, W 0 m (L2.upd H1 D (.dK []))) ∧ ∀ i m H, W i m H →
      (J.stop i H ∧ Qd H) ∨ (J.go i H ∧ ∃ Nx : Hp → Prop, (∀ H', Nx H' → ∃ m', m' < m ∧ W (i + 1) m' H') ∧ ∀ x H', J.yld i H x H' → g x (wipe σ vs) H' fun σ2 H2 => wipe σ2 vs = wipe σ vs ∧ tt σ2 H2 fun b H3 =>
        if b = true then tk σ2 H3 fun y H4 => tv σ2 H4 fun z H5 => ∃ kvs k, y = kV k ∧ H5 D = some (.dK kvs) ∧ kvs.length < sizeLine ∧ Nx (L2.upd H5 D (.dK (putK kvs k z))) else Nx H3) := by
  refine ⟨fun i m H => m = n - i ∧ i ≤ n ∧ Pv i H, ⟨n, rfl, Nat.zero_le _, h0⟩, ?_⟩
  rintro i m H ⟨rfl, hi, pv⟩
  have q := hG i H hi pv
  by_cases lt : i < n
  · exact .inr ⟨w.1 i H lt q, Pv (i + 1), fun H' p' => ⟨n - (i + 1), by omega, rfl, lt, p'⟩, fun x H' y => hs i x H H' lt pv (w.3 i H x H' lt q y)⟩
  · have e : i = n := by omega
    subst e
    exact .inl ⟨w.2 H q, hd H pv⟩
def kvs (sp : List Nat) (la : List Addr) : List (Key × V) := (sp.zip la).map fun x => (.inl ((x.1 : Nat) : Int), .ref x.2)
theorem kvs_len {sp : List Nat} {la : List Addr} (h : sp.length = la.length) : (kvs sp la).length = sp.length := by
  unfold kvs
  rw [List.length_map, List.length_zip]
  omega
theorem kvs_snoc {sp : List Nat} {la : List Addr} (h : sp.length = la.length) (s : Nat) (l : Addr) : kvs (sp ++ [s]) (la ++ [l]) = kvs sp la ++ [(.inl ((s : Nat) : Int), .ref l)] := by
  unfold kvs
  rw [List.zip_append h, List.map_append]
  rfl
theorem kvs_find {c : Nat} : ∀ {sp : List Nat} {la : List Addr}, sp.length = la.length → (valV (kvs sp la) (.inl ((c : Nat) : Int))).isSome = decide (c ∈ sp)
  | [], [], _ => rfl
  | s :: sp, l :: la, h => by
    have ih := kvs_find (c := c) (sp := sp) (la := la) (Nat.succ.inj h)
    show (valV ((.inl ((s : Nat) : Int), .ref l) :: kvs sp la) _).isSome = _
    by_cases e : s = c
    · subst e
      rw [valV_pos rfl, decide_eq_true (List.mem_cons_self)]
      rfl
    · rw [valV_neg (fun z => e (by injection z with z; omega)), ih]
      refine decide_eq_decide.mpr ⟨fun m => List.mem_cons_of_mem _ m, fun m => ?_⟩
      rcases List.mem_cons.mp m with z | m
      · exact absurd z.symm e
      · exact m
  | [], _ :: _, h => by cases h
  | _ :: _, [], h => by cases h
theorem kvs_put {sp : List Nat} {la : List Addr} (h : sp.length = la.length) {s : Nat} (n : s ∉ sp) (l : Addr) : putK (kvs sp la) (.inl ((s : Nat) : Int)) (.ref l) = kvs (sp ++ [s]) (la ++ [l]) := by
  rw [kvs_snoc h]
  unfold putK
  rw [if_neg]
  intro z
  obtain ⟨x, hx, e⟩ := List.any_eq_true.mp z
  unfold kvs at hx
  obtain ⟨y, hy, rfl⟩ := List.mem_map.mp hx
  have e : (Sum.inl ((y.1 : Nat) : Int) : Key) = .inl ((s : Nat) : Int) := of_decide_eq_true e
  injection e with e
  have e2 : y.1 = s := by omega
  exact n (e2 ▸ (List.of_mem_zip hy).1)
theorem kvs_at {sp : List Nat} {la : List Addr} {i s : Nat} {l : Addr} (h1 : sp[i]? = some s) (h2 : la[i]? = some l) : (kvs sp la)[i]? = some (.inl ((s : Nat) : Int), .ref l) := by
  unfold kvs
  have z : (sp.zip la)[i]? = some (s, l) := List.getElem?_zip_eq_some.mpr ⟨h1, h2⟩
  rw [List.getElem?_map, z]
  rfl
end Xk
end
section
set_option Elab.async false
set_option linter.all false
set_option maxRecDepth 100000
set_option maxHeartbeats 4000000
namespace Xk
open PySem PySem.Spec PyProof.Rows L2 Xh LamX NdefX
theorem unitL_len {c n : Nat} (h : c < n) : (unitL c n).length = n := by
  unfold unitL
  rw [List.length_append, List.length_append, List.length_replicate, List.length_replicate]
  show c + 1 + (n - c - 1) = n
  omega
theorem unitL_at (c n k : Nat) : (unitL c n).getD k 0 = if k = c then 1 else 0 := by
  unfold unitL
  rw [List.append_assoc, List.getD_eq_getElem?_getD, List.getElem?_append]
  by_cases h : k < c
  · rw [if_pos (by rw [List.length_replicate]; exact h), ← List.getD_eq_getElem?_getD, getD_rep, if_neg (by omega)]
  · rw [if_neg (by rw [List.length_replicate]; exact h), List.length_replicate]
    by_cases e : k = c
    · rw [e, Nat.sub_self, if_pos rfl]
      rfl
    · rw [if_neg e]
      obtain ⟨m, hm⟩ : ∃ m, k - c = m + 1 := ⟨k - c - 1, by omega⟩
      rw [hm]
      show ((List.replicate (n - c - 1) (0 : Int))[m]?).getD 0 = 0
      rw [← List.getD_eq_getElem?_getD]
      exact getD_rep _ _
/-- the told rows of the free places below c -/
structure FreeT (p : Int) (sp : List Nat) (ts : List (List Int)) (c : Nat) (cs : List Nat) (bs : List (List Int)) : Prop where
  len : cs.length = bs.length
  lt : ∀ y ∈ cs, y < c
  nin : ∀ y ∈ cs, y ∉ sp
  all : ∀ y, y < c → y ∉ sp → y ∈ cs
  nd : cs.Nodup
  bas : ∀ (i y : Nat) (b : List Int), cs[i]? = some y → bs[i]? = some b → Xp.Bas p (fam sp ts) y (co b)
theorem FreeT.init (p : Int) (sp : List Nat) (ts : List (List Int)) : FreeT p sp ts 0 [] [] := ⟨rfl, fun _ h => (nomatch h), fun _ h => (nomatch h), fun y h => absurd h (Nat.not_lt_zero y), List.nodup_nil, fun _ _ _ h => by cases h⟩
theorem FreeT.skip {p : Int} {sp : List Nat} {ts : List (List Int)} {c : Nat} {cs : List Nat} {bs : List (List Int)} (F : FreeT p sp ts c cs bs) (h : c ∈ sp) : FreeT p sp ts (c + 1) cs bs := ⟨F.len, fun y hy => Nat.lt_succ_of_lt (F.lt y hy), F.nin, fun y hy n => (Nat.lt_or_ge y c).elim (fun q => F.all y q n) (fun q => absurd ((show y = c by omega) ▸ h) n), F.nd, F.bas⟩
theorem FreeT.step {p : Int} {sp : List Nat} {ts : List (List Int)} {c : Nat} {cs : List Nat} {bs : List (List Int)} {b : List Int} (F : FreeT p sp ts c cs bs) (h : c ∉ sp) (B : Xp.Bas p (fam sp ts) c (co b)) : FreeT p sp ts (c + 1) (cs ++ [c]) (bs ++ [b]) := by
  refine ⟨by rw [List.length_append, List.length_append, F.len]; rfl, fun y hy => ?_, fun y hy => ?_, fun y hy n => ?_, ?_, fun i y b' h1 h2 => ?_⟩
  · rcases List.mem_append.mp hy with hy | hy
    · exact Nat.lt_succ_of_lt (F.lt y hy)
    · rw [List.mem_singleton.mp hy]
      exact Nat.lt_succ_self c
  · rcases List.mem_append.mp hy with hy | hy
    · exact F.nin y hy
    · rw [List.mem_singleton.mp hy]
      exact h
  · rcases Nat.lt_or_ge y c with q | q
    · exact List.mem_append_left _ (F.all y q n)
    · exact List.mem_append_right _ (List.mem_singleton.mpr (by omega))
  · exact List.nodup_append.mpr ⟨F.nd, by simp, fun a ha b hb e => by
      have := F.lt a ha
      rw [e, List.mem_singleton.mp hb] at this
      exact absurd this (Nat.lt_irrefl c)⟩
  · by_cases hi : i < cs.length
    · rw [List.getElem?_append_left hi] at h1
      rw [List.getElem?_append_left (by rw [← F.len]; exact hi)] at h2
      exact F.bas i y b' h1 h2
    · have e : i = cs.length := by
        have := (List.getElem?_eq_some_iff.mp h1).1
        rw [List.length_append] at this
        have : i < cs.length + 1 := this
        omega
      subst e
      rw [List.getElem?_append_right (Nat.le_refl _), Nat.sub_self] at h1
      rw [F.len, List.getElem?_append_right (Nat.le_refl _), Nat.sub_self] at h2
      cases h1
      cases h2
      exact B
def spKer (T : List (Addr × Str)) : Sp := fun vs H Q _ => ∃ (R : Addr) (la : List Addr) (rs : List (List Int)) (n : Nat) (p : Int), vs = [.ref R, .int n, .int p] ∧ H R = some (.lst (la.map V.ref)) ∧ Rws H la rs ∧ (∀ r ∈ rs, Rw p n r) ∧ rs.length ≤ 24 ∧ 1 ≤ n ∧ n ≤ 24 ∧ p ∈ primes ∧ Tabs T H ∧
  ∀ (D : Addr) (ds : List Addr) (sp sq : List Nat) (ts us bs : List (List Int)) (H' : Hp), Gr T H H' → H D = none → H' D = some (.lst (ds.map V.ref)) → Rws H' ds us → Form p n rs sp ts → Form p n bs sq us → (∃ cs, FreeT p sp ts n cs bs) → (∀ r ∈ bs, Rw p n r) → Q (.ref D) H'
section
variable {P : Program} {w : World} {K : PySem.W.Frag} {mg : Str → Option Value} {base : Heap}
abbrev s_raw_kernel : Stmt := topS 37
theorem sc_raw_kernel : FnScope (["rows", "width", "prime", "heads", "row", "basis", "free", "told", "place"] : List Str) ["rows", "width", "prime"] (defScope s_raw_kernel) := ⟨rfl, rfl, rfl, by decide +kernel, rfl, by decide +kernel, by decide +kernel⟩
theorem ok_raw_kernel {TT : List (Addr × Str)} {f : Addr} {fd : FuncData} (F : FunD K "raw_kernel" "raw_kernel" (defArgs s_raw_kernel) (defBody s_raw_kernel) (defScope s_raw_kernel) [] [] f fd) (T : Fre mg) (o_raw_stepped : Own P w K mg base CX0 4 "raw_stepped" ["rows", "width", "prime"] [] (spStepW TT)) (o_head_place : Own P w K mg base CX0 1 "head_place" ["row"] [] (spHead K)) (o_unit_row : Own P w K mg base CX0 1 "unit_row" ["place", "width"] [] (spUnit K)) : FnOk P w K mg base CX0 5 f fd ["rows", "width", "prime"] (spKer TT) := by
  refine F.ok sc_raw_kernel (fun vs H Q E h => ?_) (fun cdv A outer s H vs Q E hr h => ?_)
  · obtain ⟨R, la, rs, n, p, rfl, _⟩ := h
    rfl
  · obtain ⟨R, la, rs, n, p, rfl, eR, hR, hrw, lrs, n1, n24, hp, hT, k⟩ := h
    refine ⟨_, PSs.nox (pss_cons (ps_setDc (i := 3) (own := [("row", 4)]) rfl sc_raw_kernel.nd rfl rfl (sw_trueD rfl rfl rfl (by decide +kernel)) (pi_list (pe_own o_raw_stepped (hr.mono (by decide)) rfl pass0 (pa_cons (pv 0) (pa_cons (pv 1) (pa_cons (pv 2) pa_nil))))) (blkOk_by (own := [("row", 4)]) (N := ["rows", "width", "prime", "heads", "row", "basis", "free", "told", "place"]) (sc := defScope s_raw_kernel) (by decide +kernel)) (fun _ _ _ _ _ => pg_name (i := 4) sc_raw_kernel.nd rfl (Or.inl rfl) (Or.inr rfl)) (fun _ _ _ _ _ => pts_nil) (fun _ _ _ _ _ => (pe_own o_head_place (hr.mono (by decide)) rfl pass0 (pa_cons (pv 4) pa_nil))) (fun _ _ _ _ _ => (pv 4)))
      (pss_cons (ps_set (i := 5) sc_raw_kernel.nd rfl (Or.inl rfl) (pe_lst pa_nil))
      (pss_cons (ps_for PassesOwn.never rfl (pi_range1 (by rfl) T.f_range (pa_cons (pv 1) pa_nil)) (pg_name (i := 6) sc_raw_kernel.nd rfl (Or.inl rfl)) (pss_one (ps_if (pt_cmp (pc_dnotin (Nat.lt_of_le_of_lt (Nat.add_le_add_left (by decide) _) hr.units) (pv 6) (pv 3))) (pss_cons (ps_set (i := 7) sc_raw_kernel.nd rfl (Or.inl rfl) (pe_callTy call_list_of (by rfl) T.f_list (by decide +kernel) (pa_cons (pe_own o_unit_row (hr.mono (by decide)) rfl pass0 (pa_cons (pv 6) (pa_cons (pv 1) pa_nil))) pa_nil)))
      (pss_cons (ps_lock (ps_for PassesOwn.never rfl (pi_items (pv 3)) (pg_tup rfl (pgs_cons (pg_name (i := 8) sc_raw_kernel.nd rfl (Or.inl rfl)) (pgs_cons (pg_name (i := 4) sc_raw_kernel.nd rfl (Or.inl rfl)) pgs_nil))) (pss_one (ps_asg (pe_op op_modN (pe_un un_neg (pe_ix ix_tup (pv 4) (pv 6) (fun _ _ => rfl))) (pv 2)) (pg_sub (pv 7) (pv 8) set_list)))))
      (pss_one (ps_expr (pe_bm PySem.F.plainAttrs_list PySem.F.slot_list_append PySem.F.type_list_append mt_append (pv 5) (pa_cons (pe_callTy call_tuple_of (by rfl) T.f_tuple (by decide +kernel) (pa_cons (pv 7) pa_nil)) pa_nil)))))) pss_nil)))
      (pss_one (ps_ret (pe_own o_raw_stepped (hr.mono (by decide)) rfl pass0 (pa_cons (pv 5) (pa_cons (pv 1) (pa_cons (pv 2) pa_nil))))))))) , ?_⟩
    have hpm := pm_of hp
    have lo := hpm.lo
    have hi := hpm.hi
    have nz : p ≠ 0 := by omega
    refine ⟨_, rfl, _, rfl, _, rfl, R, la, rs, n, n, p, rfl, eR, hR, hrw, lrs, n1, Nat.le_refl n, by omega, n24, hp, hT, fun L ll sp _ ts H1 g1 nL eL hL S => ?_⟩
    have F := S.form
    have lll := hL.len
    have lts := F.fm.len_le
    have lsp := F.len
    refine ⟨L, rfl, ⟨_, SqL.of eL⟩, fun D hD => ?_⟩
    refine dc_it (walk_list (xs := ll.map V.ref)) (fun i H' => Same H1 H' ∧ H1 D = none ∧ H' D = some (.dK (kvs (sp.take i) (ll.take i)))) ⟨same_upd hD, hD, upd_same⟩ (fun i H' _ h => SqL.of (h.1 _ _ eL)) ?_ ?_
    · rintro i x H2 H3 hi2 ⟨s2, n2, e2⟩ ⟨rfl, hx⟩
      rw [List.length_map] at hi2
      obtain ⟨l, r, rfl, hr, er⟩ := (hL.keep (kpS s2)).at hx
      obtain ⟨t, ht⟩ : ∃ t, sp[i]? = some t := ⟨_, List.getElem?_eq_getElem (show i < sp.length by omega)⟩
      have hl2 : ll[i]? = some l := by
        rw [List.getElem?_map] at hx
        obtain ⟨z, hz, e⟩ := Option.map_eq_some_iff.mp hx
        cases e
        exact hz
      obtain ⟨r1, rz⟩ := Red_at lo F.red F.trw ht hr
      have wr := F.trw r (List.mem_of_getElem? hr)
      have lr := wr.len
      have tn := F.lt t (List.mem_of_getElem? ht)
      refine ⟨rfl, _, rfl, l, r, t, rfl, sqD er, by omega, by omega, by rw [r1]; decide, rz, _, rfl, _, .inl ((t : Nat) : Int), rfl, e2, ?_, lcs n2 s2, n2, ?_⟩
      · rw [kvs_len (by rw [List.length_take, List.length_take]; omega), List.length_take]
        exact small1000 (by omega)
      · rw [upd_same, kvs_put (by rw [List.length_take, List.length_take]; omega) ?_ l, List.take_succ, List.take_succ, ht, hl2]
        · rfl
        · intro m
          obtain ⟨j, hj, e⟩ := List.mem_iff_getElem.mp m
          rw [List.length_take] at hj
          rw [List.getElem_take] at e
          have tt := List.getElem?_eq_some_iff.mp ht
          have := List.pairwise_iff_getElem.mp F.srt j i (by omega) tt.1 (by omega)
          rw [e, tt.2] at this
          exact absurd this (Nat.lt_irrefl _)
    rintro H2 ⟨s2, n2, e2⟩
    rw [List.length_map, lll, ← lsp, List.take_length, lsp, ← lll, List.take_length] at e2
    refine ⟨(by show 0 ≤ sizeLine; decide), fun BL hBL => ⟨_, rfl, (n : Int), rfl, by omega, by omega, ?_⟩⟩
    rw [Int.toNat_natCast]
    refine for_range (lo := 0) (n := n) (fun c σ' H' => ∃ (bl : List Addr) (bs : List (List Int)) (cs : List Nat) (x4 x6 x7 x8 : Option V), σ' = [some (.ref R), some (.int n), some (.int p), some (.ref D), x4, some (.ref BL), x6, x7, x8] ∧ Same H2 H' ∧ H' BL = some (.lst (bl.map V.ref)) ∧ Rws H' bl bs ∧ (∀ r ∈ bs, Rw p n r) ∧ FreeT p sp ts c cs bs)
      ⟨[], [], [], none, none, none, none, rfl, same_upd hBL, upd_same, trivial, fun _ h => (nomatch h), FreeT.init p sp ts⟩ ?_ ?_
    · rintro c σ' H3 hc ⟨bl, bs, cs, x4, x6, x7, x8, rfl, s3, e3, h3, w3, FT⟩
      have eD := s3 _ _ e2
      have lbl := h3.len
      have lbs : bs.length ≤ c := by
        rw [← FT.len]
        have z := Xp.nodup_len (b := List.range c) FT.nd fun x hx => List.mem_range.mpr (FT.lt x hx)
        rwa [List.length_range] at z
      refine ⟨_, rfl, _, rfl, D, _, rfl, .inl ⟨kvs sp ll, .inl (0 + (c : Int)), .inl eD, rfl, rfl⟩, _, rfl, ?_⟩
      rw [Int.zero_add, kvs_find (by omega)]
      by_cases hcs : c ∈ sp
      · rw [decide_eq_true hcs]
        exact iteF ⟨bl, bs, cs, _, _, _, _, rfl, s3, e3, h3, w3, FT.skip hcs⟩
      · rw [decide_eq_false hcs]
        refine iteT ⟨_, rfl, _, rfl, c, n, rfl, hc, by omega, fun a Ha sa ea => ⟨a, _, rfl, .inr ea, fun TL hTL => ?_⟩⟩
        have nTL2 : H2 TL = none := (s3.trans sa).free hTL
        have nBL2 : H2 BL = none := hBL
        have eDx : L2.upd Ha TL (.lst ((unitL c n).map V.int)) D = some (.dK (kvs sp ll)) := same_upd hTL _ _ (sa _ _ eD)
        have eTx : L2.upd Ha TL (.lst ((unitL c n).map V.int)) TL = some (.lst ((unitL c n).map V.int)) := upd_same
        have sx : Same H3 (L2.upd Ha TL (.lst ((unitL c n).map V.int))) := sa.trans (same_upd hTL)
        generalize hHx : L2.upd Ha TL (.lst ((unitL c n).map V.int)) = Hx at eDx eTx sx
        have neD : D ≠ TL := fun z => by
          rw [z, nTL2] at e2
          cases e2
        refine ⟨D, .dK (kvs sp ll), eDx, trivial, fun od => ?_⟩
        refine ⟨_, rfl, D, od, kvs sp ll, rfl, upd_same, ?_⟩
        refine for_it (walk_items (kvs := kvs sp ll)) (fun j σ' H' => ∃ (ms : List Int) (x4 x8 : Option V), σ' = [some (.ref R), some (.int n), some (.int p), some (.ref D), x4, some (.ref BL), some (.int c), some (.ref TL), x8] ∧ H' D = some (.frz od (.dK (kvs sp ll))) ∧ (∀ b o, Hx b = some o → b ≠ D → b ≠ TL → H' b = some o) ∧ H' TL = some (.lst (ms.map V.int)) ∧ ms.length = n ∧ (∀ k, k ∉ sp.take j → ms.getD k 0 = if k = c then 1 else 0) ∧ ∀ (i t : Nat) (r : List Int), i < j → sp[i]? = some t → ts[i]? = some r → ms.getD t 0 = (-(r.getD c 0)).fmod p)
          ⟨unitL c n, x4, x8, rfl, upd_same, fun b o h nb _ => by rw [upd_ne nb]; exact h, by rw [upd_ne (Ne.symm neD)]; exact eTx, unitL_len hc, fun k _ => unitL_at c n k, fun i _ _ h => absurd h (Nat.not_lt_zero i)⟩ (fun i σ' H' _ ⟨_, _, _, _, q, _⟩ => q) ?_ ?_
        · rintro j x σ' H4 H5 hj ⟨ms, x4, x8, rfl, eF, kp, eT, lm, m1, m2⟩ ⟨Tp, u, v, rfl, hTp, rfl, g1', g2'⟩
          rw [kvs_len (by omega)] at hj
          obtain ⟨t, ht⟩ : ∃ t, sp[j]? = some t := ⟨_, List.getElem?_eq_getElem hj⟩
          obtain ⟨l, hl⟩ : ∃ l, ll[j]? = some l := ⟨_, List.getElem?_eq_getElem (show j < ll.length by omega)⟩
          have kj := kvs_at ht hl
          have g1' : (kvs sp ll)[j]?.map (fun kv => kV kv.1) = some u := g1'
          have g2' : (kvs sp ll)[j]?.map Prod.snd = some v := g2'
          rw [kj] at g1' g2'
          cases g1'
          cases g2'
          obtain ⟨r, hr, er0⟩ := hL.get j l hl
          have erx : Hx l = some (.tup (r.map V.int)) := sx _ _ (s3 _ _ (s2 _ _ er0))
          have nlD : l ≠ D := fun z => by rw [z, eDx] at erx; cases erx
          have nlT : l ≠ TL := fun z => by rw [z, eTx] at erx; cases erx
          have er := same_upd (o := .tup [.int (t : Nat), .ref l]) hTp _ _ (kp _ _ erx nlD nlT)
          have eT5 := same_upd (o := .tup [.int (t : Nat), .ref l]) hTp _ _ eT
          have eF5 := same_upd (o := .tup [.int (t : Nat), .ref l]) hTp _ _ eF
          have tn := F.lt t (List.mem_of_getElem? ht)
          have lr := (F.trw r (List.mem_of_getElem? hr)).len
          refine ⟨Tp, _, rfl, .inl (.inl upd_same), rfl, _, _, rfl, _, _, rfl, rfl, ?_⟩
          refine ⟨_, rfl, _, rfl, l, _, _, .int (r.getD c 0), rfl, rfl, sqD er, atI_map (by omega), _, rfl, _, rfl, _, _, rfl, rfl, nz, _, rfl, _, rfl, TL, _, _, t, rfl, rfl, eT5, ixN_nat (by rw [List.length_map]; omega), ?_⟩
          refine ⟨ms.set t ((-(r.getD c 0)).fmod p), _, _, rfl, ?_, fun b o h nb nt => ?_, ?_, by rw [List.length_set]; exact lm, fun k hk => ?_, fun i t' r' hi2 ht' hr' => ?_⟩
          · rw [upd_ne neD]
            exact eF5
          · rw [upd_ne nt]
            exact same_upd hTp _ _ (kp b o h nb nt)
          · rw [upd_same, List.map_set]
          · rw [List.take_succ, ht] at hk
            have k1 : k ∉ sp.take j := fun m => hk (List.mem_append_left _ m)
            have k2 : k ≠ t := fun z => hk (List.mem_append_right _ (by rw [z]; exact List.mem_singleton.mpr rfl))
            rw [getD_set (by omega), if_neg k2]
            exact m1 k k1
          · rw [getD_set (by omega)]
            have a1 := List.getElem?_eq_some_iff.mp ht
            have a2 := List.getElem?_eq_some_iff.mp ht'
            rcases Nat.lt_or_ge i j with q | q
            · have z := List.pairwise_iff_getElem.mp F.srt i j a2.1 a1.1 q
              rw [a1.2, a2.2] at z
              rw [if_neg (by omega)]
              exact m2 i t' r' q ht' hr'
            · have e : i = j := by omega
              subst e
              rw [ht] at ht'
              rw [hr] at hr'
              cases ht'
              cases hr'
              rw [if_pos rfl]
        · rintro σ' H4 ⟨ms, x4, x8, rfl, eF, kp, eT, lm, m1, m2⟩
          rw [kvs_len (by omega)] at m1 m2
          rw [List.take_length] at m1
          refine ⟨eF, ?_⟩
          have eT' : L2.upd H4 D (.dK (kvs sp ll)) TL = some (.lst (ms.map V.int)) := by rw [upd_ne (Ne.symm neD)]; exact eT
          have sy : ∀ b o, Hx b = some o → b ≠ TL → L2.upd H4 D (.dK (kvs sp ll)) b = some o := fun b o h nb => by
            by_cases z : b = D
            · rw [z, upd_same]
              rw [z, eDx] at h
              exact h
            · rw [upd_ne z]
              exact kp b o h z nb
          generalize hHy : L2.upd H4 D (.dK (kvs sp ll)) = Hy at eT' sy
          have neB : BL ≠ TL := fun z => by
            have := sa _ _ e3
            rw [z, hTL] at this
            cases this
          have eB := sy _ _ (sx _ _ e3) neB
          refine ⟨_, rfl, .inl ⟨rfl, _, SqL.of eB⟩, _, rfl, TL, _, rfl, .inl ⟨SqL.of eT', fun v hv => ?_⟩⟩
          have sv := same_upd (o := .tup (ms.map V.int)) hv
          have s2y : Same H2 Hy := fun b o h => sy b o (sx _ _ (s3 _ _ h)) (fun z => by rw [z, nTL2] at h; cases h)
          have wm : Rw p n ms := by
            refine ⟨lm, fun k => ?_⟩
            by_cases hk : k ∈ sp
            · obtain ⟨i, hi2⟩ := List.mem_iff_getElem?.mp hk
              have il := (List.getElem?_eq_some_iff.mp hi2).1
              rw [m2 i k _ il hi2 (List.getElem?_eq_getElem (show i < ts.length by omega))]
              exact ⟨Int.fmod_nonneg_of_pos _ hpm.pos, Int.fmod_lt_of_pos _ hpm.pos⟩
            · rw [m1 k hk]
              split <;> omega
          have bas : Xp.Bas p (fam sp ts) c (co ms) := by
            refine ⟨?_, fun x hx => ?_, fun k k1 k2 => ?_⟩
            · show ms.getD c 0 % p = 1 % p
              rw [m1 c hcs, if_pos rfl]
            · obtain ⟨i, t, r, q1, q2, rfl⟩ := mem_fam hx
              show ms.getD t 0 % p = (-(r.getD c 0)) % p
              rw [m2 i t r (List.getElem?_eq_some_iff.mp q1).1 q1 q2, fm_em hpm.pos, Int.emod_emod]
            · rw [fam_spots lsp] at k2
              show ms.getD k 0 % p = 0
              rw [m1 k k2, if_neg k1, Int.zero_emod]
          refine ⟨BL, _, _, rfl, rfl, sv _ _ eB, ?_, bl ++ [v], bs ++ [ms], cs ++ [c], _, _, _, _, rfl, lcs nBL2 (s2y.trans sv), ?_, ?_, fun q hq => ?_, FT.step hcs bas⟩
          · rw [List.length_map, lbl]
            exact small1000 (by omega)
          · rw [upd_same, List.map_append]
            rfl
          · refine (Rws.snoc upd_same (h3.keep (fun b xs h => sv _ _ (sy _ _ (sx _ _ h) (fun z => ?_))))).keep (kpU (sv _ _ eB))
            have := sa _ _ h
            rw [z, hTL] at this
            cases this
          · rcases List.mem_append.mp hq with hq | hq
            · exact w3 q hq
            · rw [List.mem_singleton.mp hq]
              exact wm
    · rintro σ' H3 ⟨bl, bs, cs, x4, x6, x7, x8, rfl, s3, e3, h3, w3, FT⟩
      have g3 := g1.same (s2.trans s3)
      refine ⟨_, rfl, _, rfl, _, rfl, BL, bl, bs, n, n, p, rfl, e3, h3, w3, ?_, n1, Nat.le_refl n, by omega, n24, hp, g3.t, fun D' ds sq _ us H' g' nD' eD' hD' S' => k D' ds sp sq ts us bs H' (g3.trans g') (g3.n _ nD') eD' hD' F S'.form ⟨cs, FT⟩ w3⟩
      rw [← FT.len]
      have z := Xp.nodup_len (b := List.range n) FT.nd fun x hx => List.mem_range.mpr (FT.lt x hx)
      rw [List.length_range] at z
      omega
end
end Xk
end
section
set_option Elab.async false
set_option linter.all false
set_option maxRecDepth 100000
set_option maxHeartbeats 4000000
namespace Xk
open PySem PySem.Spec PyProof.Rows L2 Xh LamX NdefX
/-! ### kernels: what they are told to be -/
theorem FreeT.free {p : Int} {n : Nat} {sp cs : List Nat} {ts bs : List (List Int)} (F : FreeT p sp ts n cs bs) (ln : sp.length = ts.length) : Xp.Free p n (fam sp ts) (fam cs bs) := by
  refine ⟨fun y hy => ?_, fun y hy => ?_, fun y hy => ?_, fun c hc hn => ?_, ?_⟩
  · obtain ⟨j, s, r, h1, h2, rfl⟩ := mem_fam hy
    exact F.bas j s r h1 h2
  · obtain ⟨j, s, r, h1, h2, rfl⟩ := mem_fam hy
    exact F.lt s (List.mem_of_getElem? h1)
  · obtain ⟨j, s, r, h1, h2, rfl⟩ := mem_fam hy
    rw [fam_spots ln]
    exact F.nin s (List.mem_of_getElem? h1)
  · rw [fam_spots ln] at hn
    rw [fam_spots F.len]
    exact F.all c hc hn
  · rw [fam_spots F.len]
    exact F.nd
/-- us: the told kernel of rs -/
structure Kn (p : Int) (n : Nat) (rs : List (List Int)) (sp sq : List Nat) (ts us bs : List (List Int)) : Prop where
  F : Form p n rs sp ts
  G : Form p n bs sq us
  fr : ∃ cs, FreeT p sp ts n cs bs
  w : ∀ r ∈ bs, Rw p n r
section
variable {p : Int} {n : Nat} {rs ts us bs : List (List Int)} {sp sq : List Nat}
theorem Form.ltf (F : Form p n rs sp ts) : ∀ x ∈ fam sp ts, x.1 < n := fun x hx => by
  obtain ⟨j, s, r, h1, h2, rfl⟩ := mem_fam hx
  exact F.lt s (List.mem_of_getElem? h1)
theorem Rw.out {r : List Int} (w : Rw p n r) : ∀ k, n ≤ k → co r k % p = 0 := fun k hk => by
  show r.getD k 0 % p = 0
  rw [getD_over (by rw [w.len]; exact hk), Int.zero_emod]
theorem Form.outf (F : Form p n rs sp ts) : ∀ x ∈ fam sp ts, ∀ k, n ≤ k → x.2 k % p = 0 := fun x hx => by
  obtain ⟨j, s, r, h1, h2, rfl⟩ := mem_fam hx
  exact (F.trw r (List.mem_of_getElem? h2)).out
theorem Kn.span (N : Kn p n rs sp sq ts us bs) {cs : List Nat} (FT : FreeT p sp ts n cs bs) (v : Xp.Cf) : Xp.Sp p (Xp.rows (fam sq us)) v ↔ Xp.Sp p (Xp.rows (fam cs bs)) v := by
  constructor
  · exact fun h => h.trans fun u hu => by
      obtain ⟨x, hx, e⟩ := hu
      obtain ⟨j, s, r, h1, h2, rfl⟩ := mem_fam hx
      subst e
      exact (N.G.dn r (List.mem_of_getElem? h2)).trans fun u hu => by
        obtain ⟨b, hb, rfl⟩ := hu
        exact .one (fam_row FT.len hb)
  · exact fun h => h.trans fun u hu => by
      obtain ⟨x, hx, e⟩ := hu
      obtain ⟨j, s, r, h1, h2, rfl⟩ := mem_fam hx
      subst e
      exact N.G.up r (List.mem_of_getElem? h2)
/-- it spans what all rows weigh to 0 -/
theorem Kn.iff (N : Kn p n rs sp sq ts us bs) {v : Xp.Cf} (out : ∀ k, n ≤ k → v k % p = 0) : Xp.Sp p (Xp.rows (fam sq us)) v ↔ ∀ r ∈ rs, Xp.dt n (co r) v % p = 0 := by
  obtain ⟨cs, FT⟩ := N.fr
  rw [N.span FT, (FT.free N.F.len).iff N.F.red.uni N.F.ltf out]
  constructor
  · exact fun h r hr => Xp.Sp.dt (fun u ⟨x, hx, e⟩ => e ▸ h x hx) (N.F.up r hr)
  · intro h x hx
    obtain ⟨j, s, r, h1, h2, rfl⟩ := mem_fam hx
    exact Xp.Sp.dt (fun u ⟨x, hx, e⟩ => e ▸ h x hx) (N.F.dn r (List.mem_of_getElem? h2))
theorem Kn.zero (N : Kn p n rs sp sq ts us bs) : ∀ r ∈ rs, ∀ u ∈ us, Xp.dt n (co r) (co u) % p = 0 := fun r hr u hu =>
  (N.iff (N.G.trw u hu).out).mp (.one (fam_row N.G.len hu)) r hr
theorem Kn.len (hp : 2 ≤ p) (N : Kn p n rs sp sq ts us bs) : us.length + ts.length = n := by
  obtain ⟨cs, FT⟩ := N.fr
  obtain ⟨q, rfl⟩ := Int.eq_ofNat_of_zero_le (show 0 ≤ p by omega)
  have a := (FT.free N.F.len).len N.F.red.uni N.F.ltf
  have b := Xp.Uni.same_len (p := q) (n := n) (by omega) N.G.red.uni (FT.free N.F.len).uni N.G.ltf N.G.outf (FT.free N.F.len).lt ((FT.free N.F.len).out N.F.ltf) (N.span FT)
  have l1 : (fam sq us).length = us.length := by
    show (sq.zip (us.map co)).length = _
    rw [List.length_zip, List.length_map, N.G.len]
    omega
  have l2 : (fam sp ts).length = ts.length := by
    show (sp.zip (ts.map co)).length = _
    rw [List.length_zip, List.length_map, N.F.len]
    omega
  omega
theorem Kn.cnt {q : Nat} (hq : 2 ≤ q) (N : Kn (q : Int) n rs sp sq ts us bs) {P : List Int → Bool} (hP : ∀ t ∈ Xp.tp q n, P t = true ↔ ∀ r ∈ rs, Xp.dt n (co r) (co t) % (q : Int) = 0) : ((Xp.tp q n).filter P).length = q ^ us.length := by
  have z := N.G.red.uni.count (p := q) (n := n) (by omega) N.G.ltf N.G.outf (P := P) fun t ht => (hP t ht).trans (N.iff fun k hk => ?_).symm
  · rw [z]
    congr 1
    show (sq.zip (us.map co)).length = _
    rw [List.length_zip, List.length_map, N.G.len]
    omega
  · show t.getD k 0 % (q : Int) = 0
    rw [getD_over (by rw [(Xp.tp_mem.mp ht).1]; exact hk), Int.zero_emod]
/-- one row by itself, 1 at its first place -/
theorem Form.one {r : List Int} {s : Nat} (w : Rw p n r) (hs : s < n) (h1 : r.getD s 0 % p = 1 % p) (lo : ∀ k, k < s → r.getD k 0 % p = 0) : Form p n [r] [s] [r] := by
  have m : ∀ x ∈ fam [s] [r], x = (s, co r) := fun x hx => List.mem_singleton.mp hx
  refine ⟨rfl, fun u hu => ?_, ⟨fun x hx => ?_, fun x hx k hk => ?_, fun x hx y hy ne => ?_, (by show [s].Nodup; simp)⟩, List.pairwise_singleton _ _, fun t ht => ?_, fun u hu => ?_, fun u hu => ?_⟩
  · rw [List.mem_singleton.mp hu]
    exact w
  · rw [m x hx]
    exact h1
  · rw [m x hx] at hk ⊢
    exact lo k hk
  · rw [m x hx, m y hy] at ne
    exact absurd rfl ne
  · rw [List.mem_singleton.mp ht]
    exact hs
  · rw [List.mem_singleton.mp hu]
    exact .one ⟨_, List.mem_singleton.mpr rfl, rfl⟩
  · rw [List.mem_singleton.mp hu]
    exact .one ⟨_, List.mem_singleton.mpr rfl, rfl⟩
end
/-- tuples of values stand at these -/
def Tps (H : Hp) : List Addr → List (List V) → Prop
  | [], [] => True
  | l :: ls, r :: rs => H l = some (.tup r) ∧ Tps H ls rs
  | _, _ => False
theorem Tps.len {H : Hp} : ∀ {ls : List Addr} {rs : List (List V)}, Tps H ls rs → ls.length = rs.length
  | [], [], _ => rfl
  | _ :: _, _ :: _, h => congrArg Nat.succ (Tps.len h.2)
  | [], _ :: _, h => h.elim
  | _ :: _, [], h => h.elim
theorem Tps.keep {H H' : Hp} (k : ∀ a xs, H a = some (.tup xs) → H' a = some (.tup xs)) : ∀ {ls : List Addr} {rs : List (List V)}, Tps H ls rs → Tps H' ls rs
  | [], [], _ => trivial
  | _ :: _, _ :: _, h => ⟨k _ _ h.1, Tps.keep k h.2⟩
  | [], _ :: _, h => h.elim
  | _ :: _, [], h => h.elim
theorem Tps.app {H : Hp} {ls' : List Addr} {rs' : List (List V)} (g : Tps H ls' rs') : ∀ {ls : List Addr} {rs : List (List V)}, Tps H ls rs → Tps H (ls ++ ls') (rs ++ rs')
  | [], [], _ => g
  | _ :: _, _ :: _, h => ⟨h.1, Tps.app g h.2⟩
  | [], _ :: _, h => h.elim
  | _ :: _, [], h => h.elim
theorem Tps.snoc {H : Hp} {l : Addr} {r : List V} (e : H l = some (.tup r)) {ls : List Addr} {rs : List (List V)} (h : Tps H ls rs) : Tps H (ls ++ [l]) (rs ++ [r]) := Tps.app (ls' := [l]) (rs' := [r]) ⟨e, trivial⟩ h
theorem Tps.get {H : Hp} : ∀ {ls : List Addr} {rs : List (List V)}, Tps H ls rs → ∀ (i : Nat) (l : Addr), ls[i]? = some l → ∃ r, rs[i]? = some r ∧ H l = some (.tup r)
  | [], [], _, i, l, e => by cases e
  | _ :: _, r :: _, h, 0, l, e => by
    cases e
    exact ⟨r, rfl, h.1⟩
  | _ :: ls, _ :: rs, h, i + 1, l, e => Tps.get (ls := ls) (rs := rs) h.2 i l e
  | [], _ :: _, h, _, _, _ => h.elim
  | _ :: _, [], h, _, _, _ => h.elim
theorem Tps.at {H : Hp} {ls : List Addr} {rs : List (List V)} (h : Tps H ls rs) {i : Nat} {x : V} (hx : (ls.map V.ref)[i]? = some x) : ∃ (l : Addr) (r : List V), x = .ref l ∧ rs[i]? = some r ∧ H l = some (.tup r) := by
  rw [List.getElem?_map] at hx
  obtain ⟨l, hl, e⟩ := Option.map_eq_some_iff.mp hx
  obtain ⟨r, hr, e2⟩ := h.get i l hl
  exact ⟨l, r, e.symm, hr, e2⟩
/-- each with each rest -/
def prR (q : Nat) (xs : List V) : List (List V) := xs.flatMap fun x => (List.range q).map fun k => [x, .int ((k : Nat) : Int)]
def prC (xs ys : List V) : List (List V) := xs.flatMap fun x => ys.map fun y => [x, y]
theorem len_flat {α β : Type} {f : α → List β} {m : Nat} : ∀ xs : List α, (∀ x ∈ xs, (f x).length = m) → (xs.flatMap f).length = xs.length * m
  | [], _ => (Nat.zero_mul m).symm
  | x :: xs, h => by
    rw [List.flatMap_cons, List.length_append, h x List.mem_cons_self, len_flat xs fun y hy => h y (List.mem_cons_of_mem _ hy), List.length_cons, Nat.succ_mul, Nat.add_comm]
theorem prR_len (q : Nat) (xs : List V) : (prR q xs).length = xs.length * q := len_flat xs fun x _ => by rw [List.length_map, List.length_range]
theorem prC_len (xs ys : List V) : (prC xs ys).length = xs.length * ys.length := len_flat xs fun x _ => by rw [List.length_map]
theorem prC_mem {xs ys : List V} {z : List V} (h : z ∈ prC xs ys) : ∃ x ∈ xs, ∃ y ∈ ys, z = [x, y] := by
  obtain ⟨x, hx, hz⟩ := List.mem_flatMap.mp h
  obtain ⟨y, hy, rfl⟩ := List.mem_map.mp hz
  exact ⟨x, hx, y, hy, rfl⟩
theorem prR_at {H : Hp} {q : Nat} : ∀ {la : List Addr} {rs : List (List Int)}, Rws H la rs → ∀ (i : Nat) (z : List V), (prR q (la.map V.ref))[i]? = some z → ∃ (l : Addr) (t : List Int) (k : Nat), z = [.ref l, .int ((k : Nat) : Int)] ∧ k < q ∧ (rs.flatMap fun t => (List.range q).map fun k => t ++ [((k : Nat) : Int)])[i]? = some (t ++ [((k : Nat) : Int)]) ∧ t ∈ rs ∧ H l = some (.tup (t.map V.int))
  | [], [], _, i, z, h => by cases h
  | l :: la, t :: rs, h, i, z, hz => by
    unfold prR at hz
    rw [List.map_cons, List.flatMap_cons] at hz
    rw [List.flatMap_cons]
    by_cases hi : i < q
    · rw [List.getElem?_append_left (by rw [List.length_map, List.length_range]; exact hi), List.getElem?_map, List.getElem?_range hi] at hz
      rw [List.getElem?_append_left (by rw [List.length_map, List.length_range]; exact hi), List.getElem?_map, List.getElem?_range hi]
      cases hz
      exact ⟨l, t, i, rfl, hi, rfl, List.mem_cons_self, h.1⟩
    · rw [List.getElem?_append_right (by rw [List.length_map, List.length_range]; omega), List.length_map, List.length_range] at hz
      rw [List.getElem?_append_right (by rw [List.length_map, List.length_range]; omega), List.length_map, List.length_range]
      obtain ⟨l', t', k, e1, e2, e3, e4, e5⟩ := prR_at h.2 (i - q) z hz
      exact ⟨l', t', k, e1, e2, e3, List.mem_cons_of_mem _ e4, e5⟩
  | [], _ :: _, h, _, _, _ => h.elim
  | _ :: _, [], h, _, _, _ => h.elim
theorem catU {K : PySem.W.Frag} {H : Hp} {a b : Addr} {xs ys : List Int} {Q : VK} (ha : H a = some (.tup (xs.map V.int))) (hb : H b = some (.tup (ys.map V.int))) (l : xs.length ≤ 100) (l2 : ys.length ≤ 100) (k : ∀ r H', Same H H' → H' r = some (.tup ((xs ++ ys).map V.int)) → Q (.ref r) H') : rCatA K (.ref a) (.ref b) H Q := by
  refine ⟨a, b, _, _, rfl, rfl, sqD ha, sqD hb, ?_, fun e => ?_, fun _ e => ?_, fun _ _ p hp => ?_⟩
  · rw [List.length_map, List.length_map]
    exact Nat.le_trans (show xs.length + ys.length ≤ 200 by omega) (by decide)
  · have z : xs = [] := List.map_eq_nil_iff.mp e
    subst z
    exact k b H (fun _ _ z => z) hb
  · have z : ys = [] := List.map_eq_nil_iff.mp e
    subst z
    refine k a H (fun _ _ z => z) ?_
    rw [List.append_nil]
    exact ha
  · refine k p _ (same_upd hp) ?_
    rw [upd_same, List.map_append]
def spSize : Sp := fun vs H Q _ => ∃ (p : Int) (m : Nat), vs = [.int p, .int m] ∧ Pm p ∧ m ≤ 24 ∧ Q (.int (p ^ m)) H
def spPairs : Sp := fun vs H Q _ => ∃ (R : Addr) (xs : List V) (q : Nat), vs = [.ref R, .int q] ∧ H R = some (.lst xs) ∧ xs.length * q ≤ 200 ∧ q ≤ 200 ∧
  ∀ (F : Addr) (qs : List Addr) (H' : Hp), Same H H' → H F = none → H' F = some (.lst (qs.map V.ref)) → Tps H' qs (prR q xs) → Q (.ref F) H'
def spCross : Sp := fun vs H Q _ => ∃ (A B : Addr) (xs ys : List V), vs = [.ref A, .ref B] ∧ H A = some (.lst xs) ∧ H B = some (.lst ys) ∧ xs.length ≤ 30 ∧ ys.length ≤ 30 ∧
  ∀ (F : Addr) (qs : List Addr) (H' : Hp), Same H H' → H F = none → H' F = some (.lst (qs.map V.ref)) → Tps H' qs (prC xs ys) → Q (.ref F) H'
def spTuples : Sp := fun vs H Q _ => ∃ (q m : Nat), vs = [.int q, .int m] ∧ 2 ≤ q ∧ q ≤ 200 ∧ m ≤ 24 ∧ q ^ m ≤ 150 ∧
  ∀ (F : Addr) (la : List Addr) (H' : Hp), Same H H' → H F = none → H' F = some (.lst (la.map V.ref)) → Rws H' la (Xp.tp q m) → Q (.ref F) H'
def spDot : Sp := fun vs H Q _ => ∃ (a b : Addr) (xs ys : List Int) (n : Nat) (p : Int), vs = [.ref a, .ref b, .int p] ∧ H a = some (.tup (xs.map V.int)) ∧ H b = some (.tup (ys.map V.int)) ∧ Rw p n xs ∧ Rw p n ys ∧ n ≤ 24 ∧ Pm p ∧
  ∀ (H' : Hp), Same H H' → Q (.int (Xp.dt n (co xs) (co ys) % p)) H'
section
variable {P : Program} {w : World} {K : PySem.W.Frag} {mg : Str → Option Value} {base : Heap}
abbrev s_kernel : Stmt := topS 31
theorem sc_kernel : FnScope (["rows", "width", "prime"] : List Str) ["rows", "width", "prime"] (defScope s_kernel) := ⟨rfl, rfl, rfl, by decide +kernel, rfl, by decide +kernel, by decide +kernel⟩
theorem ok_kernel {TT : List (Addr × Str)} {f : Addr} {fd : FuncData} {kws : List (Str × V)} (F : FunD K "kernel" "kernel" (defArgs s_kernel) (defBody s_kernel) (defScope s_kernel) [] kws f fd) (o_refuse_table : Own P w K mg base (L2.CX P w) 4 "refuse_table" ["rows", "width", "prime"] [] spRefT) (o_raw_kernel : Own P w K mg base CX0 5 "raw_kernel" ["rows", "width", "prime"] [] (spKer TT)) : FnOk P w K mg base (L2.CX P w) 6 f fd ["rows", "width", "prime"] (spKer TT) := by
  refine F.ok sc_kernel (fun vs H Q E h => ?_) (fun cdv A outer s H vs Q E hr h => ?_)
  · obtain ⟨R, la, rs, n, p, rfl, _⟩ := h
    rfl
  · obtain ⟨R, la, rs, n, p, rfl, eR, hR, hrw, lrs, n1, n24, hp, hT, k⟩ := h
    refine ⟨_, (pss_cons (ps_expr (pe_own o_refuse_table (hr.mono (by decide)) rfl (passes_call (takes_of rfl rfl rfl rfl) (fun _ _ _ _ h => h)) (pa_cons (pv 0) (pa_cons (pv 1) (pa_cons (pv 2) pa_nil)))))
      (pss_one (ps_ret (pe_own o_raw_kernel (hr.mono (by decide)) rfl pass0 (pa_cons (pv 0) (pa_cons (pv 1) (pa_cons (pv 2) pa_nil))))))) , ?_⟩
    refine ⟨_, rfl, _, rfl, _, rfl, R, la, rs, n, p, rfl, eR, hR, hrw, lrs, n1, n24, hp, fun H1 s1 => ?_⟩
    exact ⟨_, rfl, _, rfl, _, rfl, R, la, rs, n, p, rfl, s1 _ _ eR, hR.keep (kpS s1), hrw, lrs, n1, n24, hp, hT.ext s1, fun D ds sp sq ts us bs H' g2 nD eD hD F G FT wb => k D ds sp sq ts us bs H' ((Gr.of hT s1).trans g2) (s1.free nD) eD hD F G FT wb⟩
abbrev s_law_dot : Stmt := topS 53
theorem sc_law_dot : FnScope (["_law_one", "_law_other", "_law_p", "_law_a", "_law_b"] : List Str) ["_law_one", "_law_other", "_law_p"] (defScope s_law_dot) := ⟨rfl, rfl, rfl, by decide +kernel, rfl, by decide +kernel, by decide +kernel⟩
theorem ok_law_dot {f : Addr} {fd : FuncData} (F : FunD K "_law_dot" "_law_dot" (defArgs s_law_dot) (defBody s_law_dot) (defScope s_law_dot) [] [] f fd) (T : Fre mg) : FnOk P w K mg base CX0 1 f fd ["_law_one", "_law_other", "_law_p"] spDot := by
  refine F.ok sc_law_dot (fun vs H Q E h => ?_) (fun cdv A outer s H vs Q E hr h => ?_)
  · obtain ⟨a, b, xs, ys, n, p, rfl, _⟩ := h
    rfl
  · obtain ⟨a, b, xs, ys, n, p, rfl, ea, eb, wx, wy, hn, hp, k⟩ := h
    have lo := hp.lo
    have hi := hp.hi
    have nz : p ≠ 0 := by omega
    have l1 := wx.len
    have l2 := wy.len
    refine ⟨_, PSs.nox (pss_one (ps_ret (pe_op op_modN (pe_callB (cr_sum rfl) (by rfl) T.f_sum (by decide +kernel) (pa_cons (pe_lc (own := [("_law_a", 3), ("_law_b", 4)]) (g := (gTup K 2 (gCons (gName 3) (gCons (gName 4) gNil)))) rfl sc_law_dot.nd (RZ.pi_zipA (by rfl) T.f_zip (pa_cons (pv 0) (pa_cons (pv 1) pa_nil))) (blkOk_by (own := [("_law_a", 3), ("_law_b", 4)]) (N := ["_law_one", "_law_other", "_law_p", "_law_a", "_law_b"]) (sc := defScope s_law_dot) (by decide +kernel)) (fun _ _ _ _ _ => pg_tup rfl (pgs_cons (pg_name (i := 3) sc_law_dot.nd rfl (Or.inl rfl) (Or.inr rfl)) (pgs_cons (pg_name (i := 4) sc_law_dot.nd rfl (Or.inl rfl) (Or.inr rfl)) pgs_nil))) (fun _ _ _ _ _ => pts_nil) (fun _ _ _ _ _ => (pe_op op_mul (pv 3) (pv 4)))) pa_nil)) (pv 2)))) , ?_⟩
    refine ⟨_, rfl, _, rfl, a, b, _, _, rfl, .inr ⟨sqD ea, sqD eb, fun D hD => ?_⟩⟩
    refine lc_it (walk_zipT (xs := xs.map V.int) (ys := ys.map V.int) (by rw [List.length_map, List.length_map]; omega)) (fun i H1 => Same H H1 ∧ ∃ ms : List Int, H1 D = some (.lst (ms.map V.int)) ∧ ms.length = i ∧ ms.sum = Xp.sm i fun j => co xs j * co ys j)
      ⟨same_upd hD, [], upd_same, rfl, rfl⟩ (fun i H1 _ h => ⟨sqD (h.1 _ _ ea), sqD (h.1 _ _ eb)⟩) ?_ ?_
    · rintro i x H1 H2 hi2 ⟨s3, ms, e3, l3, c3⟩ ⟨Tp, x1, y1, rfl, hTp, rfl, g1, g2⟩
      rw [List.length_map] at hi2
      have h1 := (map_at xs i (by omega)).symm.trans g1
      have h2 := (map_at ys i (by omega)).symm.trans g2
      cases h1
      cases h2
      obtain ⟨b0, b1⟩ := wy.rs i
      have s4 := s3.trans (same_upd (o := .tup [.int (xs.getD i 0), .int (ys.getD i 0)]) hTp)
      refine ⟨Tp, _, rfl, .inl (.inl upd_same), rfl, _, _, rfl, _, _, rfl, rfl, rfl, _, rfl, _, rfl, _, _, rfl, rfl, .inr ⟨by omega, by omega⟩, _, by rw [upd_ne (ne_of_none e3 hTp)]; exact e3, ?_, lcs hD s4, ms ++ [xs.getD i 0 * ys.getD i 0], ?_, ?_, ?_⟩
      · rw [List.length_map]
        exact small1000 (by omega)
      · rw [upd_same, List.map_append]
        rfl
      · rw [List.length_append, l3]
        rfl
      · rw [List.sum_append, c3]
        show _ + (xs.getD i 0 * ys.getD i 0 + 0) = Xp.sm i _ + xs.getD i 0 * ys.getD i 0
        rw [Int.add_zero]
    · rintro H1 ⟨s3, ms, e3, l3, c3⟩
      rw [List.length_map, l1] at c3
      refine ⟨D, _, rfl, SqL.of e3, _, rfl, _, _, rfl, rfl, nz, ?_⟩
      rw [c3]
      show Q (.int ((Xp.sm n fun j => co xs j * co ys j).fmod p)) H1
      rw [fm_em hp.pos]
      exact k H1 s3
end
end Xk
end
section
set_option Elab.async false
set_option linter.all false
set_option maxRecDepth 100000
set_option maxHeartbeats 4000000
namespace Xk
open PySem PySem.Spec PyProof.Rows L2 Xh LamX NdefX
/-! ### rows put wider: how they are made of one another -/
/-- the rows, each by its weight -/
def lin : List (List Int) → (Nat → Int) → Xp.Cf
  | [], _ => Xp.nul
  | r :: rs, w => Xp.ad (Xp.sc (w 0) (co r)) (lin rs fun i => w (i + 1))
theorem lin_ad : ∀ (rs : List (List Int)) (a b : Nat → Int), lin rs (fun i => a i + b i) = Xp.ad (lin rs a) (lin rs b)
  | [], a, b => (Xp.ad_nul Xp.nul).symm
  | r :: rs, a, b => funext fun k => by
    have z := congrFun (lin_ad rs (fun i => a (i + 1)) fun i => b (i + 1)) k
    have z : lin rs (fun i => a (i + 1) + b (i + 1)) k = lin rs (fun i => a (i + 1)) k + lin rs (fun i => b (i + 1)) k := z
    show (a 0 + b 0) * co r k + lin rs (fun i => a (i + 1) + b (i + 1)) k = (a 0 * co r k + lin rs (fun i => a (i + 1)) k) + (b 0 * co r k + lin rs (fun i => b (i + 1)) k)
    rw [z, Int.add_mul]
    omega
theorem lin_sc (c : Int) : ∀ (rs : List (List Int)) (a : Nat → Int), lin rs (fun i => c * a i) = Xp.sc c (lin rs a)
  | [], a => (Xp.sc_nul c).symm
  | r :: rs, a => by
    show Xp.ad (Xp.sc (c * a 0) (co r)) (lin rs fun i => c * a (i + 1)) = Xp.sc c (Xp.ad (Xp.sc (a 0) (co r)) (lin rs fun i => a (i + 1)))
    rw [lin_sc c rs fun i => a (i + 1), Xp.sc_ad, Xp.sc_sc]
theorem lin_eqm {p : Int} : ∀ (rs : List (List Int)) {a b : Nat → Int}, (∀ i, i < rs.length → a i % p = b i % p) → Xp.Eqm p (lin rs a) (lin rs b)
  | [], _, _, _ => Xp.Eqm.refl p _
  | r :: rs, a, b, h => (Xp.Eqm.sc2 (h 0 (Nat.succ_pos _)) (co r)).ad (lin_eqm rs fun i hi => h (i + 1) (Nat.succ_lt_succ hi))
theorem lin_zero : ∀ (rs : List (List Int)), lin rs (fun _ => 0) = Xp.nul
  | [] => rfl
  | r :: rs => by
    show Xp.ad (Xp.sc 0 (co r)) (lin rs fun _ => 0) = Xp.nul
    rw [lin_zero rs, Xp.sc_zero, Xp.ad_nul]
theorem lin_unit : ∀ (rs : List (List Int)) (i : Nat) (r : List Int), rs[i]? = some r → lin rs (fun j => if j = i then 1 else 0) = co r
  | [], _, _, h => by cases h
  | q :: rs, 0, r, h => by
    cases h
    show Xp.ad (Xp.sc 1 (co q)) (lin rs fun j => if j + 1 = 0 then 1 else 0) = co q
    rw [show (fun j : Nat => if j + 1 = 0 then (1 : Int) else 0) = fun _ => 0 from funext fun j => if_neg (Nat.succ_ne_zero j), lin_zero, Xp.sc_one, Xp.ad_nul]
  | q :: rs, i + 1, r, h => by
    have h : rs[i]? = some r := h
    show Xp.ad (Xp.sc (if 0 = i + 1 then 1 else 0) (co q)) (lin rs fun j => if j + 1 = i + 1 then 1 else 0) = co r
    rw [if_neg (by omega), show (fun j : Nat => if j + 1 = i + 1 then (1 : Int) else 0) = fun j => if j = i then 1 else 0 from funext fun j => by
      by_cases e : j = i
      · rw [if_pos (by omega), if_pos e]
      · rw [if_neg (by omega), if_neg e], lin_unit rs i r h, Xp.sc_zero, Xp.nul_ad]
theorem lin_wgt : ∀ (rs : List (List Int)) (ws : List Int), ws.length = rs.length → lin rs (fun i => ws.getD i 0) = wgt rs ws
  | [], [], _ => rfl
  | r :: rs, w :: ws, h => by
    show Xp.ad (Xp.sc w (co r)) (lin rs fun i => ws.getD i 0) = Xp.ad (Xp.sc w (co r)) (wgt rs ws)
    rw [lin_wgt rs ws (Nat.succ.inj h)]
  | [], _ :: _, h => by cases h
  | _ :: _, [], h => by cases h
theorem wgt_sp {p : Int} : ∀ {rs : List (List Int)} (ws : List Int), Xp.Sp p (rset rs) (wgt rs ws)
  | [], _ => .nul
  | _ :: _, [] => .nul
  | r :: rs, w :: ws => .add w ⟨r, List.mem_cons_self, rfl⟩ ((wgt_sp (rs := rs) ws).trans fun u ⟨q, hq, e⟩ => .one ⟨q, List.mem_cons_of_mem _ hq, e⟩)
/-- what stands ahead is the rows by what stands behind -/
def Tl (p : Int) (n : Nat) (rs : List (List Int)) (v : Xp.Cf) : Prop := ∀ k, k < n → v k % p = lin rs (fun i => v (n + i)) k % p
theorem tl_sp {p : Int} {n : Nat} {rs : List (List Int)} {A : Xp.Cf → Prop} (h : ∀ u, A u → Tl p n rs u) {v : Xp.Cf} (a : Xp.Sp p A v) : Tl p n rs v := by
  induction a with
  | nul =>
    intro k hk
    rw [show (fun i => Xp.nul (n + i)) = fun _ : Nat => (0 : Int) from rfl, lin_zero]
  | @add u v c hu _ ih =>
    intro k hk
    have e : lin rs (fun i => Xp.ad (Xp.sc c u) v (n + i)) = Xp.ad (Xp.sc c (lin rs fun i => u (n + i))) (lin rs fun i => v (n + i)) := by
      rw [← lin_sc, ← lin_ad]
      rfl
    rw [e]
    show (c * u k + v k) % p = (c * lin rs (fun i => u (n + i)) k + lin rs (fun i => v (n + i)) k) % p
    rw [Int.add_emod, ih k hk, Int.mul_emod, h u hu k hk, ← Int.mul_emod, ← Int.add_emod]
  | eqm _ e ih =>
    intro k hk
    rw [← e k, ih k hk]
    exact lin_eqm rs (fun i _ => e (n + i)) k
/-- what stands ahead, alone -/
def cut (n : Nat) (v : Xp.Cf) : Xp.Cf := fun k => if k < n then v k else 0
theorem cut_sp {p : Int} {n : Nat} {A B : Xp.Cf → Prop} (h : ∀ u, A u → Xp.Sp p B (cut n u)) {v : Xp.Cf} (a : Xp.Sp p A v) : Xp.Sp p B (cut n v) := by
  induction a with
  | nul =>
    exact .eqm .nul fun k => by
      show 0 % p = (if k < n then 0 else 0) % p
      split <;> rfl
  | @add u v c hu _ ih =>
    exact (((h u hu).sc c).ad ih).eqm fun k => by
      show (c * (if k < n then u k else 0) + (if k < n then v k else 0)) % p = (if k < n then c * u k + v k else 0) % p
      split
      · rfl
      · rw [Int.mul_zero, Int.add_zero]
  | eqm _ e ih =>
    exact ih.eqm fun k => by
      show (if k < n then _ else 0) % p = (if k < n then _ else 0) % p
      split
      · exact e k
      · rfl
theorem getD_cat (a b : List Int) (k : Nat) : (a ++ b).getD k 0 = if k < a.length then a.getD k 0 else b.getD (k - a.length) 0 := by
  rw [List.getD_eq_getElem?_getD, List.getElem?_append]
  split
  · rw [List.getD_eq_getElem?_getD]
  · rw [List.getD_eq_getElem?_getD]
theorem getD_tk (a : List Int) (n k : Nat) : (a.take n).getD k 0 = if k < n then a.getD k 0 else 0 := by
  rw [List.getD_eq_getElem?_getD, List.getElem?_take]
  split
  · rw [List.getD_eq_getElem?_getD]
  · rfl
theorem co_tk (a : List Int) (n : Nat) : co (a.take n) = cut n (co a) := funext fun k => getD_tk a n k
/-- the rows, each with a row of a unit behind it -/
structure Wide (n : Nat) (rs ws : List (List Int)) : Prop where
  len : ws.length = rs.length
  at_ : ∀ (i : Nat) (r w : List Int), rs[i]? = some r → ws[i]? = some w → w = r ++ unitL i rs.length
section
variable {p : Int} {n : Nat} {rs ws ls ts : List (List Int)} {sp : List Nat}
theorem Wide.mem (W : Wide n rs ws) {w : List Int} (h : w ∈ ws) : ∃ (i : Nat) (r : List Int), rs[i]? = some r ∧ w = r ++ unitL i rs.length := by
  obtain ⟨i, hi⟩ := List.mem_iff_getElem?.mp h
  have lt := (List.getElem?_eq_some_iff.mp hi).1
  have hr := List.getElem?_eq_getElem (show i < rs.length by rw [← W.len]; exact lt)
  exact ⟨i, _, hr, W.at_ i _ w hr hi⟩
theorem wide_at {r : List Int} {i m : Nat} (l : r.length = n) (k : Nat) : (r ++ unitL i m).getD k 0 = if k < n then r.getD k 0 else if k - n = i then 1 else 0 := by
  rw [getD_cat, l]
  split
  · rfl
  · exact unitL_at i m (k - n)
theorem Wide.tl (W : Wide n rs ws) (h : ∀ r ∈ rs, Rw p n r) : ∀ u, rset ws u → Tl p n rs u := fun u ⟨w, hw, e⟩ => by
  obtain ⟨i, r, hr, rfl⟩ := W.mem hw
  subst e
  have lr := (h r (List.mem_of_getElem? hr)).len
  intro k hk
  show (r ++ unitL i rs.length).getD k 0 % p = _
  rw [wide_at lr, if_pos hk, show (fun j => co (r ++ unitL i rs.length) (n + j)) = fun j => if j = i then 1 else 0 from funext fun j => by
    show (r ++ unitL i rs.length).getD (n + j) 0 = _
    rw [wide_at lr, if_neg (by omega), Nat.add_sub_cancel_left], lin_unit rs i r hr]
theorem Wide.cut_of (W : Wide n rs ws) (h : ∀ r ∈ rs, Rw p n r) {i : Nat} {r w : List Int} (hr : rs[i]? = some r) (hw : ws[i]? = some w) : cut n (co w) = co r := funext fun k => by
  have lr := (h r (List.mem_of_getElem? hr)).len
  rw [W.at_ i r w hr hw]
  show (if k < n then (r ++ unitL i rs.length).getD k 0 else 0) = r.getD k 0
  rw [wide_at lr]
  split
  · rfl
  · rw [getD_over (by omega)]
theorem Rw.wide {m : Nat} (hp : Pm p) {r : List Int} (w : Rw p n r) {i : Nat} (hi : i < m) : Rw p (n + m) (r ++ unitL i m) := by
  have lo := hp.lo
  refine ⟨by rw [List.length_append, w.len, unitL_len hi], fun k => ?_⟩
  rw [wide_at w.len]
  split
  · exact w.rs k
  · split <;> omega
/-- of the wider rows' form, what stands ahead is the rows' form -/
theorem St.ahead {m : Nat} (nm : n ≤ m) (h : ∀ r ∈ rs, Rw p n r) (W : Wide n rs ws) (S : St p m n ws ls sp ts) : Form p n rs sp (ts.map fun t => t.take n) := by
  have rw_tk : ∀ t, Rw p m t → Rw p n (t.take n) := fun t w => ⟨by rw [List.length_take, w.len]; omega, fun k => by
    rw [getD_tk]
    split
    · exact w.rs k
    · exact ⟨Int.le_refl _, by have := w.rs 0; omega⟩⟩
  have mf : ∀ x ∈ fam sp (ts.map fun t => t.take n), ∃ (j s : Nat) (t : List Int), sp[j]? = some s ∧ ts[j]? = some t ∧ x = (s, co (t.take n)) := fun x hx => by
    obtain ⟨j, s, r, h1, h2, rfl⟩ := mem_fam hx
    rw [List.getElem?_map] at h2
    obtain ⟨t, ht, e⟩ := Option.map_eq_some_iff.mp h2
    exact ⟨j, s, t, h1, ht, by rw [← e]⟩
  have sn : ∀ {j s : Nat}, sp[j]? = some s → s < n := fun h => S.lt _ (List.mem_of_getElem? h)
  have ln : sp.length = (ts.map fun t => t.take n).length := by rw [List.length_map, S.len]
  have val : ∀ (t : List Int) (k : Nat), k < n → co (t.take n) k = co t k := fun t k hk => by
    rw [co_tk]
    exact if_pos hk
  refine ⟨ln, fun r hr => ?_, ⟨fun x hx => ?_, fun x hx k hk => ?_, fun x hx y hy ne => ?_, ?_⟩, S.srt, S.lt, fun r hr => ?_, fun r hr => ?_⟩
  · obtain ⟨t, ht, rfl⟩ := List.mem_map.mp hr
    exact rw_tk t (S.trw t ht)
  · obtain ⟨j, s, t, h1, h2, rfl⟩ := mf x hx
    show co (t.take n) s % p = 1 % p
    rw [val t s (sn h1)]
    exact S.red.one _ (fam_mem h1 h2)
  · obtain ⟨j, s, t, h1, h2, rfl⟩ := mf x hx
    have hk : k < s := hk
    have := sn h1
    show co (t.take n) k % p = 0
    rw [val t k (by omega)]
    exact S.red.low _ (fam_mem h1 h2) k hk
  · obtain ⟨j, s, t, h1, h2, rfl⟩ := mf x hx
    obtain ⟨j', s', t', h1', h2', rfl⟩ := mf y hy
    show co (t'.take n) s % p = 0
    rw [val t' s (sn h1)]
    exact S.red.own _ (fam_mem h1 h2) _ (fam_mem h1' h2') ne
  · rw [fam_spots ln]
    exact S.srt.imp (fun h => Nat.ne_of_lt h)
  · obtain ⟨i, hi⟩ := List.mem_iff_getElem?.mp hr
    have lt := (List.getElem?_eq_some_iff.mp hi).1
    have hw := List.getElem?_eq_getElem (show i < ws.length by rw [W.len]; exact lt)
    rw [← W.cut_of h hi hw]
    refine cut_sp (fun u hu => ?_) (S.up _ (List.mem_of_getElem? hw))
    rcases hu with ⟨a, ha, rfl⟩ | ⟨x, hx, rfl⟩
    · refine .eqm .nul fun k => ?_
      show 0 % p = (if k < n then a.getD k 0 else 0) % p
      split
      · rename_i hk
        rw [S.lz a ha k hk]
      · rfl
    · obtain ⟨j, s, t, q1, q2, rfl⟩ := mem_fam hx
      refine .one ⟨(s, co (t.take n)), fam_mem q1 ?_, co_tk t n⟩
      rw [List.getElem?_map, q2]
      rfl
  · obtain ⟨t, ht, rfl⟩ := List.mem_map.mp hr
    rw [co_tk]
    refine cut_sp (fun u hu => ?_) (S.dn _ (.inr (fam_row S.len ht)))
    obtain ⟨w, hw, rfl⟩ := hu
    obtain ⟨i, hi⟩ := List.mem_iff_getElem?.mp hw
    have lt := (List.getElem?_eq_some_iff.mp hi).1
    have hr := List.getElem?_eq_getElem (show i < rs.length by rw [← W.len]; exact lt)
    rw [W.cut_of h hr hi]
    exact .one ⟨_, List.mem_of_getElem? hr, rfl⟩
/-- what is left of a wanted row, cleared by the first of the wider rows' form -/
structure Lft (p : Int) (ws : List (List Int)) (sp : List Nat) (j : Nat) (wt left : List Int) : Prop where
  d : Xp.Sp p (rset ws) (Xp.ad (co left) (Xp.sc (-1) (co wt)))
  z : ∀ i s, i < j → sp[i]? = some s → co left s % p = 0
theorem Lft.init (p : Int) (ws : List (List Int)) (sp : List Nat) (wt : List Int) : Lft p ws sp 0 wt wt := ⟨.eqm .nul fun k => by
  show 0 % p = (co wt k + -1 * co wt k) % p
  congr 1
  omega, fun i _ h => absurd h (Nat.not_lt_zero i)⟩
theorem Lft.step {m : Nat} (S : St p m n ws ls sp ts) {j s : Nat} {t wt left new : List Int} (L : Lft p ws sp j wt left) (h1 : sp[j]? = some s) (h2 : ts[j]? = some t) (e : Xp.Eqm p (co new) (Xp.clr p s (co t) (co left))) : Lft p ws sp (j + 1) wt new := by
  have m := fam_mem h1 h2
  have st : Xp.Sp p (rset ws) (co t) := S.dn _ (.inr ⟨_, m, rfl⟩)
  refine ⟨(L.d.ad (st.sc (-(co left s)))).eqm fun k => ?_, fun i q hi hq => ?_⟩
  · have z := e k
    have z : co new k % p = (co left k + -(co left s) * co t k) % p := z
    show (co left k + -1 * co wt k + -(co left s) * co t k) % p = (co new k + -1 * co wt k) % p
    rw [Int.add_emod (co new k), z, ← Int.add_emod]
    congr 1
    omega
  · rw [e q]
    rcases Nat.lt_or_ge i j with lt | ge
    · have tl : ∃ t2, ts[i]? = some t2 := by
        have := (List.getElem?_eq_some_iff.mp hq).1
        exact ⟨_, List.getElem?_eq_getElem (show i < ts.length by rw [← S.len]; exact this)⟩
      obtain ⟨t2, ht2⟩ := tl
      have ne : q ≠ s := fun z => by
        subst z
        have a1 := List.getElem?_eq_some_iff.mp hq
        have a2 := List.getElem?_eq_some_iff.mp h1
        have := List.pairwise_iff_getElem.mp S.srt i j a1.1 a2.1 lt
        rw [a1.2, a2.2] at this
        exact absurd this (Nat.lt_irrefl _)
      rw [Xp.clr_keep (S.red.own _ (fam_mem hq ht2) _ m ne)]
      exact L.z i q lt hq
    · have : i = j := by omega
      subst this
      rw [h1] at hq
      cases hq
      exact Xp.clr_at (S.red.one _ m)
theorem tk_lft {m : Nat} {wn left : List Int} (hw : Rw p n wn) (L : Lft p ws sp ts.length (wn ++ List.replicate m 0) left) : ∀ k, k < n → co (wn ++ List.replicate m 0) k = co wn k := fun k hk => by
  show (wn ++ List.replicate m 0).getD k 0 = wn.getD k 0
  rw [getD_cat, hw.len, if_pos hk]
/-- nothing is left ahead: the weights -/
theorem Lft.made (hp : Pm p) {m : Nat} (h : ∀ r ∈ rs, Rw p n r) (W : Wide n rs ws) {wn left vs : List Int} (hw : Rw p n wn) (L : Lft p ws sp ts.length (wn ++ List.replicate rs.length 0) left) (z : ∀ k, k < n → co left k % p = 0) (lv : vs.length = rs.length) (hv : ∀ i, i < rs.length → vs.getD i 0 % p = (-(left.getD (n + i) 0)) % p) : Xp.Eqm p (co wn) (wgt rs vs) := by
  have t := tl_sp (W.tl h) L.d
  intro k
  by_cases hk : k < n
  · have t := t k hk
    rw [← lin_wgt rs vs lv]
    have e1 : Xp.Eqm p (lin rs fun i => vs.getD i 0) (Xp.sc (-1) (lin rs fun i => Xp.ad (co left) (Xp.sc (-1) (co (wn ++ List.replicate rs.length 0))) (n + i))) := by
      rw [← lin_sc]
      refine lin_eqm rs fun i hi => ?_
      rw [hv i hi]
      have z0 : (wn ++ List.replicate rs.length 0).getD (n + i) 0 = 0 := by
        rw [getD_cat, hw.len, if_neg (by omega), getD_rep]
      show _ = (-1 * (left.getD (n + i) 0 + -1 * (wn ++ List.replicate rs.length 0).getD (n + i) 0)) % p
      rw [z0]
      congr 1
      omega
    rw [e1 k]
    show co wn k % p = (-1 * lin rs _ k) % p
    rw [Int.mul_emod, ← t, ← Int.mul_emod]
    have e2 := tk_lft (n := n) (ts := ts) hw L k hk
    show co wn k % p = (-1 * (co left k + -1 * co (wn ++ List.replicate rs.length 0) k)) % p
    rw [e2]
    have e3 : (-1 * (co left k + -1 * co wn k)) = co wn k + -1 * co left k := by omega
    rw [e3, Int.add_emod, Int.mul_emod, z k hk, Int.mul_zero, Int.zero_emod, Int.add_zero, Int.emod_emod]
  · have e1 : co wn k = 0 := getD_over (by rw [hw.len]; omega)
    rw [e1, Int.zero_emod]
    refine ((wgt_sp vs).zero fun u ⟨r, hr, e⟩ => ?_).symm
    rw [← e]
    exact (h r hr).out k (by omega)
/-- what is left ahead is nothing where the wanted row is made of the rows -/
theorem Lft.none {m : Nat} (nm : n ≤ m) (h : ∀ r ∈ rs, Rw p n r) (W : Wide n rs ws) (S : St p m n ws ls sp ts) {wn left : List Int} (hw : Rw p n wn) (L : Lft p ws sp ts.length (wn ++ List.replicate rs.length 0) left) (a : Xp.Sp p (rset rs) (co wn)) : ∀ k, k < n → co left k % p = 0 := by
  have F := S.ahead nm h W
  have c1 : Xp.Sp p (rset rs) (cut n (Xp.ad (co left) (Xp.sc (-1) (co (wn ++ List.replicate rs.length 0))))) := cut_sp (fun u ⟨w, hw, e⟩ => by
    subst e
    obtain ⟨i, hi⟩ := List.mem_iff_getElem?.mp hw
    have lt := (List.getElem?_eq_some_iff.mp hi).1
    have hr := List.getElem?_eq_getElem (show i < rs.length by rw [← W.len]; exact lt)
    rw [W.cut_of h hr hi]
    exact .one ⟨_, List.mem_of_getElem? hr, rfl⟩) L.d
  have c2 : Xp.Sp p (rset rs) (cut n (co left)) := (c1.ad a).eqm fun k => by
    show ((if k < n then co left k + -1 * co (wn ++ List.replicate rs.length 0) k else 0) + co wn k) % p = (if k < n then co left k else 0) % p
    split
    · rename_i hk
      rw [tk_lft (n := n) (ts := ts) hw L k hk]
      congr 1
      omega
    · rename_i hk
      rw [show co wn k = 0 from getD_over (by rw [hw.len]; omega)]
      rfl
  have c3 : Xp.Sp p (Xp.rows (fam sp (ts.map fun t => t.take n))) (cut n (co left)) := c2.trans fun u ⟨r, hr, e⟩ => e ▸ F.up r hr
  have z := (F.red.made c3).trans (Xp.lsum_zero _ fun x hx => by
    obtain ⟨j, s, r, h1, h2, rfl⟩ := mem_fam hx
    rw [List.getElem?_map] at h2
    obtain ⟨t, ht, _⟩ := Option.map_eq_some_iff.mp h2
    show (if s < n then co left s else 0) % p = 0
    rw [if_pos (F.lt s (List.mem_of_getElem? h1))]
    exact L.z j s (List.getElem?_eq_some_iff.mp ht).1 h1)
  intro k hk
  have z := z k
  have z : (if k < n then co left k else 0) % p = 0 % p := z
  rw [if_pos hk] at z
  rw [z, Int.zero_emod]
theorem Lft.nothing {m : Nat} (h : ∀ r ∈ rs, Rw p n r) (W : Wide n rs ws) (hp : Pm p) {wn left : List Int} (hw : Rw p n wn) (L : Lft p ws sp ts.length (wn ++ List.replicate rs.length 0) left) (z : ∀ k, k < n → co left k % p = 0) : Xp.Sp p (rset rs) (co wn) := by
  have e := L.made (vs := (List.range rs.length).map fun i => -(left.getD (n + i) 0)) (m := m) hp h W hw z (by rw [List.length_map, List.length_range]) fun i hi => by
    rw [List.getD_eq_getElem?_getD, List.getElem?_map, List.getElem?_range hi]
    rfl
  exact (wgt_sp _).eqm e.symm
/-- where no row of the kernel weighs it, it is made of the rows -/
theorem Kn.dual {us bs : List (List Int)} {sq : List Nat} (N : Kn p n rs sp sq ts us bs) {v : Xp.Cf} (out : ∀ k, n ≤ k → v k % p = 0) (z : ∀ u ∈ us, Xp.dt n (co u) v % p = 0) : Xp.Sp p (rset rs) v := by
  obtain ⟨cs, FT⟩ := N.fr
  have a : Xp.Sp p (Xp.rows (fam sp ts)) v := (Xp.Free.dual N.F.red.uni N.F.ltf N.F.outf (FT.free N.F.len) out).mpr fun y hy => by
    have b : Xp.Sp p (Xp.rows (fam sq us)) y.2 := (N.span FT y.2).mpr (.one ⟨y, hy, rfl⟩)
    exact b.dt fun u ⟨x, hx, e⟩ => by
      obtain ⟨j, s, r, h1, h2, rfl⟩ := mem_fam hx
      subst e
      exact z r (List.mem_of_getElem? h2)
  exact a.trans fun u ⟨x, hx, e⟩ => by
    obtain ⟨j, s, r, h1, h2, rfl⟩ := mem_fam hx
    subst e
    exact N.F.dn r (List.mem_of_getElem? h2)
end
end Xk
end
section
set_option Elab.async false
set_option linter.all false
set_option maxRecDepth 100000
set_option maxHeartbeats 4000000
namespace Xk
open PySem PySem.Spec PyProof.Rows L2 Xh LamX NdefX
/-! ### rows put wider, made or barred -/
theorem catL {K : PySem.W.Frag} {H : Hp} {a b : Addr} {xs ys : List Int} {Q : VK} (ha : H a = some (.tup (xs.map V.int))) (hx : xs ≠ []) (hb : SqT K H b (ys.map V.int)) (l : xs.length ≤ 100) (l2 : ys.length ≤ 100) (k : ∀ r H', Same H H' → H' r = some (.tup ((xs ++ ys).map V.int)) → Q (.ref r) H') : rCatA K (.ref a) (.ref b) H Q := by
  refine ⟨a, b, _, _, rfl, rfl, sqD ha, hb, ?_, fun e => ?_, fun _ e => ?_, fun _ _ p hp => ?_⟩
  · rw [List.length_map, List.length_map]
    exact Nat.le_trans (show xs.length + ys.length ≤ 200 by omega) (by decide)
  · exact absurd (List.map_eq_nil_iff.mp e) hx
  · have z : ys = [] := List.map_eq_nil_iff.mp e
    subst z
    refine k a H (fun _ _ z => z) ?_
    rw [List.append_nil]
    exact ha
  · refine k p _ (same_upd hp) ?_
    rw [upd_same, List.map_append]
theorem slHead {K : PySem.W.Frag} {H : Hp} {v : Addr} {ms : List Int} {n : Nat} {Q : VK} (ev : H v = some (.tup (ms.map V.int))) (hn : n ≤ ms.length) (k : ∀ a H', Same H H' → H' a = some (.tup ((ms.take n).map V.int)) → Q (.ref a) H') : rSlA K (.ref v) none (some ((n : Nat) : Int)) H Q := by
  have i1 : HT.sIx (ms.map V.int).length 0 none = 0 := rfl
  have i2 : HT.sIx (ms.map V.int).length (ms.map V.int).length (some ((n : Nat) : Int)) = n := by
    show (if ((n : Nat) : Int) < 0 then (((n : Nat) : Int) + (((ms.map V.int).length : Nat) : Int)).toNat else min ((n : Nat) : Int).toNat (ms.map V.int).length) = n
    rw [if_neg (by omega), Int.toNat_natCast, List.length_map]
    omega
  refine ⟨v, _, rfl, sqD ev, fun h => k v H (fun _ _ z => z) ?_, fun _ p hp => k p _ (same_upd hp) ?_⟩
  · have e := h.2
    rw [i2, List.length_map] at e
    rw [List.take_of_length_le (by omega)]
    exact ev
  · rw [upd_same]
    unfold cutV
    rw [i1, i2, Nat.sub_zero, List.drop_zero, List.map_take]
theorem slTail {K : PySem.W.Frag} {H : Hp} {v : Addr} {ms : List Int} {n : Nat} {Q : VK} (ev : H v = some (.tup (ms.map V.int))) (hn : n ≤ ms.length) (k : ∀ a H', Same H H' → H' a = some (.tup ((ms.drop n).map V.int)) → Q (.ref a) H') : rSlA K (.ref v) (some ((n : Nat) : Int)) none H Q := by
  have i2 : HT.sIx (ms.map V.int).length (ms.map V.int).length none = (ms.map V.int).length := rfl
  have i1 : HT.sIx (ms.map V.int).length 0 (some ((n : Nat) : Int)) = n := by
    show (if ((n : Nat) : Int) < 0 then (((n : Nat) : Int) + (((ms.map V.int).length : Nat) : Int)).toNat else min ((n : Nat) : Int).toNat (ms.map V.int).length) = n
    rw [if_neg (by omega), Int.toNat_natCast, List.length_map]
    omega
  refine ⟨v, _, rfl, sqD ev, fun h => k v H (fun _ _ z => z) ?_, fun _ p hp => k p _ (same_upd hp) ?_⟩
  · have e := h.1
    rw [i1] at e
    rw [e, List.drop_zero]
    exact ev
  · rw [upd_same]
    unfold cutV
    rw [i1, i2, List.map_drop, List.take_of_length_le (by rw [List.length_drop]; exact Nat.le_refl _)]
theorem getD_dp (a : List Int) (n k : Nat) : (a.drop n).getD k 0 = a.getD (n + k) 0 := by
  rw [List.getD_eq_getElem?_getD, List.getElem?_drop, List.getD_eq_getElem?_getD]
theorem ne_len {r : List Int} {n : Nat} (l : r.length = n) (h : 1 ≤ n) : r ≠ [] := fun e => by
  subst e
  have : 0 = n := l
  omega
def spWS (T : List (Addr × Str)) : Sp := fun vs H Q _ => ∃ (R : Addr) (la : List Addr) (rs : List (List Int)) (n : Nat) (p : Int), vs = [.ref R, .int n, .int p] ∧ H R = some (.lst (la.map V.ref)) ∧ Rws H la rs ∧ (∀ r ∈ rs, Rw p n r) ∧ rs.length ≤ 24 ∧ 1 ≤ n ∧ n ≤ 24 ∧ p ∈ primes ∧ Tabs T H ∧
  ∀ (D : Addr) (ds : List Addr) (sp : List Nat) (ws ls ts : List (List Int)) (H' : Hp), Gr T H H' → H D = none → H' D = some (.lst (ds.map V.ref)) → Rws H' ds ts → Wide n rs ws → St p (n + rs.length) n ws ls sp ts → Q (.ref D) H'
def spMade : Sp := fun vs H Q _ => ∃ (S wv : Addr) (ds : List Addr) (wn : List Int) (rs ws ls ts : List (List Int)) (sp : List Nat) (n c : Nat) (p : Int), vs = [.ref S, .ref wv, .int c, .int p] ∧ c = rs.length ∧ H S = some (.lst (ds.map V.ref)) ∧ Rws H ds ts ∧ H wv = some (.tup (wn.map V.int)) ∧ Rw p n wn ∧ (∀ r ∈ rs, Rw p n r) ∧ Wide n rs ws ∧ St p (n + rs.length) n ws ls sp ts ∧ rs.length ≤ 24 ∧ 1 ≤ n ∧ n ≤ 24 ∧ Pm p ∧
  (∀ (A : Addr) (vs : List Int) (H' : Hp), Same H H' → H' A = some (.lst (vs.map V.int)) → vs.length = rs.length → Rs p vs → Xp.Eqm p (co wn) (wgt rs vs) → Q (.ref A) H') ∧
  ∀ (H' : Hp), Same H H' → ¬ Xp.Sp p (rset rs) (co wn) → Q .non H'
def spProbe (T : List (Addr × Str)) : Sp := fun vs H Q _ => ∃ (R wv : Addr) (la : List Addr) (wn : List Int) (rs : List (List Int)) (n : Nat) (p : Int), vs = [.ref R, .ref wv, .int p] ∧ H R = some (.lst (la.map V.ref)) ∧ Rws H la rs ∧ (∀ r ∈ rs, Rw p n r) ∧ rs.length ≤ 24 ∧ 1 ≤ n ∧ n ≤ 24 ∧ p ∈ primes ∧ Tabs T H ∧ H wv = some (.tup (wn.map V.int)) ∧ Rw p n wn ∧ ¬ Xp.Sp p (rset rs) (co wn) ∧
  ∀ (A : Addr) (ms : List Int) (H' : Hp), Gr T H H' → H' A = some (.tup (ms.map V.int)) → Rw p n ms → (∀ r ∈ rs, Xp.dt n (co r) (co ms) % p = 0) → Xp.dt n (co ms) (co wn) % p = 1 → Q (.ref A) H'
def spSolve (T : List (Addr × Str)) : Sp := fun vs H Q _ => ∃ (R wv : Addr) (la : List Addr) (wn : List Int) (rs : List (List Int)) (n : Nat) (p : Int), vs = [.ref R, .ref wv, .int n, .int p] ∧ H R = some (.lst (la.map V.ref)) ∧ Rws H la rs ∧ (∀ r ∈ rs, Rw p n r) ∧ rs.length ≤ 24 ∧ 1 ≤ n ∧ n ≤ 24 ∧ p ∈ primes ∧ Tabs T H ∧ H wv = some (.tup (wn.map V.int)) ∧ Rw p n wn ∧
  (∀ (t A : Addr) (vs : List Int) (H' : Hp), Gr T H H' → H' t = some (.tup [.str "made", .ref A]) → H' A = some (.lst (vs.map V.int)) → vs.length = rs.length → Rs p vs → Xp.Eqm p (co wn) (wgt rs vs) → Q (.ref t) H') ∧
  ∀ (t A : Addr) (ms : List Int) (H' : Hp), Gr T H H' → H' t = some (.tup [.str "barred", .ref A]) → H' A = some (.tup (ms.map V.int)) → Rw p n ms → (∀ r ∈ rs, Xp.dt n (co r) (co ms) % p = 0) → Xp.dt n (co ms) (co wn) % p = 1 → Q (.ref t) H'
section
variable {P : Program} {w : World} {K : PySem.W.Frag} {mg : Str → Option Value} {base : Heap}
abbrev s_weighed_steps : Stmt := topS 38
theorem sc_weighed_steps : FnScope (["rows", "width", "prime", "count", "wider", "at", "row"] : List Str) ["rows", "width", "prime"] (defScope s_weighed_steps) := ⟨rfl, rfl, rfl, by decide +kernel, rfl, by decide +kernel, by decide +kernel⟩
theorem ok_weighed_steps {TT : List (Addr × Str)} {f : Addr} {fd : FuncData} (F : FunD K "weighed_steps" "weighed_steps" (defArgs s_weighed_steps) (defBody s_weighed_steps) (defScope s_weighed_steps) [] [] f fd) (T : Fre mg) (o_raw_stepped : Own P w K mg base CX0 4 "raw_stepped" ["rows", "width", "prime"] [] (spStepW TT)) (o_unit_row : Own P w K mg base CX0 1 "unit_row" ["place", "width"] [] (spUnit K)) : FnOk P w K mg base CX0 5 f fd ["rows", "width", "prime"] (spWS TT) := by
  refine F.ok sc_weighed_steps (fun vs H Q E h => ?_) (fun cdv A outer s H vs Q E hr h => ?_)
  · obtain ⟨R, la, rs, n, p, rfl, _⟩ := h
    rfl
  · obtain ⟨R, la, rs, n, p, rfl, eR, hR, hrw, lrs, n1, n24, hp, hT, k⟩ := h
    have hpm := pm_of hp
    have lla := hR.len
    refine ⟨_, PSs.nox (pss_cons (ps_set (i := 3) sc_weighed_steps.nd rfl (Or.inr rfl) (pe_callB call_len_seq (by rfl) T.f_len PySem.boot_len (pa_cons (pv 0) pa_nil)))
      (pss_cons (ps_setLc (i := 4) (own := [("at", 5), ("row", 6)]) (g := (gTup K 2 (gCons (gName 5) (gCons (gName 6) gNil)))) (te := tOp (rCatA K) (tCB (fun xs H Q => ∃ p ys, xs = [V.ref p] ∧ ((SqL K H p ys ∧ ∀ l, H l = none → Q (V.ref l) (L2.upd H l (.tup ys))) ∨ (SqT K H p ys ∧ Q (V.ref p) H))) (tCons (tVar 6) tNil)) (tCall _ _ _ (tCons (tVar 5) (tCons (tVar 3) tNil)))) rfl sc_weighed_steps.nd rfl rfl (sw_true rfl rfl rfl (by decide +kernel)) (pi_enum (by rfl) T.f_enumerate (pa_cons (pv 0) pa_nil)) (blkOk_by (own := [("at", 5), ("row", 6)]) (N := ["rows", "width", "prime", "count", "wider", "at", "row"]) (sc := defScope s_weighed_steps) (by decide +kernel)) (fun _ _ _ _ _ => pg_tup rfl (pgs_cons (pg_name (i := 5) sc_weighed_steps.nd rfl (Or.inl rfl) (Or.inr rfl)) (pgs_cons (pg_name (i := 6) sc_weighed_steps.nd rfl (Or.inl rfl) (Or.inr rfl)) pgs_nil))) (fun _ _ _ _ _ => pts_nil) (fun _ _ _ _ _ => (pe_op op_catA (pe_callTy call_tuple_of (by rfl) T.f_tuple (by decide +kernel) (pa_cons (pv 6) pa_nil)) (pe_own o_unit_row (hr.mono (by decide)) rfl pass0 (pa_cons (pv 5) (pa_cons (pv 3) pa_nil))))))
      (pss_one (ps_ret (pe_own o_raw_stepped (hr.mono (by decide)) rfl pass0 (pa_cons (pv 4) (pa_cons (pv 1) (pa_cons (pv 2) pa_nil)))))))) , ?_⟩
    refine ⟨_, rfl, R, _, rfl, .inl (SqL.of eR), ?_⟩
    rw [List.length_map, lla]
    refine ⟨_, rfl, R, _, rfl, SqL.of eR, fun D hD => ?_⟩
    refine lc_it (walk_enum (xs := la.map V.ref)) (fun i H' => ∃ (ds : List Addr) (ws : List (List Int)), Same H H' ∧ H' D = some (.lst (ds.map V.ref)) ∧ Rws H' ds ws ∧ ws.length = i ∧ ∀ (j : Nat) (r w : List Int), rs[j]? = some r → ws[j]? = some w → w = r ++ unitL j rs.length) ⟨[], [], same_upd hD, upd_same, trivial, rfl, fun _ _ _ _ h => by cases h⟩ (fun i H' _ ⟨_, _, s, _⟩ => SqL.of (s _ _ eR)) ?_ ?_
    · rintro i x H1 H2 hi ⟨ds, ws, s1, e1, h1, l1, c1⟩ ⟨Tp, u, v, rfl, hTp, rfl, g1, g2⟩
      cases g1
      rw [List.length_map] at hi
      have s2 := s1.trans (same_upd (o := .tup [.int (i : Nat), v]) hTp)
      obtain ⟨l, r, rfl, hr, er⟩ := (hR.keep (kpS s2)).at g2
      have wr := hrw r (List.mem_of_getElem? hr)
      have lr := wr.len
      have lds := h1.len
      refine ⟨Tp, _, rfl, .inl (.inl upd_same), rfl, _, _, rfl, _, _, rfl, rfl, rfl, _, rfl, l, _, rfl, .inr ⟨sqD er, _, rfl, _, rfl, i, rs.length, rfl, by omega, by omega, fun a H3 s3 ea => ?_⟩⟩
      refine catL (s3 _ _ er) (ne_len lr n1) ea (by omega) (by rw [unitL_len (by omega)]; omega) fun t H4 s4 et => ?_
      have s24 := (same_upd (o := .tup [.int (i : Nat), .ref l]) hTp).trans (s3.trans s4)
      refine ⟨_, s24 _ _ e1, ?_, ds ++ [t], ws ++ [r ++ unitL i rs.length], lcs hD (s1.trans s24), ?_, ?_, ?_, fun j r' w' hj hw => ?_⟩
      · rw [List.length_map]
        exact small1000 (by omega)
      · rw [upd_same, List.map_append]
        rfl
      · exact (Rws.snoc et (h1.keep (kpS s24))).keep (kpU (s24 _ _ e1))
      · rw [List.length_append, l1]
        rfl
      · by_cases hj2 : j < ws.length
        · rw [List.getElem?_append_left hj2] at hw
          exact c1 j r' w' hj hw
        · have e : j = ws.length := by
            have := (List.getElem?_eq_some_iff.mp hw).1
            rw [List.length_append] at this
            have : j < ws.length + 1 := this
            omega
          subst e
          rw [List.getElem?_append_right (Nat.le_refl _), Nat.sub_self] at hw
          cases hw
          rw [l1, hr] at hj
          cases hj
          rw [l1]
    rintro H1 ⟨ds, ws, s1, e1, h1, l1, c1⟩
    rw [List.length_map, lla] at l1
    have W : Wide n rs ws := ⟨l1, c1⟩
    refine ⟨_, rfl, _, rfl, _, rfl, D, ds, ws, n, n + rs.length, p, rfl, e1, h1, fun w hw => ?_, by omega, n1, by omega, by omega, n24, hp, hT.ext s1, fun D' ds' sp ls ts H' g' nD' eD' hD' S => k D' ds' sp ws ls ts H' ((Gr.of hT s1).trans g') (s1.free nD') eD' hD' W S⟩
    obtain ⟨i, r, hr, rfl⟩ := W.mem hw
    exact (hrw r (List.mem_of_getElem? hr)).wide hpm (List.getElem?_eq_some_iff.mp hr).1
abbrev s_raw_made : Stmt := topS 39
theorem sc_raw_made : FnScope (["steps", "wanted", "count", "prime", "left", "step", "rest"] : List Str) ["steps", "wanted", "count", "prime"] (defScope s_raw_made) := ⟨rfl, rfl, rfl, by decide +kernel, rfl, by decide +kernel, by decide +kernel⟩
theorem ok_raw_made {f : Addr} {fd : FuncData} (F : FunD K "raw_made" "raw_made" (defArgs s_raw_made) (defBody s_raw_made) (defScope s_raw_made) [] [] f fd) (T : Fre mg) (o_cleared : Own P w K mg base CX0 1 "cleared" ["row", "head", "place", "prime"] [] spClr) (o_head_place : Own P w K mg base CX0 1 "head_place" ["row"] [] (spHead K)) : FnOk P w K mg base CX0 2 f fd ["steps", "wanted", "count", "prime"] spMade := by
  refine F.ok sc_raw_made (fun vs H Q E h => ?_) (fun cdv A outer s H vs Q E hr h => ?_)
  · obtain ⟨S, wv, ds, wn, rs, ws, ls, ts, sp, n, c, p, rfl, _⟩ := h
    rfl
  · obtain ⟨SL, wv, ds, wn, rs, ws, ls, ts, sp, n, c, p, rfl, rfl, eS, hS, ew, hw, hrw, W, S, lrs, n1, n24, hp, k1, k2⟩ := h
    have lo := hp.lo
    have hi := hp.hi
    have nz : p ≠ 0 := by omega
    have lds := hS.len
    have lw := hw.len
    have lsp := S.len
    refine ⟨_, PSs.nox (pss_cons (ps_set (i := 4) sc_raw_made.nd rfl (Or.inl rfl) (pe_op op_catA (pv 1) (pe_op op_repZ (pe_tup (pa_cons pe_int pa_nil)) (pv 2))))
      (pss_cons (ps_for PassesOwn.never rfl (pi_list (pv 0)) (pg_name (i := 5) sc_raw_made.nd rfl (Or.inl rfl)) (pss_one (ps_set (i := 4) sc_raw_made.nd rfl (Or.inl rfl) (pe_own o_cleared (hr.mono (by decide)) rfl pass0 (pa_cons (pv 4) (pa_cons (pv 5) (pa_cons (pe_own o_head_place (hr.mono (by decide)) rfl pass0 (pa_cons (pv 5) pa_nil)) (pa_cons (pv 3) pa_nil))))))))
      (pss_cons (ps_if (pt_val (pe_callB (call_anyTI rfl) (by rfl) T.f_any (by decide +kernel) (pa_cons (pe_slice sl_tupA (pv 4) po_none (po_some (pe_callB call_len_seq (by rfl) T.f_len PySem.boot_len (pa_cons (pv 1) pa_nil)))) pa_nil))) (pss_one (ps_ret pe_non)) pss_nil)
      (pss_one (ps_ret (pe_lc (own := [("rest", 6)]) rfl sc_raw_made.nd (pi_tup (pe_slice sl_tupA (pv 4) (po_some (pe_callB call_len_seq (by rfl) T.f_len PySem.boot_len (pa_cons (pv 1) pa_nil))) po_none)) (blkOk_by (own := [("rest", 6)]) (N := ["steps", "wanted", "count", "prime", "left", "step", "rest"]) (sc := defScope s_raw_made) (by decide +kernel)) (fun _ _ _ _ _ => pg_name (i := 6) sc_raw_made.nd rfl (Or.inl rfl) (Or.inr rfl)) (fun _ _ _ _ _ => pts_nil) (fun _ _ _ _ _ => (pe_op op_modN (pe_un un_neg (pv 6)) (pv 3))))))))) , ?_⟩
    refine ⟨_, rfl, (by show 1 ≤ sizeLine; decide), fun Z hZ => ⟨_, rfl, repZ0 (SqT.of upd_same) (by omega) (by omega) fun r1 H1 s1 e1 => ?_⟩⟩
    rw [Int.toNat_natCast] at e1
    have sZ := (same_upd (o := .tup [.int 0]) hZ).trans s1
    refine catL (sZ _ _ ew) (ne_len lw n1) e1 (by omega) (by rw [List.length_replicate]; omega) fun lv H2 s2 el => ?_
    have s02 := sZ.trans s2
    have lrw : Rw p (n + rs.length) (wn ++ List.replicate rs.length 0) := ⟨by rw [List.length_append, List.length_replicate, lw], fun j => by
      rw [getD_cat]
      split
      · exact hw.rs j
      · rw [getD_rep]
        omega⟩
    refine ⟨_, rfl, SL, rfl, ⟨_, SqL.of (s02 _ _ eS)⟩, ?_⟩
    refine for_it (walk_list (xs := ds.map V.ref)) (fun i σ' H' => ∃ (v : Addr) (ms : List Int) (x5 x6 : Option V), σ' = [some (.ref SL), some (.ref wv), some (.int ((rs.length : Nat) : Int)), some (.int p), some (.ref v), x5, x6] ∧ Same H H' ∧ H' v = some (.tup (ms.map V.int)) ∧ Rw p (n + rs.length) ms ∧ Lft p ws sp i (wn ++ List.replicate rs.length 0) ms) ⟨lv, _, none, none, rfl, s02, el, lrw, Lft.init p ws sp _⟩ (fun i σ' H' _ ⟨_, _, _, _, _, s, _⟩ => SqL.of (s _ _ eS)) ?_ ?_
    · rintro i x σ' H3 H4 hi2 ⟨v, ms, x5, x6, rfl, s3, ev, wm, L⟩ ⟨rfl, hx⟩
      rw [List.length_map] at hi2
      obtain ⟨l, t, rfl, ht, et⟩ := (hS.keep (kpS s3)).at hx
      obtain ⟨q, hq⟩ : ∃ q, sp[i]? = some q := ⟨_, List.getElem?_eq_getElem (show i < sp.length by omega)⟩
      obtain ⟨r1, rz⟩ := Red_at lo S.red S.trw hq ht
      have wt := S.trw t (List.mem_of_getElem? ht)
      have lt := wt.len
      have qn := S.lt q (List.mem_of_getElem? hq)
      refine ⟨_, rfl, _, rfl, _, rfl, l, t, q, rfl, sqD et, by omega, by omega, by rw [r1]; decide, rz, _, rfl, v, l, ms, t, q, n + rs.length, p, rfl, ev, et, wm, wt, by omega, by omega, hp, fun v' ms' H5 s5 e5 w5 em => ?_⟩
      exact ⟨v', ms', _, _, rfl, s3.trans s5, e5, w5, L.step S hq ht em⟩
    · rintro σ' H3 ⟨v, ms, x5, x6, rfl, s3, ev, wm, L⟩
      rw [List.length_map, lds] at L
      have lm := wm.len
      have ew3 := s3 _ _ ew
      refine ⟨_, rfl, _, rfl, wv, _, rfl, .inr (sqD ew3), n, by rw [List.length_map, lw], slHead ev (by omega) fun a H4 s4 ea => ?_⟩
      refine ⟨a, ms.take n, rfl, sqD ea, _, rfl, ?_⟩
      cases hz : (ms.take n).any (· != 0) with
      | true =>
        refine iteT (k2 H4 (s3.trans s4) fun a => ?_)
        have z := L.none (by omega) hrw W S hw a
        rw [List.any_eq_true] at hz
        obtain ⟨x, hx, hx0⟩ := hz
        obtain ⟨j, hj⟩ := List.mem_iff_getElem?.mp hx
        have jn : j < n := by
          have := (List.getElem?_eq_some_iff.mp hj).1
          rw [List.length_take] at this
          omega
        have e : ms.getD j 0 = 0 := wm.zero.mp (z j jn)
        have e2 : (ms.take n).getD j 0 = x := by
          rw [List.getD_eq_getElem?_getD, hj]
          rfl
        rw [getD_tk, if_pos jn, e] at e2
        rw [← e2] at hx0
        exact absurd hx0 (by decide)
      | false =>
        have z : ∀ k, k < n → co ms k % p = 0 := fun k hk => by
          rw [List.any_eq_false] at hz
          by_cases e : ms.getD k 0 = 0
          · show ms.getD k 0 % p = 0
            rw [e, Int.zero_emod]
          · exfalso
            have hk2 : (ms.take n)[k]? = some (ms.getD k 0) := by
              rw [List.getElem?_take_of_lt hk, List.getD_eq_getElem?_getD, List.getElem?_eq_getElem (by omega)]
              rfl
            exact hz _ (List.mem_of_getElem? hk2) (by simpa using e)
        have ev4 := s4 _ _ ev
        have ew4 := s4 _ _ ew3
        have ldp : (ms.drop n).length ≤ 24 := by
          rw [List.length_drop, lm]
          omega
        refine iteF ⟨_, rfl, _, rfl, wv, _, rfl, .inr (sqD ew4), n, by rw [List.length_map, lw], ?_⟩
        unfold tNoPart
        refine slTail (ms := ms) (n := n) ev4 (by omega) fun b H5 s5 eb => ?_
        refine ⟨b, rfl, ⟨_, sqD eb⟩, fun D hD => ?_⟩
        refine lc_it (walk_tup (xs := (ms.drop n).map V.int)) (fun i H' => Same H5 H' ∧ H' D = some (.lst ((((ms.drop n).take i).map fun x => (-x).fmod p).map V.int))) ⟨same_upd hD, upd_same⟩ (fun i H' _ h => sqD (h.1 _ _ eb)) ?_ ?_
        · rintro i x Ha Hb hi2 ⟨s6, e6⟩ ⟨rfl, hx⟩
          rw [List.length_map] at hi2
          have e7 := (map_at (ms.drop n) i hi2).symm.trans hx
          cases e7
          rw [List.length_drop] at hi2
          refine ⟨rfl, _, rfl, _, rfl, _, rfl, _, _, rfl, rfl, nz, _, e6, small1000 (Nat.le_trans (take_len _ _ _) (by omega)), lcs hD s6, ?_⟩
          rw [upd_same]
          exact congrArg (fun z => some (HO.lst z)) (take_map (fun x => (-x).fmod p) (by rw [List.length_drop]; exact hi2))
        rintro H6 ⟨s6, e6⟩
        rw [List.length_map, List.take_length] at e6
        have lv : ((ms.drop n).map fun x => (-x).fmod p).length = rs.length := by
          rw [List.length_map, List.length_drop, lm]
          omega
        have gv : ∀ j, ((ms.drop n).map fun x => (-x).fmod p).getD j 0 = (-(ms.getD (n + j) 0)).fmod p := fun j => by
          rw [getD_map (g := fun x => (-x).fmod p) (by show (-(0 : Int)).fmod p = 0; rw [Int.neg_zero]; exact Int.zero_fmod p), getD_dp]
        refine k1 D _ H6 (((s3.trans s4).trans s5).trans s6) e6 lv (fm_rs hp gv) (L.made (m := n + rs.length) hp hrw W hw z lv fun i hi2 => ?_)
        rw [gv, fm_em hp.pos, Int.emod_emod]
abbrev s_raw_probe : Stmt := topS 40
theorem sc_raw_probe : FnScope (["rows", "wanted", "prime", "probe", "told", "worth", "scale", "rest", "by"] : List Str) ["rows", "wanted", "prime"] (defScope s_raw_probe) := ⟨rfl, rfl, rfl, by decide +kernel, rfl, by decide +kernel, by decide +kernel⟩
theorem ok_raw_probe {TT : List (Addr × Str)} {f : Addr} {fd : FuncData} (F : FunD K "raw_probe" "raw_probe" (defArgs s_raw_probe) (defBody s_raw_probe) (defScope s_raw_probe) [] [] f fd) (T : Fre mg) (o_raw_kernel : Own P w K mg base CX0 5 "raw_kernel" ["rows", "width", "prime"] [] (spKer TT)) (o_rest_power : Own P w K mg base CX0 3 "rest_power" ["rest", "exponent", "prime"] [] (spRPowT TT)) : FnOk P w K mg base CX0 6 f fd ["rows", "wanted", "prime"] (spProbe TT) := by
  refine F.ok sc_raw_probe (fun vs H Q E h => ?_) (fun cdv A outer s H vs Q E hr h => ?_)
  · obtain ⟨R, wv, la, wn, rs, n, p, rfl, _⟩ := h
    rfl
  · obtain ⟨R, wv, la, wn, rs, n, p, rfl, eR, hR, hrw, lrs, n1, n24, hp, hT, ew, hw, hno, k⟩ := h
    have hpm := pm_of hp
    have lo := hpm.lo
    have hi := hpm.hi
    have nz : p ≠ 0 := by omega
    have lw := hw.len
    refine ⟨_, PSs.nox (pss_cons (ps_set (i := 3) sc_raw_probe.nd rfl (Or.inl rfl) (pe_tup pa_nil))
      (pss_cons (ps_for PassesOwn.never rfl (pi_list (pe_own o_raw_kernel (hr.mono (by decide)) rfl pass0 (pa_cons (pv 0) (pa_cons (pe_callB call_len_seq (by rfl) T.f_len PySem.boot_len (pa_cons (pv 1) pa_nil)) (pa_cons (pv 2) pa_nil))))) (pg_name (i := 4) sc_raw_probe.nd rfl (Or.inl rfl)) (pss_cons (ps_set (i := 5) sc_raw_probe.nd rfl (Or.inl rfl) (pe_op op_modN (pe_callB (cr_sum rfl) (by rfl) T.f_sum (by decide +kernel) (pa_cons (pe_lc (own := [("rest", 7), ("by", 8)]) (g := (gTup K 2 (gCons (gName 7) (gCons (gName 8) gNil)))) rfl sc_raw_probe.nd (RZ.pi_zipA (by rfl) T.f_zip (pa_cons (pv 4) (pa_cons (pv 1) pa_nil))) (blkOk_by (own := [("rest", 7), ("by", 8)]) (N := ["rows", "wanted", "prime", "probe", "told", "worth", "scale", "rest", "by"]) (sc := defScope s_raw_probe) (by decide +kernel)) (fun _ _ _ _ _ => pg_tup rfl (pgs_cons (pg_name (i := 7) sc_raw_probe.nd rfl (Or.inl rfl) (Or.inr rfl)) (pgs_cons (pg_name (i := 8) sc_raw_probe.nd rfl (Or.inl rfl) (Or.inr rfl)) pgs_nil))) (fun _ _ _ _ _ => pts_nil) (fun _ _ _ _ _ => (pe_op op_mul (pv 7) (pv 8)))) pa_nil)) (pv 2)))
      (pss_one (ps_if (pt_cmpR op_ne (pv 5) pe_int (nomark _)) (pss_cons (ps_set (i := 6) sc_raw_probe.nd rfl (Or.inr rfl) (pe_own o_rest_power (hr.mono (by decide)) rfl pass0 (pa_cons (pv 5) (pa_cons (pe_un un_neg pe_int) (pa_cons (pv 2) pa_nil)))))
      (pss_one (ps_set (i := 3) sc_raw_probe.nd rfl (Or.inl rfl) (pe_callTy call_tuple_of (by rfl) T.f_tuple (by decide +kernel) (pa_cons (pe_lc (own := [("rest", 7)]) rfl sc_raw_probe.nd (pi_tup (pv 4)) (blkOk_by (own := [("rest", 7)]) (N := ["rows", "wanted", "prime", "probe", "told", "worth", "scale", "rest", "by"]) (sc := defScope s_raw_probe) (by decide +kernel)) (fun _ _ _ _ _ => pg_name (i := 7) sc_raw_probe.nd rfl (Or.inl rfl) (Or.inr rfl)) (fun _ _ _ _ _ => pts_nil) (fun _ _ _ _ _ => (pe_op op_modN (pe_op op_mul (pv 7) (pv 6)) (pv 2)))) pa_nil))))) pss_nil))))
      (pss_one (ps_ret (pv 3))))) , ?_⟩
    refine ⟨(by show 0 ≤ sizeLine; decide), fun t0 ht0 => ?_⟩
    have s0 := same_upd (o := .tup []) ht0
    have ew0 := s0 _ _ ew
    refine ⟨_, rfl, _, rfl, wv, _, rfl, .inr (sqD ew0), ?_⟩
    rw [List.length_map, lw]
    refine ⟨_, rfl, R, la, rs, n, p, rfl, s0 _ _ eR, hR.keep (kpS s0), hrw, lrs, n1, n24, hp, hT.ext s0, fun D ds sp sq ts us bs H1 g1 nD eD hD F G FT wb => ?_⟩
    have N : Kn p n rs sp sq ts us bs := ⟨F, G, FT, wb⟩
    have lds := hD.len
    have G1 := (Gr.of hT s0).trans g1
    have ew1 := g1.tup ew0
    refine ⟨D, rfl, ⟨_, SqL.of eD⟩, ?_⟩
    refine for_it (walk_list (xs := ds.map V.ref)) (fun i σ' H' => ∃ (v : Addr) (x4 x5 x6 x7 x8 : Option V), σ' = [some (.ref R), some (.ref wv), some (.int p), some (.ref v), x4, x5, x6, x7, x8] ∧ Gr TT H1 H' ∧ ((∀ (j : Nat) (u : List Int), j < i → us[j]? = some u → Xp.dt n (co u) (co wn) % p = 0) ∨ ∃ ms, H' v = some (.tup (ms.map V.int)) ∧ Rw p n ms ∧ (∀ r ∈ rs, Xp.dt n (co r) (co ms) % p = 0) ∧ Xp.dt n (co ms) (co wn) % p = 1)) ⟨t0, none, none, none, none, none, rfl, Gr.of g1.t (fun _ _ z => z), .inl fun j _ h => absurd h (Nat.not_lt_zero j)⟩ (fun i σ' H' _ ⟨_, _, _, _, _, _, _, g, _⟩ => SqL.of (g.lt eD)) ?_ ?_
    · rintro i x σ' H2 H3 hi2 ⟨v, x4, x5, x6, x7, x8, rfl, g2, alt⟩ ⟨rfl, hx⟩
      rw [List.length_map] at hi2
      obtain ⟨l, u, rfl, hu, eu⟩ := (hD.keep (kpX g2.x)).at hx
      have mu := List.mem_of_getElem? hu
      have wu := G.trw u mu
      have lu := wu.len
      have ew2 := g2.tup ew1
      refine ⟨_, rfl, _, rfl, l, wv, _, _, rfl, .inr ⟨sqD eu, sqD ew2, fun D2 hD2 => ?_⟩⟩
      refine lc_it (walk_zipT (xs := u.map V.int) (ys := wn.map V.int) (by rw [List.length_map, List.length_map]; omega)) (fun i Ha => Same H3 Ha ∧ ∃ ms : List Int, Ha D2 = some (.lst (ms.map V.int)) ∧ ms.length = i ∧ ms.sum = Xp.sm i fun j => co u j * co wn j)
        ⟨same_upd hD2, [], upd_same, rfl, rfl⟩ (fun i Ha _ h => ⟨sqD (h.1 _ _ eu), sqD (h.1 _ _ ew2)⟩) ?_ ?_
      · rintro i3 x Ha Hb hi3 ⟨s3, ms, e3, l3, c3⟩ ⟨Tp, x1, y1, rfl, hTp, rfl, g1', g2'⟩
        rw [List.length_map] at hi3
        have h1 := (map_at u i3 (by omega)).symm.trans g1'
        have h2 := (map_at wn i3 (by omega)).symm.trans g2'
        cases h1
        cases h2
        obtain ⟨b0, b1⟩ := hw.rs i3
        have s4 := s3.trans (same_upd (o := .tup [.int (u.getD i3 0), .int (wn.getD i3 0)]) hTp)
        refine ⟨Tp, _, rfl, .inl (.inl upd_same), rfl, _, _, rfl, _, _, rfl, rfl, rfl, _, rfl, _, rfl, _, _, rfl, rfl, .inr ⟨by omega, by omega⟩, _, by rw [upd_ne (ne_of_none e3 hTp)]; exact e3, ?_, lcs hD2 s4, ms ++ [u.getD i3 0 * wn.getD i3 0], ?_, ?_, ?_⟩
        · rw [List.length_map]
          exact small1000 (by omega)
        · rw [upd_same, List.map_append]
          rfl
        · rw [List.length_append, l3]
          rfl
        · rw [List.sum_append, c3]
          show _ + (u.getD i3 0 * wn.getD i3 0 + 0) = Xp.sm i3 _ + u.getD i3 0 * wn.getD i3 0
          rw [Int.add_zero]
      rintro Ha ⟨s3, ms, e3, l3, c3⟩
      rw [List.length_map, lu] at c3
      refine ⟨D2, _, rfl, SqL.of e3, _, rfl, _, _, rfl, rfl, nz, ?_⟩
      rw [c3]
      have z0 : (Xp.sm n fun j => co u j * co wn j).fmod p = Xp.dt n (co u) (co wn) % p := fm_em hpm.pos
      generalize hwo : (Xp.sm n fun j => co u j * co wn j) = wo at z0
      have f0 := Int.fmod_nonneg_of_pos wo hpm.pos
      have f1 := Int.fmod_lt_of_pos wo hpm.pos
      obtain ⟨wx, hwx⟩ : ∃ wx, wx = wo.fmod p := ⟨_, rfl⟩
      rw [show (fun i j : Int => V.int (i.fmod j)) wo p = V.int wx from congrArg V.int hwx.symm]
      rw [← hwx] at z0 f0 f1
      refine ⟨_, rfl, rfl, _, rfl, ?_⟩
      have G2 := g2.same s3
      have eu2 := s3 _ _ eu
      by_cases hz : wx = 0
      · rw [show (!decide (V.int wx = V.int 0)) = false from by rw [hz]; rfl]
        refine iteF ⟨v, _, _, _, _, _, rfl, G2, ?_⟩
        rcases alt with z | ⟨ms', ev, wm, z, one⟩
        · refine .inl fun j q hj hq => ?_
          rcases Nat.lt_or_ge j i with lt | ge
          · exact z j q lt hq
          · have e : j = i := by omega
            subst e
            rw [hu] at hq
            cases hq
            rw [← z0, hz]
        · exact .inr ⟨ms', s3 _ _ ev, wm, z, one⟩
      · rw [show (!decide (V.int wx = V.int 0)) = true from by simpa using hz]
        obtain ⟨q, Mm, hq, hM, M2, M3, qM, fr, bl, ec, _⟩ := inv_of hp f0 f1 hz
        refine iteT ⟨_, rfl, _, rfl, _, rfl, q, Mm, -1, by rw [hM, hq]; rfl, M2, M3, qM, G2.t, fun H4 g4 => ?_⟩
        rw [fr]
        have el4 := g4.tup eu2
        generalize hsv : ((bk q Mm : Nat) : Int) = sv at ec
        have sv0 : 0 ≤ sv ∧ sv < 1000 := by omega
        refine ⟨_, rfl, l, rfl, ⟨_, sqD el4⟩, fun D3 hD3 => ?_⟩
        refine lc_it (walk_tup (xs := u.map V.int)) (fun i H' => Same H4 H' ∧ H' D3 = some (.lst (((u.take i).map fun x => (x * sv).fmod p).map V.int))) ⟨same_upd hD3, upd_same⟩ (fun i H' _ h => sqD (h.1 _ _ el4)) ?_ ?_
        · rintro i4 x Hb Hc hi4 ⟨s4, e4⟩ ⟨rfl, hx⟩
          rw [List.length_map] at hi4
          have e5 := (map_at u i4 hi4).symm.trans hx
          cases e5
          refine ⟨rfl, _, rfl, _, rfl, _, _, rfl, rfl, .inr ⟨by omega, by omega⟩, _, rfl, _, _, rfl, rfl, nz, _, e4, small1000 (Nat.le_trans (take_len _ _ _) (by omega)), lcs hD3 s4, ?_⟩
          rw [upd_same]
          exact congrArg (fun z => some (HO.lst z)) (take_map (fun x => (x * sv).fmod p) hi4)
        rintro H5 ⟨s4, e4⟩
        rw [List.length_map, List.take_length] at e4
        refine ⟨D3, _, rfl, .inl ⟨SqL.of e4, fun hv hhv => ?_⟩⟩
        have s5 := s4.trans (same_upd (o := .tup ((u.map fun x => (x * sv).fmod p).map V.int)) hhv)
        have hhc : ∀ j, (u.map fun x => (x * sv).fmod p).getD j 0 = (u.getD j 0 * sv).fmod p := fun j => getD_map (g := fun x => (x * sv).fmod p) (by show (0 * sv).fmod p = 0; rw [Int.zero_mul]; exact Int.zero_fmod p)
        have ehh : Xp.Eqm p (co (u.map fun x => (x * sv).fmod p)) (Xp.sc sv (co u)) := fun j => by
          show (u.map fun x => (x * sv).fmod p).getD j 0 % p = (sv * u.getD j 0) % p
          rw [hhc, fm_em hpm.pos, Int.emod_emod, Int.mul_comm]
        refine ⟨hv, _, _, _, _, _, rfl, (G2.trans g4).same s5, .inr ⟨_, upd_same, ⟨by rw [List.length_map]; exact lu, fm_rs hpm hhc⟩, fun r hr => ?_, ?_⟩⟩
        · rw [Xp.dt_comm, Xp.dt_eqm ehh, Xp.dt_sc, Int.mul_emod, Xp.dt_comm, N.zero r hr u mu, Int.mul_zero, Int.zero_emod]
        · have e9 : (sv % p * wx) % p = (sv * wx) % p := by rw [Int.mul_emod (sv % p), Int.emod_emod, ← Int.mul_emod]
          rw [Xp.dt_eqm ehh, Xp.dt_sc, Int.mul_emod, ← z0, e9, ec]
          exact Int.emod_eq_of_lt (by decide) (by omega)
    · rintro σ' H2 ⟨v, x4, x5, x6, x7, x8, rfl, g2, alt⟩
      rw [List.length_map, lds] at alt
      rcases alt with z | ⟨ms, ev, wm, z, one⟩
      · refine absurd (N.dual hw.out fun u hu => ?_) hno
        obtain ⟨j, hj⟩ := List.mem_iff_getElem?.mp hu
        exact z j u (List.getElem?_eq_some_iff.mp hj).1 hj
      · exact ⟨_, rfl, k v ms H2 (G1.trans g2) ev wm z one⟩
abbrev s_solved : Stmt := topS 32
theorem sc_solved : FnScope (["rows", "wanted", "width", "prime", "weights"] : List Str) ["rows", "wanted", "width", "prime"] (defScope s_solved) := ⟨rfl, rfl, rfl, by decide +kernel, rfl, by decide +kernel, by decide +kernel⟩
theorem ok_solved {TT : List (Addr × Str)} {f : Addr} {fd : FuncData} {kws : List (Str × V)} (F : FunD K "solved" "solved" (defArgs s_solved) (defBody s_solved) (defScope s_solved) [] kws f fd) (T : Fre mg) (o_refuse_table : Own P w K mg base (L2.CX P w) 4 "refuse_table" ["rows", "width", "prime"] [] spRefT) (o_is_row : Own P w K mg base CX0 3 "is_row" ["told", "width", "prime"] [] (spIsRow K)) (o_weighed_steps : Own P w K mg base CX0 5 "weighed_steps" ["rows", "width", "prime"] [] (spWS TT)) (o_raw_made : Own P w K mg base CX0 2 "raw_made" ["steps", "wanted", "count", "prime"] [] spMade) (o_raw_probe : Own P w K mg base CX0 6 "raw_probe" ["rows", "wanted", "prime"] [] (spProbe TT)) : FnOk P w K mg base (L2.CX P w) 7 f fd ["rows", "wanted", "width", "prime"] (spSolve TT) := by
  refine F.ok sc_solved (fun vs H Q E h => ?_) (fun cdv A outer s H vs Q E hr h => ?_)
  · obtain ⟨R, wv, la, wn, rs, n, p, rfl, _⟩ := h
    rfl
  · obtain ⟨R, wv, la, wn, rs, n, p, rfl, eR, hR, hrw, lrs, n1, n24, hp, hT, ew, hw, kM, kB⟩ := h
    have hpm := pm_of hp
    have lla := hR.len
    refine ⟨_, (pss_cons (ps_expr (pe_own o_refuse_table (hr.mono (by decide)) rfl (passes_call (takes_of rfl rfl rfl rfl) (fun _ _ _ _ h => h)) (pa_cons (pv 0) (pa_cons (pv 2) (pa_cons (pv 3) pa_nil)))))
      (pss_cons (ps_if (pt_not (pt_val (pe_own o_is_row (hr.mono (by decide)) rfl pass0 (pa_cons (pv 1) (pa_cons (pv 2) (pa_cons (pv 3) pa_nil)))))) (pss_one psNo) pss_nil)
      (pss_cons (ps_set (i := 4) sc_solved.nd rfl (Or.inl rfl) (pe_own o_raw_made (hr.mono (by decide)) rfl pass0 (pa_cons (pe_own o_weighed_steps (hr.mono (by decide)) rfl pass0 (pa_cons (pv 0) (pa_cons (pv 2) (pa_cons (pv 3) pa_nil)))) (pa_cons (pv 1) (pa_cons (pe_callB call_len_seq (by rfl) T.f_len PySem.boot_len (pa_cons (pv 0) pa_nil)) (pa_cons (pv 3) pa_nil))))))
      (pss_cons (ps_if (pt_cmpR op_notN (pv 4) pe_non (nomark _)) (pss_one (ps_ret (pe_tup (pa_cons pe_str (pa_cons (pv 4) pa_nil))))) pss_nil)
      (pss_one (ps_ret (pe_tup (pa_cons pe_str (pa_cons (pe_own o_raw_probe (hr.mono (by decide)) rfl pass0 (pa_cons (pv 0) (pa_cons (pv 1) (pa_cons (pv 3) pa_nil)))) pa_nil))))))))) , ?_⟩
    refine ⟨_, rfl, _, rfl, _, rfl, R, la, rs, n, p, rfl, eR, hR, hrw, lrs, n1, n24, hp, fun H1 s1 => ?_⟩
    have ew1 := s1 _ _ ew
    refine ⟨_, rfl, _, rfl, _, rfl, wv, wn, n, p, rfl, sqD ew1, hw, by omega, fun H2 s2 => ⟨_, rfl, iteF ?_⟩⟩
    have s12 := s1.trans s2
    refine ⟨_, rfl, _, rfl, _, rfl, R, la, rs, n, p, rfl, s12 _ _ eR, hR.keep (kpS s12), hrw, lrs, n1, n24, hp, hT.ext s12, fun S ds sp ws ls ts H3 g3 nS eS hS W S0 => ?_⟩
    have G3 := (Gr.of hT s12).trans g3
    have ew3 := g3.tup (s2 _ _ ew1)
    have eR3 := g3.lt (s12 _ _ eR)
    have hR3 := (hR.keep (kpS s12)).keep (kpX g3.x)
    refine ⟨_, rfl, _, rfl, R, _, rfl, .inl (SqL.of eR3), _, rfl, S, wv, ds, wn, rs, ws, ls, ts, sp, n, rs.length, p, by rw [List.length_map, lla]; rfl, rfl, eS, hS, ew3, hw, hrw, W, S0, lrs, n1, n24, hpm, fun A vs H4 s4 eA lv rv em => ?_, fun H4 s4 hno => ?_⟩
    · refine ⟨_, rfl, rfl, _, rfl, iteT ?_⟩
      exact ⟨_, rfl, (by show 2 ≤ sizeLine; decide), fun t ht => kM t A vs _ ((G3.same s4).same (same_upd ht)) upd_same (same_upd ht _ _ eA) lv rv em⟩
    · refine ⟨_, rfl, rfl, _, rfl, iteF ?_⟩
      have G4 := G3.same s4
      refine ⟨_, rfl, _, rfl, _, rfl, R, wv, la, wn, rs, n, p, rfl, s4 _ _ eR3, hR3.keep (kpS s4), hrw, lrs, n1, n24, hp, G4.t, s4 _ _ ew3, hw, hno, fun A ms H5 g5 eA wm z one => ?_⟩
      exact ⟨(by show 2 ≤ sizeLine; decide), fun t ht => kB t A ms _ ((G4.trans g5).same (same_upd ht)) upd_same (same_upd ht _ _ eA) wm z one⟩
end
end Xk
end
section
set_option Elab.async false
set_option linter.all false
set_option maxRecDepth 100000
set_option maxHeartbeats 4000000
namespace Xk
open PySem PySem.Spec PyProof.Rows L2 Xh LamX NdefX
theorem prime_bounds : ∀ q ∈ primes, 2 ≤ q ∧ q ≤ 97 := by decide
def spFar : Sp := fun vs H Q _ => ∃ (d : Addr) (p : Int), vs = [.ref d, .int p] ∧ Draw H d ∧ p ∈ primes ∧ ∀ (m : Int) (H' : Hp), ¬ (0 ≤ m ∧ m < p) → Draw H' d → But d H H' → Q (.int m) H'
section
variable {P : Program} {w : World} {K : PySem.W.Frag} {mg : Str → Option Value} {base : Heap}
abbrev s_law_far : Stmt := topS 50
theorem sc_law_far : FnScope (["_law_draw", "_law_p"] : List Str) ["_law_draw", "_law_p"] (defScope s_law_far) := ⟨rfl, rfl, rfl, by decide +kernel, rfl, by decide +kernel, by decide +kernel⟩
theorem ok_far {f : Addr} {fd : FuncData} (F : FunD K "_law_far" "_law_far" (defArgs s_law_far) (defBody s_law_far) (defScope s_law_far) [] [] f fd) (o_law_take : Own P w K mg base CX0 1 "_law_take" ["_law_draw", "_law_sides"] [] spTake) (o_law_of : Own P w K mg base CX0 2 "_law_of" ["_law_draw", "_law_row"] [] (spOf K)) : FnOk P w K mg base CX0 3 f fd ["_law_draw", "_law_p"] spFar := by
  refine F.ok sc_law_far (fun vs H Q E h => ?_) (fun cdv A outer s H vs Q E hr h => ?_)
  · obtain ⟨d, p, rfl, _⟩ := h
    rfl
  · obtain ⟨d, q, rfl, D, hq, k⟩ := h
    obtain ⟨q2, q97⟩ := prime_bounds q hq
    refine ⟨_, PSs.nox (pss_one (ps_ret (pe_own o_law_of (hr.mono (by decide)) rfl pass0 (pa_cons (pv 0) (pa_cons (pe_lst (pa_cons (pv 1) (pa_cons (pe_un un_neg pe_int) (pa_cons (pe_op op_pow pe_int pe_int) (pa_cons (pe_op op_add (pv 1) (pe_own o_law_take (hr.mono (by decide)) rfl pass0 (pa_cons (pv 0) (pa_cons (pe_op op_pow pe_int pe_int) pa_nil)))) (pa_cons (pe_un un_neg (pv 1)) pa_nil)))))) pa_nil))))) , ?_⟩
    refine ⟨_, rfl, _, rfl, _, rfl, _, _, rfl, rfl, ⟨by decide, by decide, by decide⟩, _, rfl, _, rfl, _, _, rfl, rfl, ⟨by decide, by decide, by decide⟩, d, _, rfl, D, by decide, by decide, fun m H1 m0 m1 D1 B1 => ?_⟩
    refine ⟨_, _, rfl, rfl, _, rfl, _, rfl, (by show 5 ≤ sizeLine; decide), fun p hp => ?_⟩
    refine ⟨d, p, _, rfl, D1.same (same_upd hp), SqL.of upd_same, D1.ne hp, (by show 0 < 5; decide), (by show 5 ≤ 1000; decide), fun x H2 hx D2 B2 => ?_⟩
    have hk : ∀ n : Int, ¬ (0 ≤ n ∧ n < q) → Q (.int n) H2 := fun n hn => k n H2 hn D2 ((B1.trans (But.same (same_upd hp))).trans B2)
    simp only [List.mem_cons, List.not_mem_nil, or_false] at hx
    have big : (97 : Int) < (10 : Int) ^ Int.toNat 20 := by decide
    rcases hx with rfl | rfl | rfl | rfl | rfl
    · exact hk _ (by omega)
    · exact hk _ (by omega)
    · exact hk _ (by omega)
    · exact hk _ (by show ¬ (0 ≤ q + m ∧ q + m < q); omega)
    · exact hk _ (by omega)
end
end Xk
end
section
set_option Elab.async false
set_option linter.all false
set_option maxRecDepth 100000
set_option maxHeartbeats 4000000
namespace Xk
open PySem PySem.Spec PyProof.Rows L2 Xh LamX NdefX
def spBad : Sp := fun vs H Q _ => ∃ d : Addr, vs = [.ref d] ∧ Draw H d ∧ ∀ (m : Int) (H' : Hp), m ∉ primes → Draw H' d → But d H H' → Q (.int m) H'
theorem odd_primes : ∀ m ∈ primes, m = 2 ∨ m % 2 = 1 := by decide
section
variable {P : Program} {w : World} {K : PySem.W.Frag} {mg : Str → Option Value} {base : Heap}
abbrev s_law_bad_prime : Stmt := topS 49
theorem sc_law_bad_prime : FnScope (["_law_draw"] : List Str) ["_law_draw"] (defScope s_law_bad_prime) := ⟨rfl, rfl, rfl, by decide +kernel, rfl, by decide +kernel, by decide +kernel⟩
theorem ok_bad {f : Addr} {fd : FuncData} (F : FunD K "_law_bad_prime" "_law_bad_prime" (defArgs s_law_bad_prime) (defBody s_law_bad_prime) (defScope s_law_bad_prime) [] [] f fd) (o_law_take : Own P w K mg base CX0 1 "_law_take" ["_law_draw", "_law_sides"] [] spTake) (o_law_of : Own P w K mg base CX0 2 "_law_of" ["_law_draw", "_law_row"] [] (spOf K)) : FnOk P w K mg base CX0 3 f fd ["_law_draw"] spBad := by
  refine F.ok sc_law_bad_prime (fun vs H Q E h => ?_) (fun cdv A outer s H vs Q E hr h => ?_)
  · obtain ⟨d, rfl, _⟩ := h
    rfl
  · obtain ⟨d, rfl, D, k⟩ := h
    refine ⟨_, PSs.nox (pss_one (ps_ret (pe_own o_law_of (hr.mono (by decide)) rfl pass0 (pa_cons (pv 0) (pa_cons (pe_lst (pa_cons pe_int (pa_cons pe_int (pa_cons pe_int (pa_cons pe_int (pa_cons pe_int (pa_cons pe_int (pa_cons (pe_un un_neg pe_int) (pa_cons (pe_un un_neg pe_int) (pa_cons (pe_op op_pow pe_int pe_int) (pa_cons (pe_op op_add pe_int (pe_op op_mul pe_int (pe_own o_law_take (hr.mono (by decide)) rfl pass0 (pa_cons (pv 0) (pa_cons (pe_op op_pow pe_int pe_int) pa_nil))))) pa_nil))))))))))) pa_nil))))) , ?_⟩
    refine ⟨_, rfl, _, rfl, _, rfl, _, _, rfl, rfl, ⟨by decide, by decide, by decide⟩, _, rfl, _, _, rfl, rfl, ⟨by decide, by decide, by decide⟩, d, _, rfl, D, by decide, by decide, fun m H1 m0 m1 D1 B1 => ?_⟩
    refine ⟨_, _, rfl, rfl, .inl ⟨by decide, by decide⟩, _, _, rfl, rfl, (by show 10 ≤ sizeLine; decide), fun p hp => ?_⟩
    refine ⟨d, p, _, rfl, D1.same (same_upd hp), SqL.of upd_same, D1.ne hp, (by show 0 < 10; decide), (by show 10 ≤ 1000; decide), fun x H2 hx D2 B2 => ?_⟩
    have hk : ∀ n : Int, n ∉ primes → Q (.int n) H2 := fun n hn => k n H2 hn D2 ((B1.trans (But.same (same_upd hp))).trans B2)
    have he : (4 + 2 * m : Int) ∉ primes := fun z => by
      rcases odd_primes _ z with h | h <;> omega
    simp only [List.mem_cons, List.not_mem_nil, or_false] at hx
    rcases hx with rfl | rfl | rfl | rfl | rfl | rfl | rfl | rfl | rfl | rfl
    all_goals first
      | exact hk _ (by decide)
      | exact hk _ he
end
end Xk
end
section
set_option Elab.async false
set_option linter.all false
set_option maxRecDepth 100000
set_option maxHeartbeats 2000000
/-! C.m(..): a plain def of an own class, called by the class; own exceptions with one field -/
namespace Xh
open PySem PySem.Spec PyProof.Rows L2
/-- C.m is g -/
structure CDef (K : PySem.W.Frag) (C g : Addr) (m : Str) : Prop where
  rd : ClX.CRead K C (.type "type")
  at_ : PySem.W.findCls K (.ref C) (.type "type") m = some (.val (.ref g))
  ty : PySem.W.typeIn K (.ref C) = some (.type "type")
  kp : PySem.W.keepIn K (.ref g) = true
/-- C.m(..) -/
def tCDef (sp : Sp) (E : XK) (t : TA) : TE := fun σ H Q => t σ H fun vs H2 => sp vs H2 Q E
theorem pe_cdef {X : Cx} {CX : CXT} {k : Nat} {C g : Addr} {x m : Str} {sp : Sp} {E : XK} {t : TA} {e : Expr} {es : List Expr} {np apos pos : Pos} {pl : Sem Bool} (hg : Gl X x) (hm : X.mg x = some (.ref C)) (c : CDef X.K C g m) (F : FnR X.prog X.w X.K X.mg X.base CX k g sp) (hr : Room k X.A) (hx : Passes CX X E) (ha : PA X (e :: es) t)
    (he : starEach (e :: es) X.env = (false, eval e X.env) :: starEach es X.env := by rfl) (hpl : (backTo pos (starEach es X.env)).any (·.1) = false := by rfl) (hdb : (x == ("__debug__" : Str)) = false := by decide)
    (hc : eval (.Call (.Attribute (.Name x np) m apos) (e :: es) [] pos) X.env = (do
      let ov ← eval (.Name x np) X.env
      standAt apos.atName
      let (f, first) ← holding [ov] (getMethod ov m pl)
      callWith pos f first (backTo pos (starEach (e :: es) X.env)) []) := by rfl) :
    PE X (.Call (.Attribute (.Name x np) m apos) (e :: es) [] pos) (tCDef sp E t) := by
  refine ⟨fun pins s σ H Q I h => ?_⟩
  obtain ⟨mm, FR⟩ := I.fr
  refine PyProof.Rows.MethodCall_ (pl := pl) (ld_glob I hg hm (PySem.W.method_of_cls FR I.ok.mod.kin c.rd.ga (PySem.W.cls_val FR I.ok.mod.kin c.ty c.rd.rd c.at_ rfl ?_)) hdb) hc
  have I2 := I.tok (s.toks + 1)
  refine PySem.W.callWith_K (h₀ := X.base) I2.ok.mod.kin c.kp (thn (ha.run pos pins _ σ H _ I2 h) fun us s2 ⟨vs, H2, I3, r, q⟩ => ⟨I3.kIn, ?_⟩) he hpl
  show wpAny _ _ (call (.ref g) us) _ _ _
  refine wpAny_call (codeAny_mono (F X.A X.stack s2 H2 us vs Q E hr I3.env0 r q) fun r s3 hq => ?_)
  cases r with
  | error er => exact hx pins σ _ _ er s3 I3 hq
  | ok fl =>
    cases fl with
    | ret u => exact I3.after hq
    | next => exact False.elim hq
    | brk => exact False.elim hq
    | cont => exact False.elim hq
/-- what C.__init__(self, y) promises: the word, and y in the field -/
def spFI (K : PySem.W.Frag) (f : Str) : Sp := fun vs H Q E => ∃ (a C : Addr) (nm : Str) (y : V), vs = [.ref a, y] ∧ RC K C nm ∧ PySem.W.findIn K (.ref C) "word" = some none ∧ PySem.W.findIn K (.ref C) f = some none ∧ H a = some (exo a C none) ∧
  ∀ H1 dx, H dx = none → dx ≠ a → Same H H1 → H1 dx = none → Q .non (upd (upd (upd H1 dx (exd dx [("word", .str nm)])) a (exo a C (some dx))) dx (exd dx [(f, y), ("word", .str nm)]))
/-- a class with a field of its own -/
structure RXF (K : PySem.W.Frag) (mg : Str → Option Value) (C fI : Addr) (nm f : Str) : Prop where
  c : RC K C nm
  w : PySem.W.findIn K (.ref C) "word" = some none
  fd : PySem.W.findIn K (.ref C) f = some none
  i : PySem.W.findIn K (.ref C) "__init__" = some (some (.ref fI))
  t : PySem.W.typeIn K (.ref fI) = some (.type "function")
  g : mg nm = some (.ref C)
/-- raise C(y) -/
theorem pmk_field {X : Cx} {C fI : Addr} {nm f x0 : Str} {p pos : Pos} {e : Expr} {fd : FuncData} {ta : TA} {k : Nat} (T : RXF X.K X.mg C fI nm f) (F : FnOk X.prog X.w X.K X.mg X.base (L2.CX X.prog X.w) k fI fd ["self", x0] (spFI X.K f)) (hr : Room (k + 1) X.A) (hb : Binds X.K fd ["self", x0] []) (hg : Gl X nm) (ha : PA X [e] ta)
    (hdb : (nm == ("__debug__" : Str)) = false := by decide) (he : starEach [e] X.env = (false, eval e X.env) :: starEach [] X.env := by rfl) (hpl : (backTo pos (starEach [] X.env)).any (·.1) = false := by rfl) : PMk X (.Call (.Name nm p) [e] [] pos) (tMkO C (spFI X.K f) [] ta) :=
  pmk_oex T.c.o T.i T.t F hr hb .nil passL hg T.g ha hdb he hpl
/-- .. what it wants: its word, its field -/
theorem mkF {K : PySem.W.Frag} {mg : Str → Option Value} {C fI : Addr} {nm f : Str} (T : RXF K mg C fI nm f) {y : V} {H1 : Hp} {Q : XK} (h : ∀ (d : Addr) (H' : Hp), Same H1 H' → H' d = some (.xd [(f, y), ("word", .str nm)]) → H1 d = none → Q (.ref C) (some d) H') :
    [y].length ≤ 1000 ∧ ∀ a, H1 a = none → spFI K f (.ref a :: ([y] ++ [])) (upd H1 a (exo a C none)) (fun v H2 => v = .non ∧ ∃ (d : Addr) (fs : List (Str × V)), H2 a = some (exo a C (some d)) ∧ H2 d = some (exd d fs) ∧ H1 d = none ∧ Q (.ref C) (some d) (upd (del H2 a) d (.xd fs))) (fun _ _ _ => False) := by
  refine ⟨by show 1 ≤ 1000; decide, fun a ha => ⟨a, C, nm, y, rfl, T.c, T.w, T.fd, upd_same, fun H2 dx hdx hne hs h2 => ⟨rfl, dx, _, by rw [upd_ne (Ne.symm hne), upd_same], upd_same, by rw [upd_ne hne] at hdx; exact hdx, ?_⟩⟩⟩
  have hdx' : H1 dx = none := by rw [upd_ne hne] at hdx; exact hdx
  refine h dx _ (fun b o e => ?_) upd_same hdx'
  have n2 : b ≠ a := ne_of_none e ha
  have n3 : b ≠ dx := ne_of_none e hdx'
  rw [upd_ne n3, del_ne n2, upd_ne n3, upd_ne n2, upd_ne n3]
  exact hs b o (by rw [upd_ne n2]; exact e)
section
variable {P : Program} {w : World} {K : PySem.W.Frag} {mg : Str → Option Value} {base : Heap}
/-- __init__(self, y): RungError.__init__(self); self.f = y -/
theorem ok_finit {st : Stmt} {g fI R : Addr} {fd : FuncData} {q x0 f : Str} (F : FunD K "__init__" q (defArgs st) (defBody st) (defScope st) [] [] g fd) (S : FnScope ([("self" : Str), x0]) [("self" : Str), x0] (defScope st))
    (body : ∀ X : Cx, X.K = K → X.prog = P → X.w = w → X.mg = mg → X.base = base → X.N = [("self" : Str), x0] → X.env.scope = defScope st → Room 1 X.A → Passes (L2.CX P w) X (fun _ _ _ => False) → PSs X (defBody st) (tSeq (tDrop (tCDef (spRI1 K) (fun _ _ _ => False) (tCons (tVar 0) tNil))) (tOst K f (tVar 0) (tVar 1)))) : FnOk P w K mg base (L2.CX P w) 2 g fd ["self", x0] (spFI K f) := by
  refine F.ok S (fun vs H Q E h => ?_) (fun cdv A outer s H vs Q E hr h => ?_)
  · obtain ⟨a, C, nm, y, rfl, _⟩ := h
    rfl
  · obtain ⟨a, C, nm, y, rfl, T, hw, hf, ha, k⟩ := h
    refine ⟨_, body _ rfl rfl rfl rfl rfl rfl rfl (hr.mono (by decide)) passL, ?_⟩
    refine ⟨_, rfl, a, C, nm, rfl, T, hw, ha, fun H1 dx hdx hne hs h1 => ?_⟩
    refine ⟨_, rfl, _, rfl, a, C, rfl, T.o, hf, .inr ⟨dx, _, upd_same, by rw [upd_ne hne, upd_same], by show 1 ≤ 900; decide, ?_⟩⟩
    exact k H1 dx hdx hne hs h1
end
end Xh
end
section
set_option Elab.async false
set_option linter.all false
set_option maxRecDepth 100000
set_option maxHeartbeats 4000000
namespace Xk
open PySem PySem.Spec PyProof.Rows L2 Xh LamX NdefX
/-! ### tables that are refused -/
/-- refused with a field -/
def ExF (H : Hp) (E : XK) (C : Addr) (nm f : Str) (y : V) : Prop := ∀ (d : Addr) (H' : Hp), Same H H' → H' d = some (.xd [(f, y), ("word", .str nm)]) → H d = none → E (.ref C) (some d) H'
theorem ExF.same {H H1 : Hp} {E : XK} {C : Addr} {nm f : Str} {y : V} (x : ExF H E C nm f y) (s : Same H H1) : ExF H1 E C nm f y := fun d H' a b c => x d H' (s.trans a) b (s.free c)
theorem Ex.same {H H1 : Hp} {E : XK} {C : Addr} {nm : Str} (x : Ex H E C nm) (s : Same H H1) : Ex H1 E C nm := fun d H' a b c => x d H' (s.trans a) b (s.free c)
def okR (p n : Int) : Bool := decide (0 ≤ n ∧ n < p)
def rowB (p n : Int) (r : List Int) : Bool := decide ((r.length : Int) = n) && (r.map (okR p)).all id
/-- the first row that is none -/
def FirstBad (p n : Int) (rs : List (List Int)) (i : Nat) : Prop := i ≤ 24 ∧ (∃ r, rs[i]? = some r ∧ (i = 24 ∨ rowB p n r = false)) ∧ ∀ (j : Nat) (r : List Int), j < i → rs[j]? = some r → rowB p n r = true
/-- why a table is refused -/
def Cause (C : Fin 14 → Addr) (H : Hp) (E : XK) (rs : List (List Int)) (n p : Int) : Prop :=
  (p ∉ primes ∧ Ex H E (C 0) "BadPrime") ∨ (p ∈ primes ∧ (n < 1 ∨ 24 < n) ∧ Ex H E (C 1) "BadWidth") ∨ (p ∈ primes ∧ 1 ≤ n ∧ n ≤ 24 ∧ ∃ i : Nat, FirstBad p n rs i ∧ ExF H E (C 2) "BadTable" "at" (.int (i : Nat)))
def GoodT (rs : List (List Int)) (n p : Int) : Prop := p ∈ primes ∧ 1 ≤ n ∧ n ≤ 24 ∧ rs.length ≤ 24 ∧ ∀ r ∈ rs, rowB p n r = true
def spIsRowG (K : PySem.W.Frag) : Sp := fun vs H Q _ => ∃ (a : Addr) (r : List Int) (n p : Int), vs = [.ref a, .int n, .int p] ∧ SqT K H a (r.map V.int) ∧ r.length ≤ 100 ∧ ∀ H', Same H H' → Q (.bl (rowB p n r)) H'
def spRefD (C : Fin 14 → Addr) : Sp := fun vs H Q E => ∃ (R : Addr) (la : List Addr) (rs : List (List Int)) (n p : Int), vs = [.ref R, .int n, .int p] ∧ H R = some (.lst (la.map V.ref)) ∧ Rws H la rs ∧ (∀ r ∈ rs, r.length ≤ 100) ∧ rs.length ≤ 40 ∧ (Cause C H E rs n p ∨ (GoodT rs n p ∧ ∀ H', Same H H' → Q .non H'))
def spDoor (C : Fin 14 → Addr) : Sp := fun vs H Q E => ∃ (R : Addr) (la : List Addr) (rs : List (List Int)) (n p : Int), vs = [.ref R, .int n, .int p] ∧ H R = some (.lst (la.map V.ref)) ∧ Rws H la rs ∧ (∀ r ∈ rs, r.length ≤ 100) ∧ rs.length ≤ 40 ∧ Cause C H E rs n p
def spDoorS (C : Fin 14 → Addr) : Sp := fun vs H Q E => ∃ (R wv : Addr) (la : List Addr) (wn : List Int) (rs : List (List Int)) (n p : Int), vs = [.ref R, .ref wv, .int n, .int p] ∧ H R = some (.lst (la.map V.ref)) ∧ Rws H la rs ∧ (∀ r ∈ rs, r.length ≤ 100) ∧ rs.length ≤ 40 ∧ H wv = some (.tup (wn.map V.int)) ∧ wn.length ≤ 100 ∧ (Cause C H E rs n p ∨ (GoodT rs n p ∧ rowB p n wn = false ∧ ExF H E (C 2) "BadTable" "at" (.int 0)))
section
variable {P : Program} {w : World} {K : PySem.W.Frag} {mg : Str → Option Value} {base : Heap}
theorem d_is_row {f : Addr} {fd : FuncData} (F : FunD K "is_row" "is_row" (defArgs s_is_row) (defBody s_is_row) (defScope s_is_row) [] [] f fd) (T : Fre mg) (o_is_rest : Own P w K mg base CX0 2 "is_rest" ["told", "prime"] [] spIsRest) : FnOk P w K mg base CX0 3 f fd ["told", "width", "prime"] (spIsRowG K) := by
  refine F.ok sc_is_row (fun vs H Q E h => ?_) (fun cdv A outer s H vs Q E hr h => ?_)
  · obtain ⟨a, r, n, p, rfl, _⟩ := h
    rfl
  · obtain ⟨a, ns, n, p, rfl, hS, hl, k⟩ := h
    refine ⟨_, PSs.nox (pss_one (ps_ret (pe_and (pe_callB call_isi (by rfl) T.f_isinstance PyProof.Rows.boot_isinstance (pa_cons (pv 0) (pa_cons (pe_bltn (v := .ty "tuple") rfl T.f_tuple boot_tuple rfl) pa_nil))) (pe_and (pe_cmpR op_eq (pe_callB call_len_seq (by rfl) T.f_len PySem.boot_len (pa_cons (pv 0) pa_nil)) (pv 1) (nomark _)) (pe_one (pe_callB (cr_all rfl) (by rfl) T.f_all (by decide +kernel) (pa_cons (pe_lc (own := [("rest", 3)]) rfl sc_is_row.nd (pi_tup (pv 0)) (blkOk_by (own := [("rest", 3)]) (N := ["told", "width", "prime", "rest"]) (sc := defScope s_is_row) (by decide +kernel)) (fun _ _ _ _ _ => pg_name (i := 3) sc_is_row.nd rfl (Or.inl rfl) (Or.inr rfl)) (fun _ _ _ _ _ => pts_nil) (fun _ _ _ _ _ => (pe_own o_is_rest (hr.mono (by decide)) rfl pass0 (pa_cons (pv 3) (pa_cons (pv 2) pa_nil))))) pa_nil))))))) , ?_⟩
    refine ⟨_, rfl, .ref a, _, _, _, true, rfl, .ty _, tyT hS, kit_ty (by decide +kernel), _, rfl, iteT ?_⟩
    refine ⟨_, rfl, _, _, rfl, .inr hS, _, rfl, ?_⟩
    rw [List.length_map]
    refine ⟨rfl, _, rfl, ?_⟩
    by_cases hn : ((ns.length : Nat) : Int) = n
    · rw [show decide (V.int ((ns.length : Nat) : Int) = V.int n) = true from decide_eq_true (by rw [hn])]
      refine iteT ?_
      refine ⟨_, rfl, a, rfl, ⟨_, hS⟩, fun D hD => ?_⟩
      refine lc_it (walk_tup (xs := ns.map V.int)) (fun i H1 => Same H H1 ∧ H1 D = some (.lst (((ns.take i).map (okR p)).map V.bl)) ∧ i ≤ ns.length) ⟨same_upd hD, upd_same, Nat.zero_le _⟩ (fun i H1 _ h => sameT h.1 hS) ?_ ?_
      · rintro i x H1 H2 hi ⟨s1, e1, _⟩ ⟨rfl, hx⟩
        rw [List.length_map] at hi
        have e3 := (map_at ns i hi).symm.trans hx
        cases e3
        refine ⟨rfl, _, rfl, _, rfl, _, _, rfl, _, e1, ?_, lcs hD s1, ?_, hi⟩
        · rw [List.length_map, List.length_map, List.length_take]
          exact small1000 (by omega)
        · rw [upd_same, List.take_add_one, List.getElem?_eq_getElem hi, List.map_append, List.map_append]
          have eg : ns.getD i 0 = ns[i] := by rw [List.getD_eq_getElem?_getD, List.getElem?_eq_getElem hi]; rfl
          rw [eg]
          rfl
      · rintro H1 ⟨s1, e1, _⟩
        rw [List.length_map, List.take_length] at e1
        refine ⟨D, _, rfl, SqL.of e1, ?_⟩
        have e : rowB p n ns = (ns.map (okR p)).all id := by
          unfold rowB
          rw [decide_eq_true hn, Bool.true_and]
        rw [← e]
        exact k _ s1
    · rw [show decide (V.int ((ns.length : Nat) : Int) = V.int n) = false from decide_eq_false (fun z => hn (V.int.inj z))]
      refine iteF ?_
      have e : rowB p n ns = false := by
        unfold rowB
        rw [decide_eq_false hn, Bool.false_and]
      rw [← e]
      exact k _ (fun _ _ z => z)
theorem d_refuse_table {f fI fT : Addr} {C : Fin 14 → Addr} {fd fdT : FuncData} (F : FunD K "refuse_table" "refuse_table" (defArgs s_refuse_table) (defBody s_refuse_table) (defScope s_refuse_table) [] [] f fd) (T : Fre mg) (mW : ∃ t, mg "MOST_WIDE" = some (.int 24 t)) (mR : ∃ t, mg "MOST_ROWS" = some (.int 24 t)) (o_refuse_prime : Own P w K mg base (L2.CX P w) 3 "refuse_prime" ["prime"] [] (spRefP (C 0)))
    (o_is_number : Own P w K mg base CX0 1 "is_number" ["told"] [] spIsNum) (o_is_row : Own P w K mg base CX0 3 "is_row" ["told", "width", "prime"] [] (spIsRowG K)) (xP : RX K mg (C 1) fI "BadWidth") (o_init : FnR P w K mg base (L2.CX P w) 1 fI (spRI1 K)) (xT : RXF K mg (C 2) fT "BadTable" "at") (fI_BadTable : FnOk P w K mg base (L2.CX P w) 2 fT fdT ["self", "at"] (spFI K "at")) (bI_BadTable : Binds K fdT ["self", "at"] []) : FnOk P w K mg base (L2.CX P w) 4 f fd ["rows", "width", "prime"] (spRefD C) := by
  obtain ⟨tW, mW⟩ := mW
  obtain ⟨tR, mR⟩ := mR
  refine F.ok sc_refuse_table (fun vs H Q E h => ?_) (fun cdv A outer s H vs Q E hr h => ?_)
  · obtain ⟨R, la, rs, n, p, rfl, _⟩ := h
    rfl
  · obtain ⟨R, la, rs, n, p, rfl, eR, hR, hl, lrs, h⟩ := h
    have lla := hR.len
    refine ⟨_, (pss_cons (ps_expr (pe_own o_refuse_prime (hr.mono (by decide)) rfl (passes_call (takes_of rfl rfl rfl rfl) (fun _ _ _ _ h => h)) (pa_cons (pv 2) pa_nil)))
      (pss_cons (ps_if (PW.pt (pw_or (pt_not (pt_val (pe_own o_is_number (hr.mono (by decide)) rfl pass0 (pa_cons (pv 1) pa_nil)))) (pw_or1 (pt_not (pt_chain op_le op_le pe_int (pv 1) (pe_glob (v := .int 24) rfl mW ⟨_, rfl⟩)))))) (pss_one (ps_raise rfl (takes_of rfl rfl rfl rfl) (pmk_rung xP o_init (hr.mono (by decide)) rfl))) pss_nil)
      (pss_one (ps_for (passes_of rfl) rfl (pi_enum (by rfl) T.f_enumerate (pa_cons (pv 0) pa_nil)) (pg_tup rfl (pgs_cons (pg_name (i := 3) sc_refuse_table.nd rfl (Or.inl rfl)) (pgs_cons (pg_name (i := 4) sc_refuse_table.nd rfl (Or.inl rfl)) pgs_nil))) (pss_one (ps_if (PW.pt (pw_or (pt_cmpR op_ge (pv 3) (pe_glob (v := .int 24) rfl mR ⟨_, rfl⟩) (nomark _)) (pw_or1 (pt_not (pt_val (pe_own o_is_row (hr.mono (by decide)) rfl pass0 (pa_cons (pv 4) (pa_cons (pv 1) (pa_cons (pv 2) pa_nil))))))))) (pss_one (ps_raise rfl (takes_of rfl rfl rfl rfl) (pmk_field xT fI_BadTable (hr.mono (by decide)) bI_BadTable rfl (pa_cons (pv 3) pa_nil)))) pss_nil)))))) , ?_⟩
    rcases h with (⟨np, ex⟩ | ⟨hp, hn, ex⟩ | ⟨hp, n1, n24, i0, ⟨hi24, ⟨r0, hr0, hb⟩, hgood⟩, ex⟩) | ⟨⟨hp, n1, n24, l24, hgood⟩, k⟩
    · exact ⟨_, rfl, p, rfl, fun hp => absurd hp np, fun _ => ex⟩
    · refine ⟨_, rfl, p, rfl, fun _ => ?_, fun z => absurd hp z⟩
      refine ⟨_, rfl, n, rfl, _, rfl, iteF ⟨_, rfl, _, _, rfl, rfl, _, rfl, ?_⟩⟩
      by_cases h1 : 1 ≤ n
      · rw [decide_eq_true h1]
        refine iteT ⟨_, _, rfl, rfl, _, rfl, ?_⟩
        rw [decide_eq_false (show ¬ n ≤ 24 by omega)]
        exact iteT fun d H' a b c => ex d H' a b c
      · rw [decide_eq_false h1]
        exact iteF ⟨_, rfl, iteT fun d H' a b c => ex d H' a b c⟩
    · refine ⟨_, rfl, p, rfl, fun _ => ?_, fun z => absurd hp z⟩
      refine ⟨_, rfl, n, rfl, _, rfl, iteF ⟨_, rfl, _, _, rfl, rfl, _, rfl, ?_⟩⟩
      rw [decide_eq_true n1]
      refine iteT ⟨_, _, rfl, rfl, _, rfl, ?_⟩
      rw [decide_eq_true n24]
      refine iteF ⟨_, rfl, R, _, rfl, SqL.of eR, ?_⟩
      refine for_it (walk_enum (xs := la.map V.ref)) (fun i σ' H2 => ∃ x y : Option V, σ' = [some (.ref R), some (.int n), some (.int p), x, y] ∧ Same H H2 ∧ i ≤ i0) ⟨none, none, rfl, fun _ _ h => h, Nat.zero_le _⟩ (fun i σ' H2 _ ⟨_, _, _, s2, _⟩ => SqL.of (s2 _ _ eR)) ?_ ?_
      · rintro i x σ' H2 H3 hi ⟨x0, y0, rfl, s2, le⟩ ⟨Tp, u, v, rfl, hTp, rfl, g1, g2⟩
        cases g1
        rw [List.length_map] at hi
        have s3 := s2.trans (same_upd (o := .tup [.int (i : Nat), v]) hTp)
        obtain ⟨l, r, rfl, hr, er⟩ := (hR.keep (kpS s3)).at g2
        refine ⟨Tp, _, rfl, .inl (.inl upd_same), rfl, _, _, rfl, _, _, rfl, rfl, _, rfl, _, _, rfl, rfl, _, rfl, ?_⟩
        by_cases ei : i = i0
        · subst ei
          rw [hr0] at hr
          cases hr
          by_cases e24 : i = 24
          · rw [decide_eq_true (show (24 : Int) ≤ (i : Int) by omega)]
            refine iteT ⟨_, rfl, mkF xT fun d H' a b c => (ex.same s3) d H' a b c⟩
          · rw [decide_eq_false (show ¬ (24 : Int) ≤ (i : Int) by omega)]
            have hb : rowB p n r0 = false := hb.resolve_left e24
            refine iteF ⟨_, rfl, _, rfl, _, rfl, l, r0, n, p, rfl, sqD er, hl r0 (List.mem_of_getElem? hr0), fun H4 s4 => ?_⟩
            rw [hb]
            exact ⟨_, rfl, iteT ⟨_, rfl, mkF xT fun d H' a b c => (ex.same (s3.trans s4)) d H' a b c⟩⟩
        · rw [decide_eq_false (show ¬ (24 : Int) ≤ (i : Int) by omega)]
          refine iteF ⟨_, rfl, _, rfl, _, rfl, l, r, n, p, rfl, sqD er, hl r (List.mem_of_getElem? hr), fun H4 s4 => ?_⟩
          rw [hgood i r (by omega) hr]
          exact ⟨_, rfl, iteF ⟨_, _, rfl, s3.trans s4, by omega⟩⟩
      · rintro σ' H2 ⟨x, y, rfl, s2, le⟩
        rw [List.length_map] at le
        have := (List.getElem?_eq_some_iff.mp hr0).1
        omega
    · refine ⟨_, rfl, p, rfl, fun _ => ?_, fun z => absurd hp z⟩
      refine ⟨_, rfl, n, rfl, _, rfl, iteF ⟨_, rfl, _, _, rfl, rfl, _, rfl, ?_⟩⟩
      rw [decide_eq_true n1]
      refine iteT ⟨_, _, rfl, rfl, _, rfl, ?_⟩
      rw [decide_eq_true n24]
      refine iteF ⟨_, rfl, R, _, rfl, SqL.of eR, ?_⟩
      refine for_it (walk_enum (xs := la.map V.ref)) (fun i σ' H2 => ∃ x y : Option V, σ' = [some (.ref R), some (.int n), some (.int p), x, y] ∧ Same H H2) ⟨none, none, rfl, fun _ _ h => h⟩ (fun i σ' H2 _ ⟨_, _, _, s2⟩ => SqL.of (s2 _ _ eR)) ?_ ?_
      · rintro i x σ' H2 H3 hi ⟨x0, y0, rfl, s2⟩ ⟨Tp, u, v, rfl, hTp, rfl, g1, g2⟩
        cases g1
        rw [List.length_map] at hi
        have s3 := s2.trans (same_upd (o := .tup [.int (i : Nat), v]) hTp)
        obtain ⟨l, r, rfl, hr, er⟩ := (hR.keep (kpS s3)).at g2
        have mr := List.mem_of_getElem? hr
        refine ⟨Tp, _, rfl, .inl (.inl upd_same), rfl, _, _, rfl, _, _, rfl, rfl, _, rfl, _, _, rfl, rfl, _, rfl, ?_⟩
        rw [decide_eq_false (show ¬ (24 : Int) ≤ (i : Int) by omega)]
        refine iteF ⟨_, rfl, _, rfl, _, rfl, l, r, n, p, rfl, sqD er, hl r mr, fun H4 s4 => ?_⟩
        rw [hgood r mr]
        exact ⟨_, rfl, iteF ⟨_, _, rfl, s3.trans s4⟩⟩
      · rintro σ' H2 ⟨x, y, rfl, s2⟩
        exact k _ s2
theorem d_stepped {f : Addr} {fd : FuncData} {kws : List (Str × V)} {C : Fin 14 → Addr} {TT : List (Addr × Str)} (F : FunD K "stepped" "stepped" (defArgs s_stepped) (defBody s_stepped) (defScope s_stepped) [] kws f fd) (o_refuse_table : Own P w K mg base (L2.CX P w) 4 "refuse_table" ["rows", "width", "prime"] [] (spRefD C)) (o_raw_stepped : Own P w K mg base CX0 4 "raw_stepped" ["rows", "width", "prime"] [] (spStepW TT)) : FnOk P w K mg base (L2.CX P w) 5 f fd ["rows", "width", "prime"] (spDoor C) := by
  refine F.ok sc_stepped (fun vs H Q E h => ?_) (fun cdv A outer s H vs Q E hr h => ?_)
  · obtain ⟨R, la, rs, n, p, rfl, _⟩ := h
    rfl
  · obtain ⟨R, la, rs, n, p, rfl, eR, hR, hl, lrs, c⟩ := h
    refine ⟨_, (pss_cons (ps_expr (pe_own o_refuse_table (hr.mono (by decide)) rfl (passes_call (takes_of rfl rfl rfl rfl) (fun _ _ _ _ h => h)) (pa_cons (pv 0) (pa_cons (pv 1) (pa_cons (pv 2) pa_nil)))))
      (pss_one (ps_ret (pe_own o_raw_stepped (hr.mono (by decide)) rfl pass0 (pa_cons (pv 0) (pa_cons (pv 1) (pa_cons (pv 2) pa_nil))))))) , ?_⟩
    exact ⟨_, rfl, _, rfl, _, rfl, R, la, rs, n, p, rfl, eR, hR, hl, lrs, .inl c⟩
theorem d_kernel {f : Addr} {fd : FuncData} {kws : List (Str × V)} {C : Fin 14 → Addr} {TT : List (Addr × Str)} (F : FunD K "kernel" "kernel" (defArgs s_kernel) (defBody s_kernel) (defScope s_kernel) [] kws f fd) (o_refuse_table : Own P w K mg base (L2.CX P w) 4 "refuse_table" ["rows", "width", "prime"] [] (spRefD C)) (o_raw_kernel : Own P w K mg base CX0 5 "raw_kernel" ["rows", "width", "prime"] [] (spKer TT)) : FnOk P w K mg base (L2.CX P w) 6 f fd ["rows", "width", "prime"] (spDoor C) := by
  refine F.ok sc_kernel (fun vs H Q E h => ?_) (fun cdv A outer s H vs Q E hr h => ?_)
  · obtain ⟨R, la, rs, n, p, rfl, _⟩ := h
    rfl
  · obtain ⟨R, la, rs, n, p, rfl, eR, hR, hl, lrs, c⟩ := h
    refine ⟨_, (pss_cons (ps_expr (pe_own o_refuse_table (hr.mono (by decide)) rfl (passes_call (takes_of rfl rfl rfl rfl) (fun _ _ _ _ h => h)) (pa_cons (pv 0) (pa_cons (pv 1) (pa_cons (pv 2) pa_nil)))))
      (pss_one (ps_ret (pe_own o_raw_kernel (hr.mono (by decide)) rfl pass0 (pa_cons (pv 0) (pa_cons (pv 1) (pa_cons (pv 2) pa_nil))))))) , ?_⟩
    exact ⟨_, rfl, _, rfl, _, rfl, R, la, rs, n, p, rfl, eR, hR, hl, lrs, .inl c⟩
theorem d_solved {f fT : Addr} {fd fdT : FuncData} {kws : List (Str × V)} {C : Fin 14 → Addr} {TT : List (Addr × Str)} (F : FunD K "solved" "solved" (defArgs s_solved) (defBody s_solved) (defScope s_solved) [] kws f fd) (T : Fre mg) (o_refuse_table : Own P w K mg base (L2.CX P w) 4 "refuse_table" ["rows", "width", "prime"] [] (spRefD C)) (o_is_row : Own P w K mg base CX0 3 "is_row" ["told", "width", "prime"] [] (spIsRowG K)) (o_weighed_steps : Own P w K mg base CX0 5 "weighed_steps" ["rows", "width", "prime"] [] (spWS TT)) (o_raw_made : Own P w K mg base CX0 2 "raw_made" ["steps", "wanted", "count", "prime"] [] spMade) (o_raw_probe : Own P w K mg base CX0 6 "raw_probe" ["rows", "wanted", "prime"] [] (spProbe TT))
    (xT : RXF K mg (C 2) fT "BadTable" "at") (fI_BadTable : FnOk P w K mg base (L2.CX P w) 2 fT fdT ["self", "at"] (spFI K "at")) (bI_BadTable : Binds K fdT ["self", "at"] []) : FnOk P w K mg base (L2.CX P w) 7 f fd ["rows", "wanted", "width", "prime"] (spDoorS C) := by
  refine F.ok sc_solved (fun vs H Q E h => ?_) (fun cdv A outer s H vs Q E hr h => ?_)
  · obtain ⟨R, wv, la, wn, rs, n, p, rfl, _⟩ := h
    rfl
  · obtain ⟨R, wv, la, wn, rs, n, p, rfl, eR, hR, hl, lrs, ew, lw, c⟩ := h
    refine ⟨_, (pss_cons (ps_expr (pe_own o_refuse_table (hr.mono (by decide)) rfl (passes_call (takes_of rfl rfl rfl rfl) (fun _ _ _ _ h => h)) (pa_cons (pv 0) (pa_cons (pv 2) (pa_cons (pv 3) pa_nil)))))
      (pss_cons (ps_if (pt_not (pt_val (pe_own o_is_row (hr.mono (by decide)) rfl pass0 (pa_cons (pv 1) (pa_cons (pv 2) (pa_cons (pv 3) pa_nil)))))) (pss_one (ps_raise rfl (takes_of rfl rfl rfl rfl) (pmk_field xT fI_BadTable (hr.mono (by decide)) bI_BadTable rfl (pa_cons pe_int pa_nil)))) pss_nil)
      (pss_cons (ps_set (i := 4) sc_solved.nd rfl (Or.inl rfl) (pe_own o_raw_made (hr.mono (by decide)) rfl pass0 (pa_cons (pe_own o_weighed_steps (hr.mono (by decide)) rfl pass0 (pa_cons (pv 0) (pa_cons (pv 2) (pa_cons (pv 3) pa_nil)))) (pa_cons (pv 1) (pa_cons (pe_callB call_len_seq (by rfl) T.f_len PySem.boot_len (pa_cons (pv 0) pa_nil)) (pa_cons (pv 3) pa_nil))))))
      (pss_cons (ps_if (pt_cmpR op_notN (pv 4) pe_non (nomark _)) (pss_one (ps_ret (pe_tup (pa_cons pe_str (pa_cons (pv 4) pa_nil))))) pss_nil)
      (pss_one (ps_ret (pe_tup (pa_cons pe_str (pa_cons (pe_own o_raw_probe (hr.mono (by decide)) rfl pass0 (pa_cons (pv 0) (pa_cons (pv 1) (pa_cons (pv 3) pa_nil)))) pa_nil))))))))) , ?_⟩
    rcases c with c | ⟨g, hb, ex⟩
    · exact ⟨_, rfl, _, rfl, _, rfl, R, la, rs, n, p, rfl, eR, hR, hl, lrs, .inl c⟩
    · refine ⟨_, rfl, _, rfl, _, rfl, R, la, rs, n, p, rfl, eR, hR, hl, lrs, .inr ⟨g, fun H1 s1 => ?_⟩⟩
      refine ⟨_, rfl, _, rfl, _, rfl, wv, wn, n, p, rfl, sqD (s1 _ _ ew), lw, fun H2 s2 => ?_⟩
      rw [hb]
      exact ⟨_, rfl, iteT (mkF xT fun d H' a b c => (ex.same (s1.trans s2)) d H' a b c)⟩
end
end Xk
end
section
set_option Elab.async false
set_option linter.all false
set_option maxRecDepth 100000
set_option maxHeartbeats 4000000
namespace Xk
open PySem PySem.Spec PyProof.Rows L2 Xh LamX NdefX
theorem eqvAll_lst : ∀ ns : List Int, PyData.eqvAll (ns.map PyData.int) (ns.map PyData.int) = true
  | [] => rfl
  | n :: ns => by
    have ih := eqvAll_lst ns
    simp [PyData.eqvAll, PyData.eqv, ih]
theorem eqv_lst (ns : List Int) : PyData.eqv (.list (ns.map PyData.int)) (.list (ns.map PyData.int)) = true := by
  have z := eqvAll_lst ns
  simp [PyData.eqv, z]
/-! ### the law -/
/-- the one table that lambdas grow -/
def rpT (PR : Addr) : List (Addr × Str) := [(PR, rpQ)]
theorem Tabs.lst {T : List (Addr × Str)} {H : Hp} {D : Addr} {xs ys : List V} (t : Tabs T H) (e : H D = some (.lst xs)) : Tabs T (L2.upd H D (.lst ys)) := fun p hp => by
  obtain ⟨ps, h1, h2, h3⟩ := t p hp
  refine ⟨ps, ?_, h2, fun pos cv hc => ?_⟩
  · rw [upd_ne (fun z => by rw [z, e] at h1; cases h1)]
    exact h1
  · obtain ⟨c', e1, e2⟩ := h3 pos cv hc
    refine ⟨c', e1, ?_⟩
    rw [upd_ne (fun z => by
      rw [z, e] at e2
      unfold CodeO at e2
      cases e2)]
    exact e2
/-- the draws at d, the tables, lists and rows that stand -/
structure Tw (d : Addr) (T : List (Addr × Str)) (ls : List (Addr × List V)) (tb : List (List Addr × List (List Int))) (H : Hp) : Prop where
  D : Draw H d
  T : Tabs T H
  l : ∀ x ∈ ls, x.1 ≠ d ∧ H x.1 = some (.lst x.2)
  r : ∀ x ∈ tb, Rws H x.1 x.2
section
variable {d : Addr} {T : List (Addr × Str)} {ls : List (Addr × List V)} {tb : List (List Addr × List (List Int))} {H H' : Hp}
theorem Tw.ext (w : Tw d T ls tb H) (x : ExtN H H') (t : Tabs T H') : Tw d T ls tb H' := ⟨w.D.ext x, t, fun p hp => ⟨(w.l p hp).1, x _ _ (w.l p hp).2 (fun _ z => by cases z)⟩, fun p hp => (w.r p hp).keep (kpX x)⟩
theorem Tw.gr (w : Tw d T ls tb H) (g : Gr T H H') : Tw d T ls tb H' := w.ext g.x g.t
theorem Tw.same (w : Tw d T ls tb H) (s : Same H H') : Tw d T ls tb H' := w.gr (.of w.T s)
theorem Tw.but (w : Tw d T ls tb H) (b : But d H H') (D' : Draw H' d) : Tw d T ls tb H' := ⟨D', Tabs.but w.T w.D b, fun p hp => ⟨(w.l p hp).1, b _ _ (w.l p hp).1 (w.l p hp).2⟩, fun p hp => (w.r p hp).keep (kpB w.D b)⟩
theorem Tw.putL (w : Tw d T ls tb H) {p : Addr} {xs : List V} (e : H p = some (.lst xs)) (ne : p ≠ d) : Tw d T ((p, xs) :: ls) tb H := ⟨w.D, w.T, fun q hq => by
  rcases List.mem_cons.mp hq with rfl | hq
  · exact ⟨ne, e⟩
  · exact w.l q hq, w.r⟩
theorem Tw.putR (w : Tw d T ls tb H) {la : List Addr} {rs : List (List Int)} (h : Rws H la rs) : Tw d T ls ((la, rs) :: tb) H := ⟨w.D, w.T, w.l, fun q hq => by
  rcases List.mem_cons.mp hq with rfl | hq
  · exact h
  · exact w.r q hq⟩
theorem Tw.nil (w : Tw d T ls tb H) : Tw d T [] [] H := ⟨w.D, w.T, fun _ h => (nomatch h), fun _ h => (nomatch h)⟩
theorem Tw.app {H0 : Hp} {D : Addr} {xs ys : List V} (w : Tw d T ls tb H0) (g : Gr T H0 H') (n : H0 D = none) (e : H' D = some (.lst xs)) : Tw d T ls tb (L2.upd H' D (.lst ys)) :=
  w.ext (fun a o h hn => by
    rw [upd_ne (ne_of_none h n)]
    exact g.x a o h hn) (Tabs.lst g.t e)
end
theorem Rws.rep {H : Hp} {t : Addr} {r : List Int} (e : H t = some (.tup (r.map V.int))) : ∀ n : Nat, Rws H (List.replicate n t) (List.replicate n r)
  | 0 => trivial
  | n + 1 => ⟨e, Rws.rep e n⟩
theorem eqvAll_tab : ∀ rs : List (List Int), PyData.eqvAll (rs.map fun r => .tuple (r.map PyData.int)) (rs.map fun r => .tuple (r.map PyData.int)) = true
  | [] => rfl
  | r :: rs => by
    have ih := eqvAll_tab rs
    have z := eqvAll_lst r
    simp [PyData.eqvAll, PyData.eqv, ih, z]
theorem eqv_tab (rs : List (List Int)) : PyData.eqv (.list (rs.map fun r => .tuple (r.map PyData.int))) (.list (rs.map fun r => .tuple (r.map PyData.int))) = true := by
  have z := eqvAll_tab rs
  simp [PyData.eqv, z]
/-- what the form spans leaves nothing -/
theorem Low.none {p : Int} {n : Nat} {sp : List Nat} {ts : List (List Int)} {r ms : List Int} (R : Xp.Red p (fam sp ts)) (ln : sp.length = ts.length) (wm : Rw p n ms) (L : Low p sp ts ts.length r ms) (h : Xp.Sp p (Xp.rows (fam sp ts)) (co r)) : ms.any (· != 0) = false := by
  have a : Xp.Sp p (Xp.rows (fam sp ts)) (co ms) := L.dn.trans fun u hu => by
    rcases hu with hu | rfl
    · exact .one hu
    · exact h
  have z : Xp.Eqm p (co ms) Xp.nul := (R.made a).trans (Xp.lsum_zero _ fun x hx => by
    obtain ⟨j, t, q, h1, h2, rfl⟩ := mem_fam hx
    exact L.z j t (List.getElem?_eq_some_iff.mp h2).1 h1)
  rw [List.any_eq_false]
  intro x hx
  obtain ⟨k, hk⟩ := List.mem_iff_getElem?.mp hx
  have e : ms.getD k 0 = 0 := wm.zero.mp ((z k).trans (Int.zero_emod p))
  rw [List.getD_eq_getElem?_getD, hk] at e
  have e : x = 0 := e
  rw [e]
  decide
theorem Form.nil (p : Int) (n : Nat) : Form p n [] [] [] := ⟨rfl, fun _ h => (nomatch h), ⟨fun _ hx => (nomatch hx), fun _ hx => (nomatch hx), fun _ hx => (nomatch hx), List.nodup_nil⟩, .nil, fun _ h => (nomatch h), fun _ h => (nomatch h), fun _ h => (nomatch h)⟩
theorem Form.eq {p : Int} (hp : 2 ≤ p) {n : Nat} {rs qs ts us : List (List Int)} {sp sq : List Nat} (F : Form p n rs sp ts) (G : Form p n qs sq us) (h : ∀ r, r ∈ rs ↔ r ∈ qs) : us = ts :=
  (F.uniq hp G (fun r hr => .one ⟨r, (h r).mp hr, rfl⟩) (fun r hr => .one ⟨r, (h r).mpr hr, rfl⟩)).2.symm
theorem Form.again {p : Int} (hp : 2 ≤ p) {n : Nat} {rs ts us : List (List Int)} {sp sq : List Nat} (F : Form p n rs sp ts) (G : Form p n ts sq us) : us = ts :=
  (F.uniq hp G (fun r hr => (F.up r hr).trans fun u ⟨x, hx, e⟩ => by
    obtain ⟨j, t, q, h1, h2, rfl⟩ := mem_fam hx
    exact .one ⟨q, List.mem_of_getElem? h2, e⟩) (fun r hr => F.dn r hr)).2.symm
end Xk
end
section
set_option Elab.async false
set_option linter.all false
set_option maxRecDepth 100000
set_option maxHeartbeats 4000000
namespace Xk
open PySem PySem.Spec PyProof.Rows L2 Xh LamX NdefX
/-! ### what is told, what is refused -/
/-- e.f of the exception that the suite holds: any own class that lets its fields be read -/
def tXfA (K : PySem.W.Frag) (a : Addr) (cls : Value) (d : Option Addr) (f : Str) (te : TE) : TE := fun σ H Q => te σ H fun x H1 => x = .ref a ∧ ∃ (C dd : Addr) (fs : List (Str × V)) (v : V), cls = .ref C ∧ XfC K C ∧ PySem.W.findIn K (.ref C) f = some none ∧ d = some dd ∧ H1 dd = some (.xd fs) ∧ fs.lookup f = some v ∧ Q v H1
theorem pe_xfA {X : Cx} {a : Addr} {oe : Obj} {cls : Value} {d : Option Addr} {pn : List (Addr × Obj)} {e : Expr} {te : TE} {pos : Pos} {n : Str}
    (hz : Zc cls d oe) (hf : ∃ vs, oe.data = .fields vs) (he : PE (X.suite a ((a, oe) :: pn)) e te) (hb : attributeBase e n X.env (eval e X.env) = eval e X.env := by rfl) :
    PE (X.suite a ((a, oe) :: pn)) (.Attribute e n pos) (tXfA X.K a cls d n te) := by
  refine ⟨fun pins s σ H Q I h => ?_⟩
  refine attr_of hb (thn (he.run pins s σ H _ I h) fun u s1 hh => ?_)
  obtain ⟨x, H1, I1, rx, ex, C, dd, fs, v, ec, T, hno, ed, ea, l, q⟩ := hh
  subst ex
  obtain rfl : u = Value.ref a := rx
  subst ec
  subst ed
  obtain ⟨ha, _⟩ := I1.pin (a, oe) (List.mem_append_left _ List.mem_cons_self)
  obtain ⟨vs, hd⟩ := hf
  have hx : ObjOk X.prog X.w H1 s1.heap dd (.xd fs) := I1.hok dd _ ea
  obtain ⟨mA, hns, hr⟩ := hx
  obtain ⟨od, ho, hl⟩ := lookIn_ns hns
  obtain ⟨u, hu, ru⟩ := RelO.some_of (v := v) (o := mA n) (by rw [← l]; exact hr n)
  have J : PySem.W.InstAt s1.heap a oe C (some od) := ⟨ha, hz.1, by unfold PySem.W.notCls; rw [hd] <;> rfl, by rw [hz.2]; exact ho⟩
  exact HandSPX.exc_get I1.kIn J T.ga T.gg T.exC (PySem.W.findObj_own T.hdC hno rfl (by rw [hl, hu])) (handed_of ru) ⟨v, H1, I1.tok _, ru, q⟩
/-- the clauses' classes -/
structure Cls8 (mg : Str → Option Value) (c : Fin 14 → Addr) : Prop where
  c0 : mg "NotWhole" = some (.ref (c 0))
  c1 : mg "TooTall" = some (.ref (c 1))
  c2 : mg "BadTable" = some (.ref (c 2))
  c3 : mg "BadText" = some (.ref (c 3))
  c4 : mg "BadPage" = some (.ref (c 4))
  c5 : mg "Stopped" = some (.ref (c 5))
  c6 : mg "Used" = some (.ref (c 6))
  c7 : mg "Held" = some (.ref (c 7))
  c8 : mg "NoGuest" = some (.ref (c 8))
  c9 : mg "NoName" = some (.ref (c 9))
  c10 : mg "RungError" = some (.ref (c 10))
  c11 : mg "RungMissing" = some (.ref (c 11))
def hcs (c : Fin 14 → Addr) : List (List Value) := [[.ref (c 0)], [.ref (c 1)], [.ref (c 2), .ref (c 3)], [.ref (c 4)], [.ref (c 5)], [.ref (c 6), .ref (c 7)], [.ref (c 8), .ref (c 9)], [.ref (c 10), .ref (c 11)]]
/-- the class at C is taken by the j-th clause -/
def Catch (K : PySem.W.Frag) (c : Fin 14 → Addr) (C : Addr) (j : Nat) : Prop := XfC K C ∧ (∀ i < j, ∀ cs, (hcs c)[i]? = some cs → PySem.W.exmAny K (.ref C) cs = some false) ∧ ∀ cs, (hcs c)[j]? = some cs → PySem.W.exmAny K (.ref C) cs = some true
/-- what is wanted of an exception: one without more is told by its word, one with a field by its word and that -/
def wfs : List (Nat × Str) := [(0, "part"), (1, "tall"), (2, "at"), (3, "row"), (5, "by"), (6, "name")]
def wWhy (K : PySem.W.Frag) (c : Fin 14 → Addr) (Q : VK) : XK := fun cls d H' => ∃ (C dd : Addr) (fs : List (Str × V)) (nm : Str), cls = .ref C ∧ d = some dd ∧ H' dd = some (.xd fs) ∧ PySem.W.findIn K (.ref C) "word" = some none ∧ fs.lookup ("word" : Str) = some (V.str nm) ∧
  ((Catch K c C 7 ∧ ∀ p, H' p = none → Q (.ref p) (L2.upd H' p (.tup [.str nm, .non]))) ∨ ∃ (j : Nat) (f : Str) (y : V), (j, f) ∈ wfs ∧ Catch K c C j ∧ PySem.W.findIn K (.ref C) f = some none ∧ fs.lookup f = some y ∧ ∀ p, H' p = none → Q (.ref p) (L2.upd H' p (.tup [.str nm, y])))
def TTwhy (K : PySem.W.Frag) (c : Fin 14 → Addr) : (XK → Hp → VK → Prop) → Hp → VK → Prop := fun tl H Q => tl (wWhy K c Q) H fun v H1 => [V.str "told", v].length ≤ sizeLine ∧ ∀ p, H1 p = none → Q (.ref p) (L2.upd H1 p (.tup [.str "told", v]))
theorem takes_len {X : Cx} {W : WX} (t : Takes X W) : Takes X fun cls d σ H => σ.length = X.N.length → W cls d σ H := fun u s' x => by
  obtain ⟨a, B, sI, pins, σ, H, cls, d, e, I, nb, up, sky, na, os, ag, w⟩ := x
  exact t u s' ⟨a, B, sI, pins, σ, H, cls, d, e, I, nb, up, sky, na, os, ag, w I.len⟩
theorem wskip {K : PySem.W.Frag} {Wout : WX} {D : Ends} {cs : List Value} {n : Option Nat} {ts : Addr → Value → Option Addr → TS} {r : List Cl} {cls : Value} {d : Option Addr} {σ : L2.St} {H : Hp} (h : PySem.W.exmAny K cls cs = some false) (k : wClauses K Wout D r cls d σ H) : wClauses K Wout D ((cs, n, ts) :: r) cls d σ H :=
  ⟨false, h, fun z => absurd z (by decide), fun _ => k⟩
theorem wtake {K : PySem.W.Frag} {Wout : WX} {D : Ends} {cs : List Value} {n : Option Nat} {ts : Addr → Value → Option Addr → TS} {r : List Cl} {cls : Value} {d : Option Addr} {σ : L2.St} {H : Hp} (h : PySem.W.exmAny K cls cs = some true) (k : ∀ a, H a = none → ts a cls d (outOf D n) (intoS σ a n) H) : wClauses K Wout D ((cs, n, ts) :: r) cls d σ H :=
  ⟨true, h, fun _ => k, fun z => absurd z (by decide)⟩
theorem set_at {σ : L2.St} {i : Nat} {x : Option V} (h : i < σ.length) : (σ.set i x)[i]? = some x := by
  rw [List.getElem?_set_self h]
section
variable {P : Program} {w : World} {K : PySem.W.Frag} {mg : Str → Option Value} {base : Heap}
abbrev s_law_why : Stmt := topS 46
theorem sc_law_why : FnScope (["_law_ask", "e"] : List Str) ["_law_ask"] (defScope s_law_why) := ⟨rfl, rfl, rfl, by decide +kernel, rfl, by decide +kernel, by decide +kernel⟩
theorem ok_why {g : Addr} {fd : FuncData} {kl : Nat} {c : Fin 14 → Addr} (F : FunD K "_law_why" "_law_why" (defArgs s_law_why) (defBody s_law_why) (defScope s_law_why) [] [] g fd) (m : mg "_law_why" = some (.ref g)) (M : Cls8 mg c) : Gives P w K mg base (kl + 2) kl "_law_why" g (TTwhy K c) := by
  refine gives_of (Ng := ["_law_ask", "e"]) (a := "_law_ask") F m sc_law_why (fun _ _ _ _ _ _ us hl => match us, hl with | [_], _ => rfl) fun q cdg A outer f c' s H Q tl hr act hfo hfs hc hT => ?_
  refine ⟨_, pss_one (ps_try_cls (Wout := fun _ _ _ _ => False)
      (tb := fun W D σ H => ∃ Ech : XK, (∀ cls d σ' H', Ech cls d H' → σ'.length = 2 → W cls d σ' H') ∧ σ[0]? = some (some (.ref f)) ∧ H c' = some (CodeO c' q) ∧ tl Ech H fun v H1 => [V.str "told", v].length ≤ sizeLine ∧ ∀ p, H1 p = none → D.rt (.ref p) (L2.upd H1 p (.tup [.str "told", v])))
      rfl rfl sc_law_why.nd L2.takes0 (fun W pn xe tk _ => ?body)
      (.as (testName ⟨rfl, by decide, .inl M.c0⟩) (i := 1) rfl rfl (fun a oe cls d pn hz hf => pss_one (ps_ret (pe_tup (pa_cons (pe_xfA hz hf (pv 1)) (pa_cons (pe_xfA hz hf (pv 1)) pa_nil)))))
      (.as (testName ⟨rfl, by decide, .inl M.c1⟩) (i := 1) rfl rfl (fun a oe cls d pn hz hf => pss_one (ps_ret (pe_tup (pa_cons (pe_xfA hz hf (pv 1)) (pa_cons (pe_xfA hz hf (pv 1)) pa_nil)))))
      (.as (testTup2 rfl M.c2 rfl M.c3) (i := 1) rfl rfl (fun a oe cls d pn hz hf => pss_one (ps_ret (pe_tup (pa_cons (pe_xfA hz hf (pv 1)) (pa_cons (pe_xfA hz hf (pv 1)) pa_nil)))))
      (.as (testName ⟨rfl, by decide, .inl M.c4⟩) (i := 1) rfl rfl (fun a oe cls d pn hz hf => pss_one (ps_ret (pe_tup (pa_cons (pe_xfA hz hf (pv 1)) (pa_cons (pe_xfA hz hf (pv 1)) pa_nil)))))
      (.as (testName ⟨rfl, by decide, .inl M.c5⟩) (i := 1) rfl rfl (fun a oe cls d pn hz hf => pss_one (ps_ret (pe_tup (pa_cons (pe_xfA hz hf (pv 1)) (pa_cons (pe_tup (pa_cons (pe_xfA hz hf (pv 1)) (pa_cons (pe_xfA hz hf (pv 1)) pa_nil))) pa_nil)))))
      (.as (testTup2 rfl M.c6 rfl M.c7) (i := 1) rfl rfl (fun a oe cls d pn hz hf => pss_one (ps_ret (pe_tup (pa_cons (pe_xfA hz hf (pv 1)) (pa_cons (pe_xfA hz hf (pv 1)) pa_nil)))))
      (.as (testTup2 rfl M.c8 rfl M.c9) (i := 1) rfl rfl (fun a oe cls d pn hz hf => pss_one (ps_ret (pe_tup (pa_cons (pe_xfA hz hf (pv 1)) (pa_cons (pe_xfA hz hf (pv 1)) pa_nil)))))
      (.as (testTup2 rfl M.c10 rfl M.c11) (i := 1) rfl rfl (fun a oe cls d pn hz hf => pss_one (ps_ret (pe_tup (pa_cons (pe_xfA hz hf (pv 1)) (pa_cons pe_non pa_nil)))))
      .nil))))))))), ?_⟩
  case body =>
    refine ⟨fun pins s' σ H' D I h' => ?_⟩
    obtain ⟨Ech, hW, h1, h2, h3⟩ := h'
    have hp := fun p1 p2 => act (frs outer) CX0 ["_law_ask", "e"] "_law_why" (defScope s_law_why) g cdg A outer s H E0 Un.refl hfo (fun _ hb => hb) hr 0 "_law_ask" _ pn xe Ech p1 p2 rfl (Or.inl rfl) (by decide) (by decide) (takes_len tk) hW
    exact (pss_one (ps_ret (pe_tup (pa_cons pe_str (pa_cons (hp _ _) pa_nil))))).run pins s' σ H' D I ⟨h1, h2, h3⟩
  · refine ⟨wWhy K c Q, fun cls d σ' H' h hlen => ?_, rfl, hc, hT⟩
    obtain ⟨C, dd, fs, nm, rfl, rfl, hx, hw, hl, alt⟩ := h
    rcases alt with ⟨⟨T, hf, ht⟩, k⟩ | ⟨j, f, y, hj, ⟨T, hf, ht⟩, hfw, hly, k⟩
    · refine wskip (hf 0 (by decide) _ rfl) (wskip (hf 1 (by decide) _ rfl) (wskip (hf 2 (by decide) _ rfl) (wskip (hf 3 (by decide) _ rfl) (wskip (hf 4 (by decide) _ rfl) (wskip (hf 5 (by decide) _ rfl) (wskip (hf 6 (by decide) _ rfl) (wtake (ht _ rfl) fun a ha => ?_)))))))
      exact ⟨.ref a, set_at (by omega), rfl, C, dd, fs, .str nm, rfl, T, hw, rfl, hx, hl, (by show 2 ≤ sizeLine; decide), fun p hp => k p hp⟩
    · have go : ∀ a : Addr, σ'.length = 2 → ((intoS σ' a (some 1))[1]? = some (some (.ref a))) := fun a h => set_at (by omega)
      unfold wfs at hj
      simp only [List.mem_cons, Prod.mk.injEq, List.not_mem_nil, or_false] at hj
      rcases hj with ⟨rfl, rfl⟩ | ⟨rfl, rfl⟩ | ⟨rfl, rfl⟩ | ⟨rfl, rfl⟩ | ⟨rfl, rfl⟩ | ⟨rfl, rfl⟩
      · refine wtake (ht _ rfl) fun a ha => ?_
        exact ⟨.ref a, set_at (by omega), rfl, C, dd, fs, .str nm, rfl, T, hw, rfl, hx, hl, .ref a, set_at (by omega), rfl, C, dd, fs, y, rfl, T, hfw, rfl, hx, hly, (by show 2 ≤ sizeLine; decide), fun p hp => k p hp⟩
      · refine wskip (hf 0 (by decide) _ rfl) (wtake (ht _ rfl) fun a ha => ?_)
        exact ⟨.ref a, set_at (by omega), rfl, C, dd, fs, .str nm, rfl, T, hw, rfl, hx, hl, .ref a, set_at (by omega), rfl, C, dd, fs, y, rfl, T, hfw, rfl, hx, hly, (by show 2 ≤ sizeLine; decide), fun p hp => k p hp⟩
      · refine wskip (hf 0 (by decide) _ rfl) (wskip (hf 1 (by decide) _ rfl) (wtake (ht _ rfl) fun a ha => ?_))
        exact ⟨.ref a, set_at (by omega), rfl, C, dd, fs, .str nm, rfl, T, hw, rfl, hx, hl, .ref a, set_at (by omega), rfl, C, dd, fs, y, rfl, T, hfw, rfl, hx, hly, (by show 2 ≤ sizeLine; decide), fun p hp => k p hp⟩
      · refine wskip (hf 0 (by decide) _ rfl) (wskip (hf 1 (by decide) _ rfl) (wskip (hf 2 (by decide) _ rfl) (wtake (ht _ rfl) fun a ha => ?_)))
        exact ⟨.ref a, set_at (by omega), rfl, C, dd, fs, .str nm, rfl, T, hw, rfl, hx, hl, .ref a, set_at (by omega), rfl, C, dd, fs, y, rfl, T, hfw, rfl, hx, hly, (by show 2 ≤ sizeLine; decide), fun p hp => k p hp⟩
      · refine wskip (hf 0 (by decide) _ rfl) (wskip (hf 1 (by decide) _ rfl) (wskip (hf 2 (by decide) _ rfl) (wskip (hf 3 (by decide) _ rfl) (wskip (hf 4 (by decide) _ rfl) (wtake (ht _ rfl) fun a ha => ?_)))))
        exact ⟨.ref a, set_at (by omega), rfl, C, dd, fs, .str nm, rfl, T, hw, rfl, hx, hl, .ref a, set_at (by omega), rfl, C, dd, fs, y, rfl, T, hfw, rfl, hx, hly, (by show 2 ≤ sizeLine; decide), fun p hp => k p hp⟩
      · refine wskip (hf 0 (by decide) _ rfl) (wskip (hf 1 (by decide) _ rfl) (wskip (hf 2 (by decide) _ rfl) (wskip (hf 3 (by decide) _ rfl) (wskip (hf 4 (by decide) _ rfl) (wskip (hf 5 (by decide) _ rfl) (wtake (ht _ rfl) fun a ha => ?_))))))
        exact ⟨.ref a, set_at (by omega), rfl, C, dd, fs, .str nm, rfl, T, hw, rfl, hx, hl, .ref a, set_at (by omega), rfl, C, dd, fs, y, rfl, T, hfw, rfl, hx, hly, (by show 2 ≤ sizeLine; decide), fun p hp => k p hp⟩
/-- the word alone -/
def TTword (K : PySem.W.Frag) (c : Fin 14 → Addr) : (XK → Hp → VK → Prop) → Hp → VK → Prop := fun tl H Q => TTwhy K c tl H fun x H1 => rIxT K x (.int 0) H1 Q
end
end Xk
end
section
set_option Elab.async false
set_option linter.all false
set_option maxRecDepth 100000
set_option maxHeartbeats 2000000
/-! a list comprehension whose element is read with what is known of the frame where it starts -/
namespace Xh
open PySem PySem.Spec PyProof.Rows L2 LamX NdefX
section
variable {X : Cx} {pins : List (Addr × Obj)} {σ : L2.St} {Q : VK} {elt tg iter : Expr} {scope : Scope} {own : List (Str × Nat)} {pos : Pos} {g : TG} {te : TE}
/-- what the element may lean on: the frame's state where the comprehension starts, and that the iterator's things are none of its cells -/
def EltAt (X : Cx) (pins : List (Addr × Obj)) (σ : L2.St) (scope : Scope) (elt : Expr) (te : TE) : Prop :=
  ∀ (s1 : Shared) (H1 : Hp) (C : Addr) (cl : List (Str × Addr)) (fp : List Addr), Inv X pins σ H1 s1 → (∀ b ∈ fp, ∀ x c, X.env.cells.lookup x = some c → c ≠ b) → PE (X.blk s1 H1 scope (compEnvC scope cl C X.env) fp) elt te
theorem lcF_loop {sC : Shared} {HC : Hp} {D it : Addr} {fp : List Addr} {tn : Nat → Heap → Prop} {J : It} {W : Nat → Nat → Hp → Prop} {m0 : Nat} (calm : X.calm = true) (nd : X.N.Nodup) (ok : BlkOk X.N X.env.scope scope own)
    (hg : ∀ (s : Shared) (H : Hp) (C : Addr) (cl : List (Str × Addr)) (fp : List Addr), PG (X.blk s H scope (compEnvC scope cl C X.env) fp) tg g) (he : EltAt X pins σ scope elt te)
    (IC : Inv X pins σ HC sC) (T : Turn X.prog X.w X.K tg J fp it tn) (st : tn 0 sC.heap) (fpo : ∀ b ∈ fp, FpOk X pins HC b ∧ b < sC.heap.objs.size) (w0 : W 0 m0 HC)
    (turn : ∀ i m H, W i m H → (J.stop i H ∧ Q (.ref D) H) ∨ (J.go i H ∧ ∃ Nx : Hp → Prop, (∀ H', Nx H' → ∃ m', m' < m ∧ W (i + 1) m' H') ∧ ∀ x H', J.yld i H x H' → g x (wipe σ (own.map (·.2))) H' fun σ2 H2 => wipe σ2 (own.map (·.2)) = wipe σ (own.map (·.2)) ∧
      te σ2 H2 fun y H4 => ∃ acc, H4 D = some (.lst acc) ∧ acc.length < sizeLine ∧ Nx (upd H4 D (.lst (acc ++ [y]))))) :
    codeAny (model X.prog X.w) X.A (.compStart (.ListComp elt [⟨tg, iter, [], 0⟩] scope pos) 0 (.ref it) (.ref D) (compEnvC scope (cellsFrom (sC.heap.objs.size + 1) scope.names (cloFrom X.env.cells scope.names [])) sC.heap.objs.size X.env))
      (compPost (model X.prog X.w) X.A X.xe none (EP X pins σ Q) (.ref D) sC.heap.objs.size) { sC with heap := pushCells (sC.heap.push { cls := .type "dict", data := .dict #[] }) scope.names } := by
  have begun := block_start IC ok nd fpo
  have pg := hg sC HC sC.heap.objs.size (cellsFrom (sC.heap.objs.size + 1) scope.names (cloFrom X.env.cells scope.names [])) fp
  have pe := he sC HC sC.heap.objs.size (cellsFrom (sC.heap.objs.size + 1) scope.names (cloFrom X.env.cells scope.names [])) fp IC fun b hb x c e => (fpo b hb).1.2.2.2.2.1 x c e
  have away : ∀ b ∈ fp, HC b = none := fun b hb => (fpo b hb).1.1
  have tail : tn 0 (pushCells (sC.heap.push { cls := .type "dict", data := .dict #[] }) scope.names) := T.keep _ _ _ st fun b _ o e => pushCells_keeps _ _ _ _ (Heap.get?_push_of_some _ e)
  generalize he0 : compEnvC scope (cellsFrom (sC.heap.objs.size + 1) scope.names (cloFrom X.env.cells scope.names [])) sC.heap.objs.size X.env = ce at begun pg pe ⊢
  have locals_ : ce.locals = sC.heap.objs.size := by
    rw [← he0]
    rfl
  generalize hs0 : ({ sC with heap := pushCells (sC.heap.push { cls := .type "dict", data := .dict #[] }) scope.names } : Shared) = sD at begun ⊢
  have tail' : tn 0 sD.heap := by
    rw [← hs0]
    exact tail
  have apart : ∀ {σ' : L2.St} {H' : Hp} {s' : Shared}, Inv (X.blk sC HC scope ce fp) [] σ' H' s' → (∀ b ∈ fp, H' b = none) → ∀ b ∈ fp, FpOk (X.blk sC HC scope ce fp) [] H' b := fun {σ' H' s'} I' no b hb =>
    ⟨no b hb, (I'.ok.exf b hb).1, I'.ok.exfs b hb, .inl hb, fun x c e => (I'.ok.exf b hb).2 x c e, fun p hp => nomatch (show p ∈ ([] : List (Addr × Obj)) from hp)⟩
  refine codeAny_compStart_list ?ready (T.self X.A 0 _ _ _ tail' ?ready)
  case ready =>
    refine compLoop_any (fun n s' => ∃ i H', Inv (X.blk sC HC scope ce fp) [] (wipe σ (own.map (·.2))) H' s' ∧ tn i s'.heap ∧ (∀ b ∈ fp, H' b = none) ∧ W i n H') ?_ m0 ⟨0, HC, begun, tail', away, w0⟩
    rintro n s1 ⟨i, H1, J1, t1, no1, wn⟩
    rcases turn i n H1 wn with ⟨ends, told⟩ | ⟨goes, Nx, less, body⟩
    · refine thnF (T.done (X.blk sC HC scope ce fp) rfl rfl rfl calm i [] s1 _ H1 (fun _ _ => False) J1 (apart J1 no1) t1 ends) fun r s2 z => ?_
      obtain ⟨rfl, J2⟩ := z
      have back : Inv X pins σ H1 s2 := IC.call' (ch := fp) J2.os J2.base J2.hok J2.bare fun b hb => ⟨(fpo b hb).1.2.2.2.1, (fpo b hb).1.2.1, (fpo b hb).1.2.2.2.2.1, (fpo b hb).1.2.2.2.2.2⟩
      have noC : H1 sC.heap.objs.size = none := by
        have z : H1 ce.locals = none := J2.free
        rw [locals_] at z
        exact z
      obtain ⟨mm, names, _⟩ := J2.loc
      have names : s2.heap.Ns ce.locals mm := names
      rw [locals_] at names
      obtain ⟨a0, a1, a2, a3, a4, a5⟩ := (IC.fpOk (Nat.le_refl _) noC : FpOk X pins H1 sC.heap.objs.size)
      exact ⟨mm, names, fun g2 same => ⟨.ref D, H1, back.turned (t' := s2.toks) (fun b o hb e => (same.2 b hb).trans e) a0 a1 a3 a4 a5, rfl, told⟩⟩
    · refine thnF (T.item (X.blk sC HC scope ce fp) rfl rfl rfl calm i [] s1 _ H1 (fun _ _ => False) J1 (apart J1 no1) t1 goes) fun r s2 z => ?_
      obtain ⟨u, rfl, more⟩ := z
      refine thnF more fun _ s3 z => ?_
      obtain ⟨x, H3, J3, rx, y3, t3, no3⟩ := z
      have pinned := J3.pinned (apart J3 no3) (T.obj _ _ t3)
      refine thnF (pg.run _ s3 _ H3 x u _ pinned rx (body x H3 y3)) fun _ s4 z => ?_
      obtain ⟨σ4, H4, J4, wiped, q4⟩ := z
      refine wpAny_tests_nil ?_
      simp only [if_true]
      refine thnF (pe.run _ s4 σ4 H4 _ J4 q4) fun v s5 z => ?_
      obtain ⟨yv, H5, J5, ry, acc, onD, room, nx⟩ := z
      refine app_ok (X := X.blk sC HC scope ce fp) J5 onD room ry fun s6 J6 => ?_
      obtain ⟨m', lt, w'⟩ := less _ nx
      have kept : ∀ b ∈ fp, ∀ o, s3.heap.get? b = some o → s6.heap.get? b = some o ∧ upd H5 D (.lst (acc ++ [yv])) b = none := fun b hb o e =>
        ⟨(J6.pin (b, o) (List.mem_append_right _ (List.mem_append_right _ (mem_pinsAt hb e)))).1, (J6.pin (b, o) (List.mem_append_right _ (List.mem_append_right _ (mem_pinsAt hb e)))).2.1⟩
      have lens : (wipe σ (own.map (·.2))).length = σ4.length := by rw [← wiped, wipe_length]
      refine ⟨m', lt, i + 1, _, (J6.unpinned (pins := [])).weak lens (fun j v e => ?_), T.keep _ _ _ t3 fun b hb o e => (kept b hb o e).1, fun b hb => ?_, w'⟩
      · rw [← wiped] at e
        exact (wipe_some e).1
      · obtain ⟨o, e, _⟩ := T.obj _ _ t3 b hb
        exact (kept b hb o e).2
/-- [elt for tg in iter] -/
theorem pe_lcF {wi : TI} {te : L2.St → TE} (calm : X.calm = true) (nd : X.N.Nodup) (hi : PI X tg iter wi) (ok : BlkOk X.N X.env.scope scope own)
    (hg : ∀ (s : Shared) (H : Hp) (C : Addr) (cl : List (Str × Addr)) (fp : List Addr), PG (X.blk s H scope (compEnvC scope cl C X.env) fp) tg g) (he : ∀ pins σ, EltAt X pins σ scope elt (te σ))
    (fold : ∀ x, foldedSetIterable iter X.env x = pure x := by intro _; rfl) : PE X (.ListComp elt [⟨tg, iter, [], 0⟩] scope pos) (fun σ H Q => tLc wi g tYes (te σ) (own.map (·.2)) σ H Q) := by
  refine ⟨fun pins s σ H Q I h => ?_⟩
  have free_ : ∀ y ∈ scope.names, y.2 = .free → ∃ c, X.env.cells.lookup y.1 = some c := fun y hy e => (ok.free y hy e).elim (fun z => I.ok.has _ (.inl z)) fun z => I.ok.has _ (.inr z)
  rw [eval_ListComp]
  refine wpAny_comprehension_free (use := none) rfl fold (closure_ok free_) ok.kind (fun y hy e => by rw [ok.uniq y hy, e]) ?_
  refine thn (hi.run pins s σ H _ I h) fun xv sA toIt => thn toIt fun iv sB z => ?_
  obtain ⟨it, fp, tn, J, HB, rfl, IB, T, st, fpo, reading⟩ := z
  refine wpAny_newObj_type (newEnv_comp ?_) (by show 0 ≤ sizeLine; decide)
  have new : HB sB.heap.objs.size = none := IB.hok.fresh (Nat.le_refl _)
  obtain ⟨W, ⟨m0, w0⟩, turn⟩ := reading _ new
  have IC := IB.laid (a := sB.heap.objs.size) (o := .lst []) (t' := sB.toks) (h' := sB.heap.push { cls := .type "list", data := .seq ([] : List Value).toArray }) (fun b o e => Heap.get?_push_of_some _ e) (Nat.le_refl _) ⟨Nat.zero_le _, [], 0, .nil, Heap.get?_push_size _ rfl⟩
  have under : ∀ b ∈ fp, b < sB.heap.objs.size := fun b hb => by
    obtain ⟨o, e, _⟩ := T.obj _ _ st b hb
    exact Heap.lt_size e
  refine lcF_loop (sC := { sB with heap := sB.heap.push { cls := .type "list", data := .seq ([] : List Value).toArray } }) calm nd ok hg (he pins σ) IC T (T.keep _ _ _ st fun b _ o e => Heap.get?_push_of_some _ e) (fun b hb => ?_) w0 turn
  have lt := under b hb
  refine ⟨⟨?_, (fpo b hb).2⟩, by show b < (sB.heap.push _).objs.size; rw [Heap.size_push]; exact Nat.lt_succ_of_lt lt⟩
  rw [upd_ne (Nat.ne_of_lt lt)]
  exact (fpo b hb).1
end
/-! ### a kept lambda without parameters, called within another def's `try` -/
theorem canActV {P : Program} {w : World} {K : PySem.W.Frag} {mg : Str → Option Value} {base : Heap} {k : Nat} {f : Addr} {F : NF} {b : Expr} {fr : List Str} {ws : List (Option V)} {sp : List (Option V) → Sp} {s : Shared} {H : Hp}
    (Fn : NOkL P w K mg base (L2.CX P w) k f F b [] fr sp) (C : CellsAt F.cl fr ws s.heap H) : CanAct P w K mg base k F.qual f F.c (fun E HZ Q => HZ f = some (LamO f F b) ∧ sp ws [] HZ Q E) s H := by
  intro fs CXg Ng qg sg g cdg A outer sZ HZ0 Eg un nf ho room i a W pn xe E p1 p2 hN hv hd hcd tk hW
  refine ⟨fun pinsZ s0 σZ HZ Q IZ h => ?_⟩
  obtain ⟨hs, hc, hf, hsp⟩ := h
  refine wpAny_Call_Name_kw (thn ((pe_var (pos := p1) (i := i) hN hv hd hcd).run pinsZ s0 σZ HZ (fun v H1 => v = .ref f ∧ H1 = HZ) IZ ⟨.ref f, hs, rfl, rfl⟩) fun u s1 ⟨v, H1, I1, r1, q1⟩ => ?_)
  obtain ⟨ev, eH⟩ := q1
  subst ev
  rw [eH] at I1
  obtain rfl : u = Value.ref f := r1
  obtain ⟨pm, ctv, onF⟩ := lamO_at I1.hok hf
  refine PySem.W.callWith_F0 ⟨_, _, _, _, onF⟩ ?_
  have C1 : CellsAt F.cl fr ws s1.heap HZ := cells_on C (un.trans (I1.base.mono ho fun _ z => z))
  have out : Passes (L2.CX P w) ((cxOf CXg P w K mg base Ng qg sg g cdg A outer sZ HZ0 Eg).tr pn xe) E := passes_call tk hW
  refine wpAny_call (codeAny_mono (Fn.run _ _ s1 HZ [] [] ws Q E (room.mono (Nat.le_succ k)) I1.env0 hf hc C1 .nil hsp) fun r s' hq => ?_)
  cases r with
  | error e => exact out pinsZ σZ HZ s1 e s' I1 hq
  | ok fl =>
    cases fl with
    | ret u => exact I1.after hq
    | next => exact False.elim hq
    | brk => exact False.elim hq
    | cont => exact False.elim hq
/-- what the call of a kept lambda asks -/
def tWordV (X : Cx) (kl : Nat) (TT : (XK → Hp → VK → Prop) → Hp → VK → Prop) (σ0 : L2.St) (t : TA) : TE := fun σ H Q => t σ H fun vs H1 => ∃ (f : Addr) (F : NF) (b : Expr) (fr : List Str) (js : List Nat) (sp : List (Option V) → Sp), vs = [.ref f] ∧ f ∉ frs X.stack ∧ H1 f = some (LamO f F b) ∧ H1 F.c = some (CodeO F.c F.qual) ∧
      NOkL X.prog X.w X.K X.mg X.base (L2.CX X.prog X.w) kl f F b [] fr sp ∧ (X.Ok → Caps X F.cl fr js) ∧ TT (fun E HZ Q => HZ f = some (LamO f F b) ∧ sp (js.map (slotAt σ0)) [] HZ Q E) H1 Q
/-- y(e), e a kept lambda, in a block of the frame X -/
theorem pe_wordV {X : Cx} {fp : List Addr} {k kl : Nat} {y : Str} {gy : Addr} {TT : (XK → Hp → VK → Prop) → Hp → VK → Prop} {σ0 : L2.St} {pins0 : List (Addr × Obj)} {s0 : Shared} {H0 : Hp} {scope : Scope} {ce : Env} {e : Expr} {t : TA} {p pos : Pos}
    (G : Gives X.prog X.w X.K X.mg X.base k kl y gy TT) (I0 : Inv X pins0 σ0 H0 s0) (hfp : ∀ b ∈ fp, ∀ x c, X.env.cells.lookup x = some c → c ≠ b)
    (hr : Room k X.A) (hg : Gl (X.blk s0 H0 scope ce fp) y) (ha : PA (X.blk s0 H0 scope ce fp) [e] t) (hdb : (y == ("__debug__" : Str)) = false := by decide) (hst : starEach [e] ce = [(false, eval e ce)] := by rfl) (hpl : (backTo pos (starEach [] ce)).any (·.1) = false := by rfl) :
    PE (X.blk s0 H0 scope ce fp) (.Call (.Name y p) [e] [] pos) (tWordV X kl TT σ0 t) := by
  refine ⟨fun pins s σ H Q I h => ?_⟩
  refine wpAny_Call_Name_kw (ld_glob I hg G.m ?_ hdb)
  refine PySem.W.callWith_K (h₀ := X.base) I.ok.mod.kin G.kp (thn (ha.run pos pins s σ H _ I h) fun us s2 z => ?_) hst hpl
  obtain ⟨vs, H2, I2, r, f, F, b, fr, js, sp, rfl, nf, h1, h2, Fn, cp, hT⟩ := z
  have sub := (cp I0.ok).sub
  refine ⟨I2.kIn, ?_⟩
  have eu : us = [Value.ref f] := by
    cases r with
    | cons r0 rr =>
      cases rr
      obtain rfl := (show _ = Value.ref f from r0)
      rfl
  subst eu
  have C0 := cells_of I0 (cp I0.ok)
  have un : Un (frs X.stack) fp H0 H2 s0.heap s2.heap := I2.base
  have C2 : CellsAt F.cl fr (js.map (slotAt σ0)) s2.heap H2 := by
    have nx : ∀ y c, F.cl.lookup y = some c → c ∉ fp := fun y c e z => hfp c z y c (sub y c e) rfl
    have kp : ∀ y c, F.cl.lookup y = some c → ∀ v, s0.heap.IsCell c v → s2.heap.IsCell c v := fun y c e v ⟨o, a1, a2⟩ => by
      obtain ⟨sl, q⟩ := un.any a1 (C0.all y c e).1 (nx y c e)
      exact ⟨_, q, a2⟩
    refine ⟨C0.len, fun y c e => ?_, C0.inj, fun i y e => ?_⟩
    · obtain ⟨no, v, z⟩ := C0.all y c e
      obtain ⟨o, ho, _⟩ := id z
      exact ⟨un.free c o ho no (nx y c e), v, kp y c e v z⟩
    · obtain ⟨c, a1, a2⟩ := C0.has i y e
      refine ⟨c, a1, fun v ev => ?_⟩
      obtain ⟨u, r, z⟩ := a2 v ev
      exact ⟨u, r, kp y c a1 _ z⟩
  have lt : f < s2.heap.objs.size := by
    obtain ⟨pm, ctv, o⟩ := lamO_at I2.hok h1
    exact Heap.lt_size o
  show wpAny _ _ (call (.ref gy) [.ref f]) _ _ _
  refine wpAny_call (codeAny_mono (G.run F.qual X.A X.stack f F.c s2 H2 Q _ hr I2.env0 (canActV Fn C2) nf lt h2 hT) fun r s3 hq => ?_)
  cases r with
  | error e => exact (show False from hq).elim
  | ok fl =>
    cases fl with
    | ret u => exact I2.after hq
    | next => exact False.elim hq
    | brk => exact False.elim hq
    | cont => exact False.elim hq
end Xh
end
section
set_option Elab.async false
set_option linter.all false
set_option maxRecDepth 100000
set_option maxHeartbeats 4000000
namespace Xk
open PySem PySem.Spec PyProof.Rows L2 Xh LamX NdefX
open NdefX
/-! ### the doors -/
abbrev s_law_doors : Stmt := topS 58
theorem sc_law_doors : FnScope (["_law_rows", "_law_wanted", "_law_width", "_law_p", "_law_asks", "_law_ask"] : List Str) ["_law_rows", "_law_wanted", "_law_width", "_law_p"] (defScope s_law_doors) := ⟨rfl, rfl, rfl, by decide +kernel, rfl, by decide +kernel, by decide +kernel⟩
def isLam : Expr → Option (Arguments × Expr × Scope)
  | .Lambda p b s _ => some (p, b, s)
  | _ => none
def lamAt (s : Stmt) (j : Nat) : Arguments × Expr × Scope := (match s with
  | .Assign _ (.List es _) _ => es.filterMap isLam
  | .Expr (.Call _ es _ _) _ => es.filterMap isLam
  | _ => []).getD j (defArgs s, .Name "x" ⟨0, 0, 0, 0⟩, defScope s)
/-- how a table is refused -/
def KindT (p n : Int) (rs : List (List Int)) (nm : Str) (y : V) : Prop :=
  (p ∉ primes ∧ nm = "BadPrime" ∧ y = .non) ∨ (p ∈ primes ∧ (n < 1 ∨ 24 < n) ∧ nm = "BadWidth" ∧ y = .non) ∨ (p ∈ primes ∧ 1 ≤ n ∧ n ≤ 24 ∧ ∃ i : Nat, FirstBad p n rs i ∧ nm = "BadTable" ∧ y = .int (i : Nat))
/-- what the classes of the refusals are -/
structure Kinds (K : PySem.W.Frag) (c C : Fin 14 → Addr) : Prop where
  h0 : Catch K c (C 0) 7
  h1 : Catch K c (C 1) 7
  h2 : Catch K c (C 2) 2
  w0 : PySem.W.findIn K (.ref (C 0)) "word" = some none
  w1 : PySem.W.findIn K (.ref (C 1)) "word" = some none
  w2 : PySem.W.findIn K (.ref (C 2)) "word" = some none
  f2 : PySem.W.findIn K (.ref (C 2)) "at" = some none
theorem ex_why {K : PySem.W.Frag} {c : Fin 14 → Addr} {C : Addr} {nm : Str} {H : Hp} {Q : VK} (hc : Catch K c C 7) (hw : PySem.W.findIn K (.ref C) "word" = some none) (k : ∀ (H' : Hp) (p : Addr), Same H H' → H' p = none → Q (.ref p) (L2.upd H' p (.tup [.str nm, .non]))) : Ex H (wWhy K c Q) C nm :=
  fun d H' s hx _ => ⟨C, d, _, nm, rfl, rfl, hx, hw, by simp [List.lookup], .inl ⟨hc, fun p hp => k H' p s hp⟩⟩
theorem exf_why {K : PySem.W.Frag} {c : Fin 14 → Addr} {C : Addr} {nm f : Str} {y : V} {H : Hp} {Q : VK} {j : Nat} (hj : (j, f) ∈ wfs) (hf : (("word" : Str) == f) = false) (hc : Catch K c C j) (hw : PySem.W.findIn K (.ref C) "word" = some none) (hwf : PySem.W.findIn K (.ref C) f = some none) (k : ∀ (H' : Hp) (p : Addr), Same H H' → H' p = none → Q (.ref p) (L2.upd H' p (.tup [.str nm, y]))) : ExF H (wWhy K c Q) C nm f y :=
  fun d H' s hx _ => ⟨C, d, _, nm, rfl, rfl, hx, hw, by simp [List.lookup, hf], .inr ⟨j, f, y, hj, hc, hwf, by simp [List.lookup], fun p hp => k H' p s hp⟩⟩
theorem KindT.cause {K : PySem.W.Frag} {c C : Fin 14 → Addr} (KK : Kinds K c C) {p n : Int} {rs : List (List Int)} {nm : Str} {y : V} (h : KindT p n rs nm y) {H : Hp} {Q : VK} (k : ∀ (H' : Hp) (q : Addr), Same H H' → H' q = none → Q (.ref q) (L2.upd H' q (.tup [.str nm, y]))) : Cause C H (wWhy K c Q) rs n p := by
  rcases h with ⟨h, rfl, rfl⟩ | ⟨h, hn, rfl, rfl⟩ | ⟨h, n1, n2, i, hf, rfl, rfl⟩
  · exact .inl ⟨h, ex_why KK.h0 KK.w0 k⟩
  · exact .inr (.inl ⟨h, hn, ex_why KK.h1 KK.w1 k⟩)
  · exact .inr (.inr ⟨h, n1, n2, i, hf, exf_why (j := 2) (by unfold wfs; decide) (by decide) KK.h2 KK.w2 KK.f2 k⟩)
/-- the tables: of rest_power, the law's, that of the doors -/
def lamQ : Str := (envOfC "law" ⟨.function, [], false, false, []⟩ 0 0 .none).qual ++ "<lambda>"
def doorQ : Str := (envOfC "_law_doors" ⟨.function, [], false, false, []⟩ 0 0 .none).qual ++ "<lambda>"
abbrev TL3 (PR PL PD : Addr) : List (Addr × Str) := [(PR, rpQ), (PL, lamQ), (PD, doorQ)]
/-- what the doors are asked about -/
structure Bt (C : Fin 14 → Addr) (H : Hp) (E : XK) (R wv : Addr) (n p : Int) : Prop where
  x : ∃ (la : List Addr) (wn : List Int) (rs : List (List Int)), H R = some (.lst (la.map V.ref)) ∧ Rws H la rs ∧ (∀ r ∈ rs, r.length ≤ 100) ∧ rs.length ≤ 40 ∧ H wv = some (.tup (wn.map V.int)) ∧ wn.length ≤ 100 ∧ Cause C H E rs n p
def spA3 (C : Fin 14 → Addr) : List (Option V) → Sp := fun ws vs H _ E => ∃ (R wv : Addr) (n p : Int), ws = [some (.ref R), some (.int n), some (.int p)] ∧ vs = [] ∧ Bt C H E R wv n p
def spA4 (C : Fin 14 → Addr) : List (Option V) → Sp := fun ws vs H _ E => ∃ (R wv : Addr) (n p : Int), ws = [some (.ref R), some (.ref wv), some (.int n), some (.int p)] ∧ vs = [] ∧ Bt C H E R wv n p
def spDoors (K : PySem.W.Frag) (PR PL PD : Addr) : Sp := fun vs H Q _ => ∃ (R wv : Addr) (la : List Addr) (wn : List Int) (rs : List (List Int)) (n p : Int) (nm : Str) (y : V), vs = [.ref R, .ref wv, .int n, .int p] ∧ H R = some (.lst (la.map V.ref)) ∧ Rws H la rs ∧ (∀ r ∈ rs, r.length ≤ 100) ∧ rs.length ≤ 40 ∧ H wv = some (.tup (wn.map V.int)) ∧ wn.length ≤ 100 ∧ Tabs (TL3 PR PL PD) H ∧ KindT p n rs nm y ∧
  ∀ (q : Addr) (ts : List Addr) (H' : Hp), Gr (TL3 PR PL PD) H H' → H q = none → H' q = some (.lst (ts.map V.ref)) → ts.length = 3 → (∀ t ∈ ts, H' t = some (.tup [.str nm, y])) → Q (.ref q) H'
/-- the slots of _law_doors that the lambdas reach -/
abbrev sgD (R wv : Addr) (n p : Int) (o : Option V) : L2.St := [some (.ref R), some (.ref wv), some (.int n), some (.int p), o, none]
/-- a kept lambda that does as the doors do -/
def GoodL (X : Cx) (R wv : Addr) (n p : Int) (C : Fin 14 → Addr) (H : Hp) (v : V) : Prop := ∃ (f : Addr) (F : NF) (bb : Expr) (fr : List Str) (js : List Nat) (sp : List (Option V) → Sp), v = .ref f ∧ f ∉ frs X.stack ∧ H f = some (LamO f F bb) ∧ H F.c = some (CodeO F.c F.qual) ∧
  NOkL X.prog X.w X.K X.mg X.base (L2.CX X.prog X.w) 8 f F bb [] fr sp ∧ (X.Ok → Caps X F.cl fr js) ∧ ∀ (o : Option V) (H : Hp) (E : XK) (Q : VK), Bt C H E R wv n p → sp (js.map (slotAt (sgD R wv n p o))) [] H Q E
theorem GoodL.ext {X : Cx} {R wv : Addr} {n p : Int} {C : Fin 14 → Addr} {H H' : Hp} {v : V} (x : GoodL X R wv n p C H v) (e : ExtN H H') : GoodL X R wv n p C H' v := by
  obtain ⟨f, F, bb, fr, js, sp, h1, h2, h3, h4, h5⟩ := x
  exact ⟨f, F, bb, fr, js, sp, h1, h2, e _ _ h3 lamO_ne, e _ _ h4 codeO_ne, h5⟩
theorem GoodL.same {X : Cx} {R wv : Addr} {n p : Int} {C : Fin 14 → Addr} {H H' : Hp} {v : V} (x : GoodL X R wv n p C H v) (s : Same H H') : GoodL X R wv n p C H' v := x.ext (ExtN.of s)
theorem GoodL.lst {X : Cx} {R wv : Addr} {n p : Int} {C : Fin 14 → Addr} {H : Hp} {v : V} {l : Addr} {xs ys : List V} (x : GoodL X R wv n p C H v) (e : H l = some (.lst xs)) : GoodL X R wv n p C (L2.upd H l (.lst ys)) v := by
  obtain ⟨f, F, bb, fr, js, sp, h1, h2, h3, h4, h5⟩ := x
  refine ⟨f, F, bb, fr, js, sp, h1, h2, ?_, ?_, h5⟩
  · rw [upd_ne (fun z => by
      rw [z, e] at h3
      unfold LamO at h3
      cases h3)]
    exact h3
  · rw [upd_ne (fun z => by
      rw [z, e] at h4
      unfold CodeO at h4
      cases h4)]
    exact h4
theorem grLst {T : List (Addr × Str)} {H H' : Hp} {D : Addr} {xs ys : List V} (g : Gr T H H') (n : H D = none) (e : H' D = some (.lst xs)) : Gr T H (L2.upd H' D (.lst ys)) := ⟨fun a o h hn => by
  rw [upd_ne (ne_of_none h n)]
  exact g.x a o h hn, fun b hb => by
  by_cases z : b = D
  · rw [z]
    exact n
  · rw [upd_ne z] at hb
    exact g.n b hb, Tabs.lst g.t e⟩
section
variable {P : Program} {w : World} {K : PySem.W.Frag} {C : Fin 14 → Addr} {mg : Str → Option Value} {base : Heap}
abbrev L_0 : Arguments × Expr × Scope := lamAt ((defBody s_law_doors).getD 0 (.Pass ⟨0, 0, 0, 0⟩)) 0
theorem ns_0 : NScope (["_law_rows", "_law_width", "_law_p"] : List Str) [] ["_law_rows", "_law_width", "_law_p"] L_0.2.2 := nscope_by (by decide +kernel)
theorem nb_0 : ndefB (defScope s_law_doors) L_0.2.2 ["_law_rows", "_law_width", "_law_p"] = true := by decide +kernel
theorem lam_0 {f : Addr} {F : NF} (hp : F.params = L_0.1) (hs : F.scope = L_0.2.2) (k_stepped : OwnK P w K mg base (L2.CX P w) 5 2 "stepped" ["rows", "width", "prime"] ["prime"] (spDoor C)) : NOkL P w K mg base (L2.CX P w) 8 f F L_0.2.1 [] ["_law_rows", "_law_width", "_law_p"] (spA3 C) := by
  obtain ⟨fn, fq, fp, fb, fs, fc, fo⟩ := F
  have hp : fp = _ := hp
  have hs : fs = _ := hs
  subst hp hs
  refine nokL_of (N := ["_law_rows", "_law_width", "_law_p"]) ns_0 (fun pm ctv us hl => match us, hl with | [], _ => rfl) (fun ws vs H Q E h => ?_) fun A outer s H vs ws Q E hr hw h => ?_
  · obtain ⟨R, wv, n, p, rfl, rfl, _⟩ := h
    rfl
  · obtain ⟨R, wv, n, p, rfl, rfl, la, wn, rs, eR, hR, hl, lrs, ew, lw, c⟩ := h
    refine ⟨_, (pe_ownK k_stepped (hr.mono (by decide)) rfl (passes_call (takes_of rfl rfl rfl rfl) (fun _ _ _ _ h => h)) (pa_cons (pv 0) (pa_cons (pv 1) pa_nil)) (pk_cons (pv 2) pk_nil)), ?_⟩
    exact ⟨_, rfl, _, rfl, _, rfl, rfl, rfl, R, la, rs, n, p, rfl, eR, hR, hl, lrs, c⟩
abbrev L_1 : Arguments × Expr × Scope := lamAt ((defBody s_law_doors).getD 0 (.Pass ⟨0, 0, 0, 0⟩)) 1
theorem ns_1 : NScope (["_law_rows", "_law_width", "_law_p"] : List Str) [] ["_law_rows", "_law_width", "_law_p"] L_1.2.2 := nscope_by (by decide +kernel)
theorem nb_1 : ndefB (defScope s_law_doors) L_1.2.2 ["_law_rows", "_law_width", "_law_p"] = true := by decide +kernel
theorem lam_1 {f : Addr} {F : NF} (hp : F.params = L_1.1) (hs : F.scope = L_1.2.2) (k_kernel : OwnK P w K mg base (L2.CX P w) 6 2 "kernel" ["rows", "width", "prime"] ["prime"] (spDoor C)) : NOkL P w K mg base (L2.CX P w) 8 f F L_1.2.1 [] ["_law_rows", "_law_width", "_law_p"] (spA3 C) := by
  obtain ⟨fn, fq, fp, fb, fs, fc, fo⟩ := F
  have hp : fp = _ := hp
  have hs : fs = _ := hs
  subst hp hs
  refine nokL_of (N := ["_law_rows", "_law_width", "_law_p"]) ns_1 (fun pm ctv us hl => match us, hl with | [], _ => rfl) (fun ws vs H Q E h => ?_) fun A outer s H vs ws Q E hr hw h => ?_
  · obtain ⟨R, wv, n, p, rfl, rfl, _⟩ := h
    rfl
  · obtain ⟨R, wv, n, p, rfl, rfl, la, wn, rs, eR, hR, hl, lrs, ew, lw, c⟩ := h
    refine ⟨_, (pe_ownK k_kernel (hr.mono (by decide)) rfl (passes_call (takes_of rfl rfl rfl rfl) (fun _ _ _ _ h => h)) (pa_cons (pv 0) (pa_cons (pv 1) pa_nil)) (pk_cons (pv 2) pk_nil)), ?_⟩
    exact ⟨_, rfl, _, rfl, _, rfl, rfl, rfl, R, la, rs, n, p, rfl, eR, hR, hl, lrs, c⟩
abbrev L_2 : Arguments × Expr × Scope := lamAt ((defBody s_law_doors).getD 1 (.Pass ⟨0, 0, 0, 0⟩)) 0
theorem ns_2 : NScope (["_law_rows", "_law_wanted", "_law_width", "_law_p"] : List Str) [] ["_law_rows", "_law_wanted", "_law_width", "_law_p"] L_2.2.2 := nscope_by (by decide +kernel)
theorem nb_2 : ndefB (defScope s_law_doors) L_2.2.2 ["_law_rows", "_law_wanted", "_law_width", "_law_p"] = true := by decide +kernel
theorem lam_2 {f : Addr} {F : NF} (hp : F.params = L_2.1) (hs : F.scope = L_2.2.2) (k_solved : OwnK P w K mg base (L2.CX P w) 7 3 "solved" ["rows", "wanted", "width", "prime"] ["prime"] (spDoorS C)) : NOkL P w K mg base (L2.CX P w) 8 f F L_2.2.1 [] ["_law_rows", "_law_wanted", "_law_width", "_law_p"] (spA4 C) := by
  obtain ⟨fn, fq, fp, fb, fs, fc, fo⟩ := F
  have hp : fp = _ := hp
  have hs : fs = _ := hs
  subst hp hs
  refine nokL_of (N := ["_law_rows", "_law_wanted", "_law_width", "_law_p"]) ns_2 (fun pm ctv us hl => match us, hl with | [], _ => rfl) (fun ws vs H Q E h => ?_) fun A outer s H vs ws Q E hr hw h => ?_
  · obtain ⟨R, wv, n, p, rfl, rfl, _⟩ := h
    rfl
  · obtain ⟨R, wv, n, p, rfl, rfl, la, wn, rs, eR, hR, hl, lrs, ew, lw, c⟩ := h
    refine ⟨_, (pe_ownK k_solved (hr.mono (by decide)) rfl (passes_call (takes_of rfl rfl rfl rfl) (fun _ _ _ _ h => h)) (pa_cons (pv 0) (pa_cons (pv 1) (pa_cons (pv 2) pa_nil))) (pk_cons (pv 3) pk_nil)), ?_⟩
    exact ⟨_, rfl, _, rfl, _, rfl, _, rfl, rfl, rfl, R, wv, la, wn, rs, n, p, rfl, eR, hR, hl, lrs, ew, lw, .inl c⟩
abbrev DX (P : Program) (w : World) (K : PySem.W.Frag) (mg : Str → Option Value) (base : Heap) (fD cD : Addr) (A : Around) (outer : List Env) (s0 : Shared) (H0 : Hp) (E0' : XK) : Cx := (cxOf CX0 P w K mg base ["_law_rows", "_law_wanted", "_law_width", "_law_p", "_law_asks", "_law_ask"] "_law_doors" (defScope s_law_doors) fD (.ref cD) A outer s0 H0 E0').nox
section
variable {fD cD : Addr} {A : Around} {outer : List Env} {s0 : Shared} {H0 : Hp} {E0' : XK} {R wv : Addr} {n p : Int}
theorem good_0 {f1 c1 : Addr} {H : Hp} (e1 : H f1 = some (LamO f1 (lamF (DX P w K mg base fD cD A outer s0 H0 E0') L_0.1 L_0.2.2 c1) L_0.2.1)) (k1 : H c1 = some (CodeO c1 ((DX P w K mg base fD cD A outer s0 H0 E0').env.qual ++ "<lambda>"))) (n1 : f1 ∉ frs (DX P w K mg base fD cD A outer s0 H0 E0').stack) (k_stepped : OwnK P w K mg base (L2.CX P w) 5 2 "stepped" ["rows", "width", "prime"] ["prime"] (spDoor C)) : GoodL (DX P w K mg base fD cD A outer s0 H0 E0') R wv n p C H (.ref f1) :=
  ⟨f1, lamF (DX P w K mg base fD cD A outer s0 H0 E0') L_0.1 L_0.2.2 c1, L_0.2.1, ["_law_rows", "_law_width", "_law_p"], [0, 2, 3], spA3 C, rfl, n1, e1, k1, lam_0 rfl rfl k_stepped, fun ok => Caps.made ok (ndef_free nb_0) (ndef_fr nb_0) rfl, fun o H E Q d => ⟨R, wv, n, p, rfl, rfl, d⟩⟩
theorem good_1 {f1 c1 : Addr} {H : Hp} (e1 : H f1 = some (LamO f1 (lamF (DX P w K mg base fD cD A outer s0 H0 E0') L_1.1 L_1.2.2 c1) L_1.2.1)) (k1 : H c1 = some (CodeO c1 ((DX P w K mg base fD cD A outer s0 H0 E0').env.qual ++ "<lambda>"))) (n1 : f1 ∉ frs (DX P w K mg base fD cD A outer s0 H0 E0').stack) (k_kernel : OwnK P w K mg base (L2.CX P w) 6 2 "kernel" ["rows", "width", "prime"] ["prime"] (spDoor C)) : GoodL (DX P w K mg base fD cD A outer s0 H0 E0') R wv n p C H (.ref f1) :=
  ⟨f1, lamF (DX P w K mg base fD cD A outer s0 H0 E0') L_1.1 L_1.2.2 c1, L_1.2.1, ["_law_rows", "_law_width", "_law_p"], [0, 2, 3], spA3 C, rfl, n1, e1, k1, lam_1 rfl rfl k_kernel, fun ok => Caps.made ok (ndef_free nb_1) (ndef_fr nb_1) rfl, fun o H E Q d => ⟨R, wv, n, p, rfl, rfl, d⟩⟩
theorem good_2 {f1 c1 : Addr} {H : Hp} (e1 : H f1 = some (LamO f1 (lamF (DX P w K mg base fD cD A outer s0 H0 E0') L_2.1 L_2.2.2 c1) L_2.2.1)) (k1 : H c1 = some (CodeO c1 ((DX P w K mg base fD cD A outer s0 H0 E0').env.qual ++ "<lambda>"))) (n1 : f1 ∉ frs (DX P w K mg base fD cD A outer s0 H0 E0').stack) (k_solved : OwnK P w K mg base (L2.CX P w) 7 3 "solved" ["rows", "wanted", "width", "prime"] ["prime"] (spDoorS C)) : GoodL (DX P w K mg base fD cD A outer s0 H0 E0') R wv n p C H (.ref f1) :=
  ⟨f1, lamF (DX P w K mg base fD cD A outer s0 H0 E0') L_2.1 L_2.2.2 c1, L_2.2.1, ["_law_rows", "_law_wanted", "_law_width", "_law_p"], [0, 1, 2, 3], spA4 C, rfl, n1, e1, k1, lam_2 rfl rfl k_solved, fun ok => Caps.made ok (ndef_free nb_2) (ndef_fr nb_2) rfl, fun o H E Q d => ⟨R, wv, n, p, rfl, rfl, d⟩⟩
end
theorem ok_law_doors {f cD PR PL PD gwhy : Addr} {c : Fin 14 → Addr} {fd : FuncData} (F : FunD K "_law_doors" "_law_doors" (defArgs s_law_doors) (defBody s_law_doors) (defScope s_law_doors) [] [] f fd) (hcd : fd.code = .ref cD) (TB : TabB base mg cD PD) (hneR : PR ≠ PD) (hneL : PL ≠ PD) (KK : Kinds K c C)
    (G_law_why : Gives P w K mg base 10 8 "_law_why" gwhy (TTwhy K c)) (k_stepped : OwnK P w K mg base (L2.CX P w) 5 2 "stepped" ["rows", "width", "prime"] ["prime"] (spDoor C)) (k_kernel : OwnK P w K mg base (L2.CX P w) 6 2 "kernel" ["rows", "width", "prime"] ["prime"] (spDoor C)) (k_solved : OwnK P w K mg base (L2.CX P w) 7 3 "solved" ["rows", "wanted", "width", "prime"] ["prime"] (spDoorS C)) : FnOk P w K mg base CX0 11 f fd ["_law_rows", "_law_wanted", "_law_width", "_law_p"] (spDoors K PR PL PD) := by
  refine FunD_okC F hcd sc_law_doors (fun vs H Q E h => ?_) (fun A outer s H vs Q E hr h => ?_)
  · obtain ⟨R, wv, la, wn, rs, n, p, nm, y, rfl, _⟩ := h
    rfl
  · obtain ⟨R, wv, la, wn, rs, n, p, nm, y, rfl, eR, hR, hl, lrs, ew, lw, hT, hk, k⟩ := h
    have hmT : (PD, doorQ) ∈ TL3 PR PL PD := by simp
    have hu : ∀ p ∈ TL3 PR PL PD, p.1 = PD → p.2 = doorQ := fun p hp e => by
      rcases List.mem_cons.mp hp with rfl | hp
      · exact absurd e hneR
      · rcases List.mem_cons.mp hp with rfl | hp
        · exact absurd e hneL
        · rw [List.mem_singleton.mp hp]
    refine ⟨_, PSs.nox (pss_cons (ps_set (i := 4) sc_law_doors.nd rfl (Or.inl rfl) (pe_lst (pa_cons (pe_lamV TB rfl hmT hu rfl (ndef_free nb_0)) (pa_cons (pe_lamV TB rfl hmT hu rfl (ndef_free nb_1)) pa_nil))))
      (pss_cons (ps_expr (pe_bm PySem.F.plainAttrs_list PySem.F.slot_list_append PySem.F.type_list_append mt_append (pv 4) (pa_cons (pe_lamV TB rfl hmT hu rfl (ndef_free nb_2)) pa_nil)))
      (pss_one (ps_ret (pe_lcF (own := [("_law_ask", 5)]) rfl sc_law_doors.nd (pi_list (pv 4)) (blkOk_by (own := [("_law_ask", 5)]) (N := ["_law_rows", "_law_wanted", "_law_width", "_law_p", "_law_asks", "_law_ask"]) (sc := defScope s_law_doors) (by decide +kernel)) (fun _ _ _ _ _ => pg_name (i := 5) sc_law_doors.nd rfl (Or.inl rfl) (Or.inr rfl)) (fun pins σ s1 H1 C cl fp I0 hfp => pe_wordV G_law_why I0 hfp hr rfl (pa_cons (pv 5) pa_nil))))))) , ?_⟩
    refine ⟨hT, fun f0 c0 Ha ga na0 e0 k0 r0 => ⟨ga.t, fun f1 c1 Hb gb nb1 e1 k1 r1 => ⟨(by show 2 ≤ sizeLine; decide), fun l0 hl0 => ?_⟩⟩⟩
    have sl0 := same_upd (o := .lst [.ref f0, .ref f1]) hl0
    have x0 := good_0 (R := R) (wv := wv) (n := n) (p := p) e0 k0 r0 k_stepped
    have x1 := good_1 (R := R) (wv := wv) (n := n) (p := p) e1 k1 r1 k_kernel
    have G0 := (ga.trans gb).same sl0
    have y0 := (x0.ext gb.x).same sl0
    have y1 := x1.same sl0
    have el0 : L2.upd Hb l0 (.lst [.ref f0, .ref f1]) l0 = some (.lst [.ref f0, .ref f1]) := upd_same
    have nl0 : H l0 = none := (ga.trans gb).n _ hl0
    generalize hHl : L2.upd Hb l0 (.lst [.ref f0, .ref f1]) = Hl at G0 y0 y1 el0
    refine ⟨_, rfl, .inl ⟨rfl, _, SqL.of el0⟩, G0.t, fun f2 c2 Hc gc nc2 e2 k2 r2 => ⟨l0, _, _, rfl, rfl, gc.lt el0, (by show 2 < sizeLine; decide), ?_⟩⟩
    have x2 := good_2 (R := R) (wv := wv) (n := n) (p := p) e2 k2 r2 k_solved
    have elc := gc.lt el0
    have z0 := (y0.ext gc.x).lst (ys := [.ref f0, .ref f1, .ref f2]) elc
    have z1 := (y1.ext gc.x).lst (ys := [.ref f0, .ref f1, .ref f2]) elc
    have z2 := x2.lst (ys := [.ref f0, .ref f1, .ref f2]) elc
    have Gm := grLst (ys := [.ref f0, .ref f1, .ref f2]) (G0.trans gc) nl0 elc
    have el : L2.upd Hc l0 (.lst [.ref f0, .ref f1, .ref f2]) l0 = some (.lst [.ref f0, .ref f1, .ref f2]) := upd_same
    show _
    generalize hHm : L2.upd Hc l0 (.lst [.ref f0, .ref f1, .ref f2]) = Hm at z0 z1 z2 Gm el
    have hHm' : L2.upd Hc l0 (.lst ([.ref f0, .ref f1] ++ [.ref f2])) = Hm := hHm
    rw [hHm']
    refine ⟨_, rfl, l0, rfl, ⟨_, SqL.of el⟩, fun D hD => ?_⟩
    refine lc_it (walk_list (xs := [.ref f0, .ref f1, .ref f2])) (fun i H1 => ∃ ts : List Addr, Same Hm H1 ∧ H1 D = some (.lst (ts.map V.ref)) ∧ ts.length = i ∧ ∀ t ∈ ts, H1 t = some (.tup [.str nm, y])) ⟨[], same_upd hD, upd_same, rfl, fun _ h => nomatch h⟩ (fun i H1 _ ⟨_, s, _⟩ => SqL.of (s _ _ el)) ?_ ?_
    · rintro i x H1 H2 hi ⟨ts, s1, e1, l1, c1⟩ ⟨rfl, hx⟩
      have hi : i < 3 := hi
      have gx : GoodL (DX P w K mg base f cD A outer s H E) R wv n p C Hm x := by
        have m := List.mem_of_getElem? hx
        simp only [List.mem_cons, List.not_mem_nil, or_false] at m
        rcases m with rfl | rfl | rfl
        · exact z0
        · exact z1
        · exact z2
      obtain ⟨f', F', bb, fr, js, sp, rfl, nf, h1, h2, Fn, cp, hsp⟩ := gx.same s1
      have g1 := Gm.same s1
      refine ⟨rfl, _, rfl, f', F', bb, fr, js, sp, rfl, nf, h1, h2, Fn, cp, h1, hsp (some (.ref l0)) _ _ _ ⟨la, wn, rs, g1.lt eR, hR.keep (kpX g1.x), hl, lrs, g1.tup ew, lw, hk.cause KK fun H3 q s3 hq => ?_⟩⟩
      have st := same_upd (o := .tup [.str nm, y]) hq
      have s3t := s3.trans st
      refine ⟨_, s3t _ _ e1, ?_, ts ++ [q], lcs hD (s1.trans s3t), ?_, ?_, fun t ht => ?_⟩
      · rw [List.length_map]
        exact small1000 (by omega)
      · rw [upd_same, List.map_append]
        rfl
      · rw [List.length_append, l1]
        rfl
      · have e0' : L2.upd H3 q (.tup [.str nm, y]) t = some (.tup [.str nm, y]) := by
          rcases List.mem_append.mp ht with ht | ht
          · exact s3t _ _ (c1 t ht)
          · rw [List.mem_singleton.mp ht]
            exact upd_same
        rw [upd_ne (fun z => by
          rw [z, s3t _ _ e1] at e0'
          cases e0')]
        exact e0'
    · rintro H1 ⟨ts, s1, e1, l1, c1⟩
      exact k D ts H1 (Gm.same s1) (Gm.n D hD) e1 l1 c1
end
end Xk
end
section
set_option Elab.async false
set_option linter.all false
set_option maxRecDepth 100000
set_option maxHeartbeats 4000000
/-! any(xs), xs a list of whole numbers -/
namespace Xh
open PySem PySem.Spec PyProof.Rows L2
section
variable {X : Cx}
def rAnyLI (K : PySem.W.Frag) : List V → Hp → VK → Prop := fun vs H Q => ∃ (a : Addr) (ns : List Int), vs = [V.ref a] ∧ SqL K H a (ns.map V.int) ∧ Q (.bl (ns.any (· != 0))) H
theorem call_anyLI (hc : X.calm = true) : CallR X (.builtin "any") (rAnyLI X.K) := by
  intro pins s σ H vs us Q I r h
  obtain ⟨a, ns, rfl, hs, q⟩ := h
  obtain ⟨its, rv, pl, _⟩ := I.list hs
  rw [Vals.ref1 r]
  have hi := valsI rv
  have pt := pl.isList
  have al : a < s.heap.objs.size := by
    obtain ⟨o, e, _⟩ := pt
    exact Heap.lt_size e
  have zs : its.toArray.size = ns.length := by rw [List.size_toArray]; exact IntsAre.length hi
  refine call_any_walk (wpAny_pyIter_list pt ⟨_, _, _, _, _, _, (fun i => ns.getD i 0 != 0), rfl, Walks.list (A := X.A.in1) (I.ok.hd hc) _ a (Nat.ne_of_lt al) its.toArray, ⟨⟨_, Heap.get?_push_size _ rfl, rfl, rfl⟩, ⟨_, Heap.get?_push_of_some _ (pt.choose_spec.1), pt.choose_spec.2⟩⟩, fun i v t Q' E' hv hq => ?_, fun h' tk hk => ?_⟩)
  · obtain ⟨t', rfl⟩ := PyProof.Rows.IntsAre.int_at hi i v (by simpa using hv)
    exact truthy_int hq
  · rw [zs, any_rangeI]
    refine ⟨.bl _, H, I.kept (t' := tk) fun b o eo => hk b o (fun m => ?_) (Heap.get?_push_of_some _ eo), rfl, q⟩
    exact absurd (List.mem_singleton.mp m) (Nat.ne_of_lt (Heap.lt_size eo))
end
end Xh
end
section
set_option Elab.async false
set_option linter.all false
set_option maxRecDepth 100000
set_option maxHeartbeats 4000000
namespace Xk
open PySem PySem.Spec PyProof.Rows L2 Xh LamX NdefX
/-! ### what is told, walked -/
theorem eqv_tupI (ns : List Int) : PyData.eqv (.tuple (ns.map PyData.int)) (.tuple (ns.map PyData.int)) = true := by
  have z := eqvAll_lst ns
  simp [PyData.eqv, z]
theorem any_nil0 : ∀ (ns : List Int), (∀ x ∈ ns, x = 0) → ns.any (· != 0) = false := fun ns h => by
  rw [List.any_eq_false]
  intro x hx
  rw [h x hx]
  decide
def spAllL (K : PySem.W.Frag) : Sp := fun vs H Q _ => ∃ (a : Addr) (ns : List Int) (p : Int), vs = [.ref a, .int p] ∧ SqL K H a (ns.map V.int) ∧ ns.length ≤ 100 ∧ Rs p ns ∧ ∀ H', Same H H' → Q (.bl true) H'
def spWalk : Sp := fun vs H Q _ => ∃ (t R wv A : Addr) (la : List Addr) (wn : List Int) (rs : List (List Int)) (n : Nat) (p : Int), vs = [.ref t, .ref R, .ref wv, .int n, .int p] ∧ H R = some (.lst (la.map V.ref)) ∧ Rws H la rs ∧ (∀ r ∈ rs, Rw p n r) ∧ rs.length ≤ 24 ∧ 1 ≤ n ∧ n ≤ 24 ∧ Pm p ∧ H wv = some (.tup (wn.map V.int)) ∧ Rw p n wn ∧
  ((∃ vs : List Int, H t = some (.tup [.str "made", .ref A]) ∧ H A = some (.lst (vs.map V.int)) ∧ vs.length = rs.length ∧ Rs p vs ∧ Xp.Eqm p (co wn) (wgt rs vs)) ∨ ∃ ms : List Int, H t = some (.tup [.str "barred", .ref A]) ∧ H A = some (.tup (ms.map V.int)) ∧ Rw p n ms ∧ (∀ r ∈ rs, Xp.dt n (co r) (co ms) % p = 0) ∧ Xp.dt n (co ms) (co wn) % p = 1) ∧ ∀ H', Same H H' → Q (.bl true) H'
section
variable {P : Program} {w : World} {K : PySem.W.Frag} {mg : Str → Option Value} {base : Heap}
theorem l_law_all_rests {f : Addr} {fd : FuncData} (F : FunD K "_law_all_rests" "_law_all_rests" (defArgs s_law_all_rests) (defBody s_law_all_rests) (defScope s_law_all_rests) [] [] f fd) (T : Fre mg) : FnOk P w K mg base CX0 1 f fd ["_law_rows", "_law_p"] (spAllL K) := by
  refine F.ok sc_law_all_rests (fun vs H Q E h => ?_) (fun cdv A outer s H vs Q E hr h => ?_)
  · obtain ⟨a, ns, p, rfl, _⟩ := h
    rfl
  · obtain ⟨a, ns, p, rfl, hS, hl, hR, k⟩ := h
    refine ⟨_, PSs.nox (pss_one (ps_ret (pe_callB (cr_all rfl) (by rfl) T.f_all (by decide +kernel) (pa_cons (pe_lc (own := [("_law_number", 2)]) (te := (tAndV (tCB (rIsi K) (tCons (tVar 2) (tCons (tC (.ty "int")) tNil))) (tAndV (tNotV (tCB (rIsi K) (tCons (tVar 2) (tCons (tC (.ty "bool")) tNil)))) (tChain _ _ (tC (.int 0)) (tVar 2) (tVar 1))))) rfl sc_law_all_rests.nd (pi_list (pv 0)) (blkOk_by (own := [("_law_number", 2)]) (N := ["_law_rows", "_law_p", "_law_number"]) (sc := defScope s_law_all_rests) (by decide +kernel)) (fun _ _ _ _ _ => pg_name (i := 2) sc_law_all_rests.nd rfl (Or.inl rfl) (Or.inr rfl)) (fun _ _ _ _ _ => pts_nil) (fun _ _ _ _ _ => (pe_and (pe_callB call_isi (by rfl) T.f_isinstance PyProof.Rows.boot_isinstance (pa_cons (pv 2) (pa_cons (pe_bltn (v := .ty "int") rfl T.f_int boot_int rfl) pa_nil))) (pe_and (pe_not (pe_callB call_isi (by rfl) T.f_isinstance PyProof.Rows.boot_isinstance (pa_cons (pv 2) (pa_cons (pe_bltn (v := .ty "bool") rfl T.f_bool boot_bool rfl) pa_nil)))) (pe_one (pe_chain op_le op_lt pe_int (pv 2) (pv 1))))))) pa_nil)))) , ?_⟩
    refine ⟨_, rfl, a, rfl, ⟨_, hS⟩, fun D hD => ?_⟩
    refine lc_it (walk_list (xs := ns.map V.int)) (fun i H1 => Same H H1 ∧ H1 D = some (.lst ((List.replicate i true).map V.bl)) ∧ i ≤ ns.length) ⟨same_upd hD, upd_same, Nat.zero_le _⟩ (fun i H1 _ h => h.1.seq hS) ?_ ?_
    · rintro i x H1 H2 hi ⟨s1, e1, _⟩ ⟨rfl, hx⟩
      rw [List.length_map] at hi
      have e3 := (map_at ns i hi).symm.trans hx
      cases e3
      obtain ⟨r0, r1⟩ := hR i
      refine ⟨rfl, _, rfl, .int (ns.getD i 0), _, _, _, true, rfl, .ty _, .base (.int _), kit_ty (by decide +kernel), _, rfl, iteT ⟨_, rfl, .int (ns.getD i 0), _, _, _, false, rfl, .ty _, .base (.int _), kit_ty (by decide +kernel), _, rfl, _, rfl, iteT ⟨_, rfl, _, _, rfl, rfl, _, rfl, ?_⟩⟩⟩
      rw [decide_eq_true r0]
      refine iteT ⟨_, rfl, _, _, rfl, rfl, ?_⟩
      dsimp only
      rw [show decide (ns.getD i 0 < p) = true from decide_eq_true r1]
      refine ⟨_, e1, ?_, lcs hD s1, ?_, hi⟩
      · rw [List.length_map, List.length_replicate]
        exact small1000 (by omega)
      · rw [upd_same, List.replicate_succ', List.map_append]
        rfl
    · rintro H1 ⟨s1, e1, _⟩
      refine ⟨D, List.replicate (ns.map V.int).length true, rfl, SqL.of e1, ?_⟩
      rw [show (List.replicate (ns.map V.int).length true).all id = true from by simp]
      exact k _ s1
abbrev s_law_walked : Stmt := topS 57
theorem sc_law_walked : FnScope (["_law_found", "_law_rows", "_law_wanted", "_law_width", "_law_p", "_law_word", "_law_row", "_law_one"] : List Str) ["_law_found", "_law_rows", "_law_wanted", "_law_width", "_law_p"] (defScope s_law_walked) := ⟨rfl, rfl, rfl, by decide +kernel, rfl, by decide +kernel, by decide +kernel⟩
theorem ok_law_walked {f : Addr} {fd : FuncData} (F : FunD K "_law_walked" "_law_walked" (defArgs s_law_walked) (defBody s_law_walked) (defScope s_law_walked) [] [] f fd) (T : Fre mg) (o_law_all_rests : Own P w K mg base CX0 1 "_law_all_rests" ["_law_rows", "_law_p"] [] (spAllR K)) (o_law_all_restsL : Own P w K mg base CX0 1 "_law_all_rests" ["_law_rows", "_law_p"] [] (spAllL K)) (o_law_weighed : Own P w K mg base CX0 2 "_law_weighed" ["_law_rows", "_law_weights", "_law_width", "_law_p"] [] spWeighed) (o_law_dot : Own P w K mg base CX0 1 "_law_dot" ["_law_one", "_law_other", "_law_p"] [] spDot) : FnOk P w K mg base CX0 3 f fd ["_law_found", "_law_rows", "_law_wanted", "_law_width", "_law_p"] spWalk := by
  refine F.ok sc_law_walked (fun vs H Q E h => ?_) (fun cdv A outer s H vs Q E hr h => ?_)
  · obtain ⟨t, R, wv, A, la, wn, rs, n, p, rfl, _⟩ := h
    rfl
  · obtain ⟨t, R, wv, A0, la, wn, rs, n, p, rfl, eR, hR, hrw, lrs, n1, n24, hp, ew, hw, alt, k⟩ := h
    have lla := hR.len
    have lo := hp.lo
    have hi := hp.hi
    refine ⟨_, PSs.nox (pss_cons (ps_if (PW.pt (pw_or (pt_not (pt_val (pe_callB call_isi (by rfl) T.f_isinstance PyProof.Rows.boot_isinstance (pa_cons (pv 0) (pa_cons (pe_bltn (v := .ty "tuple") rfl T.f_tuple boot_tuple rfl) pa_nil))))) (pw_or1 (pt_cmpR op_ne (pe_callB call_len_seq (by rfl) T.f_len PySem.boot_len (pa_cons (pv 0) pa_nil)) pe_int (nomark _))))) (pss_one (ps_ret pe_bl)) pss_nil)
      (pss_cons (ps_asg (pv 0) (pg_tup rfl (pgs_cons (pg_name (i := 5) sc_law_walked.nd rfl (Or.inl rfl)) (pgs_cons (pg_name (i := 6) sc_law_walked.nd rfl (Or.inr rfl)) pgs_nil))))
      (pss_cons (ps_if (pt_cmpR op_eq (pv 5) pe_str (nomark _)) (pss_cons (ps_if (PW.pt (pw_or (pt_not (pt_val (pe_callB call_isi (by rfl) T.f_isinstance PyProof.Rows.boot_isinstance (pa_cons (pv 6) (pa_cons (pe_bltn (v := .ty "list") rfl T.f_list boot_list rfl) pa_nil))))) (pw_or (pt_cmpR op_ne (pe_callB call_len_seq (by rfl) T.f_len PySem.boot_len (pa_cons (pv 6) pa_nil)) (pe_callB call_len_seq (by rfl) T.f_len PySem.boot_len (pa_cons (pv 1) pa_nil)) (nomark _)) (pw_or1 (pt_not (pt_val (pe_own o_law_all_restsL (hr.mono (by decide)) rfl pass0 (pa_cons (pv 6) (pa_cons (pv 4) pa_nil))))))))) (pss_one (ps_ret pe_bl)) pss_nil)
      (pss_one (ps_ret (pe_cmpR (op_eqD hr.units) (pe_own o_law_weighed (hr.mono (by decide)) rfl pass0 (pa_cons (pv 1) (pa_cons (pv 6) (pa_cons (pv 3) (pa_cons (pv 4) pa_nil))))) (pv 2) (nomark _))))) pss_nil)
      (pss_cons (ps_if (PW.pt (pw_or (pt_cmpR op_ne (pv 5) pe_str (nomark _)) (pw_or (pt_not (pt_val (pe_callB call_isi (by rfl) T.f_isinstance PyProof.Rows.boot_isinstance (pa_cons (pv 6) (pa_cons (pe_bltn (v := .ty "tuple") rfl T.f_tuple boot_tuple rfl) pa_nil))))) (pw_or (pt_cmpR op_ne (pe_callB call_len_seq (by rfl) T.f_len PySem.boot_len (pa_cons (pv 6) pa_nil)) (pv 3) (nomark _)) (pw_or1 (pt_not (pt_val (pe_own o_law_all_rests (hr.mono (by decide)) rfl pass0 (pa_cons (pv 6) (pa_cons (pv 4) pa_nil)))))))))) (pss_one (ps_ret pe_bl)) pss_nil)
      (pss_one (ps_ret (pe_and (pe_not (pe_callB (call_anyLI rfl) (by rfl) T.f_any (by decide +kernel) (pa_cons (pe_lc (own := [("_law_one", 7)]) rfl sc_law_walked.nd (pi_list (pv 1)) (blkOk_by (own := [("_law_one", 7)]) (N := ["_law_found", "_law_rows", "_law_wanted", "_law_width", "_law_p", "_law_word", "_law_row", "_law_one"]) (sc := defScope s_law_walked) (by decide +kernel)) (fun _ _ _ _ _ => pg_name (i := 7) sc_law_walked.nd rfl (Or.inl rfl) (Or.inr rfl)) (fun _ _ _ _ _ => pts_nil) (fun _ _ _ _ _ => (pe_own o_law_dot (hr.mono (by decide)) rfl pass0 (pa_cons (pv 6) (pa_cons (pv 7) (pa_cons (pv 4) pa_nil)))))) pa_nil))) (pe_one (pe_cmpR op_eq (pe_own o_law_dot (hr.mono (by decide)) rfl pass0 (pa_cons (pv 6) (pa_cons (pv 2) (pa_cons (pv 4) pa_nil)))) pe_int (nomark _)))))))))) , ?_⟩
    have pair : ∃ (wd : Str), H t = some (.tup [.str wd, .ref A0]) := by
      rcases alt with ⟨vs, h, _⟩ | ⟨ms, h, _⟩
      · exact ⟨_, h⟩
      · exact ⟨_, h⟩
    obtain ⟨wd, et⟩ := pair
    refine ⟨_, rfl, .ref t, _, _, _, true, rfl, .ty _, tyT (sqD et), kit_ty (by decide +kernel), _, rfl, iteF ⟨_, rfl, t, _, rfl, .inr (sqD et), rfl, _, rfl, iteF ?_⟩⟩
    refine ⟨_, rfl, t, _, rfl, .inl (.inl et), rfl, _, _, rfl, _, _, rfl, rfl, ?_⟩
    rcases alt with ⟨vs, h1, eA, lv, rv, em⟩ | ⟨ms, h1, eA, wm, z, one⟩
    · rw [et] at h1
      cases h1
      refine ⟨_, rfl, rfl, _, rfl, iteT ?_⟩
      refine ⟨_, rfl, .ref A0, _, _, _, true, rfl, .ty _, tyL (SqL.of eA), kit_ty (by decide +kernel), _, rfl, iteF ⟨_, rfl, A0, _, rfl, .inl (SqL.of eA), _, rfl, R, _, rfl, .inl (SqL.of eR), rfl, _, rfl, ?_⟩⟩
      rw [List.length_map, List.length_map, lv, lla, show (!decide (V.int ((rs.length : Nat) : Int) = V.int ((rs.length : Nat) : Int))) = false from by simp]
      refine iteF ⟨_, rfl, _, rfl, A0, vs, p, rfl, SqL.of eA, by omega, rv, fun H1 s1 => ⟨_, rfl, iteF ?_⟩⟩
      refine ⟨_, rfl, _, rfl, _, rfl, _, rfl, R, A0, la, rs, vs, n, p, rfl, s1 _ _ eR, hR.keep (kpS s1), hrw, s1 _ _ eA, lv, rv, n1, n24, hp, fun v ms H2 s2 ev wm em2 => ?_⟩
      have e := row_eq wm hw (em2.trans em.symm)
      subst e
      refine ⟨_, rfl, _, _, dp_tup (sqD ev), dp_tup (sqD (s2 _ _ (s1 _ _ ew))), shl _, shl _, ?_⟩
      rw [eqv_tupI]
      exact k _ (s1.trans s2)
    · rw [et] at h1
      cases h1
      refine ⟨_, rfl, rfl, _, rfl, iteF ?_⟩
      refine ⟨_, rfl, rfl, _, rfl, iteF ⟨_, rfl, .ref A0, _, _, _, true, rfl, .ty _, tyT (sqD eA), kit_ty (by decide +kernel), _, rfl, iteF ⟨_, rfl, A0, _, rfl, .inr (sqD eA), _, rfl, rfl, _, rfl, ?_⟩⟩⟩
      have lm := wm.len
      rw [List.length_map, lm, show (!decide (V.int ((n : Nat) : Int) = V.int ((n : Nat) : Int))) = false from by simp]
      refine iteF ⟨_, rfl, _, rfl, A0, ms, p, rfl, sqD eA, by omega, wm.rs, fun H1 s1 => ⟨_, rfl, iteF ?_⟩⟩
      have eR1 := s1 _ _ eR
      have eA1 := s1 _ _ eA
      have hR1 := hR.keep (kpS s1)
      refine ⟨_, rfl, R, rfl, ⟨_, SqL.of eR1⟩, fun D hD => ?_⟩
      refine lc_it (walk_list (xs := la.map V.ref)) (fun i H' => Same H1 H' ∧ H' D = some (.lst ((List.replicate i (0 : Int)).map V.int)) ∧ i ≤ rs.length) ⟨same_upd hD, upd_same, Nat.zero_le _⟩ (fun i H' _ h => SqL.of (h.1 _ _ eR1)) ?_ ?_
      · rintro i x Ha Hb hi2 ⟨s2, e2, _⟩ ⟨rfl, hx⟩
        obtain ⟨l, r, rfl, hr, er⟩ := (hR1.keep (kpS s2)).at hx
        rw [List.length_map] at hi2
        have mr := List.mem_of_getElem? hr
        refine ⟨rfl, _, rfl, _, rfl, _, rfl, A0, l, ms, r, n, p, rfl, s2 _ _ eA1, er, wm, hrw r mr, n24, hp, fun Hc sc => ?_⟩
        rw [Xp.dt_comm, z r mr]
        refine ⟨_, sc _ _ e2, ?_, lcs hD (s2.trans sc), ?_, by omega⟩
        · rw [List.length_map, List.length_replicate]
          exact small1000 (by omega)
        · rw [upd_same, List.replicate_succ', List.map_append]
          rfl
      rintro Ha ⟨s2, e2, _⟩
      refine ⟨D, _, rfl, SqL.of e2, ?_⟩
      rw [any_nil0 _ fun x hx => List.eq_of_mem_replicate hx]
      have s12 := s1.trans s2
      refine ⟨_, rfl, _, rfl, iteT ⟨_, rfl, _, rfl, _, rfl, A0, wv, ms, wn, n, p, rfl, s12 _ _ eA, s12 _ _ ew, wm, hw, n24, hp, fun Hc sc => ⟨rfl, ?_⟩⟩⟩
      rw [one]
      exact k _ (s12.trans sc)
end
end Xk
end
section
set_option Elab.async false
set_option linter.all false
set_option maxRecDepth 100000
set_option maxHeartbeats 4000000
namespace Xk
open PySem PySem.Spec PyProof.Rows L2 Xh LamX NdefX
open NdefX
/-! ### the law -/
theorem eqvAll_lst2 : ∀ a b : List Int, PyData.eqvAll (a.map PyData.int) (b.map PyData.int) = decide (a = b)
  | [], [] => rfl
  | [], b :: bs => rfl
  | a :: as, [] => rfl
  | a :: as, b :: bs => by
    have ih := eqvAll_lst2 as bs
    by_cases h : a = b
    · simp [PyData.eqvAll, PyData.eqv, ih, h]
    · simp [PyData.eqvAll, PyData.eqv, ih, h]
theorem eqvAll_tab2 : ∀ rs us : List (List Int), PyData.eqvAll (rs.map fun r => .tuple (r.map PyData.int)) (us.map fun r => .tuple (r.map PyData.int)) = decide (rs = us)
  | [], [] => rfl
  | [], b :: bs => rfl
  | a :: as, [] => rfl
  | a :: as, b :: bs => by
    have ih := eqvAll_tab2 as bs
    have z := eqvAll_lst2 a b
    by_cases h : a = b
    · simp [PyData.eqvAll, PyData.eqv, ih, z, h, eqvAll_lst]
    · simp [PyData.eqvAll, PyData.eqv, ih, z, h]
theorem eqv_tab2 (rs us : List (List Int)) : PyData.eqv (.list (rs.map fun r => .tuple (r.map PyData.int))) (.list (us.map fun r => .tuple (r.map PyData.int))) = decide (rs = us) := by
  have z := eqvAll_tab2 rs us
  simp [PyData.eqv, z]
/-- a row more changes the form just where it isn't made of the others -/
theorem Form.more {p : Int} (hp : 2 ≤ p) {n : Nat} {rs ts us : List (List Int)} {wn : List Int} {sp sq : List Nat} (F : Form p n (rs ++ [wn]) sp ts) (G : Form p n rs sq us) : ts = us ↔ Xp.Sp p (rset rs) (co wn) := by
  constructor
  · intro e
    subst e
    have a := F.up wn (List.mem_append_right _ (List.mem_singleton.mpr rfl))
    exact a.trans fun u ⟨x, hx, e⟩ => by
      obtain ⟨j, s, r, h1, h2, rfl⟩ := mem_fam hx
      subst e
      exact G.dn r (List.mem_of_getElem? h2)
  · intro h
    refine (F.uniq hp G (fun r hr => ?_) fun r hr => ?_).2
    · rcases List.mem_append.mp hr with hr | hr
      · exact .one ⟨r, hr, rfl⟩
      · rw [List.mem_singleton.mp hr]
        exact h
    · exact .one ⟨r, List.mem_append_left _ hr, rfl⟩
theorem not_made {p : Int} (hp : 2 ≤ p) {n : Nat} {rs : List (List Int)} {ms wn : List Int} (z : ∀ r ∈ rs, Xp.dt n (co r) (co ms) % p = 0) (one : Xp.dt n (co ms) (co wn) % p = 1) : ¬ Xp.Sp p (rset rs) (co wn) := fun a => by
  have e := a.dt (n := n) (v := co ms) fun u ⟨r, hr, e⟩ => e ▸ z r hr
  rw [Xp.dt_comm, one] at e
  exact absurd e (by decide)
theorem is_made {p : Int} {rs : List (List Int)} {vs wn : List Int} (e : Xp.Eqm p (co wn) (wgt rs vs)) : Xp.Sp p (rset rs) (co wn) := (wgt_sp vs).eqm e.symm
open Classical in
/-- whether it is made, as a word -/
noncomputable def wordOf (p : Int) (rs : List (List Int)) (wn : List Int) : Str := if Xp.Sp p (rset rs) (co wn) then "made" else "barred"
theorem word_made {p : Int} {rs : List (List Int)} {wn : List Int} (h : Xp.Sp p (rset rs) (co wn)) : wordOf p rs wn = "made" := if_pos h
theorem word_barred {p : Int} {rs : List (List Int)} {wn : List Int} (h : ¬ Xp.Sp p (rset rs) (co wn)) : wordOf p rs wn = "barred" := if_neg h
/-- what solved told -/
def Told (H : Hp) (t : Addr) (n : Nat) (p : Int) (rs : List (List Int)) (wn : List Int) : Prop := ∃ A : Addr, (∃ vs : List Int, H t = some (.tup [.str "made", .ref A]) ∧ H A = some (.lst (vs.map V.int)) ∧ vs.length = rs.length ∧ Rs p vs ∧ Xp.Eqm p (co wn) (wgt rs vs)) ∨ ∃ ms : List Int, H t = some (.tup [.str "barred", .ref A]) ∧ H A = some (.tup (ms.map V.int)) ∧ Rw p n ms ∧ (∀ r ∈ rs, Xp.dt n (co r) (co ms) % p = 0) ∧ Xp.dt n (co ms) (co wn) % p = 1
theorem Told.word {H : Hp} {t : Addr} {n : Nat} {p : Int} {rs : List (List Int)} {wn : List Int} (hp : 2 ≤ p) (h : Told H t n p rs wn) : ∃ A, H t = some (.tup [.str (wordOf p rs wn), .ref A]) := by
  obtain ⟨A, ⟨vs, h1, _, _, _, em⟩ | ⟨ms, h1, _, _, z, one⟩⟩ := h
  · exact ⟨A, by rw [word_made (is_made em)]; exact h1⟩
  · exact ⟨A, by rw [word_barred (not_made hp z one)]; exact h1⟩
theorem sIx_hi (N j : Nat) : HT.sIx N N (some ((j : Nat) : Int)) = min j N := by
  show (if ((j : Nat) : Int) < 0 then (((j : Nat) : Int) + ((N : Nat) : Int)).toNat else min ((j : Nat) : Int).toNat N) = _
  rw [if_neg (by omega), Int.toNat_natCast]
theorem sIx_lo (N j : Nat) : HT.sIx N 0 (some ((j : Nat) : Int)) = min j N := by
  show (if ((j : Nat) : Int) < 0 then (((j : Nat) : Int) + ((N : Nat) : Int)).toNat else min ((j : Nat) : Int).toNat N) = _
  rw [if_neg (by omega), Int.toNat_natCast]
theorem cutHead (xs : List V) {j : Nat} (h : j ≤ xs.length) : cutV xs none (some ((j : Nat) : Int)) = xs.take j := by
  unfold cutV
  rw [sIx_hi, show HT.sIx xs.length 0 none = 0 from rfl, Nat.sub_zero, List.drop_zero, Nat.min_eq_left h]
theorem cutTail (xs : List V) {j : Nat} (h : j ≤ xs.length) : cutV xs (some ((j : Nat) : Int)) none = xs.drop j := by
  unfold cutV
  rw [sIx_lo, show HT.sIx xs.length xs.length none = xs.length from rfl, Nat.min_eq_left h, List.take_of_length_le (by rw [List.length_drop]; exact Nat.le_refl _)]
theorem slInit {K : PySem.W.Frag} {H : Hp} {v : Addr} {ms : List Int} {Q : VK} (ev : H v = some (.tup (ms.map V.int))) (hn : 1 ≤ ms.length) (k : ∀ a H', Same H H' → H' a = some (.tup ((ms.take (ms.length - 1)).map V.int)) → Q (.ref a) H') : rSlA K (.ref v) none (some (-1)) H Q := by
  have i1 : HT.sIx (ms.map V.int).length 0 none = 0 := rfl
  have i2 : HT.sIx (ms.map V.int).length (ms.map V.int).length (some (-1)) = ms.length - 1 := by
    show (if (-1 : Int) < 0 then ((-1 : Int) + (((ms.map V.int).length : Nat) : Int)).toNat else min (-1 : Int).toNat (ms.map V.int).length) = _
    rw [if_pos (by decide), List.length_map]
    omega
  refine ⟨v, _, rfl, sqD ev, fun h => ?_, fun _ p hp => k p _ (same_upd hp) ?_⟩
  · have e := h.2
    rw [i2, List.length_map] at e
    omega
  · rw [upd_same]
    unfold cutV
    rw [i1, i2, Nat.sub_zero, List.drop_zero, List.map_take]
theorem rowB_good {p : Int} {n : Nat} {r : List Int} (h : Rw p n r) : rowB p n r = true := by
  unfold rowB
  rw [decide_eq_true (by rw [h.len]), Bool.true_and, List.all_eq_true]
  intro b hb
  obtain ⟨x, hx, rfl⟩ := List.mem_map.mp hb
  obtain ⟨k, hk⟩ := List.mem_iff_getElem?.mp hx
  have := h.rs k
  rw [List.getD_eq_getElem?_getD, hk] at this
  exact decide_eq_true this
theorem rowB_len {p n : Int} {r : List Int} (h : (r.length : Int) ≠ n) : rowB p n r = false := by
  unfold rowB
  rw [decide_eq_false h, Bool.false_and]
theorem rowB_far {p n m : Int} {r : List Int} (h : ¬ (0 ≤ m ∧ m < p)) (hm : m ∈ r) : rowB p n r = false := by
  cases e : rowB p n r with
  | false => rfl
  | true =>
    unfold rowB at e
    rw [Bool.and_eq_true, List.all_eq_true] at e
    have := e.2 (okR p m) (List.mem_map.mpr ⟨m, hm, rfl⟩)
    exact absurd (of_decide_eq_true this) h
theorem FirstBad.at_ {p n : Int} {as bs : List (List Int)} {rr : List Int} (h : as.length ≤ 24) (hg : ∀ r ∈ as, rowB p n r = true) (hb : rowB p n rr = false) : FirstBad p n (as ++ rr :: bs) as.length :=
  ⟨h, ⟨rr, by rw [List.getElem?_append_right (Nat.le_refl _), Nat.sub_self]; rfl, .inr hb⟩, fun j r hj e => by
    rw [List.getElem?_append_left hj] at e
    exact hg r (List.mem_of_getElem? e)⟩
theorem Rws.take {H : Hp} : ∀ {la : List Addr} {rs : List (List Int)} (j : Nat), Rws H la rs → Rws H (la.take j) (rs.take j)
  | _, _, 0, _ => trivial
  | [], [], _ + 1, h => h
  | a :: la, r :: rs, j + 1, h => ⟨h.1, Rws.take j h.2⟩
theorem Rws.drop {H : Hp} : ∀ {la : List Addr} {rs : List (List Int)} (j : Nat), Rws H la rs → Rws H (la.drop j) (rs.drop j)
  | _, _, 0, h => h
  | [], [], _ + 1, h => h
  | a :: la, r :: rs, j + 1, h => Rws.drop j h.2
theorem flat_rep (x : V) : ∀ k : Nat, (List.replicate k [x]).flatten = List.replicate k x
  | 0 => rfl
  | k + 1 => by
    rw [List.replicate_succ, List.flatten_cons, flat_rep x k, List.replicate_succ]
    rfl
theorem dp_words {K : PySem.W.Frag} {H : Hp} {nm : Str} {y : V} {d : PyData} (hy : Dp K H y d) : ∀ {ts : List Addr}, (∀ t ∈ ts, H t = some (.tup [.str nm, y])) → DpAll K H (ts.map V.ref) (List.replicate ts.length (.tuple [.str nm, d]))
  | [], _ => .nil
  | t :: ts, h => .cons (.tup (sqD (h t List.mem_cons_self)) (.cons (.str nm) (.cons hy .nil))) (dp_words hy fun t ht => h t (List.mem_cons_of_mem _ ht))
theorem shaped_lay {d : PyData} (h : SeqAt.shaped d = true) : d.canLay0 = true := by
  unfold SeqAt.shaped at h
  exact (Bool.and_eq_true _ _ ▸ h).1
/-- what three doors told, beside the word three times -/
theorem words_dp {K : PySem.W.Frag} {H : Hp} {q t1 t2 t3 l2 : Addr} {ts : List Addr} {nm : Str} {y : V} {d : PyData} (hn : PyData.strOk nm = true) (hy : ∀ H, Dp K H y d) (hd : d = .none ∨ ∃ i, d = .int i)
    (e : H q = some (.lst (ts.map V.ref))) (l3 : ts.length = 3) (h : ∀ t ∈ ts, H t = some (.tup [.str nm, y])) (e2 : H l2 = some (.lst [.ref t1, .ref t2, .ref t3])) (h1 : H t1 = some (.tup [.str nm, y])) (h2 : H t2 = some (.tup [.str nm, y])) (h3 : H t3 = some (.tup [.str nm, y])) :
    ∃ d, Dp K H (.ref q) d ∧ Dp K H (.ref l2) d ∧ SeqAt.shaped d = true := by
  have a := dp_words (hy H) h
  rw [l3] at a
  have b := dp_words (hy H) (ts := [t1, t2, t3]) (nm := nm) fun t ht => by
    simp only [List.mem_cons, List.not_mem_nil, or_false] at ht
    rcases ht with rfl | rfl | rfl
    · exact h1
    · exact h2
    · exact h3
  have sh : SeqAt.shaped (.list (List.replicate 3 (.tuple [.str nm, d]))) = true := by
    rcases hd with rfl | ⟨i, rfl⟩
    · simp [SeqAt.shaped, PyData.canLay0, PyData.depth, PySem.W.ke_canLayAll0, PyData.canLayAll0, PyData.depthAll, List.replicate, hn]
    · simp [SeqAt.shaped, PyData.canLay0, PyData.depth, PySem.W.ke_canLayAll0, PyData.canLayAll0, PyData.depthAll, List.replicate, hn]
  exact ⟨_, .lst (SqL.of e) a, .lst (SqL.of e2) b, sh⟩
theorem words_ne {K : PySem.W.Frag} {H : Hp} {q t1 t2 t3 l2 : Addr} {ts : List Addr} {nm : Str} {y : V} {d : PyData} {Q : VK} (hn : PyData.strOk nm = true) (hy : ∀ H, Dp K H y d) (hd : d = .none ∨ ∃ i, d = .int i)
    (e : H q = some (.lst (ts.map V.ref))) (l3 : ts.length = 3) (h : ∀ t ∈ ts, H t = some (.tup [.str nm, y])) (e2 : H l2 = some (.lst [.ref t1, .ref t2, .ref t3])) (h1 : H t1 = some (.tup [.str nm, y])) (h2 : H t2 = some (.tup [.str nm, y])) (h3 : H t3 = some (.tup [.str nm, y])) (k : Q (.bl false) H) : rNeD K (.ref q) (.ref l2) H Q := by
  obtain ⟨d, a, b, sh⟩ := words_dp hn hy hd e l3 h e2 h1 h2 h3
  refine ⟨d, d, a, b, sh, sh, ?_⟩
  rw [SeqAt.eqv_refl _ (shaped_lay sh)]
  exact k
theorem words_eq {K : PySem.W.Frag} {H : Hp} {q t1 t2 t3 l2 : Addr} {ts : List Addr} {nm : Str} {y : V} {d : PyData} {Q : VK} (hn : PyData.strOk nm = true) (hy : ∀ H, Dp K H y d) (hd : d = .none ∨ ∃ i, d = .int i)
    (e : H q = some (.lst (ts.map V.ref))) (l3 : ts.length = 3) (h : ∀ t ∈ ts, H t = some (.tup [.str nm, y])) (e2 : H l2 = some (.lst [.ref t1, .ref t2, .ref t3])) (h1 : H t1 = some (.tup [.str nm, y])) (h2 : H t2 = some (.tup [.str nm, y])) (h3 : H t3 = some (.tup [.str nm, y])) (k : Q (.bl true) H) : rEqD K (.ref q) (.ref l2) H Q := by
  obtain ⟨d, a, b, sh⟩ := words_dp hn hy hd e l3 h e2 h1 h2 h3
  refine ⟨d, d, a, b, sh, sh, ?_⟩
  rw [SeqAt.eqv_refl _ (shaped_lay sh)]
  exact k
theorem word_ne {K : PySem.W.Frag} {H : Hp} {q t : Addr} {nm : Str} {y : V} {d : PyData} {Q : VK} (hn : PyData.strOk nm = true) (hy : Dp K H y d) (hd : d = .none ∨ ∃ i, d = .int i)
    (e : H q = some (.tup [.str nm, y])) (e2 : H t = some (.tup [.str nm, y])) (k : Q (.bl false) H) : rNeD K (.ref q) (.ref t) H Q := by
  have sh : SeqAt.shaped (.tuple [.str nm, d]) = true := by
    rcases hd with rfl | ⟨i, rfl⟩
    · simp [SeqAt.shaped, PyData.canLay0, PyData.depth, PySem.W.ke_canLayAll0, PyData.canLayAll0, PyData.depthAll, List.replicate, hn]
    · simp [SeqAt.shaped, PyData.canLay0, PyData.depth, PySem.W.ke_canLayAll0, PyData.canLayAll0, PyData.depthAll, List.replicate, hn]
  refine ⟨_, _, .tup (sqD e) (.cons (.str nm) (.cons hy .nil)), .tup (sqD e2) (.cons (.str nm) (.cons hy .nil)), sh, sh, ?_⟩
  rw [SeqAt.eqv_refl _ (shaped_lay sh)]
  exact k
def spLaw (K : PySem.W.Frag) (PR PL PD : Addr) : Sp := fun vs H Q _ => ∃ (a : Addr) (ns : List Int), vs = [.ref a] ∧ SqL K H a (ns.map V.int) ∧ Tabs (TL3 PR PL PD) H ∧ ∀ H', Q (.bl true) H'
section
variable {P : Program} {w : World} {K : PySem.W.Frag} {C : Fin 14 → Addr} {mg : Str → Option Value} {base : Heap}
abbrev s_law : Stmt := topS 59
theorem sc_law : FnScope (["_law_script", "_law_draw", "_law_turn", "_law_p", "_law_width", "_law_rows", "_law_wanted", "_law_handed", "_law_found", "_law_longer", "_law_at", "_law_row", "_law_bad", "_law_wide", "_law_many"] : List Str) ["_law_script"] (defScope s_law) := ⟨rfl, rfl, rfl, by decide +kernel, rfl, by decide +kernel, by decide +kernel⟩
theorem ok_law {f cL PR PL PD gwhy : Addr} {c : Fin 14 → Addr} {fd : FuncData} (F : FunD K "law" "law" (defArgs s_law) (defBody s_law) (defScope s_law) [] [] f fd) (hcd : fd.code = .ref cL) (TB : TabB base mg cL PL) (T : Fre mg) (hneR : PR ≠ PL) (hneL : PL ≠ PD) (KK : Kinds K c C)
    (o_law_begin : Own P w K mg base CX0 1 "_law_begin" ["_law_script"] [] (spBegin K)) (o_law_take : Own P w K mg base CX0 1 "_law_take" ["_law_draw", "_law_sides"] [] spTake) (o_law_of : Own P w K mg base CX0 2 "_law_of" ["_law_draw", "_law_row"] [] (spOf K)) (o_law_any_prime : Own P w K mg base CX0 3 "_law_any_prime" ["_law_draw"] [] spAnyPrime)
    (o_law_table : Own P w K mg base CX0 3 "_law_table" ["_law_draw", "_law_width", "_law_p"] [] spTable) (o_law_rests : Own P w K mg base CX0 2 "_law_rests" ["_law_draw", "_law_many", "_law_p"] [] spRestsD) (o_law_weighed : Own P w K mg base CX0 2 "_law_weighed" ["_law_rows", "_law_weights", "_law_width", "_law_p"] [] spWeighed)
    (o_law_bad_prime : Own P w K mg base CX0 3 "_law_bad_prime" ["_law_draw"] [] spBad) (o_law_far : Own P w K mg base CX0 3 "_law_far" ["_law_draw", "_law_p"] [] spFar) (o_law_walked : Own P w K mg base CX0 3 "_law_walked" ["_law_found", "_law_rows", "_law_wanted", "_law_width", "_law_p"] [] spWalk)
    (o_law_doors : Own P w K mg base CX0 11 "_law_doors" ["_law_rows", "_law_wanted", "_law_width", "_law_p"] [] (spDoors K PR PL PD)) (G_law_why : Gives P w K mg base 10 8 "_law_why" gwhy (TTwhy K c))
    (k_stepped : OwnK P w K mg base (L2.CX P w) 5 2 "stepped" ["rows", "width", "prime"] ["prime"] (spStep (TL3 PR PL PD)))
    (k_solved : OwnK P w K mg base (L2.CX P w) 7 3 "solved" ["rows", "wanted", "width", "prime"] ["prime"] (spSolve (TL3 PR PL PD))) (o_solved : Own P w K mg base (L2.CX P w) 7 "solved" ["rows", "wanted", "width", "prime"] [.int 2] (spSolve (TL3 PR PL PD)))
    (k_d_solved : OwnK P w K mg base (L2.CX P w) 7 3 "solved" ["rows", "wanted", "width", "prime"] ["prime"] (spDoorS C)) : FnOk P w K mg base CX0 12 f fd ["_law_script"] (spLaw K PR PL PD) := by
  refine FunD_okC F hcd sc_law (fun vs H Q E h => ?_) (fun A outer s H vs Q E hr h => ?_)
  · obtain ⟨a, ns, rfl, _⟩ := h
    rfl
  · obtain ⟨a, ns, rfl, hS, hT, k⟩ := h
    have hmT : (PL, lamQ) ∈ TL3 PR PL PD := by simp
    have hu : ∀ p ∈ TL3 PR PL PD, p.1 = PL → p.2 = lamQ := fun p hp e => by
      rcases List.mem_cons.mp hp with rfl | hp
      · exact absurd e hneR
      · rcases List.mem_cons.mp hp with rfl | hp
        · rfl
        · rw [List.mem_singleton.mp hp] at e
          exact absurd e.symm hneL
    refine ⟨_, PSs.nox (pss_cons (ps_set (i := 1) sc_law.nd rfl (Or.inl rfl) (pe_own o_law_begin (hr.mono (by decide)) rfl pass0 (pa_cons (pv 0) pa_nil)))
      (pss_cons (ps_for PassesOwn.never rfl (pi_range1 (by rfl) T.f_range (pa_cons pe_int pa_nil)) (pg_name (i := 2) sc_law.nd rfl (Or.inl rfl)) (pss_cons (ps_asg (pe_tup (pa_cons (pe_own o_law_any_prime (hr.mono (by decide)) rfl pass0 (pa_cons (pv 1) pa_nil)) (pa_cons (pe_op op_add pe_int (pe_own o_law_take (hr.mono (by decide)) rfl pass0 (pa_cons (pv 1) (pa_cons pe_int pa_nil)))) pa_nil))) (pg_tup rfl (pgs_cons (pg_name (i := 3) sc_law.nd rfl (Or.inr rfl)) (pgs_cons (pg_name (i := 4) sc_law.nd rfl (Or.inr rfl)) pgs_nil))))
      (pss_cons (ps_set (i := 5) sc_law.nd rfl (Or.inr rfl) (pe_own o_law_table (hr.mono (by decide)) rfl pass0 (pa_cons (pv 1) (pa_cons (pv 4) (pa_cons (pv 3) pa_nil)))))
      (pss_cons (ps_set (i := 6) sc_law.nd rfl (Or.inl rfl) (pe_callTy call_tuple_of (by rfl) T.f_tuple (by decide +kernel) (pa_cons (pe_own o_law_rests (hr.mono (by decide)) rfl pass0 (pa_cons (pv 1) (pa_cons (pv 4) (pa_cons (pv 3) pa_nil)))) pa_nil)))
      (C8.pss_cut (ps_if (pt_cmpR op_eq (pe_own o_law_take (hr.mono (by decide)) rfl pass0 (pa_cons (pv 1) (pa_cons pe_int pa_nil))) pe_int (nomark _)) (pss_one (ps_set (i := 6) sc_law.nd rfl (Or.inl rfl) (pe_own o_law_weighed (hr.mono (by decide)) rfl pass0 (pa_cons (pv 5) (pa_cons (pe_own o_law_rests (hr.mono (by decide)) rfl pass0 (pa_cons (pv 1) (pa_cons (pe_callB call_len_seq (by rfl) T.f_len PySem.boot_len (pa_cons (pv 5) pa_nil)) (pa_cons (pv 3) pa_nil)))) (pa_cons (pv 4) (pa_cons (pv 3) pa_nil))))))) pss_nil)
      (pss_cons (ps_set (i := 7) sc_law.nd rfl (Or.inl rfl) (pe_callTy call_list_of (by rfl) T.f_list (by decide +kernel) (pa_cons (pv 5) pa_nil)))
      (C8.pss_cut (ps_set (i := 8) sc_law.nd rfl (Or.inl rfl) (pe_ownK k_solved (hr.mono (by decide)) rfl passL (pa_cons (pv 7) (pa_cons (pv 6) (pa_cons (pv 4) pa_nil))) (pk_cons (pv 3) pk_nil)))
      (C8.pss_cut (ps_if (PW.pt (pw_or (pt_cmpR (op_neD hr.units) (pv 7) (pv 5) (nomark _)) (pw_or1 (pt_not (pt_val (pe_own o_law_walked (hr.mono (by decide)) rfl pass0 (pa_cons (pv 8) (pa_cons (pv 5) (pa_cons (pv 6) (pa_cons (pv 4) (pa_cons (pv 3) pa_nil))))))))))) (pss_one (ps_ret pe_bl)) pss_nil)
      (C8.pss_cut (ps_set (i := 9) sc_law.nd rfl (Or.inl rfl) (pe_ownK k_stepped (hr.mono (by decide)) rfl passL (pa_cons (pe_op op_cat (pv 5) (pe_lst (pa_cons (pv 6) pa_nil))) (pa_cons (pv 4) pa_nil)) (pk_cons (pv 3) pk_nil)))
      (C8.pss_cut (ps_if (pt_cmpR op_ne (pe_cmpR op_eq (pe_ix ix_tup (pv 8) pe_int (fun _ _ => rfl)) pe_str (nomark _)) (pe_cmpR (op_eqD hr.units) (pv 9) (pe_ownK k_stepped (hr.mono (by decide)) rfl passL (pa_cons (pv 5) (pa_cons (pv 4) pa_nil)) (pk_cons (pv 3) pk_nil)) (nomark _)) (nomark _)) (pss_one (ps_ret pe_bl)) pss_nil)
      (pss_cons (ps_set (i := 10) sc_law.nd rfl (Or.inl rfl) (pe_own o_law_take (hr.mono (by decide)) rfl pass0 (pa_cons (pv 1) (pa_cons (pe_op op_add (pe_callB call_len_seq (by rfl) T.f_len PySem.boot_len (pa_cons (pv 5) pa_nil)) pe_int) pa_nil))))
      (pss_cons (ps_set (i := 11) sc_law.nd rfl (Or.inr rfl) (pe_own o_law_of (hr.mono (by decide)) rfl pass0 (pa_cons (pv 1) (pa_cons (pe_lst (pa_cons (pe_op op_catA (pv 6) (pe_tup (pa_cons pe_int pa_nil))) (pa_cons (pe_slice sl_tupA (pv 6) (po_some pe_int) po_none) (pa_cons (pe_op op_catA (pe_slice sl_tupA (pv 6) po_none (po_some (pe_un un_neg pe_int))) (pe_tup (pa_cons (pe_own o_law_far (hr.mono (by decide)) rfl pass0 (pa_cons (pv 1) (pa_cons (pv 3) pa_nil))) pa_nil))) pa_nil)))) pa_nil))))
      (pss_cons (ps_set (i := 12) sc_law.nd rfl (Or.inl rfl) (pe_op op_cat (pe_op op_cat (pe_op op_cat (pe_slice sl_list (pv 5) po_none (po_some (pv 10))) (pe_lst (pa_cons (pv 11) pa_nil))) (pe_slice sl_list (pv 5) (po_some (pv 10)) po_none)) (pe_op op_rep (pe_lst (pa_cons (pv 11) pa_nil)) (pe_own o_law_take (hr.mono (by decide)) rfl pass0 (pa_cons (pv 1) (pa_cons pe_int pa_nil))))))
      (C8.pss_cut (ps_if (pt_cmpR (op_neD hr.units) (pe_own o_law_doors (hr.mono (by decide)) rfl pass0 (pa_cons (pv 12) (pa_cons (pv 11) (pa_cons (pv 4) (pa_cons (pv 3) pa_nil))))) (pe_op op_rep (pe_lst (pa_cons (pe_tup (pa_cons pe_str (pa_cons (pv 10) pa_nil))) pa_nil)) pe_int) (nomark _)) (pss_one (ps_ret pe_bl)) pss_nil)
      (C8.pss_cut (ps_if (pt_cmpR (op_neD hr.units) (pe_lam (T := TL3 PR PL PD) (kl := 8) G_law_why rfl TB rfl hmT hu (hr.mono (by decide)) (lamS_by (sc := defScope s_law) (by decide +kernel)) rfl (fun _ _ _ _ _ => rfl) (fun A outer s H E f c' hr2 => (pe_ownK k_d_solved (hr2.mono (by decide)) rfl (passes_call (takes_of rfl rfl rfl rfl) (fun _ _ _ _ h => h)) (pa_cons (pv 5) (pa_cons (pv 11) (pa_cons (pv 4) pa_nil))) (pk_cons (pv 3) pk_nil)))) (pe_tup (pa_cons pe_str (pa_cons pe_int pa_nil))) (nomark _)) (pss_one (ps_ret pe_bl)) pss_nil)
      (pss_cons (ps_set (i := 13) sc_law.nd rfl (Or.inl rfl) (pe_own o_law_of (hr.mono (by decide)) rfl pass0 (pa_cons (pv 1) (pa_cons (pe_lst (pa_cons pe_int (pa_cons pe_int (pa_cons (pe_un un_neg pe_int) (pa_cons (pe_op op_pow pe_int pe_int) pa_nil))))) pa_nil))))
      (C8.pss_cut (ps_if (pt_cmpR (op_neD hr.units) (pe_own o_law_doors (hr.mono (by decide)) rfl pass0 (pa_cons (pv 12) (pa_cons (pv 11) (pa_cons (pv 13) (pa_cons (pv 3) pa_nil))))) (pe_op op_rep (pe_lst (pa_cons (pe_tup (pa_cons pe_str (pa_cons pe_non pa_nil))) pa_nil)) pe_int) (nomark _)) (pss_one (ps_ret pe_bl)) pss_nil)
      (pss_one (ps_if (pt_cmpR (op_neD hr.units) (pe_own o_law_doors (hr.mono (by decide)) rfl pass0 (pa_cons (pv 12) (pa_cons (pv 11) (pa_cons (pv 13) (pa_cons (pe_own o_law_bad_prime (hr.mono (by decide)) rfl pass0 (pa_cons (pv 1) pa_nil)) pa_nil))))) (pe_op op_rep (pe_lst (pa_cons (pe_tup (pa_cons pe_str (pa_cons pe_non pa_nil))) pa_nil)) pe_int) (nomark _)) (pss_one (ps_ret pe_bl)) pss_nil)))))))))))))))))))
      (pss_cons (ps_set (i := 14) sc_law.nd rfl (Or.inl rfl) (pe_op op_rep (pe_lst (pa_cons (pe_op op_repZ (pe_tup (pa_cons pe_int pa_nil)) pe_int) pa_nil)) pe_int))
      (pss_one (ps_ret (pe_and (pe_cmpR (op_eqD hr.units) (pe_own o_law_doors (hr.mono (by decide)) rfl pass0 (pa_cons (pv 14) (pa_cons (pe_tup (pa_cons pe_int pa_nil)) (pa_cons pe_int (pa_cons pe_int pa_nil))))) (pe_op op_rep (pe_lst (pa_cons (pe_tup (pa_cons pe_str (pa_cons pe_int pa_nil))) pa_nil)) pe_int) (nomark _)) (pe_one (pe_cmpR (op_eqD hr.units) (pe_own o_solved (hr.mono (by decide)) rfl passL (pa_cons (pe_lst pa_nil) (pa_cons (pe_tup (pa_cons pe_int pa_nil)) (pa_cons pe_int pa_nil)))) (pe_tup (pa_cons pe_str (pa_cons (pe_lst pa_nil) pa_nil))) (nomark _))))))))) , ?_⟩
    refine ⟨_, rfl, a, ns, rfl, hS, fun d H1 s1 nd D1 => ?_⟩
    refine ⟨3, rfl, by decide, by decide, ?_⟩
    refine for_range (lo := 0) (n := 3) (fun i σ' H' => ∃ x2 x3 x4 x5 x6 x7 x8 x9 x10 x11 x12 x13 x14, σ' = [some (.ref a), some (.ref d), x2, x3, x4, x5, x6, x7, x8, x9, x10, x11, x12, x13, x14] ∧ Tw d (TL3 PR PL PD) [] [] H') ⟨none, none, none, none, none, none, none, none, none, none, none, none, none, rfl, D1, hT.ext s1, fun p hp => (nomatch hp), fun p hp => (nomatch hp)⟩ ?_ ?_
    · rintro i σ' H2 hi ⟨x2, x3, x4, x5, x6, x7, x8, x9, x10, x11, x12, x13, x14, rfl, W2⟩
      refine ⟨_, rfl, d, rfl, W2.D, fun p H3 hp D3 B3 => ⟨_, rfl, d, 9, rfl, D3, by decide, by decide, fun m H4 m0 m1 D4 B4 => ?_⟩⟩
      obtain ⟨j, rfl⟩ := Int.eq_ofNat_of_zero_le m0
      have hpm := pm_of hp
      have lo := hpm.lo
      have hi1000 := hpm.hi
      have W4 := (W2.but B3 D3).but B4 D4
      refine ⟨_, _, rfl, rfl, ?_⟩
      rw [show (fun i j : Int => V.int (i + j)) 1 ((j : Nat) : Int) = V.int ((j + 1 : Nat) : Int) from congrArg V.int (by omega)]
      obtain ⟨n, hn⟩ : ∃ n, n = j + 1 := ⟨_, rfl⟩
      rw [← hn]
      have n1 : 1 ≤ n := by omega
      have n9 : n ≤ 9 := by omega
      refine ⟨(by show 2 ≤ sizeLine; decide), fun t ht => ⟨t, _, rfl, .inl (.inl upd_same), rfl, _, _, rfl, _, _, rfl, rfl, ?_⟩⟩
      have W5 := W4.same (same_upd (o := .tup [.int p, .int n]) ht)
      refine ⟨_, rfl, _, rfl, _, rfl, d, n, p, rfl, W5.D, n1, by omega, hpm, fun R la rs H6 D6 B6 eR hR hrw lrs nR neR => ?_⟩
      have lla := hR.len
      have W6 := ((W5.but B6 D6).putL eR neR).putR hR
      refine ⟨_, rfl, _, rfl, _, rfl, d, n, p, rfl, W6.D, by omega, hpm, fun ms a3 H7 lm rm D7 B7 ea had ha0 => ⟨a3, _, rfl, .inl ⟨SqL.of ea, fun t3 ht3 => ?_⟩⟩⟩
      have st3 := same_upd (o := .tup (ms.map V.int)) ht3
      have W7 := ((W6.but B7 D7).same st3).putR (la := [t3]) (rs := [ms]) ⟨upd_same, trivial⟩
      have wm0 : Rw p n ms := ⟨lm, rm⟩
      refine ⟨fun σ' H' => ∃ (wv : Addr) (wn : List Int), σ' = [some (.ref a), some (.ref d), some (.int (0 + (i : Int))), some (.int p), some (.int n), some (.ref R), some (.ref wv), x7, x8, x9, x10, x11, x12, x13, x14] ∧ Rw p n wn ∧ Tw d (TL3 PR PL PD) [(R, la.map V.ref)] [([wv], [wn]), (la, rs)] H', ?_, ?_⟩
      · refine ⟨_, rfl, d, 2, rfl, W7.D, by decide, by decide, fun m2 H8 _ _ D8 B8 => ⟨rfl, _, rfl, ite2 (fun hc => ?_) (fun hc => ?_)⟩⟩
        · have W8 := W7.but B8 D8
          have eR8 := (W8.l (R, la.map V.ref) (by simp)).2
          refine ⟨_, rfl, _, rfl, _, rfl, R, _, rfl, .inl (SqL.of eR8), _, rfl, d, (la.map V.ref).length, p, rfl, W8.D, by rw [List.length_map]; omega, hpm, fun ws Wd H9 lw rw D9 B9 eW hWd nW => ?_⟩
          rw [List.length_map] at lw
          have W9 := W8.but B9 D9
          have eR9 := (W9.l (R, la.map V.ref) (by simp)).2
          have hR9 := W9.r (la, rs) (by simp)
          refine ⟨_, rfl, _, rfl, R, Wd, la, rs, ws, n, p, rfl, eR9, hR9, hrw, eW, by omega, rw, n1, by omega, hpm, fun v ms2 H10 s10 ev wm em => ?_⟩
          have W10 := W9.same s10
          exact ⟨v, ms2, rfl, wm, W10.D, W10.T, fun x hx => W10.l x hx, fun x hx => by
            rcases List.mem_cons.mp hx with rfl | hx
            · exact ⟨ev, trivial⟩
            · exact W10.r x (List.mem_cons_of_mem _ hx)⟩
        · exact ⟨t3, ms, rfl, wm0, W7.but B8 D8⟩
      rintro σ1 H8 ⟨wv, wn, rfl, ww, W8⟩
      have eR8 := (W8.l (R, la.map V.ref) (by simp)).2
      refine ⟨_, rfl, R, _, rfl, .inl (SqL.of eR8), fun L hL => ?_⟩
      have neL : L ≠ d := W8.D.ne hL
      have W9 := (W8.same (same_upd (o := .lst (la.map V.ref)) hL)).putL upd_same neL
      have eL9 := (W9.l (L, la.map V.ref) (by simp)).2
      have hR9 := W9.r (la, rs) (by simp)
      have hw9 : _ ∧ True := W9.r ([wv], [wn]) (by simp)
      generalize L2.upd H8 L (.lst (la.map V.ref)) = H9 at W9 eL9 hR9 hw9
      refine ⟨fun σ' H' => ∃ t : Addr, σ' = [some (.ref a), some (.ref d), some (.int (0 + (i : Int))), some (.int p), some (.int n), some (.ref R), some (.ref wv), some (.ref L), some (.ref t), x9, x10, x11, x12, x13, x14] ∧ Gr (TL3 PR PL PD) H9 H' ∧ Told H' t n p rs wn, ?_, ?_⟩
      · refine ⟨_, rfl, _, rfl, _, rfl, _, rfl, rfl, rfl, L, wv, la, wn, rs, n, p, rfl, eL9, hR9, hrw, by omega, n1, by omega, hp, W9.T, hw9.1, ww, fun t A vs H10 g10 et eA lv rv em => ?_, fun t A ms H10 g10 et eA wm z one => ?_⟩
        · exact ⟨t, rfl, g10, A, .inl ⟨vs, et, eA, lv, rv, em⟩⟩
        · exact ⟨t, rfl, g10, A, .inr ⟨ms, et, eA, wm, z, one⟩⟩
      rintro σ2 H10 ⟨t, rfl, g10, told⟩
      have W10 := W9.gr g10
      have eL10 := (W10.l (L, la.map V.ref) (by simp)).2
      have eR10 := (W10.l (R, la.map V.ref) (by simp)).2
      have hR10 := W10.r (la, rs) (by simp)
      have hw10 : _ ∧ True := W10.r ([wv], [wn]) (by simp)
      refine ⟨fun σ' H' => σ' = [some (.ref a), some (.ref d), some (.int (0 + (i : Int))), some (.int p), some (.int n), some (.ref R), some (.ref wv), some (.ref L), some (.ref t), x9, x10, x11, x12, x13, x14] ∧ Same H10 H', ?_, ?_⟩
      · obtain ⟨A0, alt⟩ := told
        refine ⟨_, rfl, _, rfl, _, _, dp_tab eL10 hR10, dp_tab eR10 hR10, shT rs, shT rs, _, rfl, ?_⟩
        rw [eqv_tab]
        refine iteF ⟨_, rfl, _, rfl, _, rfl, _, rfl, _, rfl, t, R, wv, A0, la, wn, rs, n, p, rfl, eR10, hR10, hrw, by omega, n1, by omega, hpm, hw10.1, ww, alt, fun H11 s11 => ⟨_, rfl, iteF ⟨rfl, s11⟩⟩⟩
      rintro σ3 H11 ⟨rfl, s11⟩
      obtain ⟨A1, et⟩ := told.word lo
      have W11 := W10.same s11
      have et11 := s11 _ _ et
      have eR11 := (W11.l (R, la.map V.ref) (by simp)).2
      have hR11 := W11.r (la, rs) (by simp)
      have hw11 : _ ∧ True := W11.r ([wv], [wn]) (by simp)
      refine ⟨fun σ' H' => ∃ (D : Addr) (ds : List Addr) (sp : List Nat) (ts : List (List Int)), σ' = [some (.ref a), some (.ref d), some (.int (0 + (i : Int))), some (.int p), some (.int n), some (.ref R), some (.ref wv), some (.ref L), some (.ref t), some (.ref D), x10, x11, x12, x13, x14] ∧ Gr (TL3 PR PL PD) H11 H' ∧ H' D = some (.lst (ds.map V.ref)) ∧ Rws H' ds ts ∧ Form p n (rs ++ [wn]) sp ts, ?_, ?_⟩
      · refine ⟨_, rfl, _, rfl, (by show 1 ≤ sizeLine; decide), fun L1 hL1 => ?_⟩
        have sL1 := same_upd (o := .lst [.ref wv]) hL1
        refine ⟨R, L1, _, _, rfl, rfl, sL1 _ _ eR11, upd_same, ?_, fun Z hZ => ?_⟩
        · rw [List.length_map]
          exact Nat.le_trans (show la.length + 1 ≤ 1000 by omega) (Nat.le_of_lt (small1000 (Nat.le_refl _)))
        have sZ := same_upd (o := .lst (la.map V.ref ++ [.ref wv])) hZ
        have s12 := sL1.trans sZ
        have W12 := W11.same s12
        have eZ : L2.upd (L2.upd H11 L1 (.lst [.ref wv])) Z (.lst (la.map V.ref ++ [.ref wv])) Z = some (.lst ((la ++ [wv]).map V.ref)) := by
          rw [upd_same, List.map_append]
          rfl
        have hZr := Rws.snoc (s12 _ _ hw11.1) (hR11.keep (kpS s12))
        have hZw : ∀ r ∈ rs ++ [wn], Rw p n r := fun r hr => (List.mem_append.mp hr).elim (hrw r) fun h => by
          rw [List.mem_singleton.mp h]
          exact ww
        have lz : (rs ++ [wn]).length ≤ 24 := by
          rw [List.length_append]
          show rs.length + 1 ≤ 24
          omega
        refine ⟨_, rfl, _, rfl, rfl, rfl, Z, la ++ [wv], rs ++ [wn], n, p, rfl, eZ, hZr, hZw, lz, n1, by omega, hp, W12.T, fun D ds sp ts H' g nD eD hD F => ?_⟩
        exact ⟨D, ds, sp, ts, rfl, (Gr.of W11.T s12).trans g, eD, hD, F⟩
      rintro σ4 H12 ⟨D, ds, sp, ts, rfl, g12, eD12, hD12, F12⟩
      have W12 := W11.gr g12
      have eR12 := (W12.l (R, la.map V.ref) (by simp)).2
      have hR12 := W12.r (la, rs) (by simp)
      have et12 := g12.tup et11
      refine ⟨fun σ' H' => σ' = [some (.ref a), some (.ref d), some (.int (0 + (i : Int))), some (.int p), some (.int n), some (.ref R), some (.ref wv), some (.ref L), some (.ref t), some (.ref D), x10, x11, x12, x13, x14] ∧ Gr (TL3 PR PL PD) H12 H', ?_, ?_⟩
      · refine ⟨_, rfl, t, _, 0, .str (wordOf p rs wn), rfl, rfl, sqD et12, rfl, rfl, _, rfl, _, rfl, _, rfl, _, rfl, rfl, rfl, R, la, rs, n, p, rfl, eR12, hR12, hrw, by omega, n1, by omega, hp, W12.T, fun D2 ds2 sp2 ts2 H' g nD eD hD F2 => ?_⟩
        refine ⟨_, _, dp_tab (g.lt eD12) (hD12.keep (kpX g.x)), dp_tab eD hD, shT ts, shT ts2, rfl, _, rfl, ?_⟩
        rw [eqv_tab2]
        by_cases hm : Xp.Sp p (rset rs) (co wn)
        · rw [word_made hm, decide_eq_true ((F12.more lo F2).mpr hm)]
          exact iteF ⟨rfl, g⟩
        · rw [word_barred hm, decide_eq_false fun e => hm ((F12.more lo F2).mp e)]
          exact iteF ⟨rfl, g⟩
      rintro σ5 H13 ⟨rfl, g13⟩
      have W13 := W12.gr g13
      have eR13 := (W13.l (R, la.map V.ref) (by simp)).2
      have hR13 := W13.r (la, rs) (by simp)
      have hw13 : _ ∧ True := W13.r ([wv], [wn]) (by simp)
      refine ⟨_, rfl, _, rfl, R, _, rfl, .inl (SqL.of eR13), _, _, rfl, rfl, d, _, rfl, W13.D, ?_, ?_, fun m3 H14 m30 m31 D14 B14 => ?_⟩
      · rw [List.length_map]
        omega
      · rw [List.length_map]
        omega
      obtain ⟨ct, rfl⟩ := Int.eq_ofNat_of_zero_le m30
      have hct : ct ≤ rs.length := by
        rw [List.length_map] at m31
        omega
      have W14 := W13.but B14 D14
      have hw14 : _ ∧ True := W14.r ([wv], [wn]) (by simp)
      have lwn := ww.len
      refine ⟨_, rfl, _, rfl, (by show 1 ≤ sizeLine; decide), fun Z1 hZ1 => ?_⟩
      have sz1 := same_upd (o := .tup [.int 0]) hZ1
      refine catL (xs := wn) (ys := [0]) (sz1 _ _ hw14.1) (ne_len lwn n1) (sqD upd_same) (by omega) (by show 1 ≤ 100; decide) fun A1 H15 s15 e15 => ?_
      refine ⟨_, rfl, 1, rfl, ?_⟩
      unfold tNoPart
      have s1415 := sz1.trans s15
      refine slTail (n := 1) (s1415 _ _ hw14.1) (by omega) fun A2 H16 s16 e16 => ?_
      have s1416 := s1415.trans s16
      refine ⟨_, rfl, 1, rfl, _, rfl, ?_⟩
      refine slInit (s1416 _ _ hw14.1) (by omega) fun A3 H17 s17 e17 => ?_
      have s1417 := s1416.trans s17
      have W17 := (W14.same s1417).putR (la := [A1, A2, A3]) (rs := [wn ++ [0], wn.drop 1, wn.take (wn.length - 1)]) ⟨(s16.trans s17) _ _ e15, s17 _ _ e16, e17, trivial⟩
      refine ⟨_, rfl, _, rfl, d, p, rfl, W17.D, hp, fun m H18 hm D18 B18 => ⟨(by show 1 ≤ sizeLine; decide), fun Z3 hZ3 => ?_⟩⟩
      have W18 := (W17.but B18 D18).same (same_upd (o := .tup [.int m]) hZ3)
      obtain ⟨_, _, e18, _⟩ : _ ∧ _ ∧ _ ∧ True := W18.r ([A1, A2, A3], [wn ++ [0], wn.drop 1, wn.take (wn.length - 1)]) List.mem_cons_self
      refine catU (ys := [m]) e18 upd_same (by rw [List.length_take]; omega) (by show 1 ≤ 100; decide) fun A4 H19 s19 e19 => ?_
      have W19 := W18.same s19
      obtain ⟨ea1, ea2, _, _⟩ : _ ∧ _ ∧ _ ∧ True := W19.r ([A1, A2, A3], [wn ++ [0], wn.drop 1, wn.take (wn.length - 1)]) List.mem_cons_self
      have W20 := W19.putR (la := [A1, A2, A4]) (rs := [wn ++ [0], wn.drop 1, wn.take (wn.length - 1) ++ [m]]) ⟨ea1, ea2, e19, trivial⟩
      refine ⟨(by show 3 ≤ sizeLine; decide), fun LL hLL => ?_⟩
      have W21 := W20.same (same_upd (o := .lst [.ref A1, .ref A2, .ref A4]) hLL)
      refine ⟨d, LL, _, rfl, W21.D, SqL.of upd_same, W20.D.ne hLL, (by show 0 < 3; decide), (by show 3 ≤ 1000; decide), fun x H22 hx D22 B22 => ?_⟩
      have W22 := W21.but B22 D22
      obtain ⟨ra, rr, rfl, er22, hbad, lrr⟩ : ∃ (ra : Addr) (rr : List Int), x = .ref ra ∧ H22 ra = some (.tup (rr.map V.int)) ∧ rowB p n rr = false ∧ rr.length ≤ 100 := by
        obtain ⟨g1, g2, g3, _⟩ : _ ∧ _ ∧ _ ∧ True := W22.r ([A1, A2, A4], [wn ++ [0], wn.drop 1, wn.take (wn.length - 1) ++ [m]]) List.mem_cons_self
        simp only [List.mem_cons, List.not_mem_nil, or_false] at hx
        rcases hx with rfl | rfl | rfl
        · exact ⟨_, _, rfl, g1, rowB_len (by rw [List.length_append]; show ((wn.length + 1 : Nat) : Int) ≠ n; omega), by rw [List.length_append]; show wn.length + 1 ≤ 100; omega⟩
        · exact ⟨_, _, rfl, g2, rowB_len (by rw [List.length_drop]; omega), by rw [List.length_drop]; omega⟩
        · exact ⟨_, _, rfl, g3, rowB_far hm (by simp), by rw [List.length_append, List.length_take]; show min (wn.length - 1) wn.length + 1 ≤ 100; omega⟩
      have W23 : Tw d (TL3 PR PL PD) [(R, la.map V.ref)] [([ra], [rr]), (la, rs)] H22 := ⟨W22.D, W22.T, fun x hx => W22.l x (by
        rw [List.mem_singleton.mp hx]
        simp), fun x hx => by
        rcases List.mem_cons.mp hx with rfl | hx
        · exact ⟨er22, trivial⟩
        · rw [List.mem_singleton.mp hx]
          exact W22.r (la, rs) (by simp)⟩
      have eR23 := (W23.l (R, la.map V.ref) (by simp)).2
      have lmr : (la.map V.ref).length = la.length := List.length_map ..
      refine ⟨_, rfl, _, rfl, _, rfl, R, _, rfl, SqL.of eR23, fun T1 hT1 => ?_⟩
      rw [cutHead _ (by omega)]
      have q1 := same_upd (o := .lst ((la.map V.ref).take ct)) hT1
      refine ⟨_, rfl, (by show 1 ≤ sizeLine; decide), fun T2 hT2 => ?_⟩
      have q2 := same_upd (o := .lst [.ref ra]) hT2
      refine ⟨T1, T2, _, _, rfl, rfl, q2 _ _ upd_same, upd_same, ?_, fun T3 hT3 => ?_⟩
      · rw [List.length_take, lmr]
        exact Nat.le_trans (show min ct la.length + 1 ≤ 1000 by omega) (Nat.le_of_lt (small1000 (Nat.le_refl _)))
      have q3 := same_upd (o := .lst ((la.map V.ref).take ct ++ [.ref ra])) hT3
      have q123 := (q1.trans q2).trans q3
      refine ⟨_, rfl, _, rfl, _, rfl, R, _, rfl, SqL.of (q123 _ _ eR23), fun T4 hT4 => ?_⟩
      rw [cutTail _ (by omega)]
      have q4 := same_upd (o := .lst ((la.map V.ref).drop ct)) hT4
      refine ⟨T3, T4, _, _, rfl, rfl, q4 _ _ upd_same, upd_same, ?_, fun T5 hT5 => ?_⟩
      · rw [List.length_append, List.length_take, List.length_drop, lmr]
        exact Nat.le_trans (show min ct la.length + 1 + (la.length - ct) ≤ 1000 by omega) (Nat.le_of_lt (small1000 (Nat.le_refl _)))
      have q5 := same_upd (o := .lst ((la.map V.ref).take ct ++ [.ref ra] ++ (la.map V.ref).drop ct)) hT5
      have q15 := (q123.trans q4).trans q5
      have W24 := (W23.same q15).putL (p := T5) upd_same ((W23.same (q123.trans q4)).D.ne hT5)
      generalize L2.upd _ T5 _ = H24 at W24 q15
      refine ⟨_, rfl, (by show 1 ≤ sizeLine; decide), fun T6 hT6 => ?_⟩
      have W25 := (W24.same (same_upd (o := .lst [.ref ra]) hT6)).putL (p := T6) upd_same (W24.D.ne hT6)
      refine ⟨_, rfl, d, 2, rfl, W25.D, by decide, by decide, fun m5 H26 m50 m51 D26 B26 => ?_⟩
      obtain ⟨kk, rfl⟩ := Int.eq_ofNat_of_zero_le m50
      have hkk : kk ≤ 1 := by omega
      have W26 := W25.but B26 D26
      have e6 := (W26.l (T6, [.ref ra]) (by simp)).2
      refine ⟨T6, kk, _, rfl, rfl, e6, by omega, by omega, ?_, fun T7 hT7 => ?_⟩
      · show 1 * (Int.toNat (kk : Int)) ≤ sizeLine
        rw [Int.toNat_natCast]
        exact Nat.le_trans (show 1 * kk ≤ 1000 by omega) (Nat.le_of_lt (small1000 (Nat.le_refl _)))
      rw [Int.toNat_natCast, flat_rep]
      have q7 := same_upd (o := .lst (List.replicate kk (.ref ra))) hT7
      have e5 := (W26.l (T5, _) (List.mem_cons_of_mem _ List.mem_cons_self)).2
      refine ⟨T5, T7, _, _, rfl, rfl, q7 _ _ e5, upd_same, ?_, fun BT hBT => ?_⟩
      · rw [List.length_append, List.length_append, List.length_take, List.length_drop, lmr, List.length_replicate]
        exact Nat.le_trans (show min ct la.length + 1 + (la.length - ct) + kk ≤ 1000 by omega) (Nat.le_of_lt (small1000 (Nat.le_refl _)))
      obtain ⟨bl, hbl⟩ : ∃ bl : List Addr, bl = la.take ct ++ ra :: (la.drop ct ++ List.replicate kk ra) := ⟨_, rfl⟩
      obtain ⟨brs, hbrs⟩ : ∃ brs : List (List Int), brs = rs.take ct ++ rr :: (rs.drop ct ++ List.replicate kk rr) := ⟨_, rfl⟩
      have ebl : (la.map V.ref).take ct ++ [.ref ra] ++ (la.map V.ref).drop ct ++ List.replicate kk (.ref ra) = bl.map V.ref := by
        rw [hbl]
        simp [List.map_take, List.map_drop]
      rw [ebl]
      have qB := q7.trans (same_upd (o := .lst (bl.map V.ref)) hBT)
      obtain ⟨era26, _⟩ : _ ∧ True := W26.r ([ra], [rr]) (by simp)
      have hR26 := W26.r (la, rs) (by simp)
      have hB26 : Rws H26 bl brs := by
        rw [hbl, hbrs]
        exact Rws.app (ls' := ra :: _) (rs' := rr :: _) ⟨era26, Rws.app (Rws.rep era26 kk) (hR26.drop ct)⟩ (hR26.take ct)
      have eB27 : L2.upd (L2.upd H26 T7 (.lst (List.replicate kk (.ref ra)))) BT (.lst (bl.map V.ref)) BT = some (.lst (bl.map V.ref)) := upd_same
      have neB : BT ≠ d := (W26.same q7).D.ne hBT
      have W27 : Tw d (TL3 PR PL PD) [(BT, bl.map V.ref), (R, la.map V.ref)] [(bl, brs), ([ra], [rr]), (la, rs)] _ := ⟨(W26.same qB).D, (W26.same qB).T, fun x hx => by
        rcases List.mem_cons.mp hx with rfl | hx
        · exact ⟨neB, eB27⟩
        · exact (W26.same qB).l x (by
            rw [List.mem_singleton.mp hx]
            simp), fun x hx => by
        rcases List.mem_cons.mp hx with rfl | hx
        · exact hB26.keep (kpS qB)
        · exact (W26.same qB).r x hx⟩
      generalize L2.upd (L2.upd H26 T7 (.lst (List.replicate kk (.ref ra)))) BT (.lst (bl.map V.ref)) = H27 at W27
      have lct : (rs.take ct).length = ct := by
        rw [List.length_take]
        omega
      have fb : FirstBad p n brs ct := by
        have z := FirstBad.at_ (p := p) (n := n) (as := rs.take ct) (bs := rs.drop ct ++ List.replicate kk rr) (rr := rr) (by omega) (fun r hr => rowB_good (hrw r (List.mem_of_mem_take hr))) hbad
        rw [lct, ← hbrs] at z
        exact z
      have hg100 : ∀ r ∈ rs, r.length ≤ 100 := fun r hr => by
        have := (hrw r hr).len
        omega
      have hl100 : ∀ r ∈ brs, r.length ≤ 100 := fun r hr => by
        rw [hbrs] at hr
        rcases List.mem_append.mp hr with hr | hr
        · exact hg100 r (List.mem_of_mem_take hr)
        rcases List.mem_cons.mp hr with rfl | hr
        · exact lrr
        rcases List.mem_append.mp hr with hr | hr
        · exact hg100 r (List.mem_of_mem_drop hr)
        · rw [List.eq_of_mem_replicate hr]
          exact lrr
      have lbrs : brs.length ≤ 40 := by
        rw [hbrs, List.length_append, List.length_cons, List.length_append, List.length_take, List.length_drop, List.length_replicate]
        omega
      refine ⟨fun σ' H' => σ' = [some (.ref a), some (.ref d), some (.int (0 + (i : Int))), some (.int p), some (.int n), some (.ref R), some (.ref wv), some (.ref L), some (.ref t), some (.ref D), some (.int ct), some (.ref ra), some (.ref BT), x13, x14] ∧ Tw d (TL3 PR PL PD) [(BT, bl.map V.ref), (R, la.map V.ref)] [(bl, brs), ([ra], [rr]), (la, rs)] H', ?_, ?_⟩
      · obtain ⟨era, _⟩ : _ ∧ True := W27.r ([ra], [rr]) (by simp)
        refine ⟨_, rfl, _, rfl, _, rfl, _, rfl, BT, ra, bl, rr, brs, n, p, "BadTable", .int ct, rfl, (W27.l (BT, bl.map V.ref) (by simp)).2, W27.r (bl, brs) (by simp), hl100, lbrs, era, lrr, W27.T, .inr (.inr ⟨hp, by omega, by omega, ct, fb, rfl, rfl⟩), fun q ts H28 g nq eq l3 ht3 => ?_⟩
        refine ⟨_, rfl, (by show 2 ≤ sizeLine; decide), fun t1 h1 => ⟨(by show 1 ≤ sizeLine; decide), fun l1 hl1 => ?_⟩⟩
        have r1 := same_upd (o := .tup [.str "BadTable", .int ct]) h1
        have r2 := same_upd (o := .lst [.ref t1]) hl1
        refine ⟨l1, 3, _, rfl, rfl, upd_same, by decide, by decide, (by show 3 ≤ sizeLine; decide), fun l2 hl2 => ?_⟩
        have r3 := same_upd (o := .lst [.ref t1, .ref t1, .ref t1]) hl2
        have r13 := (r1.trans r2).trans r3
        have et1 := (r2.trans r3) _ _ (upd_same (a := t1) (o := .tup [.str "BadTable", .int ct]))
        refine words_ne (t1 := t1) (t2 := t1) (t3 := t1) (by decide +kernel) (fun _ => .int ct) (.inr ⟨_, rfl⟩) (r13 _ _ eq) l3 (fun t ht => r13 _ _ (ht3 t ht)) upd_same et1 et1 et1 ⟨_, rfl, iteF ⟨rfl, (W27.gr g).same r13⟩⟩
      rintro σ6 H28 ⟨rfl, W28⟩
      refine ⟨fun σ' H' => σ' = [some (.ref a), some (.ref d), some (.int (0 + (i : Int))), some (.int p), some (.int n), some (.ref R), some (.ref wv), some (.ref L), some (.ref t), some (.ref D), some (.int ct), some (.ref ra), some (.ref BT), x13, x14] ∧ Tw d (TL3 PR PL PD) [(BT, bl.map V.ref), (R, la.map V.ref)] [(bl, brs), ([ra], [rr]), (la, rs)] H', ?_, ?_⟩
      · obtain ⟨era, _⟩ : _ ∧ True := W28.r ([ra], [rr]) (by simp)
        refine ⟨W28.T, fun H29 x29 t29 => ?_⟩
        have W29 := W28.ext x29 t29
        obtain ⟨era, _⟩ : _ ∧ True := W29.r ([ra], [rr]) (by simp)
        refine ⟨_, rfl, _, rfl, _, rfl, _, rfl, rfl, rfl, R, ra, la, rr, rs, n, p, rfl, (W29.l (R, la.map V.ref) (by simp)).2, W29.r (la, rs) (by simp), hg100, by omega, era, lrr, .inr ⟨⟨hp, by omega, by omega, by omega, fun r hr => rowB_good (hrw r hr)⟩, hbad, exf_why (j := 2) (by unfold wfs; decide) (by decide) KK.h2 KK.w2 KK.f2 fun H30 q1 s30 hq1 => ?_⟩⟩
        have sq := same_upd (o := .tup [.str "BadTable", .int 0]) hq1
        refine ⟨(by show 2 ≤ sizeLine; decide), fun q2 hq2 => ?_⟩
        have sq2 := same_upd (o := .tup [.str "BadTable", .int 0]) hq2
        exact word_ne (by decide +kernel) (.int 0) (.inr ⟨_, rfl⟩) (sq2 _ _ upd_same) upd_same ⟨_, rfl, iteF ⟨rfl, ((W29.same s30).same sq).same sq2⟩⟩
      rintro σ7 H29 ⟨rfl, W29⟩
      refine ⟨_, rfl, _, rfl, _, _, rfl, rfl, ⟨by decide, by decide, by decide⟩, (by show 4 ≤ sizeLine; decide), fun LW hLW => ?_⟩
      refine ⟨d, LW, _, rfl, (W29.same (same_upd hLW)).D, SqL.of upd_same, W29.D.ne hLW, (by show 0 < 4; decide), (by show 4 ≤ 1000; decide), fun x H30 hx D30 B30 => ?_⟩
      have W30 := (W29.same (same_upd hLW)).but B30 D30
      obtain ⟨wd, rfl, hwd⟩ : ∃ wd : Int, x = .int wd ∧ (wd < 1 ∨ 24 < wd) := by
        have big : (24 : Int) < (10 : Int) ^ Int.toNat 20 := by decide
        simp only [List.mem_cons, List.not_mem_nil, or_false] at hx
        rcases hx with rfl | rfl | rfl | rfl
        · exact ⟨_, rfl, .inl (by decide)⟩
        · exact ⟨_, rfl, .inr (by decide)⟩
        · exact ⟨_, rfl, .inl (by decide)⟩
        · exact ⟨_, rfl, .inr big⟩
      refine ⟨fun σ' H' => σ' = [some (.ref a), some (.ref d), some (.int (0 + (i : Int))), some (.int p), some (.int n), some (.ref R), some (.ref wv), some (.ref L), some (.ref t), some (.ref D), some (.int ct), some (.ref ra), some (.ref BT), some (.int wd), x14] ∧ Tw d (TL3 PR PL PD) [(BT, bl.map V.ref), (R, la.map V.ref)] [(bl, brs), ([ra], [rr]), (la, rs)] H', ?_, ?_⟩
      · obtain ⟨era, _⟩ : _ ∧ True := W30.r ([ra], [rr]) (by simp)
        refine ⟨_, rfl, _, rfl, _, rfl, _, rfl, BT, ra, bl, rr, brs, wd, p, "BadWidth", .non, rfl, (W30.l (BT, bl.map V.ref) (by simp)).2, W30.r (bl, brs) (by simp), hl100, lbrs, era, lrr, W30.T, .inr (.inl ⟨hp, hwd, rfl, rfl⟩), fun q ts H28 g nq eq l3 ht3 => ?_⟩
        refine ⟨(by show 2 ≤ sizeLine; decide), fun t1 h1 => ⟨(by show 1 ≤ sizeLine; decide), fun l1 hl1 => ?_⟩⟩
        have r1 := same_upd (o := .tup [.str "BadWidth", .non]) h1
        have r2 := same_upd (o := .lst [.ref t1]) hl1
        refine ⟨l1, 3, _, rfl, rfl, upd_same, by decide, by decide, (by show 3 ≤ sizeLine; decide), fun l2 hl2 => ?_⟩
        have r3 := same_upd (o := .lst [.ref t1, .ref t1, .ref t1]) hl2
        have r13 := (r1.trans r2).trans r3
        have et1 := (r2.trans r3) _ _ (upd_same (a := t1) (o := .tup [.str "BadWidth", .non]))
        refine words_ne (t1 := t1) (t2 := t1) (t3 := t1) (by decide +kernel) (fun _ => .non) (.inl rfl) (r13 _ _ eq) l3 (fun t ht => r13 _ _ (ht3 t ht)) upd_same et1 et1 et1 ⟨_, rfl, iteF ⟨rfl, (W30.gr g).same r13⟩⟩
      rintro σ8 H31 ⟨rfl, W31⟩
      refine ⟨_, rfl, _, rfl, _, rfl, _, rfl, d, rfl, W31.D, fun bp H32 hbp D32 B32 => ?_⟩
      have W32 := W31.but B32 D32
      obtain ⟨era, _⟩ : _ ∧ True := W32.r ([ra], [rr]) (by simp)
      refine ⟨BT, ra, bl, rr, brs, wd, bp, "BadPrime", .non, rfl, (W32.l (BT, bl.map V.ref) (by simp)).2, W32.r (bl, brs) (by simp), hl100, lbrs, era, lrr, W32.T, .inl ⟨hbp, rfl, rfl⟩, fun q ts H28 g nq eq l3 ht3 => ?_⟩
      refine ⟨(by show 2 ≤ sizeLine; decide), fun t1 h1 => ⟨(by show 1 ≤ sizeLine; decide), fun l1 hl1 => ?_⟩⟩
      have r1 := same_upd (o := .tup [.str "BadPrime", .non]) h1
      have r2 := same_upd (o := .lst [.ref t1]) hl1
      refine ⟨l1, 3, _, rfl, rfl, upd_same, by decide, by decide, (by show 3 ≤ sizeLine; decide), fun l2 hl2 => ?_⟩
      have r3 := same_upd (o := .lst [.ref t1, .ref t1, .ref t1]) hl2
      have r13 := (r1.trans r2).trans r3
      have et1 := (r2.trans r3) _ _ (upd_same (a := t1) (o := .tup [.str "BadPrime", .non]))
      refine words_ne (t1 := t1) (t2 := t1) (t3 := t1) (by decide +kernel) (fun _ => .non) (.inl rfl) (r13 _ _ eq) l3 (fun t ht => r13 _ _ (ht3 t ht)) upd_same et1 et1 et1 ⟨_, rfl, iteF ?_⟩
      exact ⟨_, _, _, _, _, _, _, _, _, _, _, _, _, rfl, ((W32.gr g).same r13).nil⟩
    · rintro σ' H2 ⟨x2, x3, x4, x5, x6, x7, x8, x9, x10, x11, x12, x13, x14, rfl, W2⟩
      refine ⟨(by show 1 ≤ sizeLine; decide), fun O1 hO1 => ⟨O1, 24, [.int 1], rfl, rfl, SqT.of upd_same, by simp, by decide, by decide, by decide, fun z => absurd z (by decide), fun _ O2 hO2 => ?_⟩⟩
      have u1 := same_upd (o := .tup [.int 1]) hO1
      have u2 := same_upd (o := .tup ((List.replicate 24 (1 : Int)).map V.int)) hO2
      have eO2 : L2.upd (L2.upd H2 O1 (.tup [.int 1])) O2 (.tup ((List.replicate 24 (1 : Int)).map V.int)) O2 = some (.tup ((List.replicate 24 (1 : Int)).map V.int)) := upd_same
      have V2 := (W2.same u1).same u2
      refine ⟨(by show 1 ≤ sizeLine; decide), fun O3 hO3 => ⟨O3, 25, _, rfl, rfl, upd_same, by decide, by decide, (by show 25 ≤ sizeLine; decide), fun ML hML => ?_⟩⟩
      have V3 := V2.same (same_upd (o := .lst [.ref O2]) hO3)
      have eO3 := same_upd (o := .lst [.ref O2]) hO3 _ _ eO2
      have V4 := (V3.same (same_upd (o := .lst ((List.replicate 25 O2).map V.ref)) hML)).putL (p := ML) upd_same (V3.D.ne hML)
      have eO4 := same_upd (o := .lst ((List.replicate 25 O2).map V.ref)) hML _ _ eO3
      show _
      change Tw d (TL3 PR PL PD) [(ML, (List.replicate 25 O2).map V.ref)] [] (L2.upd (L2.upd (L2.upd (L2.upd H2 O1 (.tup [.int 1])) O2 (.tup (List.replicate (Int.toNat 24) [V.int 1]).flatten)) O3 (.lst [.ref O2])) ML (.lst (List.replicate (Int.toNat 25) [V.ref O2]).flatten)) at V4
      change (L2.upd (L2.upd (L2.upd (L2.upd H2 O1 (.tup [.int 1])) O2 (.tup (List.replicate (Int.toNat 24) [V.int 1]).flatten)) O3 (.lst [.ref O2])) ML (.lst (List.replicate (Int.toNat 25) [V.ref O2]).flatten)) O2 = _ at eO4
      generalize L2.upd (L2.upd (L2.upd (L2.upd H2 O1 (.tup [.int 1])) O2 (.tup (List.replicate (Int.toNat 24) [V.int 1]).flatten)) O3 (.lst [.ref O2])) ML (.lst (List.replicate (Int.toNat 25) [V.ref O2]).flatten) = H4 at V4 eO4
      have V5 := V4.putR (Rws.rep eO4 25)
      refine ⟨_, rfl, (by show 1 ≤ sizeLine; decide), fun O4 hO4 => ?_⟩
      have V6 := V5.same (same_upd (o := .tup [.int 1]) hO4)
      refine ⟨ML, O4, List.replicate 25 O2, [1], List.replicate 25 (List.replicate 24 1), 24, 2, "BadTable", .int (24 : Nat), rfl, (V6.l (ML, _) (by simp)).2, V6.r (_, _) (by simp), fun r hr => ?_, by decide, upd_same, by decide, V6.T, .inr (.inr ⟨by decide, by decide, by decide, 24, ⟨by decide, ⟨_, rfl, .inl rfl⟩, fun j r hj e => ?_⟩, rfl, rfl⟩), fun q ts H7 g nq eq l3 ht3 => ?_⟩
      · rw [List.eq_of_mem_replicate hr]
        decide
      · rw [List.eq_of_mem_replicate (List.mem_of_getElem? e)]
        decide
      have V7 := V6.gr g
      refine ⟨(by show 2 ≤ sizeLine; decide), fun t1 h1 => ⟨(by show 1 ≤ sizeLine; decide), fun l1 hl1 => ?_⟩⟩
      have r1 := same_upd (o := .tup [.str "BadTable", .int 24]) h1
      have r2 := same_upd (o := .lst [.ref t1]) hl1
      refine ⟨l1, 3, _, rfl, rfl, upd_same, by decide, by decide, (by show 3 ≤ sizeLine; decide), fun l2 hl2 => ?_⟩
      have r3 := same_upd (o := .lst [.ref t1, .ref t1, .ref t1]) hl2
      have r13 := (r1.trans r2).trans r3
      have et1 := (r2.trans r3) _ _ (upd_same (a := t1) (o := .tup [.str "BadTable", .int 24]))
      refine words_eq (t1 := t1) (t2 := t1) (t3 := t1) (by decide +kernel) (fun _ => .int 24) (.inr ⟨_, rfl⟩) (r13 _ _ eq) l3 (fun t ht => r13 _ _ (ht3 t ht)) upd_same et1 et1 et1 ⟨_, rfl, iteT ?_⟩
      have V8 := V7.same r13
      refine ⟨(by show 0 ≤ sizeLine; decide), fun E1 hE1 => ⟨(by show 1 ≤ sizeLine; decide), fun O5 hO5 => ?_⟩⟩
      have w1 := same_upd (o := .lst []) hE1
      have w2 := same_upd (o := .tup [.int 0]) hO5
      have V9 := (V8.same w1).same w2
      have z0 : ∀ k : Nat, co [0] k = 0 := fun k => by
        cases k with
        | zero => rfl
        | succ k => rfl
      refine ⟨E1, O5, [], [0], [], (1 : Nat), 2, rfl, w2 _ _ upd_same, trivial, fun r h => (nomatch h), by decide, by decide, by decide, by decide, V9.T, upd_same, ⟨rfl, fun k => by
        show 0 ≤ co [0] k ∧ co [0] k < 2
        rw [z0 k]
        decide⟩, fun t A vs H10 g10 et eA lv _ _ => ?_, fun t A ms H10 g10 et eA wm z one => ?_⟩
      · have ev : vs = [] := List.length_eq_zero_iff.mp lv
        subst ev
        refine ⟨(by show 0 ≤ sizeLine; decide), fun E2 hE2 => ⟨(by show 2 ≤ sizeLine; decide), fun T9 hT9 => ?_⟩⟩
        have w3 := same_upd (o := .lst []) hE2
        have w4 := same_upd (o := .tup [.str "made", .ref E2]) hT9
        refine ⟨_, _, .tup (sqD ((w3.trans w4) _ _ et)) (.cons (.str _) (.cons (dp_lstI (ns := []) (SqL.of ((w3.trans w4) _ _ eA))) .nil)), .tup (sqD upd_same) (.cons (.str _) (.cons (dp_lstI (ns := []) (SqL.of (w4 _ _ upd_same))) .nil)), by decide +kernel, by decide +kernel, ?_⟩
        rw [SeqAt.eqv_refl _ (by decide +kernel)]
        exact k _
      · exfalso
        have e0 : Xp.dt 1 (co ms) (co [0]) = 0 := by
          exact Xp.sm_zero fun k _ => by
            show co ms k * co [0] k = 0
            rw [z0, Int.mul_zero]
        rw [e0] at one
        exact absurd one (by decide)
end
end Xk
end
section
set_option Elab.async false
set_option linter.all false
set_option maxRecDepth 100000
set_option maxHeartbeats 0
namespace Xh
open PySem PySem.Spec PyProof.Rows L2 He
/-- where the written part looks: what the names reach in n steps, and the statics -/
def asS (g : Addr → Option Obj) (n : Nat) : List Addr := cStatics :: asD g n
def obsZ (n : Nat) (fa : List Fa) (fn : List DefD) (tf : List Defn) (ex : PySem.W.Frag → Bool) (g : Addr → Option Obj) : AlX :=
  let K := frT g (asS g n)
  (obsT fa fn [] K, ex K && tabsB g tf K)
theorem saysZ {n : Nat} {fa : List Fa} {fn : List DefD} {tf : List Defn} {ex : PySem.W.Frag → Bool} {w : World} {h : Heap} (e : obsZ n fa fn tf ex h.get? = valX fn [] w) :
    SaysX fa fn [] tf ex w h (frT h.get? (asS h.get? n)) := by
  generalize hK : frT h.get? (asS h.get? n) = K
  have e' : (obsT fa fn [] K, ex K && tabsB h.get? tf K) = valX fn [] w := by rw [← hK]; exact e
  injection e' with e1 e2
  rw [Bool.and_eq_true] at e2
  have key : ∀ p ∈ tf, PySem.W.codeHdIn K (cT K p).1 (cT K p).2 = true ∧ ∃ o, h.get? (cT K p).2 = some o ∧ emptyTab o = true := by
    intro p hp
    have z := List.all_eq_true.mp e2.2 p hp
    rw [Bool.and_eq_true] at z
    refine ⟨z.1, ?_⟩
    have z2 := z.2
    split at z2
    · exact ⟨_, ‹_›, z2⟩
    · cases z2
  refine ⟨e1, e2.1, fun p hp => (key p hp).1, fun p hp => ?_, fun p hp => ?_⟩
  · obtain ⟨_, o, q, z⟩ := key p hp
    rw [← hK] at q ⊢
    exact frT_none q z
  · obtain ⟨_, o, q, z⟩ := key p hp
    rw [q, emptyTab_eq z]
def hookZ (n : Nat) (fa : List Fa) (fn : List DefD) (tf : List Defn) (ex : PySem.W.Frag → Bool) : PySem.W.Hook where
  α := AlX
  obs := fun s => obsZ n fa fn tf ex s.heap.get?
  val := fun w => valX fn [] w
  says := fun w h => ∃ K : PySem.W.Frag, K.In h ∧ SaysX fa fn [] tf ex w h K
  of := fun _ _ e => ⟨_, frT_in, saysZ e⟩
  keeps := fun _ _ _ ⟨K, hK, c⟩ k => ⟨K, PySem.W.Frag.In.keeps hK k, ⟨c.t, c.more, c.hd, c.out, fun p hp => k _ _ (c.empty p hp)⟩⟩
theorem obsZ_eq {n : Nat} {fa : List Fa} {fn : List DefD} {tf : List Defn} {ex : PySem.W.Frag → Bool} {g : Addr → Option Obj} {s : Shared} (h : ∀ a, g a = s.heap.get? a) :
    obsZ n fa fn tf ex g = (hookZ n fa fn tf ex).obs s := by
  have e : g = s.heap.get? := funext h
  subst e
  rfl
end Xh
end
section
set_option Elab.async false
set_option linter.all false
set_option maxRecDepth 100000
set_option maxHeartbeats 0
namespace Xh
open PySem PySem.Spec PyProof.Rows L2 He
/-! The same hook, its addresses found layer by layer, each once: what was seen is a mask. -/
/-- those of a row that the mask has not, each once, and the mask then -/
def freshB {β : Type} : List Addr → Nat → List Addr → (List Addr → Nat → β) → β
  | [], m, acc, k => k acc m
  | a :: r, m, acc, k => match Nat.beq (Nat.mod (Nat.shiftRight m a) 2) 1 with
    | true => freshB r m acc k
    | false => freshB r (Nat.add m (Nat.pow 2 a)) (a :: acc) k
def refsB (g : Addr → Option Obj) (as : List Addr) : List Addr := as.flatMap fun a => match g a with
  | some o => refsD o
  | none => []
def bfsB (g : Addr → Option Obj) : Nat → List Addr → Nat → List Addr
  | 0, fr, _ => fr
  | n + 1, fr, m => fr ++ freshB (refsB g fr) m [] fun new m' => bfsB g n new m'
def asB (n : Nat) (g : Addr → Option Obj) : List Addr := mainGlobals :: cStatics :: freshB (refsB g [mainGlobals]) (2 ^ mainGlobals + 2 ^ cStatics) [] fun new m => bfsB g n new m
/-- over any row of addresses -/
def obsA (as : (Addr → Option Obj) → List Addr) (fa : List Fa) (fn : List DefD) (tf : List Defn) (ex : PySem.W.Frag → Bool) (g : Addr → Option Obj) : AlX :=
  let K := frT g (as g)
  (obsT fa fn [] K, ex K && tabsB g tf K)
theorem saysA {as : (Addr → Option Obj) → List Addr} {fa : List Fa} {fn : List DefD} {tf : List Defn} {ex : PySem.W.Frag → Bool} {w : World} {h : Heap} (e : obsA as fa fn tf ex h.get? = valX fn [] w) :
    SaysX fa fn [] tf ex w h (frT h.get? (as h.get?)) := by
  generalize hK : frT h.get? (as h.get?) = K
  have e' : (obsT fa fn [] K, ex K && tabsB h.get? tf K) = valX fn [] w := by rw [← hK]; exact e
  injection e' with e1 e2
  rw [Bool.and_eq_true] at e2
  have key : ∀ p ∈ tf, PySem.W.codeHdIn K (cT K p).1 (cT K p).2 = true ∧ ∃ o, h.get? (cT K p).2 = some o ∧ emptyTab o = true := by
    intro p hp
    have z := List.all_eq_true.mp e2.2 p hp
    rw [Bool.and_eq_true] at z
    refine ⟨z.1, ?_⟩
    have z2 := z.2
    split at z2
    · exact ⟨_, ‹_›, z2⟩
    · cases z2
  refine ⟨e1, e2.1, fun p hp => (key p hp).1, fun p hp => ?_, fun p hp => ?_⟩
  · obtain ⟨_, o, q, z⟩ := key p hp
    rw [← hK] at q ⊢
    exact frT_none q z
  · obtain ⟨_, o, q, z⟩ := key p hp
    rw [q, emptyTab_eq z]
def hookA (as : (Addr → Option Obj) → List Addr) (fa : List Fa) (fn : List DefD) (tf : List Defn) (ex : PySem.W.Frag → Bool) : PySem.W.Hook where
  α := AlX
  obs := fun s => obsA as fa fn tf ex s.heap.get?
  val := fun w => valX fn [] w
  says := fun w h => ∃ K : PySem.W.Frag, K.In h ∧ SaysX fa fn [] tf ex w h K
  of := fun _ _ e => ⟨_, frT_in, saysA e⟩
  keeps := fun _ _ _ ⟨K, hK, c⟩ k => ⟨K, PySem.W.Frag.In.keeps hK k, ⟨c.t, c.more, c.hd, c.out, fun p hp => k _ _ (c.empty p hp)⟩⟩
theorem obsA_eq {as : (Addr → Option Obj) → List Addr} {fa : List Fa} {fn : List DefD} {tf : List Defn} {ex : PySem.W.Frag → Bool} {g : Addr → Option Obj} {s : Shared} (h : ∀ a, g a = s.heap.get? a) :
    obsA as fa fn tf ex g = (hookA as fa fn tf ex).obs s := by
  have e : g = s.heap.get? := funext h
  subst e
  rfl
end Xh
end
section
set_option Elab.async false
set_option linter.all false
set_option maxRecDepth 100000
set_option maxHeartbeats 0
namespace Xk
open PySem PySem.Spec PyProof.Rows L2 Xh LamX NdefX
abbrev s_RungError___init : Stmt := inClass (topS 1) 0
theorem sc_RungError___init : FnScope (["self", "told"] : List Str) ["self", "told"] (defScope s_RungError___init) := ⟨rfl, rfl, rfl, by decide +kernel, rfl, by decide +kernel, by decide +kernel⟩
abbrev s_BadTable___init : Stmt := inClass (topS 4) 0
theorem sc_BadTable___init : FnScope (["self", "at"] : List Str) ["self", "at"] (defScope s_BadTable___init) := ⟨rfl, rfl, rfl, by decide +kernel, rfl, by decide +kernel, by decide +kernel⟩
/-! ### the head: what of the written part is looked at -/
open He
/-- the class at C, an own exception over ValueError, called nm; f: how it is made -/
def clsB (K : PySem.W.Frag) (C fI : Addr) (nm : Str) : Bool := (match K.lookup C with
    | some ⟨.type c, _, .cls cd, sl⟩ => decide (c = "type") && ((match cd.mro with
      | .ref a :: bm => decide (a = C) && PySem.HandSPX.refsVE bm
      | _ => false) && (cd.hasDict && (!cd.hasDel && ((match sl.toList with
      | [_, _, some (.str x _), _, some (.builtin n), _] => decide (x = nm) && decide (n = "ValueError.__new__")
      | _ => false)))))
    | _ => false) &&
  (eqO (PySem.W.findIn K (.ref C) "__setattr__") (some (some (.builtin "object.__setattr__"))) && (decide (PySem.W.subIn K (.ref C) (.type "BaseException") = some true) && (decide (PySem.W.typeIn K (.ref C) = some (.type "type")) && (PySem.W.keepIn K (.ref C) &&
  (eqO (PySem.W.findIn K (.ref C) "__getattribute__") (some (some (.builtin "BaseException.__getattribute__"))) && (eqO (PySem.W.findIn K (.ref C) "__getattr__") (some none) && (PySem.W.hasDictIn K C && (eqO (PySem.W.findIn K (.ref C) "__class__") (some (some (.builtin "object.__class__"))) &&
  (eqO (PySem.W.specialIn K (.builtin "object.__class__") "__get__") (some (some (.builtin "getset_descriptor.__get__"))) && (decide (PySem.W.takesIn K (.builtin "object.__class__") = some true) && (decide (PySem.W.mroIn K C (.type "object") = some true) && (PySem.W.readsIn K C (.type "type") &&
  ((match PySem.W.findCls K (.ref C) (.type "type") "__name__" with
    | some (.get (.builtin g) (.builtin n) (.ref c) (.type t)) => decide (g = "getset_descriptor.__get__") && (decide (n = "type.__name__") && (decide (c = C) && decide (t = "type")))
    | _ => false) && (eqO (PySem.W.findIn K (.ref C) "word") (some none) && (eqO (PySem.W.findIn K (.ref C) "__init__") (some (some (.ref fI))) && decide (PySem.W.typeIn K (.ref fI) = some (.type "function")))))))))))))))))
theorem clsB_ok {K : PySem.W.Frag} {C fI : Addr} {nm : Str} (h : clsB K C fI nm = true) : RC K C nm ∧ PySem.W.findIn K (.ref C) "word" = some none ∧ PySem.W.findIn K (.ref C) "__init__" = some (some (.ref fI)) ∧ PySem.W.typeIn K (.ref fI) = some (.type "function") := by
  obtain ⟨h0, h⟩ := ba h
  obtain ⟨h1, h⟩ := ba h
  obtain ⟨h2, h⟩ := ba h
  obtain ⟨h3, h⟩ := ba h
  obtain ⟨h4, h⟩ := ba h
  obtain ⟨h5, h⟩ := ba h
  obtain ⟨h6, h⟩ := ba h
  obtain ⟨h7, h⟩ := ba h
  obtain ⟨h8, h⟩ := ba h
  obtain ⟨h9, h⟩ := ba h
  obtain ⟨h10, h⟩ := ba h
  obtain ⟨h11, h⟩ := ba h
  obtain ⟨h12, h⟩ := ba h
  obtain ⟨h13, h⟩ := ba h
  obtain ⟨h14, h⟩ := ba h
  obtain ⟨h15, h16⟩ := ba h
  have fn : PySem.W.findCls K (.ref C) (.type "type") "__name__" = some (.get (.builtin "getset_descriptor.__get__") (.builtin "type.__name__") (.ref C) (.type "type")) := by
    revert h13
    split
    · rename_i g n c t e
      intro z
      obtain ⟨z1, z⟩ := ba z
      obtain ⟨z2, z⟩ := ba z
      obtain ⟨z3, z4⟩ := ba z
      rw [e, of_decide_eq_true z1, of_decide_eq_true z2, of_decide_eq_true z3, of_decide_eq_true z4]
    · intro z
      cases z
  revert h0
  split
  · rename_i c dd cd sl e
    intro z
    obtain ⟨z1, z⟩ := ba z
    obtain ⟨z2, z⟩ := ba z
    obtain ⟨z3, z⟩ := ba z
    obtain ⟨z4, z5⟩ := ba z
    have c1 : c = "type" := of_decide_eq_true z1
    subst c1
    obtain ⟨cn, cb, cm, cns, cq, chd, csn, csub, cab, ccol, cdel⟩ := cd
    revert z2
    split
    · rename_i a bm em
      intro z2
      obtain ⟨y1, y2⟩ := ba z2
      have y1' := of_decide_eq_true y1
      have em' : cm = .ref a :: bm := em
      subst em'
      subst y1'
      revert z5
      split
      · rename_i s0 s1 x t s3 n s5 es
        intro z5
        obtain ⟨x1, x2⟩ := ba z5
        have x1' := of_decide_eq_true x1
        have x2' := of_decide_eq_true x2
        subst x1' x2'
        have esl : sl = #[s0, s1, some (.str x t), s3, some (.builtin "ValueError.__new__"), s5] := by
          rw [← es]
        have d1 : chd = true := z3
        have d2 : cdel = false := by
          have z4' : (!cdel) = true := z4
          cases cdel with
          | true => cases z4'
          | false => rfl
        subst d1 d2 esl
        exact ⟨⟨⟨⟨_, _, _, _, _, _, _, _, _, _, _, _, _, _, _, e, y2⟩, eqO_ok h1, of_decide_eq_true h2, of_decide_eq_true h3, h4⟩, ⟨eqO_ok h5, eqO_ok h6, of_decide_eq_true h2, h7, eqO_ok h8, eqO_ok h9, of_decide_eq_true h10, of_decide_eq_true h11⟩, h12, fn, ⟨_, _, _, t, e, rfl⟩⟩, eqO_ok h14, eqO_ok h15, of_decide_eq_true h16⟩
      · intro z5
        cases z5
    · intro z2
      cases z2
  · intro z
    cases z
/-- by which clause -/
def catchB (K : PySem.W.Frag) (c : Fin 14 → Addr) (C : Addr) (j : Nat) : Bool := xfB K C && (((hcs c).take j).all (fun cs => decide (PySem.W.exmAny K (.ref C) cs = some false)) && (match (hcs c)[j]? with
  | some cs => decide (PySem.W.exmAny K (.ref C) cs = some true)
  | none => false))
theorem catchB_ok {K : PySem.W.Frag} {c : Fin 14 → Addr} {C : Addr} {j : Nat} (h : catchB K c C j = true) : Catch K c C j := by
  obtain ⟨h1, h⟩ := ba h
  obtain ⟨h2, h3⟩ := ba h
  refine ⟨xfB_ok h1, fun i hi cs hcs => ?_, fun cs hcs => ?_⟩
  · refine of_decide_eq_true (List.all_eq_true.mp h2 cs ?_)
    refine List.mem_of_getElem? (i := i) ?_
    rw [List.getElem?_take_of_lt hi]
    exact hcs
  · rw [hcs] at h3
    exact of_decide_eq_true h3
def names12 : List Str := ["NotWhole", "TooTall", "BadTable", "BadText", "BadPage", "Stopped", "Used", "Held", "NoGuest", "NoName", "RungError", "RungMissing"]
def cOf (K : PySem.W.Frag) (i : Fin 14) : Addr := ga K (names12.getD i.val "RungError")

/-- C.__init__ as a plain def, called by the class -/
def cdefB (K : PySem.W.Frag) (C g : Addr) : Bool := PySem.W.readsIn K C (.type "type") && (eqO (PySem.W.specialIn K (.ref C) "__getattribute__") (some (some (.builtin "type.__getattribute__"))) && ((match PySem.W.findCls K (.ref C) (.type "type") "__init__" with
  | some (.val (.ref a)) => decide (a = g)
  | _ => false) && decide (PySem.W.typeIn K (.ref C) = some (.type "type"))))
theorem cdefB_ok {K : PySem.W.Frag} {C g : Addr} (h : cdefB K C g = true) (kp : PySem.W.keepIn K (.ref g) = true) : CDef K C g "__init__" := by
  obtain ⟨h1, h⟩ := ba h
  obtain ⟨h2, h⟩ := ba h
  obtain ⟨h3, h4⟩ := ba h
  refine ⟨⟨h1, eqO_ok h2⟩, ?_, of_decide_eq_true h4, kp⟩
  revert h3
  split
  · rename_i a e
    intro z
    rw [e, of_decide_eq_true z]
  · intro z
    cases z

def fnL : List DefD := [⟨("RungError", some "__init__"), "__init__", "RungError.__init__", defArgs s_RungError___init, defBody s_RungError___init, defScope s_RungError___init, [], []⟩, ⟨("BadTable", some "__init__"), "__init__", "BadTable.__init__", defArgs s_BadTable___init, defBody s_BadTable___init, defScope s_BadTable___init, [], []⟩, ⟨("power_by", none), "power_by", "power_by", defArgs s_power_by, defBody s_power_by, defScope s_power_by, [], []⟩, ⟨("is_prime", none), "is_prime", "is_prime", defArgs s_is_prime, defBody s_is_prime, defScope s_is_prime, [], []⟩, ⟨("is_number", none), "is_number", "is_number", defArgs s_is_number, defBody s_is_number, defScope s_is_number, [], []⟩, ⟨("is_rest", none), "is_rest", "is_rest", defArgs s_is_rest, defBody s_is_rest, defScope s_is_rest, [], []⟩, ⟨("refuse_prime", none), "refuse_prime", "refuse_prime", defArgs s_refuse_prime, defBody s_refuse_prime, defScope s_refuse_prime, [], []⟩, ⟨("rest_power", none), "rest_power", "rest_power", defArgs s_rest_power, defBody s_rest_power, defScope s_rest_power, [], []⟩, ⟨("is_row", none), "is_row", "is_row", defArgs s_is_row, defBody s_is_row, defScope s_is_row, [], []⟩, ⟨("refuse_table", none), "refuse_table", "refuse_table", defArgs s_refuse_table, defBody s_refuse_table, defScope s_refuse_table, [], []⟩, ⟨("stepped", none), "stepped", "stepped", defArgs s_stepped, defBody s_stepped, defScope s_stepped, [], [("prime", .int 2)]⟩, ⟨("kernel", none), "kernel", "kernel", defArgs s_kernel, defBody s_kernel, defScope s_kernel, [], [("prime", .int 2)]⟩, ⟨("solved", none), "solved", "solved", defArgs s_solved, defBody s_solved, defScope s_solved, [], [("prime", .int 2)]⟩, ⟨("raw_stepped", none), "raw_stepped", "raw_stepped", defArgs s_raw_stepped, defBody s_raw_stepped, defScope s_raw_stepped, [], []⟩, ⟨("cleared", none), "cleared", "cleared", defArgs s_cleared, defBody s_cleared, defScope s_cleared, [], []⟩, ⟨("head_place", none), "head_place", "head_place", defArgs s_head_place, defBody s_head_place, defScope s_head_place, [], []⟩, ⟨("unit_row", none), "unit_row", "unit_row", defArgs s_unit_row, defBody s_unit_row, defScope s_unit_row, [], []⟩, ⟨("raw_kernel", none), "raw_kernel", "raw_kernel", defArgs s_raw_kernel, defBody s_raw_kernel, defScope s_raw_kernel, [], []⟩, ⟨("weighed_steps", none), "weighed_steps", "weighed_steps", defArgs s_weighed_steps, defBody s_weighed_steps, defScope s_weighed_steps, [], []⟩, ⟨("raw_made", none), "raw_made", "raw_made", defArgs s_raw_made, defBody s_raw_made, defScope s_raw_made, [], []⟩, ⟨("raw_probe", none), "raw_probe", "raw_probe", defArgs s_raw_probe, defBody s_raw_probe, defScope s_raw_probe, [], []⟩, ⟨("_law_begin", none), "_law_begin", "_law_begin", defArgs s_law_begin, defBody s_law_begin, defScope s_law_begin, [], []⟩, ⟨("_law_take", none), "_law_take", "_law_take", defArgs s_law_take, defBody s_law_take, defScope s_law_take, [], []⟩, ⟨("_law_of", none), "_law_of", "_law_of", defArgs s_law_of, defBody s_law_of, defScope s_law_of, [], []⟩, ⟨("_law_mixed", none), "_law_mixed", "_law_mixed", defArgs s_law_mixed, defBody s_law_mixed, defScope s_law_mixed, [], []⟩, ⟨("_law_why", none), "_law_why", "_law_why", defArgs s_law_why, defBody s_law_why, defScope s_law_why, [], []⟩, ⟨("_law_primes", none), "_law_primes", "_law_primes", defArgs s_law_primes, defBody s_law_primes, defScope s_law_primes, [], []⟩, ⟨("_law_any_prime", none), "_law_any_prime", "_law_any_prime", defArgs s_law_any_prime, defBody s_law_any_prime, defScope s_law_any_prime, [], []⟩, ⟨("_law_bad_prime", none), "_law_bad_prime", "_law_bad_prime", defArgs s_law_bad_prime, defBody s_law_bad_prime, defScope s_law_bad_prime, [], []⟩, ⟨("_law_far", none), "_law_far", "_law_far", defArgs s_law_far, defBody s_law_far, defScope s_law_far, [], []⟩, ⟨("_law_rests", none), "_law_rests", "_law_rests", defArgs s_law_rests, defBody s_law_rests, defScope s_law_rests, [], []⟩, ⟨("_law_sum", none), "_law_sum", "_law_sum", defArgs s_law_sum, defBody s_law_sum, defScope s_law_sum, [], []⟩, ⟨("_law_dot", none), "_law_dot", "_law_dot", defArgs s_law_dot, defBody s_law_dot, defScope s_law_dot, [], []⟩, ⟨("_law_weighed", none), "_law_weighed", "_law_weighed", defArgs s_law_weighed, defBody s_law_weighed, defScope s_law_weighed, [], []⟩, ⟨("_law_table", none), "_law_table", "_law_table", defArgs s_law_table, defBody s_law_table, defScope s_law_table, [], []⟩, ⟨("_law_all_rests", none), "_law_all_rests", "_law_all_rests", defArgs s_law_all_rests, defBody s_law_all_rests, defScope s_law_all_rests, [], []⟩, ⟨("_law_walked", none), "_law_walked", "_law_walked", defArgs s_law_walked, defBody s_law_walked, defScope s_law_walked, [], []⟩, ⟨("_law_doors", none), "_law_doors", "_law_doors", defArgs s_law_doors, defBody s_law_doors, defScope s_law_doors, [], []⟩, ⟨("law", none), "law", "law", defArgs s_law, defBody s_law, defScope s_law, [], []⟩]
def faL : List Fa := [.glo "NotWhole", .glo "TooTall", .glo "BadTable", .glo "BadText", .glo "BadPage", .glo "Stopped", .glo "Used", .glo "Held", .glo "NoGuest", .glo "NoName", .glo "RungError", .glo "RungMissing", .glo "BadPrime", .glo "BadWidth", .glo "PRIMES", .glo "power_by", .glo "is_prime", .glo "is_number", .glo "is_rest", .glo "refuse_prime", .glo "rest_power", .glo "is_row", .glo "refuse_table", .glo "stepped", .glo "kernel", .glo "solved", .glo "raw_stepped", .glo "cleared", .glo "head_place", .glo "unit_row", .glo "raw_kernel", .glo "weighed_steps", .glo "raw_made", .glo "raw_probe", .glo "_law_begin", .glo "_law_take", .glo "_law_of", .glo "_law_mixed", .glo "_law_why", .glo "_law_primes", .glo "_law_any_prime", .glo "_law_bad_prime", .glo "_law_far", .glo "_law_rests", .glo "_law_sum", .glo "_law_dot", .glo "_law_weighed", .glo "_law_table", .glo "_law_all_rests", .glo "_law_walked", .glo "_law_doors", .glo "law", .int "MOST_ROWS" 24, .int "MOST_WIDE" 24, .free "len", .free "abs", .free "list", .free "tuple", .free "int", .free "bool", .free "str", .free "isinstance", .free "range", .free "all", .free "zip", .free "enumerate", .free "max", .free "reversed", .free "any", .free "sorted", .free "set", .free "sum"]
def exL (K : PySem.W.Frag) : Bool := tupB K "PRIMES" (primes.map Dv.int) && (clsB K (ga K "BadPrime") (ma K (ga K "RungError") "__init__") "BadPrime" && (clsB K (ga K "BadWidth") (ma K (ga K "RungError") "__init__") "BadWidth" && (clsB K (ga K "BadTable") (ma K (ga K "BadTable") "__init__") "BadTable" && (eqO (PySem.W.findIn K (.ref (ga K "BadTable")) "at") (some none) && (cdefB K (ga K "RungError") (ma K (ga K "RungError") "__init__") && (catchB K (cOf K) (ga K "BadTable") 2 && (catchB K (cOf K) (ga K "BadPrime") 7 && (catchB K (cOf K) (ga K "BadWidth") 7 && (decide ((cT K ("rest_power", none)).2 ≠ (cT K ("law", none)).2) && (decide ((cT K ("rest_power", none)).2 ≠ (cT K ("_law_doors", none)).2) && (decide ((cT K ("law", none)).2 ≠ (cT K ("_law_doors", none)).2))))))))))))
abbrev R : PySem.W.OpenRow := PySem.W.OpenLaw.row PySem.Challenge.rw_rungfields_k18_rows_made_or_barred
abbrev hk : PySem.W.Hook := hookA (asB 4) faL fnL [("rest_power", none), ("law", none), ("_law_doors", none)] exL
def ob (s : PySem.W.SharedT) : AlX := obsA (asB 4) faL fnL [("rest_power", none), ("law", none), ("_law_doors", none)] exL (HandSHeadRun.getT s)
theorem ob_eq (s : PySem.W.SharedT) : ob s = hk.obs s.abs := obsA_eq (HandSHeadRun.getT_eq s)
def loL : List Str := (["RungError", "BadPrime", "BadWidth", "BadTable", "NotWhole", "TooTall", "BadText", "Used", "Held", "BadPage"] : List Str) ++ (["Stopped", "RungMissing", "NoGuest", "NoName", "power_by", "PRIMES", "LEAST", "is_prime", "is_number", "is_rest"] : List Str) ++ (["refuse_prime", "rest_power", "MOST_ROWS", "MOST_WIDE", "is_row", "refuse_table", "stepped", "kernel", "solved", "raw_stepped"] : List Str) ++ (["cleared", "head_place", "unit_row", "raw_kernel", "weighed_steps", "raw_made", "raw_probe", "_law_begin", "_law_take", "_law_of"] : List Str) ++ (["_law_mixed", "_law_why", "_law_primes", "_law_any_prime", "_law_bad_prime", "_law_far", "_law_rests", "_law_sum", "_law_dot", "_law_weighed"] : List Str) ++ (["_law_table", "_law_all_rests", "_law_walked", "_law_doors"] : List Str)
theorem run (w : World) : HandSHeadRun.RunEq R (PySem.W.view R.prog [59]) hk ob 16000 loL w := by
  intro os
  kernel_rfl
end Xk
end
section
set_option Elab.async false
set_option linter.all false
set_option maxRecDepth 100000
set_option maxHeartbeats 4000000
namespace Xk
open PySem PySem.Spec PyProof.Rows L2 Xh LamX He NdefX
section
variable {P : Program} {w : World} {K : PySem.W.Frag} {mg : Str → Option Value} {base : Heap}
theorem o_init0 {f : Addr} {fd : FuncData} (F : FunD K "__init__" "RungError.__init__" (defArgs s_RungError___init) (defBody s_RungError___init) (defScope s_RungError___init) [] [] f fd) : FnR P w K mg base (L2.CX P w) 1 f (spRI1 K) :=
  ok_rinit (st := s_RungError___init) F sc_RungError___init (fun kV doc pm an cdv ct => StX.bind_star1 (p1 := "self") (pv := "told") (B := fun vs => bindArgs (PySem.W.fnOf "__init__" "RungError.__init__" (defArgs s_RungError___init) (defBody s_RungError___init) (defScope s_RungError___init) .none kV doc pm an cdv ct) ⟨vs, []⟩) (fun a => rfl) (fun a r rs => rfl))
    (fun X hK hN hs => by
      subst hK
      have hN0 : X.N[0]? = some ("self" : Str) := by rw [hN]; rfl
      have hv0 : Vis X.env.scope ("self" : Str) := by rw [hs]; first | exact Or.inl rfl | exact Or.inr (Or.inl rfl) | exact Or.inr (Or.inr rfl)
      exact pss_one (ps_ost (pv 0 hN0 hv0) (pe_clsnm (pv 0 hN0 hv0))))
theorem f_init_BadTable {f R g : Addr} {fd : FuncData} (F : FunD K "__init__" "BadTable.__init__" (defArgs s_BadTable___init) (defBody s_BadTable___init) (defScope s_BadTable___init) [] [] f fd) (hm : mg "RungError" = some (.ref R)) (c : CDef K R g "__init__") (o : FnR P w K mg base (L2.CX P w) 1 g (spRI1 K)) : FnOk P w K mg base (L2.CX P w) 2 f fd ["self", "at"] (spFI K "at") :=
  ok_finit (st := s_BadTable___init) (fI := f) (R := R) F sc_BadTable___init (fun X hK hP hw hmg hb hN hs hr hx => by
    subst hK hP hw hmg hb
    have hN0 : X.N[0]? = some ("self" : Str) := by rw [hN]; rfl
    have hN1 : X.N[1]? = some ("at" : Str) := by rw [hN]; rfl
    have v0 : Vis X.env.scope ("self" : Str) := by rw [hs]; first | exact Or.inl rfl | exact Or.inr (Or.inl rfl) | exact Or.inr (Or.inr rfl)
    have v1 : Vis X.env.scope ("at" : Str) := by rw [hs]; first | exact Or.inl rfl | exact Or.inr (Or.inl rfl) | exact Or.inr (Or.inr rfl)
    have gl : Gl X ("RungError" : Str) := by
      show X.env.scope.names.lookup ("RungError" : Str) = some NameKind.globalImplicit
      rw [hs]
      rfl
    exact pss_cons (ps_expr (pe_cdef gl hm c o hr hx (pa_cons (pv 0 hN0 v0) pa_nil))) (pss_one (ps_ost (pv 0 hN0 v0) (pv 1 hN1 v1))))
theorem code_of {x q : Str} {params : Arguments} {body : List Stmt} {scope : Scope} {dvs : List V} {kws : List (Str × V)} {p : Defn} {fd : FuncData} (F : FunD K x q params body scope dvs kws (fAd K p) fd) : fd.code = .ref (cT K p).1 := by
  obtain ⟨oc, od, dV, kV, doc, pm, an, cdv, ct, osl, rfl, lk, hcd, hD, _⟩ := F.ex
  obtain ⟨c, rfl⟩ := codeIn_ref hcd
  show Value.ref c = .ref (codeOf K p)
  rw [codeOf_eq lk rfl]
theorem lit_tup (H : Hp) (h : tupB K "PRIMES" (primes.map Dv.int) = true) : SqT K H (ga K "PRIMES") (primes.map V.int) := by
  have z := tupB_ok h H
  rw [List.map_map] at z
  exact z
def kOf (K : PySem.W.Frag) (i : Fin 14) : Addr := ga K (((["BadPrime", "BadWidth", "BadTable"] : List Str)).getD i.val "BadPrime")
theorem facts {h : Heap} {f : Addr} (X : K.In h) (G : h.Ns mainGlobals mg) (hfa : mg ("law" : Str) = some (.ref f)) (c : SaysX faL fnL [] [("rest_power", none), ("law", none), ("_law_doors", none)] exL w h K) :
    ∃ fd : FuncData, (∀ (s : Shared) (v : Value), BindsTo s fd ⟨[v], []⟩ [("_law_script", v)]) ∧ ∀ base : Heap, TabB base mg (cT K ("rest_power", none)).1 (cT K ("rest_power", none)).2 → TabB base mg (cT K ("law", none)).1 (cT K ("law", none)).2 → TabB base mg (cT K ("_law_doors", none)).1 (cT K ("_law_doors", none)).2 → FnOk P w K mg base CX0 12 f fd ["_law_script"] (spLaw K (cT K ("rest_power", none)).2 (cT K ("law", none)).2 (cT K ("_law_doors", none)).2) := by
  obtain ⟨e0, e⟩ := ba c.more
  obtain ⟨e1, e⟩ := ba e
  obtain ⟨e2, e⟩ := ba e
  obtain ⟨e3, e⟩ := ba e
  obtain ⟨e4, e⟩ := ba e
  obtain ⟨e5, e⟩ := ba e
  obtain ⟨e6, e⟩ := ba e
  obtain ⟨e7, e⟩ := ba e
  obtain ⟨e8, e⟩ := ba e
  obtain ⟨e9, e⟩ := ba e
  obtain ⟨e10, e⟩ := ba e
  have e11 := e
  obtain ⟨r_BadPrime, w_BadPrime, i_BadPrime, t_BadPrime⟩ := clsB_ok e1
  obtain ⟨r_BadWidth, w_BadWidth, i_BadWidth, t_BadWidth⟩ := clsB_ok e2
  obtain ⟨r_BadTable, w_BadTable, i_BadTable, t_BadTable⟩ := clsB_ok e3
  have v_BadTable := eqO_ok e4
  have hC_BadTable := catchB_ok e6
  have hC_BadPrime := catchB_ok e7
  have hC_BadWidth := catchB_ok e8
  have hne_rest_power_law := of_decide_eq_true e9
  have hne_rest_power_law_doors := of_decide_eq_true e10
  have hne_law_law_doors := of_decide_eq_true e11
  obtain ⟨fdRungError___init, FRungError___init⟩ := c.t.d.def_ 0 (d := fnL[0]) rfl
  obtain ⟨fdBadTable___init, FBadTable___init⟩ := c.t.d.def_ 1 (d := fnL[1]) rfl
  obtain ⟨fdpower_by, Fpower_by⟩ := c.t.d.def_ 2 (d := fnL[2]) rfl
  obtain ⟨fdis_prime, Fis_prime⟩ := c.t.d.def_ 3 (d := fnL[3]) rfl
  obtain ⟨fdis_number, Fis_number⟩ := c.t.d.def_ 4 (d := fnL[4]) rfl
  obtain ⟨fdis_rest, Fis_rest⟩ := c.t.d.def_ 5 (d := fnL[5]) rfl
  obtain ⟨fdrefuse_prime, Frefuse_prime⟩ := c.t.d.def_ 6 (d := fnL[6]) rfl
  obtain ⟨fdrest_power, Frest_power⟩ := c.t.d.def_ 7 (d := fnL[7]) rfl
  obtain ⟨fdis_row, Fis_row⟩ := c.t.d.def_ 8 (d := fnL[8]) rfl
  obtain ⟨fdrefuse_table, Frefuse_table⟩ := c.t.d.def_ 9 (d := fnL[9]) rfl
  obtain ⟨fdstepped, Fstepped⟩ := c.t.d.def_ 10 (d := fnL[10]) rfl
  obtain ⟨fdkernel, Fkernel⟩ := c.t.d.def_ 11 (d := fnL[11]) rfl
  obtain ⟨fdsolved, Fsolved⟩ := c.t.d.def_ 12 (d := fnL[12]) rfl
  obtain ⟨fdraw_stepped, Fraw_stepped⟩ := c.t.d.def_ 13 (d := fnL[13]) rfl
  obtain ⟨fdcleared, Fcleared⟩ := c.t.d.def_ 14 (d := fnL[14]) rfl
  obtain ⟨fdhead_place, Fhead_place⟩ := c.t.d.def_ 15 (d := fnL[15]) rfl
  obtain ⟨fdunit_row, Funit_row⟩ := c.t.d.def_ 16 (d := fnL[16]) rfl
  obtain ⟨fdraw_kernel, Fraw_kernel⟩ := c.t.d.def_ 17 (d := fnL[17]) rfl
  obtain ⟨fdweighed_steps, Fweighed_steps⟩ := c.t.d.def_ 18 (d := fnL[18]) rfl
  obtain ⟨fdraw_made, Fraw_made⟩ := c.t.d.def_ 19 (d := fnL[19]) rfl
  obtain ⟨fdraw_probe, Fraw_probe⟩ := c.t.d.def_ 20 (d := fnL[20]) rfl
  obtain ⟨fdlaw_begin, Flaw_begin⟩ := c.t.d.def_ 21 (d := fnL[21]) rfl
  obtain ⟨fdlaw_take, Flaw_take⟩ := c.t.d.def_ 22 (d := fnL[22]) rfl
  obtain ⟨fdlaw_of, Flaw_of⟩ := c.t.d.def_ 23 (d := fnL[23]) rfl
  obtain ⟨fdlaw_mixed, Flaw_mixed⟩ := c.t.d.def_ 24 (d := fnL[24]) rfl
  obtain ⟨fdlaw_why, Flaw_why⟩ := c.t.d.def_ 25 (d := fnL[25]) rfl
  obtain ⟨fdlaw_primes, Flaw_primes⟩ := c.t.d.def_ 26 (d := fnL[26]) rfl
  obtain ⟨fdlaw_any_prime, Flaw_any_prime⟩ := c.t.d.def_ 27 (d := fnL[27]) rfl
  obtain ⟨fdlaw_bad_prime, Flaw_bad_prime⟩ := c.t.d.def_ 28 (d := fnL[28]) rfl
  obtain ⟨fdlaw_far, Flaw_far⟩ := c.t.d.def_ 29 (d := fnL[29]) rfl
  obtain ⟨fdlaw_rests, Flaw_rests⟩ := c.t.d.def_ 30 (d := fnL[30]) rfl
  obtain ⟨fdlaw_sum, Flaw_sum⟩ := c.t.d.def_ 31 (d := fnL[31]) rfl
  obtain ⟨fdlaw_dot, Flaw_dot⟩ := c.t.d.def_ 32 (d := fnL[32]) rfl
  obtain ⟨fdlaw_weighed, Flaw_weighed⟩ := c.t.d.def_ 33 (d := fnL[33]) rfl
  obtain ⟨fdlaw_table, Flaw_table⟩ := c.t.d.def_ 34 (d := fnL[34]) rfl
  obtain ⟨fdlaw_all_rests, Flaw_all_rests⟩ := c.t.d.def_ 35 (d := fnL[35]) rfl
  obtain ⟨fdlaw_walked, Flaw_walked⟩ := c.t.d.def_ 36 (d := fnL[36]) rfl
  obtain ⟨fdlaw_doors, Flaw_doors⟩ := c.t.d.def_ 37 (d := fnL[37]) rfl
  obtain ⟨fdlaw, Flaw⟩ := c.t.d.def_ 38 (d := fnL[38]) rfl
  have e := hfa.symm.trans (glo_ok X G (c.t.d.fact 51 (f := .glo "law") rfl))
  cases e
  have b := FunD.bindsA (ps := ["_law_script"]) Flaw fun _ _ _ _ _ _ us hl => match us, hl with | [_], _ => rfl
  have T : Fre mg := ⟨free_ok X G (c.t.d.fact 54 (f := .free "len") rfl), free_ok X G (c.t.d.fact 55 (f := .free "abs") rfl), free_ok X G (c.t.d.fact 56 (f := .free "list") rfl), free_ok X G (c.t.d.fact 57 (f := .free "tuple") rfl), free_ok X G (c.t.d.fact 58 (f := .free "int") rfl), free_ok X G (c.t.d.fact 59 (f := .free "bool") rfl), free_ok X G (c.t.d.fact 60 (f := .free "str") rfl), free_ok X G (c.t.d.fact 61 (f := .free "isinstance") rfl), free_ok X G (c.t.d.fact 62 (f := .free "range") rfl), free_ok X G (c.t.d.fact 63 (f := .free "all") rfl), free_ok X G (c.t.d.fact 64 (f := .free "zip") rfl), free_ok X G (c.t.d.fact 65 (f := .free "enumerate") rfl), free_ok X G (c.t.d.fact 66 (f := .free "max") rfl), free_ok X G (c.t.d.fact 67 (f := .free "reversed") rfl), free_ok X G (c.t.d.fact 68 (f := .free "any") rfl), free_ok X G (c.t.d.fact 69 (f := .free "sorted") rfl), free_ok X G (c.t.d.fact 70 (f := .free "set") rfl), free_ok X G (c.t.d.fact 71 (f := .free "sum") rfl)⟩
  have M8 : Cls8 mg (cOf K) := ⟨glo_ok X G (c.t.d.fact 0 (f := .glo "NotWhole") rfl), glo_ok X G (c.t.d.fact 1 (f := .glo "TooTall") rfl), glo_ok X G (c.t.d.fact 2 (f := .glo "BadTable") rfl), glo_ok X G (c.t.d.fact 3 (f := .glo "BadText") rfl), glo_ok X G (c.t.d.fact 4 (f := .glo "BadPage") rfl), glo_ok X G (c.t.d.fact 5 (f := .glo "Stopped") rfl), glo_ok X G (c.t.d.fact 6 (f := .glo "Used") rfl), glo_ok X G (c.t.d.fact 7 (f := .glo "Held") rfl), glo_ok X G (c.t.d.fact 8 (f := .glo "NoGuest") rfl), glo_ok X G (c.t.d.fact 9 (f := .glo "NoName") rfl), glo_ok X G (c.t.d.fact 10 (f := .glo "RungError") rfl), glo_ok X G (c.t.d.fact 11 (f := .glo "RungMissing") rfl)⟩
  have x_BadPrime : RX K mg (ga K "BadPrime") (ma K (ga K "RungError") "__init__") "BadPrime" := ⟨r_BadPrime, w_BadPrime, i_BadPrime, t_BadPrime, glo_ok X G (c.t.d.fact 12 (f := .glo "BadPrime") rfl)⟩
  have x_BadWidth : RX K mg (ga K "BadWidth") (ma K (ga K "RungError") "__init__") "BadWidth" := ⟨r_BadWidth, w_BadWidth, i_BadWidth, t_BadWidth, glo_ok X G (c.t.d.fact 13 (f := .glo "BadWidth") rfl)⟩
  have x_BadTable : RXF K mg (ga K "BadTable") (ma K (ga K "BadTable") "__init__") "BadTable" "at" := ⟨r_BadTable, w_BadTable, v_BadTable, i_BadTable, t_BadTable, glo_ok X G (c.t.d.fact 2 (f := .glo "BadTable") rfl)⟩
  have bI_BadTable := FunD.bindsN (ps := ["self", "at"]) FBadTable___init fun _ _ _ _ _ _ us hl => match us, hl with | [_, _], _ => rfl
  have cI := cdefB_ok e5 FRungError___init.kp
  have mP : mg "PRIMES" = some (.ref (ga K "PRIMES")) := glo_ok X G (c.t.d.fact 14 (f := .glo "PRIMES") rfl)
  have hP : ∀ H, SqT K H (ga K "PRIMES") (primes.map V.int) := fun H => lit_tup H e0
  have mI_MOST_ROWS : ∃ t, mg "MOST_ROWS" = some (.int 24 t) := int_ok X G (c.t.d.fact 52 (f := .int "MOST_ROWS" 24) rfl)
  have mI_MOST_WIDE : ∃ t, mg "MOST_WIDE" = some (.int 24 t) := int_ok X G (c.t.d.fact 53 (f := .int "MOST_WIDE" 24) rfl)
  refine ⟨fdlaw, fun s v => b s [v] rfl, fun base TB_rest_power TB_law TB_law_doors => ?_⟩
  have o_init : FnR P w K mg base (L2.CX P w) 1 (ma K (ga K "RungError") "__init__") (spRI1 K) := o_init0 FRungError___init
  have fI_BadTable := f_init_BadTable (P := P) (w := w) (base := base) FBadTable___init (glo_ok X G (c.t.d.fact 10 (f := .glo "RungError") rfl)) cI o_init
  have hmR : ((cT K ("rest_power", none)).2, rpQ) ∈ (TL3 ((cT K ("rest_power", none)).2) ((cT K ("law", none)).2) ((cT K ("_law_doors", none)).2)) := List.mem_cons_self
  have hu2 : ∀ p ∈ (TL3 ((cT K ("rest_power", none)).2) ((cT K ("law", none)).2) ((cT K ("_law_doors", none)).2)), p.1 = (cT K ("rest_power", none)).2 → p.2 = rpQ := fun p hp e => by
    rcases List.mem_cons.mp hp with rfl | hp
    · rfl
    rcases List.mem_cons.mp hp with rfl | hp
    · exact absurd e.symm hne_rest_power_law
    · rw [List.mem_singleton.mp hp] at e
      exact absurd e.symm hne_rest_power_law_doors
  have KK : Kinds K (cOf K) (kOf K) := ⟨hC_BadPrime, hC_BadWidth, hC_BadTable, w_BadPrime, w_BadWidth, w_BadTable, v_BadTable⟩
  have o_law_begin := own_of Flaw_begin (ok_begin (P := P) (w := w) (base := base)  Flaw_begin T) (glo_ok X G (c.t.d.fact 34 (f := .glo "_law_begin") rfl)) (fun _ _ _ _ _ _ us hl => match us, hl with | [_], _ => rfl)
  have o_law_take := own_of Flaw_take (ok_take (P := P) (w := w) (base := base)  Flaw_take T) (glo_ok X G (c.t.d.fact 35 (f := .glo "_law_take") rfl)) (fun _ _ _ _ _ _ us hl => match us, hl with | [_, _], _ => rfl)
  have o_law_of := own_of Flaw_of (ok_of (P := P) (w := w) (base := base)  Flaw_of T o_law_take) (glo_ok X G (c.t.d.fact 36 (f := .glo "_law_of") rfl)) (fun _ _ _ _ _ _ us hl => match us, hl with | [_, _], _ => rfl)
  have o_law_primes := own_of Flaw_primes (ok_primes (P := P) (w := w) (base := base)  Flaw_primes) (glo_ok X G (c.t.d.fact 39 (f := .glo "_law_primes") rfl)) (fun _ _ _ _ _ _ us hl => match us, hl with | [], _ => rfl)
  have o_law_any_prime := own_of Flaw_any_prime (ok_any_prime (P := P) (w := w) (base := base)  Flaw_any_prime o_law_of o_law_primes) (glo_ok X G (c.t.d.fact 40 (f := .glo "_law_any_prime") rfl)) (fun _ _ _ _ _ _ us hl => match us, hl with | [_], _ => rfl)
  have o_law_bad_prime := own_of Flaw_bad_prime (ok_bad (P := P) (w := w) (base := base)  Flaw_bad_prime o_law_take o_law_of) (glo_ok X G (c.t.d.fact 41 (f := .glo "_law_bad_prime") rfl)) (fun _ _ _ _ _ _ us hl => match us, hl with | [_], _ => rfl)
  have o_law_far := own_of Flaw_far (ok_far (P := P) (w := w) (base := base)  Flaw_far o_law_take o_law_of) (glo_ok X G (c.t.d.fact 42 (f := .glo "_law_far") rfl)) (fun _ _ _ _ _ _ us hl => match us, hl with | [_, _], _ => rfl)
  have o_is_prime := own_of Fis_prime (ok_is_prime (P := P) (w := w) (base := base)  Fis_prime mP hP) (glo_ok X G (c.t.d.fact 16 (f := .glo "is_prime") rfl)) (fun _ _ _ _ _ _ us hl => match us, hl with | [_], _ => rfl)
  have o_is_number := own_of Fis_number (ok_is_number (P := P) (w := w) (base := base)  Fis_number T) (glo_ok X G (c.t.d.fact 17 (f := .glo "is_number") rfl)) (fun _ _ _ _ _ _ us hl => match us, hl with | [_], _ => rfl)
  have o_is_rest := own_of Fis_rest (ok_is_rest (P := P) (w := w) (base := base)  Fis_rest o_is_number) (glo_ok X G (c.t.d.fact 18 (f := .glo "is_rest") rfl)) (fun _ _ _ _ _ _ us hl => match us, hl with | [_, _], _ => rfl)
  have o_refuse_prime := own_of Frefuse_prime (ok_refuse_prime (P := P) (w := w) (base := base)  Frefuse_prime o_is_prime x_BadPrime o_init) (glo_ok X G (c.t.d.fact 19 (f := .glo "refuse_prime") rfl)) (fun _ _ _ _ _ _ us hl => match us, hl with | [_], _ => rfl)
  have G_power_by := ok_power_by (P := P) (w := w) (base := base) (kl := 1) Fpower_by (glo_ok X G (c.t.d.fact 15 (f := .glo "power_by") rfl))
  have o_rest_power := own_of Frest_power (ok_rest_power (P := P) (w := w) (base := base) (T := (TL3 ((cT K ("rest_power", none)).2) ((cT K ("law", none)).2) ((cT K ("_law_doors", none)).2))) Frest_power (code_of (p := ("rest_power", none)) Frest_power) TB_rest_power hmR hu2 G_power_by) (glo_ok X G (c.t.d.fact 20 (f := .glo "rest_power") rfl)) (fun _ _ _ _ _ _ us hl => match us, hl with | [_, _, _], _ => rfl)
  have o_cleared := own_of Fcleared (ok_cleared (P := P) (w := w) (base := base)  Fcleared T) (glo_ok X G (c.t.d.fact 27 (f := .glo "cleared") rfl)) (fun _ _ _ _ _ _ us hl => match us, hl with | [_, _, _, _], _ => rfl)
  have o_raw_stepped := own_of Fraw_stepped (ok_raw_stepped (P := P) (w := w) (base := base) (TT := (TL3 ((cT K ("rest_power", none)).2) ((cT K ("law", none)).2) ((cT K ("_law_doors", none)).2))) Fraw_stepped T o_rest_power o_cleared) (glo_ok X G (c.t.d.fact 26 (f := .glo "raw_stepped") rfl)) (fun _ _ _ _ _ _ us hl => match us, hl with | [_, _, _], _ => rfl)
  have o_is_row := own_of Fis_row (ok_is_row (P := P) (w := w) (base := base)  Fis_row T o_is_rest) (glo_ok X G (c.t.d.fact 21 (f := .glo "is_row") rfl)) (fun _ _ _ _ _ _ us hl => match us, hl with | [_, _, _], _ => rfl)
  have o_refuse_table := own_of Frefuse_table (ok_refuse_table (P := P) (w := w) (base := base) (C := kOf K) Frefuse_table T mI_MOST_WIDE mI_MOST_ROWS o_refuse_prime o_is_number o_is_row x_BadWidth o_init) (glo_ok X G (c.t.d.fact 22 (f := .glo "refuse_table") rfl)) (fun _ _ _ _ _ _ us hl => match us, hl with | [_, _, _], _ => rfl)
  have G_stepped := ok_stepped (P := P) (w := w) (base := base) (TT := (TL3 ((cT K ("rest_power", none)).2) ((cT K ("law", none)).2) ((cT K ("_law_doors", none)).2))) Fstepped o_refuse_table o_raw_stepped
  have k_stepped := own_ofK (n := 2) (ks := ["prime"]) Fstepped G_stepped (glo_ok X G (c.t.d.fact 23 (f := .glo "stepped") rfl)) (fun _ _ _ _ _ _ us ws hl hk => match us, hl, ws, hk with | [_, _], _, [_], _ => rfl)
  have o_stepped := own_of0 Fstepped G_stepped (glo_ok X G (c.t.d.fact 23 (f := .glo "stepped") rfl)) 2 (by intro z; cases z) rfl (fun D _ _ _ _ _ us ks hl hk => match us, hl, ks, hk with | [_, _], _, [_], _ => ⟨_, _, _, _, _, _, rfl, rfl, rfl⟩)
  have o_head_place := own_of Fhead_place (ok_head_place (P := P) (w := w) (base := base)  Fhead_place T) (glo_ok X G (c.t.d.fact 28 (f := .glo "head_place") rfl)) (fun _ _ _ _ _ _ us hl => match us, hl with | [_], _ => rfl)
  have o_unit_row := own_of Funit_row (ok_unit_row (P := P) (w := w) (base := base)  Funit_row T) (glo_ok X G (c.t.d.fact 29 (f := .glo "unit_row") rfl)) (fun _ _ _ _ _ _ us hl => match us, hl with | [_, _], _ => rfl)
  have o_raw_kernel := own_of Fraw_kernel (ok_raw_kernel (P := P) (w := w) (base := base) (TT := (TL3 ((cT K ("rest_power", none)).2) ((cT K ("law", none)).2) ((cT K ("_law_doors", none)).2))) Fraw_kernel T o_raw_stepped o_head_place o_unit_row) (glo_ok X G (c.t.d.fact 30 (f := .glo "raw_kernel") rfl)) (fun _ _ _ _ _ _ us hl => match us, hl with | [_, _, _], _ => rfl)
  have o_weighed_steps := own_of Fweighed_steps (ok_weighed_steps (P := P) (w := w) (base := base) (TT := (TL3 ((cT K ("rest_power", none)).2) ((cT K ("law", none)).2) ((cT K ("_law_doors", none)).2))) Fweighed_steps T o_raw_stepped o_unit_row) (glo_ok X G (c.t.d.fact 31 (f := .glo "weighed_steps") rfl)) (fun _ _ _ _ _ _ us hl => match us, hl with | [_, _, _], _ => rfl)
  have o_raw_made := own_of Fraw_made (ok_raw_made (P := P) (w := w) (base := base)  Fraw_made T o_cleared o_head_place) (glo_ok X G (c.t.d.fact 32 (f := .glo "raw_made") rfl)) (fun _ _ _ _ _ _ us hl => match us, hl with | [_, _, _, _], _ => rfl)
  have o_raw_probe := own_of Fraw_probe (ok_raw_probe (P := P) (w := w) (base := base) (TT := (TL3 ((cT K ("rest_power", none)).2) ((cT K ("law", none)).2) ((cT K ("_law_doors", none)).2))) Fraw_probe T o_raw_kernel o_rest_power) (glo_ok X G (c.t.d.fact 33 (f := .glo "raw_probe") rfl)) (fun _ _ _ _ _ _ us hl => match us, hl with | [_, _, _], _ => rfl)
  have G_solved := ok_solved (P := P) (w := w) (base := base) (TT := (TL3 ((cT K ("rest_power", none)).2) ((cT K ("law", none)).2) ((cT K ("_law_doors", none)).2))) Fsolved T o_refuse_table o_is_row o_weighed_steps o_raw_made o_raw_probe
  have k_solved := own_ofK (n := 3) (ks := ["prime"]) Fsolved G_solved (glo_ok X G (c.t.d.fact 25 (f := .glo "solved") rfl)) (fun _ _ _ _ _ _ us ws hl hk => match us, hl, ws, hk with | [_, _, _], _, [_], _ => rfl)
  have o_solved := own_of0 Fsolved G_solved (glo_ok X G (c.t.d.fact 25 (f := .glo "solved") rfl)) 3 (by intro z; cases z) rfl (fun D _ _ _ _ _ us ks hl hk => match us, hl, ks, hk with | [_, _, _], _, [_], _ => ⟨_, _, _, _, _, _, rfl, rfl, rfl⟩)
  have o_d_is_row := own_of Fis_row (d_is_row (P := P) (w := w) (base := base)  Fis_row T o_is_rest) (glo_ok X G (c.t.d.fact 21 (f := .glo "is_row") rfl)) (fun _ _ _ _ _ _ us hl => match us, hl with | [_, _, _], _ => rfl)
  have o_d_refuse_table := own_of Frefuse_table (d_refuse_table (P := P) (w := w) (base := base) (C := kOf K) Frefuse_table T mI_MOST_WIDE mI_MOST_ROWS o_refuse_prime o_is_number o_d_is_row x_BadWidth o_init x_BadTable fI_BadTable bI_BadTable) (glo_ok X G (c.t.d.fact 22 (f := .glo "refuse_table") rfl)) (fun _ _ _ _ _ _ us hl => match us, hl with | [_, _, _], _ => rfl)
  have G_d_stepped := d_stepped (P := P) (w := w) (base := base) (C := kOf K) (TT := (TL3 ((cT K ("rest_power", none)).2) ((cT K ("law", none)).2) ((cT K ("_law_doors", none)).2))) Fstepped o_d_refuse_table o_raw_stepped
  have k_d_stepped := own_ofK (n := 2) (ks := ["prime"]) Fstepped G_d_stepped (glo_ok X G (c.t.d.fact 23 (f := .glo "stepped") rfl)) (fun _ _ _ _ _ _ us ws hl hk => match us, hl, ws, hk with | [_, _], _, [_], _ => rfl)
  have o_d_stepped := own_of0 Fstepped G_d_stepped (glo_ok X G (c.t.d.fact 23 (f := .glo "stepped") rfl)) 2 (by intro z; cases z) rfl (fun D _ _ _ _ _ us ks hl hk => match us, hl, ks, hk with | [_, _], _, [_], _ => ⟨_, _, _, _, _, _, rfl, rfl, rfl⟩)
  have G_d_kernel := d_kernel (P := P) (w := w) (base := base) (C := kOf K) (TT := (TL3 ((cT K ("rest_power", none)).2) ((cT K ("law", none)).2) ((cT K ("_law_doors", none)).2))) Fkernel o_d_refuse_table o_raw_kernel
  have k_d_kernel := own_ofK (n := 2) (ks := ["prime"]) Fkernel G_d_kernel (glo_ok X G (c.t.d.fact 24 (f := .glo "kernel") rfl)) (fun _ _ _ _ _ _ us ws hl hk => match us, hl, ws, hk with | [_, _], _, [_], _ => rfl)
  have o_d_kernel := own_of0 Fkernel G_d_kernel (glo_ok X G (c.t.d.fact 24 (f := .glo "kernel") rfl)) 2 (by intro z; cases z) rfl (fun D _ _ _ _ _ us ks hl hk => match us, hl, ks, hk with | [_, _], _, [_], _ => ⟨_, _, _, _, _, _, rfl, rfl, rfl⟩)
  have G_d_solved := d_solved (P := P) (w := w) (base := base) (C := kOf K) (TT := (TL3 ((cT K ("rest_power", none)).2) ((cT K ("law", none)).2) ((cT K ("_law_doors", none)).2))) Fsolved T o_d_refuse_table o_d_is_row o_weighed_steps o_raw_made o_raw_probe x_BadTable fI_BadTable bI_BadTable
  have k_d_solved := own_ofK (n := 3) (ks := ["prime"]) Fsolved G_d_solved (glo_ok X G (c.t.d.fact 25 (f := .glo "solved") rfl)) (fun _ _ _ _ _ _ us ws hl hk => match us, hl, ws, hk with | [_, _, _], _, [_], _ => rfl)
  have o_d_solved := own_of0 Fsolved G_d_solved (glo_ok X G (c.t.d.fact 25 (f := .glo "solved") rfl)) 3 (by intro z; cases z) rfl (fun D _ _ _ _ _ us ks hl hk => match us, hl, ks, hk with | [_, _, _], _, [_], _ => ⟨_, _, _, _, _, _, rfl, rfl, rfl⟩)
  have o_law_rests := own_of Flaw_rests (ok_law_rests (P := P) (w := w) (base := base)  Flaw_rests T o_law_take) (glo_ok X G (c.t.d.fact 43 (f := .glo "_law_rests") rfl)) (fun _ _ _ _ _ _ us hl => match us, hl with | [_, _, _], _ => rfl)
  have o_law_dot := own_of Flaw_dot (ok_law_dot (P := P) (w := w) (base := base)  Flaw_dot T) (glo_ok X G (c.t.d.fact 45 (f := .glo "_law_dot") rfl)) (fun _ _ _ _ _ _ us hl => match us, hl with | [_, _, _], _ => rfl)
  have o_law_sum := own_of Flaw_sum (ok_law_sum (P := P) (w := w) (base := base)  Flaw_sum T) (glo_ok X G (c.t.d.fact 44 (f := .glo "_law_sum") rfl)) (fun _ _ _ _ _ _ us hl => match us, hl with | [_, _, _, _], _ => rfl)
  have o_law_weighed := own_of Flaw_weighed (ok_law_weighed (P := P) (w := w) (base := base)  Flaw_weighed T o_law_sum) (glo_ok X G (c.t.d.fact 46 (f := .glo "_law_weighed") rfl)) (fun _ _ _ _ _ _ us hl => match us, hl with | [_, _, _, _], _ => rfl)
  have o_law_mixed := own_of Flaw_mixed (ok_law_mixed (P := P) (w := w) (base := base)  Flaw_mixed T o_law_take) (glo_ok X G (c.t.d.fact 37 (f := .glo "_law_mixed") rfl)) (fun _ _ _ _ _ _ us hl => match us, hl with | [_, _], _ => rfl)
  have o_law_table := own_of Flaw_table (ok_law_table (P := P) (w := w) (base := base)  Flaw_table T o_law_take o_law_rests o_law_weighed o_law_mixed) (glo_ok X G (c.t.d.fact 47 (f := .glo "_law_table") rfl)) (fun _ _ _ _ _ _ us hl => match us, hl with | [_, _, _], _ => rfl)
  have o_law_all_rests := own_of Flaw_all_rests (ok_law_all_rests (P := P) (w := w) (base := base)  Flaw_all_rests T) (glo_ok X G (c.t.d.fact 48 (f := .glo "_law_all_rests") rfl)) (fun _ _ _ _ _ _ us hl => match us, hl with | [_, _], _ => rfl)
  have o_law_all_restsL := own_of Flaw_all_rests (l_law_all_rests (P := P) (w := w) (base := base)  Flaw_all_rests T) (glo_ok X G (c.t.d.fact 48 (f := .glo "_law_all_rests") rfl)) (fun _ _ _ _ _ _ us hl => match us, hl with | [_, _], _ => rfl)
  have o_law_walked := own_of Flaw_walked (ok_law_walked (P := P) (w := w) (base := base)  Flaw_walked T o_law_all_rests o_law_all_restsL o_law_weighed o_law_dot) (glo_ok X G (c.t.d.fact 49 (f := .glo "_law_walked") rfl)) (fun _ _ _ _ _ _ us hl => match us, hl with | [_, _, _, _, _], _ => rfl)
  have G_law_why := ok_why (P := P) (w := w) (base := base) (kl := 8) Flaw_why (glo_ok X G (c.t.d.fact 38 (f := .glo "_law_why") rfl)) M8
  have o_law_doors := own_of Flaw_doors (ok_law_doors (P := P) (w := w) (base := base) (C := kOf K) (c := cOf K) Flaw_doors (code_of (p := ("_law_doors", none)) Flaw_doors) TB_law_doors hne_rest_power_law_doors hne_law_law_doors KK G_law_why k_d_stepped k_d_kernel k_d_solved) (glo_ok X G (c.t.d.fact 50 (f := .glo "_law_doors") rfl)) (fun _ _ _ _ _ _ us hl => match us, hl with | [_, _, _, _], _ => rfl)
  exact ok_law (C := kOf K) Flaw (code_of (p := ("law", none)) Flaw) TB_law T hne_rest_power_law hne_law_law_doors KK o_law_begin o_law_take o_law_of o_law_any_prime o_law_table o_law_rests o_law_weighed o_law_bad_prime o_law_far o_law_walked o_law_doors G_law_why k_stepped k_solved o_solved k_d_solved
end
end Xk
end
set_option Elab.async false
set_option linter.all false
set_option maxRecDepth 100000
set_option maxHeartbeats 0
open PySem PySem.W PySem.Calls PyProof.Rows
theorem PySem.Challenge.cw_rungfields_k18_rows_made_or_barred_holds : PySem.Challenge.rw_rungfields_k18_rows_made_or_barred.Holds := by
  w_on; o_law
  refine HandSHeadRun.head_any (r := OpenLaw.row PySem.Challenge.rw_rungfields_k18_rows_made_or_barred) (q := view (OpenLaw.row PySem.Challenge.rw_rungfields_k18_rows_made_or_barred).prog [59]) (H := Xk.hk) (ob := Xk.ob) (M := 16000) (loose := Xk.loL) (d := HandSHeadRun.topDef (OpenLaw.row PySem.Challenge.rw_rungfields_k18_rows_made_or_barred).prog 59) (kwd := []) Xk.ob_eq
    (by kernel_rfl) (fun s => by kernel_rfl) Xk.run (by kernel_rfl) (by kernel_rfl) (by kernel_rfl) (by rfl) (by first | assumption | decide +kernel) (by decide +kernel) ⟨rfl, rfl, rfl, rfl, rfl, by decide +kernel⟩ ?hw ?hc
  case hw => w_witness2
  case hc =>
    refine LamX.walk_ofTsE (l := PySem.Challenge.rw_rungfields_k18_rows_made_or_barred) (n := 63) (k := 12) (x := "_law_script") (CX := fun _ => L2.CX0) rfl (by decide) (by kernel_rfl) ⟨rfl, by decide, by decide⟩ ?F (fun _ _ _ _ _ z => z)
    intro w mg fa h Y G hmg0
    obtain ⟨K, KX, c⟩ := Y
    have hmg : mg ("law" : PySem.Str) = some (.ref fa) := by
      have e : (HandSHeadRun.topDef (OpenLaw.row PySem.Challenge.rw_rungfields_k18_rows_made_or_barred).prog 59).name = ("law" : PySem.Str) := by kernel_rfl
      rw [← e]
      exact hmg0
    obtain ⟨fd, hb, hF⟩ := Xk.facts (P := (PySem.Challenge.rw_rungfields_k18_rows_made_or_barred).prog) (w := w) KX G hmg c
    have m1 : (("rest_power", none) : He.Defn) ∈ ([("rest_power", none), ("law", none), ("_law_doors", none)] : List He.Defn) := List.mem_cons_self
    have m2 : (("law", none) : He.Defn) ∈ ([("rest_power", none), ("law", none), ("_law_doors", none)] : List He.Defn) := List.mem_cons_of_mem _ (List.mem_cons_self)
    have m3 : (("_law_doors", none) : He.Defn) ∈ ([("rest_power", none), ("law", none), ("_law_doors", none)] : List He.Defn) := List.mem_cons_of_mem _ (List.mem_cons_of_mem _ ((List.mem_singleton.mpr rfl)))
    refine ⟨K, KX, fd, [He.cT K ("rest_power", none), He.cT K ("law", none), He.cT K ("_law_doors", none)], Xk.spLaw K (He.cT K ("rest_power", none)).2 (He.cT K ("law", none)).2 (He.cT K ("_law_doors", none)).2, ?_, ?_, ?_, hb, ?_, ?_⟩
    · intro p hp
      rcases List.mem_cons.mp hp with rfl | hp
      · exact c.empty _ m1
      rcases List.mem_cons.mp hp with rfl | hp
      · exact c.empty _ m2
      rw [List.mem_singleton.mp hp]
      exact c.empty _ m3
    · intro p hp
      rcases List.mem_cons.mp hp with rfl | hp
      · exact c.out _ m1
      rcases List.mem_cons.mp hp with rfl | hp
      · exact c.out _ m2
      rw [List.mem_singleton.mp hp]
      exact c.out _ m3
    · intro p hp
      rcases List.mem_cons.mp hp with rfl | hp
      · exact PySem.W.codeHd_of_K KX (c.hd _ m1)
      rcases List.mem_cons.mp hp with rfl | hp
      · exact PySem.W.codeHd_of_K KX (c.hd _ m2)
      rw [List.mem_singleton.mp hp]
      exact PySem.W.codeHd_of_K KX (c.hd _ m3)
    · intro H a ns hl _ hT hS
      refine ⟨a, ns, rfl, hS, fun p hp => ?_, fun _ => rfl⟩
      rcases List.mem_cons.mp hp with rfl | hp
      · exact LamX.TabS.nil (hT _ (List.mem_cons_self))
      rcases List.mem_cons.mp hp with rfl | hp
      · exact LamX.TabS.nil (hT _ (List.mem_cons_of_mem _ (List.mem_cons_self)))
      rw [List.mem_singleton.mp hp]
      exact LamX.TabS.nil (hT _ (List.mem_cons_of_mem _ (List.mem_cons_of_mem _ ((List.mem_singleton.mpr rfl)))))
    · intro base _ _ hTB
      exact hF base (hTB _ (List.mem_cons_self)) (hTB _ (List.mem_cons_of_mem _ (List.mem_cons_self))) (hTB _ (List.mem_cons_of_mem _ (List.mem_cons_of_mem _ ((List.mem_singleton.mpr rfl)))))
