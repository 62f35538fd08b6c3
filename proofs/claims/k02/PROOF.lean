import PyProof.Rows.All
import Wide.All
import OpenK.AllK
import Wide.FinOn
import KE.KTypeName
import KE.KTryMore
import HandS.ForMost
import HandS.ForExc
import HandS.ExcInit
import HandS.ExcIs
import HandS.ExcField
import HandS.Star
import HandS.Defaults
import HandS.TryMany
import HandS.Lambda
import HandS.EndTab
import HandS.IsInst
import HandS.Wide
import HandS.WideMore
import HandS.Codes
import HandS.Flow
import HandS.Zip
import HandS.Walk
import HandS.Iter
import KE.GoesEnum
import PySem.Challenge.RW_rungfields_k02_sums_and_products
import KE.KEqSeq
import HandS.Head0
import HandS.Head1
import HandS.Head2
import HandS.HeadHook1
import HandS.HeadHook2
import HandS.HeadHook3
import HandS.HeadHook4
import HandS.HeadWalk
import HandS.HeadEnd
section
set_option Elab.async false
set_option linter.all false
set_option maxRecDepth 100000
set_option maxHeartbeats 2000000
/-! An own exception in the making: `self.__class__.__name__`. -/
namespace Xh
open PySem PySem.W PySem.Calls PyProof.Rows PySem.HandSPX Builtin Builtin.ObjectAttr Builtin.Getset_descriptor
section
variable {prog : Program} {w : World} {A : Around} {E : Value → Shared → Prop} {R : Result → Shared → Prop} {s : Shared} {K : Frag} {x D : Addr} {ox : Obj}
/-- x.__class__ of an exception without a dict of its own as yet -/
theorem exc_class {expr : Bool} {Q : Value → Shared → Prop} (hga : findIn K (.ref D) "__getattribute__" = some (some (.builtin "BaseException.__getattribute__"))) (hgt : findIn K (.ref D) "__getattr__" = some none) (hsub : subIn K (.ref D) (.type "BaseException") = some true)
    (hdct : hasDictIn K D = true) (ha : findIn K (.ref D) "__class__" = some (some (.builtin "object.__class__")))
    (hn : specialIn K (.builtin "object.__class__") "__get__" = some (some (.builtin "getset_descriptor.__get__"))) (htk : takesIn K (.builtin "object.__class__") = some true) (hm : mroIn K D (.type "object") = some true)
    (X : K.In s.heap) (I : InstAt s.heap x ox D none) (h : Q (.ref D) { s with toks := s.toks + 1 }) : wpAny (model prog w) A (getAttr (.ref x) "__class__" expr) Q E s := by
  have hf : findObj K D none "__class__" = some (.bind (.builtin "getset_descriptor.__get__") (.builtin "object.__class__")) := findObj_dataN (by obtain ⟨cd, hc, _⟩ := any_some hdct; rw [hc]; rfl) ha hn htk
  obtain ⟨hp, g, d, t, os⟩ := s
  have L0 := I.type (M := model prog w)
  have L1 := looks_findIn (M := model prog w) X hga
  have L2 := looks_findIn (M := model prog w) X hgt
  have L3 := looks_find (M := model prog w) X I hf
  have sub : Looks (model prog w) hp (isInstance (.ref x) (.type "BaseException")) true := L0.andThen (looks_subIn X hsub)
  have hx0 : (expr && onTheHeap (Value.builtin "BaseException.__getattribute__")) = false := by cases expr <;> rfl
  have hx2 : (Value.builtin "BaseException.__getattribute__" == Value.builtin "object.__getattribute__") = false := by decide +kernel
  have hx1 : (onTheHeap (Value.ref D) && Value.builtin "BaseException.__getattribute__" == Value.builtin "object.__getattribute__") = false := by rw [hx2]; rfl
  unfold getAttr getAttrBy
  refine wpAny_bind (wpAny_mkText (wpAny_holding (wpAny_bind (L0.at (wpAny_bind (L1.at ?_))))))
  show wpAny _ _ (if (onTheHeap (Value.ref D) && Value.builtin "BaseException.__getattribute__" == Value.builtin "object.__getattribute__") = true then _ else _) _ _ _
  rw [hx1, if_neg Bool.false_ne_true]
  unfold getAttrByItsOwn hookBefore
  refine wpAny_bind ?_
  rw [if_pos (show onTheHeap (Value.ref D) = true from rfl)]
  refine L2.at ?_
  refine wpAny_bind (wpAny_attempt (wpAny_holding ?_))
  unfold callGetattribute
  rw [hx0, if_neg Bool.false_ne_true]
  unfold boundAndCalled
  rw [PySem.F.excAttr_ValueError.ga.bind (.ref x)]
  refine wpAny_bind (wpAny_pure ?_)
  show wpAny _ _ (call (.builtin "BaseException.__getattribute__") [.ref x, .str "__class__" t]) _ _ _
  refine wpAny_call (codeAny_call_builtin PySem.F.excAttr_ValueError.ga.plain PySem.F.entry_bexc_ga ?_)
  refine @check_slot (model prog w) _ _ ⟨hp, g, d, t + 1, os⟩ "BaseException.__getattribute__" "BaseException" "__getattribute__" (.ref x) [.str "__class__" t] [] _ (by decide +kernel) (by decide +kernel) sub (PySem.F.args_bexc_ga (.ref x) (.str "__class__" t)) ?_
  unfold Builtin.«object.__getattribute__»
  refine wpAny_bind (wpAny_of_eq (a := ((Value.ref x : Value), [Value.str "__class__" t])) (by first | rfl | (simp only [slotArgs]; rfl)) ?_)
  refine wpAny_bind (wpAny_pure (wpAny_bind (L0.at (wpAny_bind (L3.at ?_)))))
  show wpAny _ _ (holding [Value.builtin "object.__class__"] (call (.builtin "getset_descriptor.__get__") [.builtin "object.__class__", .ref x, .ref D]) >>= ret) _ _ _
  refine wpAny_bind (wpAny_holding (wpAny_call (class_get (s := ⟨hp, g, d, t + 1, os⟩) (ox := ox) (od := none) X I hm ?_)))
  refine wpAny_pure ?_
  show wpAny _ _ (handedOut (.ref D)) _ _ _
  rw [handedOut_of (v := .ref D) rfl]
  exact wpAny_pure h
/-- type.__name__ of an own class: what its third slot holds -/
theorem name_get {C : Addr} {tp : Value} {cd : ClassData} {dd : Option Addr} {sl : Array (Option Value)} {v : Value} (hC : K.lookup C = some ⟨.type "type", dd, .cls cd, sl⟩) (hs : (sl[2]?).join = some v) (X : K.In s.heap)
    (h : R (.ok (.ret v)) s) : codeAny (model prog w) A (.call (.builtin "getset_descriptor.__get__") ⟨[.builtin "type.__name__", .ref C, tp], []⟩) R s := by
  obtain ⟨hh, g, dr, t, os⟩ := s
  have hg := X _ _ hC
  have L0 : Looks (model prog w) hh (typeOf (.ref C)) (.type "type") := fun A Q E s k q => wpAny_typeOf_ref (k _ _ hg) q
  have L1 : Looks (model prog w) hh (isSubtype (.type "type") (.type "type")) true := Looks.of_pure (by rw [isSubtype_type]; kernel_rfl)
  refine codeAny_call_builtin KF.slot_gs.plain KF.entry_gs (KF.slot_gs.check _ _ _ _ _ _ _ _ ktyn_type (KF.args_gs _ _ _) ?_)
  unfold Builtin.«getset_descriptor.__get__» descrGet
  rw [dga_obj]
  refine wpAny_bind (wpAny_pure ?_)
  unfold descrGetter descrCheckInstance descrNameAndClass isInstance
  simp only [ktyn_owner]
  repeat lk
  refine ⟨Code.quiet_builtin _ (by decide +kernel), codeAny_builtin ktyn_entry ?_⟩
  unfold Builtin.«type.__name__»
  dsimp only
  unfold keptObject slotAt
  dsimp only
  refine wpAny_bind (wpAny_bind (wpAny_loadPart hg ?_))
  refine wpAny_pure ?_
  dsimp only
  rw [hs]
  dsimp only
  exact wpAny_pure h
/-- C.__name__, C an own class -/
theorem cls_name {C : Addr} {cd : ClassData} {dd : Option Addr} {sl : Array (Option Value)} {v : Value} {expr : Bool} {Q : Value → Shared → Prop} (hC : K.lookup C = some ⟨.type "type", dd, .cls cd, sl⟩) (hs : (sl[2]?).join = some v) (hv : handedIn v = true)
    (hr : readsIn K C (.type "type") = true) (e : findCls K (.ref C) (.type "type") "__name__" = some (.get (.builtin "getset_descriptor.__get__") (.builtin "type.__name__") (.ref C) (.type "type")))
    (X : K.In s.heap) (h : Q v { s with toks := s.toks + 1 }) : wpAny (model prog w) A (getAttr (.ref C) "__name__" expr) Q E s :=
  cls_bind X hr e (wpAny_call (name_get hC hs X (handed_on hv h)))
end
end Xh
namespace L2
open PySem PySem.Spec PyProof.Rows
/-- what the written part says of an own exception class C of the name nm -/
structure RC (K : PySem.W.Frag) (C : Addr) (nm : Str) : Prop where
  o : OexC K C
  x : ExcC K C
  rd : PySem.W.readsIn K C (.type "type") = true
  fn : PySem.W.findCls K (.ref C) (.type "type") "__name__" = some (.get (.builtin "getset_descriptor.__get__") (.builtin "type.__name__") (.ref C) (.type "type"))
  nm : ∃ cd dd sl t, K.lookup C = some ⟨.type "type", dd, .cls cd, sl⟩ ∧ (sl[2]?).join = some (.str nm t)
section
variable {X : Cx} {o : Expr} {to : TE} {p q : Pos}
/-- e.__class__.__name__, e an exception in the making, without a dict as yet -/
def tClsNm (K : PySem.W.Frag) (to : TE) : TE := fun σ H Q => to σ H fun x H1 => ∃ (a C : Addr) (nm : Str), x = .ref a ∧ RC K C nm ∧ H1 a = some (exo a C none) ∧ Q (.str nm) H1
theorem pe_clsnm (ho : PE X o to) (h1 : attributeBase o "__class__" X.env (eval o X.env) = eval o X.env := by rfl)
    (h2 : attributeBase (.Attribute o "__class__" p) "__name__" X.env (eval (.Attribute o "__class__" p) X.env) = eval (.Attribute o "__class__" p) X.env := by rfl) :
    PE X (.Attribute (.Attribute o "__class__" p) "__name__" q) (tClsNm X.K to) := by
  refine ⟨fun pins s σ H Q I h => ?_⟩
  refine attr_of h2 (attr_of h1 (thn (ho.run pins s σ H _ I h) fun u s1 hh => ?_))
  obtain ⟨x, H1, I1, rx, a, C, nm, ex, T, ha, q⟩ := hh
  subst ex
  obtain rfl : u = Value.ref a := rx
  obtain ⟨t1, hg⟩ := exo_at I1.hok ha
  obtain ⟨cd, dd, sl, t, hC, hs⟩ := T.nm
  have J : PySem.W.InstAt s1.heap a { cls := .ref C, dict := none, data := .fields #[.ref t1, .none, .none, .none, .bool false, .none] } C none := ⟨hg, rfl, rfl, trivial⟩
  refine Xh.exc_class T.x.hg T.x.hk T.x.hs T.x.hd T.x.ha T.x.hn T.x.ht T.x.hm I1.kIn J ?_
  have I2 := I1.tok (s1.toks + 1)
  refine Xh.cls_name hC hs rfl T.rd T.fn I2.kIn ?_
  exact ⟨.str nm, H1, I2.tok _, ⟨t, rfl⟩, q⟩
end
end L2
end
section
set_option Elab.async false
set_option linter.all false
set_option maxRecDepth 100000
set_option maxHeartbeats 2000000
namespace L2
open PySem PySem.Spec PyProof.Rows
/-! ### RungError.__init__(self, *told): self.word = self.__class__.__name__ -/
/-- C() where C's __init__ takes only what is left over -/
def tMkO0 (C : Addr) (sp : Sp) : St → Hp → XK → Prop := fun σ H Q => ∀ a, H a = none → sp [.ref a] (upd H a (exo a C none))
  (fun v H2 => v = .non ∧ ∃ (d : Addr) (fs : List (Str × V)), H2 a = some (exo a C (some d)) ∧ H2 d = some (exd d fs) ∧ H d = none ∧ Q (.ref C) (some d) (upd (del H2 a) d (.xd fs))) (fun _ _ _ => False)
section
variable {X : Cx} {p pos : Pos}
theorem pmk_oex0 {CX : CXT} {x : Str} {C fI : Addr} {k : Nat} {sp : Sp} (T : OexC X.K C) (iC : PySem.W.findIn X.K (.ref C) "__init__" = some (some (.ref fI))) (tI : PySem.W.typeIn X.K (.ref fI) = some (.type "function"))
    (F1 : FnR X.prog X.w X.K X.mg X.base CX k fI sp) (hr : Room (k + 1) X.A) (hx : Passes CX X (fun _ _ _ => False)) (hg : Gl X x) (hm : X.mg x = some (.ref C))
    (hdb : (x == ("__debug__" : Str)) = false := by decide) :
    PMk X (.Call (.Name x p) [] [] pos) (tMkO0 C sp) := by
  intro pins s σ H Q I h
  obtain ⟨nm, q, N, bs, bm, sn, sub, ab, col, dd, k0, k1, k2, k3, k5, hC, hbm⟩ := T.cls
  refine wpAny_Call_Name_kw (ld_glob I hg hm ?_ hdb)
  refine PySem.W.callWith_K0 I.kIn T.kC ?_
  show wpAny _ _ (call (.ref C) []) _ _ _
  obtain ⟨hp, g, dr, tk, os⟩ := s
  have hsz : hp.objs.size ≤ hp.objs.size + 1 := Nat.le_succ _
  have hn : H (hp.objs.size + 1) = none := I.hok.fresh hsz
  have hq := h (hp.objs.size + 1) hn
  have kk : ∀ b o, hp.get? b = some o → ((hp.push (PySem.W.kdv_tup [])).push (PySem.HandSPX.excO C hp.objs.size)).get? b = some o := fun b o e => Heap.get?_push_of_some _ (Heap.get?_push_of_some _ e)
  have hget : ((hp.push (PySem.W.kdv_tup [])).push (PySem.HandSPX.excO C hp.objs.size)).get? (hp.objs.size + 1) = some (PySem.HandSPX.excO C hp.objs.size) := by heap_get
  have I2 : Inv X pins σ (upd H (hp.objs.size + 1) (exo (hp.objs.size + 1) C none)) ⟨(hp.push (PySem.W.kdv_tup [])).push (PySem.HandSPX.excO C hp.objs.size), g, dr, tk, os⟩ :=
    I.laid (t' := tk) (a := hp.objs.size + 1) (o := exo (hp.objs.size + 1) C none) (h' := (hp.push (PySem.W.kdv_tup [])).push (PySem.HandSPX.excO C hp.objs.size)) kk hsz (exo_ok hget)
  have r2 : Vals [V.ref (hp.objs.size + 1)] [Value.ref (hp.objs.size + 1)] := .cons rfl .nil
  refine wpAny_call (PySem.HandSPX.call_own F.excBase_ValueError (fun Y => PySem.HandSPX.refsVE_contains Y bm hbm) (I.kIn _ _ hC) (PySem.W.looks_findIn I.kIn iC) (fun self => PySem.W.bind_fn I.kIn self tI) (by rw [sizeLine_eq]; exact Nat.zero_le _)
    (codeAny_mono (F1 _ X.stack _ _ [Value.ref (hp.objs.size + 1)] [V.ref (hp.objs.size + 1)] _ (fun _ _ _ => False) (hr.make C [] []) (I2.env0.make C [] []) r2 hq) fun r s' hq' => ?_))
  cases r with
  | error er => exact hx pins σ _ _ er s' I2 hq'
  | ok fl =>
    cases fl with
    | ret u =>
      obtain ⟨v, H2, os2, bare2, un2, hok2, rv, ev, d, fs, ea, ed, hd1, q2⟩ := hq'
      subst ev
      obtain ⟨h2, g2, d2, t2, os'⟩ := s'
      exact ⟨rv, mk_end (raises_own T.exC T.tyC) I hsz kk un2 hok2 os2 bare2 ea ed hd1 q2⟩
    | next => exact False.elim hq'
    | brk => exact False.elim hq'
    | cont => exact False.elim hq'
end
end L2
namespace Xh
open PySem PySem.Spec PyProof.Rows L2
/-- what RungError.__init__ promises: self an exception in the making, told a new tuple -/
def spRI (K : PySem.W.Frag) : Sp := fun vs H Q E => ∃ (a p C : Addr) (nm : Str), vs = [.ref a, .ref p] ∧ RC K C nm ∧ PySem.W.findIn K (.ref C) "word" = some none ∧ H a = some (exo a C none) ∧
  ∀ dx, H dx = none → dx ≠ a → Q .non (upd (upd H dx (exd dx [("word", .str nm)])) a (exo a C (some dx)))
/-- .. as it is called -/
def spRI1 (K : PySem.W.Frag) : Sp := fun vs H Q E => ∃ (a C : Addr) (nm : Str), vs = [.ref a] ∧ RC K C nm ∧ PySem.W.findIn K (.ref C) "word" = some none ∧ H a = some (exo a C none) ∧
  ∀ H1 dx, H dx = none → dx ≠ a → Same H H1 → H1 dx = none → Q .non (upd (upd H1 dx (exd dx [("word", .str nm)])) a (exo a C (some dx)))
section
variable {P : Program} {w : World} {K : PySem.W.Frag} {mg : Str → Option Value} {base : Heap}
theorem ok_rinit {st : Stmt} {f : Addr} {fd : FuncData} (F : FunD K "__init__" "RungError.__init__" (defArgs st) (defBody st) (defScope st) [] [] f fd) (S : FnScope (["self", "told"] : List Str) ["self", "told"] (defScope st))
    (hb : ∀ (kV doc pm : Value) (an : Option Addr) (cdv ct : Value) (us rest : List Value), us.length = ["self"].length → bindArgs (PySem.W.fnOf "__init__" "RungError.__init__" (defArgs st) (defBody st) (defScope st) .none kV doc pm an cdv ct) ⟨us ++ rest, []⟩ = (newTuple rest >>= fun t => pure ((["self"] : List Str).zip us ++ [(("told" : Str), t)])))
    (body : ∀ X : Cx, X.K = K → X.N = (["self", "told"] : List Str) → X.env.scope = defScope st → PSs X (defBody st) (tOst K "word" (tVar 0) (tClsNm K (tVar 0)))) : FnR P w K mg base (L2.CX P w) 1 f (spRI1 K) := by
  obtain ⟨oc, od, dV, kV, doc, pm, an, cdv, ct, osl, rfl, lk, hcd, hD, _⟩ := F.ex
  rcases hD with ⟨_, rfl⟩ | ⟨e, _⟩
  case inr => exact absurd rfl e
  have G := StX.fn_star (CX := L2.CX P w) (P := P) (w := w) (mg := mg) (base := base) (k := 0) (ps := ["self"]) (pv := "told") (N := ["self", "told"]) (sp := spRI K) lk hcd S StX.cxUp (hb kV doc pm an cdv ct) (fun A outer s H vs Q E hr h => ?_)
  · intro A outer s H us vs Q E hr e0 r h
    obtain ⟨a, C, nm, rfl, T, hw, ha, k⟩ := h
    refine G A outer s H us _ Q E hr e0 r ⟨[.ref a], [], rfl, rfl, by rw [sizeLine_eq]; exact Nat.zero_le _, fun p hp => ⟨a, p, C, nm, rfl, T, hw, by rw [upd_ne (ne_of_none ha hp)]; exact ha, fun dx hdx hne => ?_⟩⟩
    have hdp : dx ≠ p := fun z => by rw [z, upd_same] at hdx; cases hdx
    refine k _ dx (by rw [upd_ne hdp] at hdx; exact hdx) hne (fun b o e => by rw [upd_ne (ne_of_none e hp)]; exact e) hdx
  · obtain ⟨a, p, C, nm, rfl, T, hw, ha, k⟩ := h
    refine ⟨_, body _ rfl rfl rfl, ?_⟩
    refine ⟨_, rfl, a, C, nm, rfl, T, ha, _, rfl, a, C, rfl, T.o, hw, .inl ⟨ha, fun dx hdx hne => k dx hdx hne⟩⟩
/-- a class whose objects RungError.__init__ alone makes -/
structure RX (K : PySem.W.Frag) (mg : Str → Option Value) (C fI : Addr) (nm : Str) : Prop where
  c : RC K C nm
  w : PySem.W.findIn K (.ref C) "word" = some none
  i : PySem.W.findIn K (.ref C) "__init__" = some (some (.ref fI))
  t : PySem.W.typeIn K (.ref fI) = some (.type "function")
  g : mg nm = some (.ref C)
/-- raise C(): its word -/
def tMkR (C : Addr) (nm : Str) : L2.St → Hp → XK → Prop := fun _ H Q => ∀ (d : Addr) (H' : Hp), Same H H' → H' d = some (.xd [("word", .str nm)]) → H d = none → Q (.ref C) (some d) H'
theorem pmk_rung {X : Cx} {C fI : Addr} {nm : Str} {p pos : Pos} (T : RX X.K X.mg C fI nm) (F : FnR X.prog X.w X.K X.mg X.base (L2.CX X.prog X.w) 1 fI (spRI1 X.K)) (hr : Room 2 X.A) (hg : Gl X nm) (hdb : (nm == ("__debug__" : Str)) = false := by decide) :
    PMk X (.Call (.Name nm p) [] [] pos) (tMkR C nm) := by
  intro pins s σ H Q I h
  refine pmk_oex0 T.c.o T.i T.t F hr passL hg T.g hdb pins s σ H Q I fun a ha => ?_
  refine ⟨a, C, nm, rfl, T.c, T.w, upd_same, fun H1 dx hdx hne hs h1 => ⟨rfl, dx, _, upd_same, by rw [upd_ne hne, upd_same], by rw [upd_ne hne] at hdx; exact hdx, ?_⟩⟩
  have hdx' : H dx = none := by rw [upd_ne hne] at hdx; exact hdx
  refine h dx _ (fun b o e => ?_) upd_same hdx'
  have h2 : b ≠ a := ne_of_none e ha
  have h3 : b ≠ dx := ne_of_none e hdx'
  rw [upd_ne h3, del_ne h2, upd_ne h2, upd_ne h3]
  exact hs b o (by rw [upd_ne h2]; exact e)
end
end Xh
end
section
set_option Elab.async false
set_option linter.all false
set_option maxRecDepth 100000
set_option maxHeartbeats 2000000
/-! several except clauses, each with a class or a tuple of classes, with or without a name -/
namespace Xh
open PySem PySem.Spec PyProof.Rows L2
/-- what a clause's test tells: its classes -/
def TestE (X : Cx) (te : Expr) (cs : List Value) : Prop :=
  ∀ (a : Addr) (pn : List (Addr × Obj)) (s : Shared) (σ : L2.St) (H : Hp) (cls : Value) (b : Bool), Inv (X.suite a pn) [] σ H s → PySem.W.Looks (model X.prog X.w) s.heap (typeOf (.ref a)) cls → PySem.W.exmAny X.K cls cs = some b →
    ∀ (Q : Bool → Shared → Prop) (E : Value → Shared → Prop), (∀ (h' : Heap) (tk : Nat), (∀ c o, s.heap.get? c = some o → h'.get? c = some o) → Q b { s with heap := h', toks := tk }) →
      wpAny (model X.prog X.w) (X.A.mark (some (.ref a))) (eval te X.env) (fun c s₁ => wpAny (model X.prog X.w) (X.A.mark (some (.ref a))) (excMatches (.ref a) c) Q E s₁) E s
theorem testName {X : Cx} {x : Str} {c : Value} {np : Pos} (hc : Names X x c) : TestE X (.Name x np) [c] := by
  intro a pn s σ H cls b I LT hx Q E hq
  obtain ⟨b1, d1, h1, h2, h3⟩ := PySem.W.exmAny_cons hx
  have e2 : d1 = false := (Option.some.inj h2).symm
  subst e2
  rw [Bool.or_false] at h3
  subst h3
  have LM := PySem.W.exm_one (M := model X.prog X.w) I.kIn LT h1
  have q : Q b s := by
    obtain ⟨hp, g, d, tk, os⟩ := s
    exact hq hp tk fun _ _ e => e
  obtain ⟨hg, hdbg, hm | ⟨hm, hv, hnn⟩⟩ := hc
  · exact ld_glob (X := X.suite a pn) I hg hm (LM.here q) hdbg
  · exact ld_blt (X := X.suite a pn) I hg hm hv (LM.here q) hnn hdbg
theorem testTup2 {X : Cx} {x y : Str} {C D : Addr} {p1 p2 pos : Pos} {k} (hx : Gl X x) (hmx : X.mg x = some (.ref C)) (hy : Gl X y) (hmy : X.mg y = some (.ref D)) (hdx : (x == ("__debug__" : Str)) = false := by decide) (hdy : (y == ("__debug__" : Str)) = false := by decide) :
    TestE X (.Tuple [.Name x p1, .Name y p2] k pos) [.ref C, .ref D] := by
  intro a pn s σ H cls b I LT hb Q E hq
  obtain ⟨hp, g, d, tk, os⟩ := s
  refine wpAny_Tuple_spliced ?_
  show wpAny _ _ (spliced ((false, eval (.Name x p1) X.env) :: (false, eval (.Name y p2) X.env) :: [])) _ _ _
  refine Calls.spliced_cons (ld_glob (X := X.suite a pn) I hx hmx (Calls.spliced_cons (ld_glob (X := X.suite a pn) I hy hmy (Calls.spliced_nil ⟨by rw [sizeLine_eq]; exact (by decide : 2 ≤ 16777216), ?_⟩) hdy)) hdx)
  have kk : ∀ b o, hp.get? b = some o → (hp.push ({ cls := .type "tuple", data := .seq [Value.ref C, Value.ref D].toArray } : Obj)).get? b = some o := fun b o e => Heap.get?_push_of_some _ e
  have LM := PySem.W.exm_tup2 (M := model X.prog X.w) (K := X.K) (I.kIn.keeps kk) (LT.keeps kk) (Heap.get?_push_size _ rfl) hb
  exact LM.here (hq _ tk kk)
/-- a clause: its test, its name's slot (if any), its suite -/
abbrev Cl : Type := List Value × Option Nat × (Addr → Value → Option Addr → TS)
/-- the ends behind a suite: the clause's name is gone -/
def outOf (D : Ends) : Option Nat → Ends
  | none => D
  | some i => { nx := fun σ' H' => D.nx (σ'.set i none) H', rt := D.rt, bk := fun σ' H' => D.bk (σ'.set i none) H', ct := fun σ' H' => D.ct (σ'.set i none) H' }
def intoS (σ : L2.St) (a : Addr) : Option Nat → L2.St
  | none => σ
  | some i => σ.set i (some (.ref a))
/-- what the clauses wish of an exception of the body, one after the other -/
def wClauses (K : PySem.W.Frag) (Wout : WX) (D : Ends) : List Cl → WX
  | [] => Wout
  | (cs, n, ts) :: r => fun cls d σ H => ∃ b, PySem.W.exmAny K cls cs = some b ∧ (b = true → ∀ a, H a = none → ts a cls d (outOf D n) (intoS σ a n) H) ∧ (b = false → wClauses K Wout D r cls d σ H)
inductive ClsOk (X : Cx) : List ExceptHandler → List Cl → Prop
  | nil : ClsOk X [] []
  | cons {te : Expr} {cs : List Value} {ts : Addr → Value → Option Addr → TS} {b₀ : Stmt} {suite : List Stmt} {pos' : Pos} {hds : List ExceptHandler} {l : List Cl} (hc : TestE X te cs)
      (hsu : ∀ (a : Addr) (oe : Obj) (cls : Value) (d : Option Addr) (pn : List (Addr × Obj)), Zc cls d oe → (∃ vs, oe.data = .fields vs) → PSs (X.suite a ((a, oe) :: pn)) (b₀ :: suite) (ts a cls d)) (r : ClsOk X hds l) :
      ClsOk X (.ExceptHandler (some te) none (b₀ :: suite) pos' :: hds) ((cs, none, ts) :: l)
  | as {te : Expr} {cs : List Value} {ts : Addr → Value → Option Addr → TS} {b₀ : Stmt} {suite : List Stmt} {pos' : Pos} {hds : List ExceptHandler} {l : List Cl} {n : Str} {i : Nat} (hc : TestE X te cs) (hi : X.N[i]? = some n) (hln : X.env.kindOf n = some .local)
      (hsu : ∀ (a : Addr) (oe : Obj) (cls : Value) (d : Option Addr) (pn : List (Addr × Obj)), Zc cls d oe → (∃ vs, oe.data = .fields vs) → PSs (X.suite a ((a, oe) :: pn)) (b₀ :: suite) (ts a cls d)) (r : ClsOk X hds l) :
      ClsOk X (.ExceptHandler (some te) (some n) (b₀ :: suite) pos' :: hds) ((cs, some i, ts) :: l)
theorem flying_keeps {base h h' : Heap} {l : List Env} {e : Addr} {Z : Obj → Prop} (x : HandSPX.FlyingZ base l e Z h) (k : ∀ b o, h.get? b = some o → h'.get? b = some o) : HandSPX.FlyingZ base l e Z h' := by
  obtain ⟨f1, f2, f3, oe, vs, T, oT, ts, g1, g2, g3, g4, g5, g6, g7, g8, g9⟩ := x
  exact ⟨fun b o e => k b o (f1 b o e), f2, f3.of_keeps fun b o e _ => ⟨o, k b o e, rfl⟩, oe, vs, T, oT, ts, k _ _ g1, g2, g3, g4, g5, g6, k _ _ g7, g8, g9⟩
section
variable {X : Cx} {body : List Stmt} {h₀ : ExceptHandler} {hds : List ExceptHandler} {l : List Cl} {pos : Pos} {tb : WX → TS} {Wout : WX}
theorem ps_try_cls (hs : X.stack = X.env :: X.outer) (hf : X.env.frame = some X.env.locals) (hN : X.N.Nodup) (tk : Takes X Wout)
    (hb : ∀ (W : WX) (pn : List (Addr × Obj)) (xe : Value → Shared → Prop), Takes (X.tr pn xe) W → PassesOwn (model X.prog X.w) X.A X.env xe → PSs (X.tr pn xe) body (tb W))
    (hh : ClsOk X (h₀ :: hds) l) : PS X (.Try body (h₀ :: hds) [] [] pos) (fun D σ H => tb (wClauses X.K Wout D l) D σ H) := by
  refine ⟨fun pins s σ H D I h => ?_⟩
  have ok := I.ok
  have hfr : X.A.frames = some (X.env :: X.outer) := by rw [ok.frames, hs]
  refine wpAny_Try_except ?_
  refine wpAny_mono ((hb (wClauses X.K Wout D l) (X.pn ++ pins) (fun e s₁ => wpAny (model X.prog X.w) X.A (noteFrame e X.env) (fun _ s₂ => wpAny (model X.prog X.w) X.A (setFlight e none) (fun _ s₃ =>
    wpAny (model X.prog X.w) X.A (handleBy e X.env (h₀ :: hds)) (SP X pins D) X.xe s₃) X.xe s₂) X.xe s₁) (fun u s' xx => ?_) PassesOwn.looking).run [] s σ H D (I.toTry _) h) (fun f s1 hsp => ?_) (fun e s1 he => he)
  · -- the catch
    obtain ⟨a, B, sI, pins', σ', H', cls, d, rfl, J', nb, up, sky, na, os, ag, w⟩ := xx
    have J : Inv X pins σ' H' sI := J'.ofTry ok
    have sky' : Sky B (X.env :: X.outer) a (Zc cls d) X.env.locals s'.heap := by rw [← hs]; exact sky
    show wpAny (model X.prog X.w) X.A (noteFrame (.ref a) X.env) _ _ _
    refine Sky.land Zc.steady hfr hf sky' fun h3 fl3 up3 => ?_
    have notFr : ∀ {h : Heap} {o : Obj} {vs : Array Value}, h.FunFrames B (X.env :: X.outer) → h.get? a = some o → o.data = .fields vs → a ∉ frs (X.env :: X.outer) := fun {h o vs} ff e dd hm => by
      obtain ⟨_, o', e', hnf⟩ := ff.mem hm
      rw [e] at e'; cases e'
      exact hnf _ dd
    have go : ∀ {hds' : List ExceptHandler} {l' : List Cl}, ClsOk X hds' l' → ∀ (h3 : Heap) (t3 : Nat), HandSPX.FlyingZ B (X.env :: X.outer) a (Zc cls d) h3 → sI.heap.UpToSlots h3 → wClauses X.K Wout D l' cls d σ' H' →
        wpAny (model X.prog X.w) X.A (handleBy (.ref a) X.env hds') (SP X pins D) X.xe { s' with heap := h3, toks := t3 } := by
      intro hds' l' hk
      induction hk with
      | nil =>
        intro h3 t3 fl3 up3 w
        refine wpAny_handleBy_nil ?_
        obtain ⟨k1, k2, k3, oe, vs, T, oT, ts', he, hz, hd, h1, hr⟩ := id fl3
        unfold PySem.passOn
        refine wpAny_bind (wpAny_field he hd h1 ?_)
        rw [if_neg (show ¬ ((Value.ref T == Value.none) = true) from by simp)]
        have fin : wpAny (model X.prog X.w) X.A (setFlight (.ref a) X.env.frame) (fun _ s4 => wpAny (model X.prog X.w) X.A (throw (.ref a) : Sem Flow) (SP X pins D) X.xe s4) X.xe { s' with heap := h3, toks := t3 } := by
          rw [hf]
          refine HandSPX.setFlight_upZ fl3 fun h4 hh4 up4 => wpAny_throw (tk _ _ ?_)
          exact ⟨a, B, sI, pins, σ', H', cls, d, rfl, J, nb, up3.trans up4, .inr (.inr (by rw [hs]; exact hh4)), na, os, ag, w⟩
        first
          | exact wpAny_bind (wpAny_pure (wpAny_bind fin))
          | exact wpAny_bind fin
      | @cons te cs ts b₀ suite pos' hds2 l2 hc hsu r ih =>
        intro h3 t3 fl3 up3 w
        obtain ⟨b, hb1, hyes, hno⟩ := w
        have J3 : Inv X pins σ' H' { s' with heap := h3, toks := t3 } := J.landed nb fl3.1 up3 os ag
        obtain ⟨oe3, vs3, he3, hz3, hd3⟩ := fl3.there
        have nfr := notFr fl3.2.2.1 he3 hd3
        have nL : a ≠ X.env.locals := fun z => nfr (List.mem_filterMap.mpr ⟨X.env, List.mem_cons_self, by rw [hf, z]⟩)
        have nF : a ∉ X.fs := fun hm => by
          obtain ⟨e, he, q⟩ := List.mem_filterMap.mp hm
          exact nfr (List.mem_filterMap.mpr ⟨e, List.mem_cons_of_mem _ he, q⟩)
        have S3 := J3.suite he3 hd3 na nL nF
        refine wpAny_handleBy_cons (codeAny_handlers_test ?_) (by intro q; cases q)
        have LT : PySem.W.Looks (model X.prog X.w) h3 (typeOf (.ref a)) cls := fun A Q E s k q => wpAny_typeOf_ref (k _ _ he3) (by rw [hz3.1]; exact q)
        refine hc a _ _ _ _ cls b S3 LT hb1 _ _ fun h5 t5 k5 => ?_
        have fl5 := flying_keeps fl3 k5
        have up5 : sI.heap.UpToSlots h5 := up3.trans (Heap.UpToSlots.of_keeps k5)
        cases b with
        | true =>
          refine codeAny_handlers_suite ?_
          refine HandSPX.lands_againZ fl5 fun h4 fl4 up4 => ?_
          have J4 : Inv X pins σ' H' { s' with heap := h4, toks := t5 } := J.landed nb fl4.1 (up5.trans up4) os ag
          obtain ⟨oe4, vs4, he4, hz4, hd4⟩ := fl4.there
          have S4 := J4.suite he4 hd4 na nL nF
          refine wpAny_mono ((hsu a oe4 cls d (X.pn ++ pins) hz4 ⟨_, hd4⟩).run [] _ _ H' _ S4 (hyes rfl a na)) (fun f s6 hsp => ?_) (fun _ _ z => False.elim z)
          cases f with
          | next =>
            obtain ⟨σ6, H6, S6, q6⟩ := hsp
            exact ⟨_, _, S6.unsuite ok, q6⟩
          | brk =>
            obtain ⟨σ6, H6, S6, q6⟩ := hsp
            exact ⟨_, _, S6.unsuite ok, q6⟩
          | cont =>
            obtain ⟨σ6, H6, S6, q6⟩ := hsp
            exact ⟨_, _, S6.unsuite ok, q6⟩
          | ret u =>
            obtain ⟨v6, σ6, H6, S6, r6, q6⟩ := hsp
            exact ⟨_, _, _, S6.unsuite ok, r6, q6⟩
        | false =>
          show wpAny _ X.A (handleBy (.ref a) X.env hds2) _ _ _
          exact ih h5 t5 fl5 up5 (hno rfl)
      | @as te cs ts b₀ suite pos' hds2 l2 n i hc hi hln hsu r ih =>
        intro h3 t3 fl3 up3 w
        obtain ⟨b, hb1, hyes, hno⟩ := w
        have J3 : Inv X pins σ' H' { s' with heap := h3, toks := t3 } := J.landed nb fl3.1 up3 os ag
        obtain ⟨oe3, vs3, he3, hz3, hd3⟩ := fl3.there
        have nfr := notFr fl3.2.2.1 he3 hd3
        have nL : a ≠ X.env.locals := fun z => nfr (List.mem_filterMap.mpr ⟨X.env, List.mem_cons_self, by rw [hf, z]⟩)
        have nF : a ∉ X.fs := fun hm => by
          obtain ⟨e, he, q⟩ := List.mem_filterMap.mp hm
          exact nfr (List.mem_filterMap.mpr ⟨e, List.mem_cons_of_mem _ he, q⟩)
        have S3 := J3.suite he3 hd3 na nL nF
        refine wpAny_handleBy_cons (codeAny_handlers_test ?_) (by intro q; cases q)
        have LT : PySem.W.Looks (model X.prog X.w) h3 (typeOf (.ref a)) cls := fun A Q E s k q => wpAny_typeOf_ref (k _ _ he3) (by rw [hz3.1]; exact q)
        refine hc a _ _ _ _ cls b S3 LT hb1 _ _ fun h5 t5 k5 => ?_
        have fl5 := flying_keeps fl3 k5
        have up5 : sI.heap.UpToSlots h5 := up3.trans (Heap.UpToSlots.of_keeps k5)
        cases b with
        | true =>
          refine codeAny_handlers_suite_as ?_
          refine HandSPX.lands_againZ fl5 fun h4 fl4 up4 => ?_
          have J4 : Inv X pins σ' H' { s' with heap := h4, toks := t5 } := J.landed nb fl4.1 (up5.trans up4) os ag
          obtain ⟨oe4, vs4, he4, hz4, hd4⟩ := fl4.there
          have S4 := J4.suite he4 hd4 na nL nF
          refine store_ok (X := X.suite a ((a, oe4) :: (X.pn ++ pins))) (v := .ref a) S4 hN hi (.inl hln) rfl (fun s5 S5 => ?_) (.inr hln)
          refine wpAny_mono ((hsu a oe4 cls d (X.pn ++ pins) hz4 ⟨_, hd4⟩).run [] s5 _ H' _ S5 (hyes rfl a na)) (fun f s6 hsp => ?_) (fun _ _ z => False.elim z)
          have end_ : ∀ {σ6 : L2.St} {H6 : Hp} {Q : Shared → Prop}, Inv (X.suite a ((a, oe4) :: (X.pn ++ pins))) [] σ6 H6 s6 → (∀ s7, Inv X pins (σ6.set i none) H6 s7 → Q s7) →
              wpAny (model X.prog X.w) X.A (do bindName X.env n .none; unbindBehindTheSuite X.env n pos') (fun _ s7 => Q s7) X.xe s6 := fun {σ6 H6 Q} S6 hq => gone_ok (S6.unsuite ok) hN hi hln hq
          cases f with
          | next =>
            obtain ⟨σ6, H6, S6, q6⟩ := hsp
            exact end_ S6 fun s7 J7 => ⟨_, _, J7, q6⟩
          | brk =>
            obtain ⟨σ6, H6, S6, q6⟩ := hsp
            exact end_ S6 fun s7 J7 => ⟨_, _, J7, q6⟩
          | cont =>
            obtain ⟨σ6, H6, S6, q6⟩ := hsp
            exact end_ S6 fun s7 J7 => ⟨_, _, J7, q6⟩
          | ret u =>
            obtain ⟨v6, σ6, H6, S6, r6, q6⟩ := hsp
            exact end_ S6 fun s7 J7 => ⟨_, _, _, J7, r6, q6⟩
        | false =>
          show wpAny _ X.A (handleBy (.ref a) X.env hds2) _ _ _
          exact ih h5 t5 fl5 up5 (hno rfl)
    exact go hh h3 s'.toks fl3 (up.trans up3) w
  · cases f with
    | next =>
      obtain ⟨σ', H', J', q⟩ := hsp
      exact wpAny_execs_nil ⟨σ', H', J'.ofTry ok, q⟩
    | brk =>
      obtain ⟨σ', H', J', q⟩ := hsp
      exact ⟨σ', H', J'.ofTry ok, q⟩
    | cont =>
      obtain ⟨σ', H', J', q⟩ := hsp
      exact ⟨σ', H', J'.ofTry ok, q⟩
    | ret u =>
      obtain ⟨v, σ', H', J', r, q⟩ := hsp
      exact ⟨v, σ', H', J'.ofTry ok, r, q⟩
end
end Xh
end
section
set_option Elab.async false
set_option linter.all false
set_option maxRecDepth 100000
set_option maxHeartbeats 2000000
/-! a lambda handed on from def to def -/
namespace Xh
open PySem PySem.Spec PyProof.Rows L2 LamX
section
variable {X : Cx} {pins : List (Addr × Obj)} {σ : L2.St} {H HZ : Hp} {s s1 : Shared}
theorem lam_startG {fs : List Addr} {A : Around} {outer : List Env} {E : XK} {scope : Scope} {f c' : Addr} {h₁ : Heap} {tk : Nat} (I : Inv X pins σ H s) (L : LamS X.env.scope scope) (e0 : Env0 X.prog X.w X.K X.mg X.base A outer s1 HZ) (hd : A.handled = none)
    (un : Un fs [] H HZ s.heap s1.heap) (hns : h₁.Ns s1.heap.objs.size fun y => ([] : List (Str × Value)).reverse.lookup y) (kp : ∀ b o, s1.heap.get? b = some o → h₁.get? b = some o) :
    Inv (lamCx X A outer s1 HZ E scope f c') [] σ HZ { s1 with heap := h₁, toks := tk } := by
  have hfree := L.has I.ok
  have cm : ∀ {y c}, (cloFrom X.env.cells scope.names []).lookup y = some c → X.env.cells.lookup y = some c := fun {y c} e => by
    rcases cloFrom_mem (PySem.mem_of_lookup e) with hm | ⟨h1, h2⟩
    · cases hm
    · obtain ⟨c1, hc⟩ := hfree _ h1 rfl
      have hc : X.env.cells.lookup y = some c1 := hc
      have e2 : c = c1 := by
        rw [h2, hc] <;> rfl
      rw [e2]
      exact hc
  have look : ∀ {y}, scope.names.lookup y = some .free → ∃ c, (cloFrom X.env.cells scope.names []).lookup y = some c := fun {y} hl => by
    have hy : (y, NameKind.free) ∈ scope.names := PySem.mem_of_lookup hl
    exact mem_lookup (cloFrom_has (cells := X.env.cells) (acc := []) hy)
  have cellK : ∀ {c : Addr} {v : Option Value}, H c = none → s.heap.IsCell c v → h₁.IsCell c v := fun {c v} n ⟨o, ho, hd⟩ => by
    obtain ⟨sl, q⟩ := un.any ho n (by simp)
    exact ⟨_, kp _ _ q, hd⟩
  have noA : ∀ b : Addr, b ∉ (lamCx X A outer s1 HZ E scope f c').ex := fun b z => absurd (show b ∈ ([] : List Addr) from z) (by simp)
  refine ⟨⟨e0.mod, L.kind, rfl, rfl, Nat.le_refl _, fun y z c e1 e2 => I.ok.inj y z c (cm e1) (cm e2), fun y hy => ?_, fun y c z _ => ?_, fun _ => hd, Around.frames_deeper e0.frames, .inr ⟨rfl, rfl⟩, fun b z => absurd z (noA b), e0.bs, e0.bsz, fun b _ _ => noA b,
      fun b z => absurd z (noA b), e0.funs, e0.frf⟩,
    rfl, e0.bare, Un.kept kp, ⟨_, hns, fun i y v e1 e2 e3 => ?_⟩, fun y c e => ?_, e0.hok.fresh (Nat.le_refl _), fun y c e => ?_, fun q hq => absurd (show q ∈ ([] : List (Addr × Obj)) ++ [] from hq) (by simp), e0.hok.kept kp, I.len⟩
  · have hy : scope.names.lookup y = some .cell ∨ scope.names.lookup y = some .free := hy
    rcases hy with hy | hy
    · exact absurd rfl (L.own _ (PySem.mem_of_lookup hy)).2
    · exact look hy
  · have z : false = true := z
    cases z
  · have e3 : Vis scope y := e3
    rcases e3 with k | k | k
    · exact absurd rfl (L.own _ (PySem.mem_of_lookup k)).1
    · exact absurd rfl (L.own _ (PySem.mem_of_lookup k)).2
    · obtain ⟨m, hn, hl⟩ := I.loc
      have hvis : Vis X.env.scope y := (L.free _ (PySem.mem_of_lookup k) rfl).elim (fun k => .inr (.inl k)) (fun k => .inr (.inr k))
      obtain ⟨w', r, q⟩ := hl i y v e1 e2 hvis
      obtain ⟨c2, h2⟩ := look k
      refine ⟨w', r, .inr ⟨.inr k, c2, h2, ?_⟩⟩
      have c1 := cm h2
      rcases q with ⟨k', _⟩ | ⟨_, c3, e', z⟩
      · have k' : X.env.scope.names.lookup y = some .local := k'
        rcases L.free _ (PySem.mem_of_lookup k) rfl with k2 | k2 <;> rw [show X.env.scope.names.lookup y = _ from k2] at k' <;> cases k'
      · rw [c1] at e'
        cases e'
        exact cellK (I.freeC y _ c1) z
  · obtain ⟨w', z⟩ := I.cell y c (cm e)
    exact ⟨w', cellK (I.freeC y c (cm e)) z⟩
  · obtain ⟨v, o, ho, hd⟩ := I.cell y c (cm e)
    exact un.free c o ho (I.freeC y c (cm e)) (by simp)
end
/-- the thing at f can be called, without arguments, from whatever runs behind the state s (abstract heap H): tl tells its reading, q its code's name -/
def CanAct (P : Program) (w : World) (K : PySem.W.Frag) (mg : Str → Option Value) (base : Heap) (k : Nat) (q : Str) (f c' : Addr) (tl : XK → Hp → VK → Prop) (s : Shared) (H : Hp) : Prop :=
  ∀ (fs : List Addr) (CXg : CXT) (Ng : List Str) (qg : Str) (sg : Scope) (g : Addr) (cdg : Value) (A : Around) (outer : List Env) (sZ : Shared) (HZ0 : Hp) (Eg : XK), Un fs [] H HZ0 s.heap sZ.heap → f ∉ fs → (∀ b ∈ frs outer, b ∈ fs) → Room (k + 1) (A.deeper (envOfC qg sg sZ.heap.objs.size g cdg)) →
    ∀ (i : Nat) (a : Str) (W : WX) (pn : List (Addr × Obj)) (xe : Value → Shared → Prop) (E : XK) (p1 p2 : Pos), Ng[i]? = some a → Vis sg a → (a == ("__debug__" : Str)) = false → (a == ("__classdict__" : Str)) = false →
      Takes ((cxOf CXg P w K mg base Ng qg sg g cdg A outer sZ HZ0 Eg).tr pn xe) W → (∀ cls d σ' H', E cls d H' → W cls d σ' H') →
      PE ((cxOf CXg P w K mg base Ng qg sg g cdg A outer sZ HZ0 Eg).tr pn xe) (.Call (.Name a p1) [] [] p2) (fun σZ HZ Q => σZ[i]? = some (some (.ref f)) ∧ HZ c' = some (CodeO c' q) ∧ tl E HZ Q)
theorem CanAct.later {P : Program} {w : World} {K : PySem.W.Frag} {mg : Str → Option Value} {base : Heap} {k : Nat} {q : Str} {f c' : Addr} {tl : XK → Hp → VK → Prop} {s s1 : Shared} {H H1 : Hp} {fs0 : List Addr} (c : CanAct P w K mg base k q f c' tl s H) (un : Un fs0 [] H H1 s.heap s1.heap) (hf : f ∉ fs0) :
    CanAct P w K mg base k q f c' tl s1 H1 := fun fs CXg Ng qg sg g cdg A outer sZ HZ0 Eg un1 hf1 ho hr i a W pn xe E p1 p2 => by
  refine c (fs0 ++ fs) CXg Ng qg sg g cdg A outer sZ HZ0 Eg ((un.mono (fun b hb => List.mem_append_left _ hb) (fun _ z => z)).trans (un1.mono (fun b hb => List.mem_append_right _ hb) (fun _ z => z))) (fun z => ?_) (fun b hb => List.mem_append_right _ (ho b hb)) hr i a W pn xe E p1 p2
  rcases List.mem_append.mp z with z | z
  · exact hf z
  · exact hf1 z
section
variable {X : Cx} {pins : List (Addr × Obj)} {σ : L2.St} {H : Hp} {s : Shared}
/-- a lambda just made can be called -/
theorem canAct_of {f c' : Addr} {pm ctv : Value} {params : Arguments} {body : Expr} {scope : Scope} {k : Nat} {tb : XK → TE}
    (I : Inv X pins σ H s) (L : LamS X.env.scope scope) (hf : s.heap.get? f = some (PySem.W.kla_obj "<lambda>" (X.env.qual ++ "<lambda>") params body scope (cloFrom X.env.cells scope.names []) pm c' ctv)) (hfn : H f = none)
    (hbind : bindArgs (PySem.W.kla_fn "<lambda>" (X.env.qual ++ "<lambda>") params body scope (cloFrom X.env.cells scope.names []) pm (.ref c') ctv) ⟨[], []⟩ = pure [])
    (hbody : ∀ (A : Around) (outer : List Env) (s : Shared) (H : Hp) (E : XK), Room k (A.deeper (lamEnv X scope s.heap.objs.size f c')) → PE (lamCx X A outer s H E scope f c') body (tb E)) :
    CanAct X.prog X.w X.K X.mg X.base k (X.env.qual ++ "<lambda>") f c' (fun E H' Q => tb E σ H' Q) s H := by
  intro fs CXg Ng qg sg g cdg A outer sZ HZ0 Eg un0 hff ho hr i a W pn xe E p1 p2 hN hv hd hcd tk hW
  refine ⟨fun pinsZ s0 σZ HZ Q IZ h => ?_⟩
  obtain ⟨hs, hc, ht⟩ := h
  refine wpAny_Call_Name_kw (thn ((pe_var (pos := p1) (i := i) hN hv hd hcd).run pinsZ s0 σZ HZ (fun v H1 => v = .ref f ∧ H1 = HZ) IZ ⟨.ref f, hs, rfl, rfl⟩) fun u s1 ⟨v, H1, I1, r1, q1⟩ => ?_)
  obtain ⟨ev, eH⟩ := q1
  subst ev
  rw [eH] at I1
  obtain rfl : u = Value.ref f := r1
  have un : Un fs [] H HZ s.heap s1.heap := un0.trans (I1.base.mono ho fun _ z => z)
  have of1 : s1.heap.get? f = some (PySem.W.kla_obj "<lambda>" (X.env.qual ++ "<lambda>") params body scope (cloFrom X.env.cells scope.names []) pm c' ctv) := un.keep f _ hf hfn hff (fun z => nomatch (show f ∈ ([] : List Addr) from z))
  refine PySem.W.callWith_F0 ⟨_, _, _, _, of1⟩ ?_
  obtain ⟨⟨oc, vs, t, hoc, hdc, hvc⟩, _, _⟩ := I1.hok c' _ hc
  have rc : codeAny (model X.prog X.w) (A.deeper (envOfC qg sg sZ.heap.objs.size g cdg)) (.call (.ref f) ⟨[], []⟩) (CR (L2.CX X.prog X.w) (envOfC qg sg sZ.heap.objs.size g cdg :: outer) X.prog X.w HZ s1 Q E) s1 := by
    refine PySem.W.kla_callFunE hr.depth of1 rfl L.co L.gen rfl ⟨c', oc, vs, t, rfl, hoc, hdc, hvc⟩ ?_
    rw [hbind]
    refine wpAny_pure (wpAny_newFunctionEnv (fun y hy => (L.own y hy).2) (fun y hy => absurd hy (by simp)) (fun h₁ hns hsb => ⟨I1.nolimit.fresh _ hsb, ?_⟩) L.kind)
    show codeAny _ _ (.expr body (lamEnv X scope s1.heap.objs.size f c')) _ _
    have kp : ∀ b o, s1.heap.get? b = some o → h₁.get? b = some o := fun b o e => hsb.extBut b o (Nat.ne_of_lt (Heap.lt_size e)) (Heap.get?_push_of_some _ e)
    have J : Inv (lamCx X (A.deeper (envOfC qg sg sZ.heap.objs.size g cdg)) (envOfC qg sg sZ.heap.objs.size g cdg :: outer) s1 HZ E scope f c') [] σ HZ { s1 with heap := h₁, toks := s1.toks + ([] : List (Str × Value)).length } :=
      lam_startG I L I1.env0 hr.hd un hns kp
    refine PySem.W.kla_codeExpr (wpAny_mono ((hbody _ _ s1 HZ E (hr.deeper _)).run [] _ _ HZ Q J ht) (fun v s' hq => ?_) fun e s' hq => hq)
    obtain ⟨w', H', J', rv, q⟩ := hq
    exact ⟨w', H', J'.os, J'.bare, J'.base, J'.hok, rv, q⟩
  have hx : Passes (L2.CX X.prog X.w) ((cxOf CXg X.prog X.w X.K X.mg X.base Ng qg sg g cdg A outer sZ HZ0 Eg).tr pn xe) E := passes_call tk hW
  refine wpAny_call (codeAny_mono rc fun r s' hq => ?_)
  cases r with
  | error e => exact hx pinsZ σZ HZ s1 e s' I1 hq
  | ok fl =>
    cases fl with
    | ret u => exact I1.after hq
    | next => exact False.elim hq
    | brk => exact False.elim hq
    | cont => exact False.elim hq
end
/-- a def of one parameter (Ng: its names, the parameter first) that gets something to call: TT its promise; what the callee raises is caught within -/
structure Gives (P : Program) (w : World) (K : PySem.W.Frag) (mg : Str → Option Value) (base : Heap) (k kl : Nat) (x : Str) (g : Addr) (TT : (XK → Hp → VK → Prop) → Hp → VK → Prop) : Prop where
  m : mg x = some (.ref g)
  kp : PySem.W.keepIn K (.ref g) = true
  run : ∀ (q : Str) (A : Around) (outer : List Env) (f c' : Addr) (s : Shared) (H : Hp) (Q : VK) (tl : XK → Hp → VK → Prop), Room k A → Env0 P w K mg base A outer s H → CanAct P w K mg base kl q f c' tl s H → f ∉ frs outer → f < s.heap.objs.size → H c' = some (CodeO c' q) → TT tl H Q →
    codeAny (model P w) A (.call (.ref g) ⟨[.ref f], []⟩) (CR CX0 outer P w H s Q E0) s
theorem gives_of {P : Program} {w : World} {K : PySem.W.Frag} {mg : Str → Option Value} {base : Heap} {k kl : Nat} {x a : Str} {g : Addr} {fd : FuncData} {pg : Arguments} {bg : List Stmt} {sg : Scope} {Ng : List Str} {TT : (XK → Hp → VK → Prop) → Hp → VK → Prop}
    (F : FunD K x x pg bg sg [] [] g fd) (hm : mg x = some (.ref g)) (Sg : FnScope Ng [a] sg)
    (hb : ∀ (kV doc pm : Value) (an : Option Addr) (cdv ct : Value) (us : List Value), us.length = [a].length → bindArgs (PySem.W.fnOf x x pg bg sg .none kV doc pm an cdv ct) ⟨us, []⟩ = pure ([a].zip us))
    (hG : ∀ (q : Str) (cdg : Value) (A : Around) (outer : List Env) (f c' : Addr) (s : Shared) (H : Hp) (Q : VK) (tl : XK → Hp → VK → Prop), Room k (A.deeper (envOfC x sg s.heap.objs.size g cdg)) → CanAct P w K mg base kl q f c' tl s H → f ∉ frs outer → f < s.heap.objs.size → H c' = some (CodeO c' q) → TT tl H Q →
      ∃ t, PSs (cxOf CX0 P w K mg base Ng x sg g cdg A outer s H E0).nox bg t ∧ t { nx := fun _ H' => Q .non H', rt := Q } (L2.start Ng [.ref f]) H) : Gives P w K mg base (k + 1) kl x g TT := by
  have b := FunD.bindsN F hb
  refine ⟨hm, F.kp, fun q A outer f c' s H Q tl hr e0 act hfo hfs hc hT => ?_⟩
  obtain ⟨oc, od, dV, kV, doc, pm, an, cdv, ct, osl, rfl, lk, hcd, _, _⟩ := F.ex
  refine run_ofS (N := Ng) (ps := [a]) (us := [.ref f]) (vs := [.ref f]) lk hcd Sg hr e0 (b s [.ref f] (e0.mod.kin.keeps fun c o e => (e0.bs c o e).1) rfl) (.cons rfl .nil) rfl fun hr' => ?_
  obtain ⟨t, h1, h2⟩ := hG q cdv A outer f c' s H Q tl hr' act hfo hfs hc hT
  exact ⟨t, h1.nox, h2⟩
section
variable {X : Cx}
/-- x(lambda: body) -/
theorem pe_lam {T : List (Addr × Str)} {TT : (XK → Hp → VK → Prop) → Hp → VK → Prop} {x : Str} {g c P : Addr} {k kl : Nat}
    {params : Arguments} {body : Expr} {scope : Scope} {t : XK → TE} {p lpos pos : Pos} (G : Gives X.prog X.w X.K X.mg X.base k kl x g TT) (hg : Gl X x)
    (TB : TabB X.base X.mg c P) (hcode : X.env.code = .ref c) (hmT : (P, X.env.qual ++ "<lambda>") ∈ T) (hu : ∀ p ∈ T, p.1 = P → p.2 = X.env.qual ++ "<lambda>") (hr : Room k X.A) (L : LamS X.env.scope scope) (hdef : defaultsOf params X.env = ([], []))
    (hbind : ∀ (q : Str) (cl : List (Str × Addr)) (pm cv ctv : Value), bindArgs (PySem.W.kla_fn "<lambda>" q params body scope cl pm cv ctv) ⟨[], []⟩ = pure [])
    (hbody : ∀ (A : Around) (outer : List Env) (s : Shared) (H : Hp) (E : XK) (f c' : Addr), Room kl (A.deeper (lamEnv X scope s.heap.objs.size f c')) → PE (lamCx X A outer s H E scope f c') body (t E))
    (hdb : (x == ("__debug__" : Str)) = false := by decide) :
    PE X (.Call (.Name x p) [.Lambda params body scope lpos] [] pos) (tLam T TT t) := by
  refine ⟨fun pins s σ H Q I h => ?_⟩
  obtain ⟨hT, h⟩ := h
  refine wpAny_Call_Name_kw (ld_glob I hg G.m ?_ hdb)
  refine PySem.W.callWith_K (h₀ := X.base) I.ok.mod.kin G.kp ?_ (by rfl) (by rfl)
  show wpAny _ _ (spliced ((false, eval (.Lambda params body scope lpos) X.env) :: backTo pos (starEach [] X.env))) _ _ s
  refine Calls.spliced_cons (lam_make2 I TB hcode hmT hu hT hdef (L.has I.ok) fun f c' pm' ctv H1 s' I1 eN T1 hf hfn hfr hco => ?_)
  refine Calls.spliced_nil ⟨I1.kIn, ?_⟩
  have act := canAct_of (tb := t) I1 L hf hfn (hbind _ _ _ _ _) (fun A outer s H E hr2 => hbody A outer s H E f c' hr2)
  have rc := G.run _ X.A X.stack f c' s' H1 Q _ hr I1.env0 act hfr (Heap.lt_size hf) hco (h H1 eN T1)
  refine wpAny_call (codeAny_mono rc fun r s2 hq => ?_)
  cases r with
  | error e => exact (show False from hq).elim
  | ok fl =>
    cases fl with
    | ret u => exact I1.after hq
    | next => exact False.elim hq
    | brk => exact False.elim hq
    | cont => exact False.elim hq
end
/-- y(a) in a def that got something to call, y such a def too -/
theorem pe_passOn {P : Program} {w : World} {K : PySem.W.Frag} {mg : Str → Option Value} {base : Heap} {k kl : Nat} {q a y x : Str} {f c' gy g : Addr} {tl : XK → Hp → VK → Prop} {TT : (XK → Hp → VK → Prop) → Hp → VK → Prop} {s : Shared} {H : Hp} {A : Around} {outer : List Env} {Ng : List Str} {sg : Scope} {cdg : Value} {p1 p2 pos : Pos} {i : Nat}
    (G : Gives P w K mg base k kl y gy TT) (act : CanAct P w K mg base kl q f c' tl s H) (hfo : f ∉ frs outer) (hfs : f < s.heap.objs.size) (hr : Room k (A.deeper (envOfC x sg s.heap.objs.size g cdg)))
    (hgy : sg.names.lookup y = some .globalImplicit) (hN : Ng[i]? = some a) (hv : Vis sg a) (hdy : (y == ("__debug__" : Str)) = false := by decide) (hd : (a == ("__debug__" : Str)) = false := by decide) (hcd : (a == ("__classdict__" : Str)) = false := by decide) :
    PE (cxOf CX0 P w K mg base Ng x sg g cdg A outer s H E0).nox (.Call (.Name y p1) [.Name a p2] [] pos) (fun σZ HZ Q => σZ[i]? = some (some (.ref f)) ∧ HZ c' = some (CodeO c' q) ∧ TT tl HZ Q) := by
  refine ⟨fun pins s1 σZ HZ Q I h => ?_⟩
  obtain ⟨hs, hc, hT⟩ := h
  refine wpAny_Call_Name_kw (ld_glob (X := (cxOf CX0 P w K mg base Ng x sg g cdg A outer s H E0).nox) I hgy G.m ?_ hdy)
  refine PySem.W.callWith_K (h₀ := base) I.ok.mod.kin G.kp (thn ((pa_cons (X := (cxOf CX0 P w K mg base Ng x sg g cdg A outer s H E0).nox) (pe_var (pos := p2) (i := i) hN hv hd hcd) pa_nil).run pos pins s1 σZ HZ (fun vs H1 => vs = [.ref f] ∧ H1 = HZ) I ⟨.ref f, hs, rfl, rfl⟩) fun us s2 ⟨vs, H2, I2, r, q2⟩ => ⟨I2.kIn, ?_⟩) (by rfl) (by rfl)
  obtain ⟨ev, eH⟩ := q2
  subst ev
  rw [eH] at I2
  have eu : us = [Value.ref f] := by
    cases r with
    | cons r0 rr =>
      cases rr
      obtain rfl := (show _ = Value.ref f from r0)
      rfl
  subst eu
  have un : Un (frs outer) [] H HZ s.heap s2.heap := I2.base
  have lt2 : s.heap.objs.size ≤ s2.heap.objs.size := I2.sz
  have nfr : f ∉ frs (envOfC x sg s.heap.objs.size g cdg :: outer) := fun z => by
    unfold frs at z
    rw [List.filterMap_cons] at z
    have z' : f ∈ s.heap.objs.size :: frs outer := z
    rcases List.mem_cons.mp z' with e | e
    · exact absurd hfs (by rw [e]; exact Nat.lt_irrefl _)
    · exact hfo e
  have rc := G.run q (A.deeper (envOfC x sg s.heap.objs.size g cdg)) (envOfC x sg s.heap.objs.size g cdg :: outer) f c' s2 HZ Q tl hr I2.env0 (act.later un hfo) nfr (Nat.lt_of_lt_of_le hfs lt2) hc hT
  refine wpAny_call (codeAny_mono rc fun r s3 hq => ?_)
  cases r with
  | error e => exact (show False from hq).elim
  | ok fl =>
    cases fl with
    | ret u => exact I2.after hq
    | next => exact False.elim hq
    | brk => exact False.elim hq
    | cont => exact False.elim hq
end Xh
end
section
set_option Elab.async false
set_option linter.all false
set_option maxRecDepth 100000
set_option maxHeartbeats 2000000
namespace Xh
open PySem PySem.Spec PyProof.Rows L2
/-- a def of the module, called by its name: its promise, its defaults -/
structure Own (P : Program) (w : World) (K : PySem.W.Frag) (mg : Str → Option Value) (base : Heap) (CX : CXT) (k : Nat) (x : Str) (ps : List Str) (dvs : List V) (sp : Sp) : Prop where
  ex : ∃ (f : Addr) (fd : FuncData) (ds : List Value), FnOk P w K mg base CX k f fd ps sp ∧ mg x = some (.ref f) ∧ PySem.W.keepIn K (.ref f) = true ∧ Binds K fd ps ds ∧ Vals dvs ds
/-- .. called with its last parameter by keyword -/
structure OwnK (P : Program) (w : World) (K : PySem.W.Frag) (mg : Str → Option Value) (base : Heap) (CX : CXT) (k n : Nat) (x : Str) (ps ks : List Str) (sp : Sp) : Prop where
  ex : ∃ (f : Addr) (fd : FuncData), FnOk P w K mg base CX k f fd ps sp ∧ mg x = some (.ref f) ∧ PySem.W.keepIn K (.ref f) = true ∧ KBn K fd ps n ks (fun us ws => us ++ ws) (fun vs zs => vs ++ zs)
section
variable {P : Program} {w : World} {K : PySem.W.Frag} {mg : Str → Option Value} {base : Heap} {CX : CXT} {j k n : Nat} {x : Str} {ps ks : List Str} {dvs : List V} {sp sp' : Sp}
theorem Own.mono (O : Own P w K mg base CX j x ps dvs sp) (h : j ≤ k) : Own P w K mg base CX k x ps dvs sp := by
  obtain ⟨f, fd, ds, F, m, kp, b, r⟩ := O.ex
  exact ⟨f, fd, ds, F.mono h, m, kp, b, r⟩
theorem OwnK.mono (O : OwnK P w K mg base CX j n x ps ks sp) (h : j ≤ k) : OwnK P w K mg base CX k n x ps ks sp := by
  obtain ⟨f, fd, F, m, kp, b⟩ := O.ex
  exact ⟨f, fd, F.mono h, m, kp, b⟩
theorem own_of {q : Str} {params : Arguments} {body : List Stmt} {scope : Scope} {f : Addr} {fd : FuncData} (F : FunD K x q params body scope [] [] f fd) (G : FnOk P w K mg base CX k f fd ps sp) (m : mg x = some (.ref f))
    (h : ∀ (kV doc pm : Value) (an : Option Addr) (cdv ct : Value) (us : List Value), us.length = ps.length → bindArgs (PySem.W.fnOf x q params body scope .none kV doc pm an cdv ct) ⟨us, []⟩ = pure (ps.zip us)) : Own P w K mg base CX k x ps [] sp :=
  ⟨f, fd, [], G, m, F.kp, FunD.bindsN F h, .nil⟩
theorem own_ofK {q : Str} {params : Arguments} {body : List Stmt} {scope : Scope} {f : Addr} {fd : FuncData} {kws : List (Str × V)} (F : FunD K x q params body scope [] kws f fd) (G : FnOk P w K mg base CX k f fd ps sp) (m : mg x = some (.ref f))
    (h : ∀ (kV doc pm : Value) (an : Option Addr) (cdv ct : Value) (us ws : List Value), us.length = n → ws.length = ks.length → bindArgs (PySem.W.fnOf x q params body scope .none kV doc pm an cdv ct) ⟨us, ks.zip ws⟩ = pure (ps.zip (us ++ ws))) : OwnK P w K mg base CX k n x ps ks sp := by
  have kp := F.kp
  obtain ⟨oc, od, dV, kV, doc, pm, an, cdv, ct, osl, rfl, lk, hcd, hD, hK⟩ := F.ex
  rcases hD with ⟨_, rfl⟩ | ⟨e, _⟩
  · exact ⟨f, _, G, m, kp, ⟨fun s us ws X l1 l2 => .of_eq (h kV doc pm an cdv ct us ws l1 l2), fun r1 r2 => r1.append r2⟩⟩
  · exact absurd rfl e
theorem own_of0 {q : Str} {params : Arguments} {body : List Stmt} {scope : Scope} {f : Addr} {fd : FuncData} {kws : List (Str × V)} (F : FunD K x q params body scope [] kws f fd) (G : FnOk P w K mg base CX k f fd ps sp) (m : mg x = some (.ref f)) (n : Nat) (hk : kws ≠ []) (hn : n + kws.length = ps.length)
    (h : ∀ (D : Addr) (doc pm : Value) (an : Option Addr) (cdv ct : Value) (us ks : List Value), us.length = n → ks.length = kws.length →
      KwChain D ((kws.map (·.1)).zip ks) (bindArgs (PySem.W.fnOf x q params body scope .none (.ref D) doc pm an cdv ct) ⟨us, []⟩) (ps.zip (us ++ ks))) : Own P w K mg base CX k x ps (kws.map (·.2)) sp := by
  obtain ⟨ds, r, b⟩ := FunD.binds0 F n hk hn h
  exact ⟨f, fd, ds, G, m, F.kp, b, r⟩
end
section
variable {X : Cx} {CX : CXT} {k n : Nat} {x : Str} {ps ks : List Str} {dvs : List V} {sp : Sp} {E : XK} {p pos : Pos} {e : Expr} {es : List Expr} {kws : List Keyword} {t tk : TA}
theorem pe_own (O : Own X.prog X.w X.K X.mg X.base CX k x ps dvs sp) (hr : Room k X.A) (hg : Gl X x) (hx : Passes CX X E) (ha : PA X (e :: es) t) (hdb : (x == ("__debug__" : Str)) = false := by decide)
    (he : starEach (e :: es) X.env = (false, eval e X.env) :: starEach es X.env := by rfl) (hpl : (backTo pos (starEach es X.env)).any (·.1) = false := by rfl) : PE X (.Call (.Name x p) (e :: es) [] pos) (tCall sp dvs E t) := by
  obtain ⟨f, fd, ds, F, m, kp, b, r⟩ := O.ex
  exact pe_call F hr hg m kp b r hx ha hdb he hpl
theorem pe_own0 (O : Own X.prog X.w X.K X.mg X.base CX k x ps dvs sp) (hr : Room k X.A) (hg : Gl X x) (hx : Passes CX X E) (hdb : (x == ("__debug__" : Str)) = false := by decide) : PE X (.Call (.Name x p) [] [] pos) (tCall sp dvs E tNil) := by
  obtain ⟨f, fd, ds, F, m, kp, b, r⟩ := O.ex
  exact pe_call0 F hr hg m kp b r hx hdb
theorem pe_ownK (O : OwnK X.prog X.w X.K X.mg X.base CX k n x ps ks sp) (hr : Room k X.A) (hg : Gl X x) (hx : Passes CX X E)
    (ha : PA X (e :: es) t) (hkw : PK X kws tk) (hall : (backToKw pos (keywordEach kws X.env)).all (·.1.isSome) = true := by rfl) (hks : (backToKw pos (keywordEach kws X.env)).filterMap (·.1) = ks := by rfl)
    (hdb : (x == ("__debug__" : Str)) = false := by decide) (he : starEach (e :: es) X.env = (false, eval e X.env) :: starEach es X.env := by rfl)
    (hpl : ((backTo pos (starEach (e :: es) X.env)).any (·.1) || (backToKw pos (keywordEach kws X.env)).any (·.1.isNone)) = false := by rfl) :
    PE X (.Call (.Name x p) (e :: es) kws pos) (tCallN n ks.length sp (fun vs zs => vs ++ zs) E t tk) := by
  obtain ⟨f, fd, F, m, kp, b⟩ := O.ex
  exact pe_callN F hr hg m kp b hx ha hkw hall hks hdb he hpl
end
end Xh
end
section
set_option Elab.async false
set_option linter.all false
set_option maxRecDepth 100000
set_option maxHeartbeats 2000000
namespace Xh
open PySem PySem.Spec PyProof.Rows L2
/-! ### enumerate of a tuple -/
theorem meets_enum1 {v : Value} {o : Obj} {H : Heap → Prop} (B : Begins v o H) :
    Meets (Builtin.«enumerate.__new__» ⟨[.type "enumerate", v], []⟩) (fun _ R s => H s.heap ∧
      R (.ok (.ret (.ref (s.heap.push o).objs.size))) { s with heap := (s.heap.push o).push { cls := .type "enumerate", data := .fields #[.none, .bool false, .ref s.heap.objs.size, rawInt 0, .none, .none] } }) :=
  .of_wp fun prog w A R s h => by
    obtain ⟨hp, g, d, tk, os⟩ := s
    obtain ⟨h1, h⟩ := h
    have hsub := sub_enumerate
    have q1 : ∀ {A' : Around} {E : Value → Shared → Prop} {Q : Value → Shared → Prop}, Q (.ref hp.objs.size) ⟨hp.push o, g, d, tk, os⟩ → wpAny (model prog w) A' (pyIter v) Q E ⟨hp, g, d, tk, os⟩ :=
      fun q => B.iter prog w _ _ ⟨hp, g, d, tk, os⟩ _ h1 q
    wp_walk using q1
    refine wpAny_stack_any fun st => wpAny_pure ?_
    split
    · rename_i c _ _ _ _ _
      cases (c == Value.type "enumerate")
      · wp_walk using q1
        exact ⟨_, rfl, h⟩
      · wp_walk using q1
        exact ⟨_, rfl, h⟩
    · wp_walk using q1
      exact ⟨_, rfl, h⟩
theorem call_enum1 {prog : Program} {w : World} {A : Around} {E : Value → Shared → Prop} {s : Shared} {v : Value} {o : Obj} {H : Heap → Prop} {Q : Value → Shared → Prop} (B : Begins v o H) (h1 : H s.heap)
    (h : ∀ h', IsEnum h' (s.heap.objs.size + 1) s.heap.objs.size 0 .none → h'.get? s.heap.objs.size = some o → h'.objs.size = s.heap.objs.size + 2 →
      (∀ b o, s.heap.get? b = some o → h'.get? b = some o) → Q (.ref (s.heap.objs.size + 1)) { s with heap := h' }) :
    wpAny (model prog w) A (call (.type "enumerate") [v]) Q E s := by
  refine callType_new F.called_enumerate (by decide) (F.typeCall_enumerate_1 _) (F.newCall_enumerate_1 _) (fun obj => F.args_object_init_2 obj _) F.entry_enumerate_new (meets_enum1 B) ⟨h1, ?_⟩
  have hz : (s.heap.push o).objs.size = s.heap.objs.size + 1 := Heap.size_push ..
  show _ ∧ _
  rw [hz]
  have he := Heap.get?_push_size (s.heap.push o) (o := { cls := .type "enumerate", data := .fields #[.none, .bool false, .ref s.heap.objs.size, rawInt 0, .none, .none] }) rfl
  rw [hz] at he
  exact ⟨⟨_, he, rfl⟩, h _ he (Heap.get?_push_of_some _ (Heap.get?_push_size _ B.free)) (by rw [Heap.size_push, hz]) fun b o x => Heap.get?_push_of_some _ (Heap.get?_push_of_some _ x)⟩
/-- the tuple at a, each item in a new pair with its place -/
def IteT (K : PySem.W.Frag) (a : Addr) : It :=
  ⟨fun i H => ∃ (xs : List V) (x : V), SqT K H a xs ∧ xs[i]? = some x, fun i H v H' => ∃ T x, v = .ref T ∧ H T = none ∧ H' = upd H T (.tup [.int (i : Nat), x]) ∧ ∀ xs, SqT K H a xs → xs[i]? = some x, fun i H => ∃ xs : List V, SqT K H a xs ∧ xs.length ≤ i⟩
theorem next_enum_endT {prog : Program} {w : World} {A : Around} {E : Value → Shared → Prop} {s : Shared} {e it l : Addr} {i : Nat} {items : Array Value} {c : Int} {old : Value} {Q : Option Value → Shared → Prop} (hh : A.handled = none)
    (he : IsEnum s.heap e it c old) (hit : s.heap.IsTupleIter it l i) (hl : s.heap.IsTuple l items) (hx : items[i]? = none) (hQ : ∀ h', Heap.ExtBut it s.heap h' → Q none { s with heap := h' }) : wpAny (model prog w) A (pyNext (.ref e)) Q E s := by
  unfold pyNext
  refine wpAny_bind (wpAny_attempt (wpAny_callSpecial?_slot (name := Str.ofString "__next__") ⟨_, he, rfl⟩ F.slot_enumerate_next (wpAny_call_entry F.slot_enumerate_next ⟨_, he, rfl⟩ F.entry_enumerate_next ?_ (F.args_enumerate_next_1 _))))
  show wpAny _ _ (field (.ref e) 2 >>= _) _ _ _
  refine wpAny_bind (wpAny_field he rfl (x := .ref it) rfl (wpAny_bind (wpAny_nextOf_tuple_end hh hit hl hx fun h' x he' hx' => ?_)))
  obtain ⟨o, ho, hc⟩ := hx'
  exact wpAny_bind (wpAny_isInstance (T := "StopIteration") (b := true) ⟨o, ho, hc⟩ isSubtype_stop (wpAny_pure (hQ _ he')))
theorem turn_enumT {P : Program} {w : World} {K : PySem.W.Frag} {elts : List Expr} {kk : Nat} {tpos : Pos} {a e it : Addr} (hai : a ≠ it) (hea : e ≠ a) :
    Turn P w K (.Tuple elts kk tpos) (IteT K a) [e, it] e (fun i h => (∃ old, IsEnum h e it ((i : Nat) : Int) old) ∧ h.IsTupleIter it a i ∧ e ≠ it) where
  mem := by simp
  obj := fun i h st b hb => by
    obtain ⟨⟨old, he⟩, ⟨o, ho, hc, hd⟩, _⟩ := st
    rcases (show b = e ∨ b = it by simpa using hb) with rfl | rfl
    · exact ⟨_, he, fun v q => nomatch q⟩
    · exact ⟨o, ho, fun v q => by rw [hd] at q; cases q⟩
  keep := fun i h h' st k => let ⟨⟨old, he⟩, hi, hne⟩ := st; ⟨⟨old, k e (by simp) _ he⟩, hi.at fun o q => k it (by simp) o q, hne⟩
  item := by
    intro X hP hw hK hc i pins s σ H E I hf st hg
    subst hP hw hK
    obtain ⟨⟨old, he⟩, hit, hne⟩ := st
    obtain ⟨xs, x, hq, hx⟩ := hg
    obtain ⟨its, rv, p, hz⟩ := I.tuple hq
    obtain ⟨u, hu, ru⟩ := rv.get hx
    have hel : e < s.heap.objs.size := Heap.lt_size he
    have hil : it < s.heap.objs.size := by obtain ⟨_, q, _⟩ := hit; exact Heap.lt_size q
    have hlt : i < its.toArray.size := by
      obtain ⟨z, _⟩ := List.getElem?_eq_some_iff.mp hu
      simpa using z
    have D := Draws.tuple (prog := X.prog) (w := X.w) (A := X.A.in1) (I.ok.hd hc) it a hai its.toArray
    refine wpAny_pyNext_enum_itemD D he ⟨hit, p⟩ hlt hne (by simp [hne, hea]) fun x' h' tk hx' ho hs' hT hsz hk => ?_
    have ex : x' = u := by
      have z : its[i]? = some x' := by simpa using hx'
      rw [hu] at z
      exact (Option.some.inj z).symm
    subst ex
    refine ⟨_, rfl, wpAny_letOwnedTupleGo_enum (s := { s with heap := h', toks := tk + 1 }) ho fun h'' he' sb => ?_⟩
    have hT2 := (sb.2 _ (Nat.ne_of_gt hel)).trans hT
    have new : ObjOk X.prog X.w (upd H s.heap.objs.size (.tup [.int (i : Nat), x])) h'' s.heap.objs.size (.tup [.int (i : Nat), x]) :=
      ⟨by show 2 ≤ sizeLine; decide, [.int i tk, x'], .cons ⟨_, rfl⟩ (.cons ru .nil), ⟨_, hT2, rfl, _, rfl⟩⟩
    have I1 : Inv X pins σ (upd H s.heap.objs.size (.tup [.int (i : Nat), x])) { s with heap := h'', toks := tk + 1 } :=
      I.turnedNew (ch := [e, it]) (fun b ob hb q => (sb.2 b (fun z => hb (by simp [z]))).trans (hk b ob (fun z => hb (by simp [z])) (fun z => hb (by simp [z])) q)) hf (Nat.le_refl _) new
    refine ⟨.ref s.heap.objs.size, _, I1, rfl, ⟨_, x, rfl, I.hok.fresh (Nat.le_refl _), rfl, fun ys hy => by rw [I.tuple_inj hy hq]; exact hx⟩, ⟨⟨x', ?_⟩, hs'.1.at fun o q => (sb.2 it (Ne.symm hne)).trans q, hne⟩, fun b hb => ?_⟩
    · rw [show ((i + 1 : Nat) : Int) = (i : Int) + 1 by omega]
      exact he'
    · have hb' : b < s.heap.objs.size := by
        rcases (show b = e ∨ b = it by simpa using hb) with rfl | rfl
        · exact hel
        · exact hil
      rw [upd_ne (Nat.ne_of_lt hb')]
      exact (hf b hb).1
  done := by
    intro X hP hw hK hc i pins s σ H E I hf st hg
    subst hP hw hK
    obtain ⟨⟨old, he⟩, hit, hne⟩ := st
    obtain ⟨xs, hq, hx⟩ := hg
    obtain ⟨its, rv, p, hz⟩ := I.tuple hq
    obtain ⟨f0, f1, f2, f3, f4, f5⟩ := hf it (by simp)
    have hl := rv.length
    exact next_enum_endT (I.ok.hd hc) he hit p (by simp; omega) fun h' eb => ⟨rfl, I.turned (t' := s.toks) (fun b o hb q => eb b o hb q) f0 f1 f3 f4 f5⟩
  self := fun A i s Q E st h => let ⟨⟨_, he⟩, _⟩ := st; wpAny_pyIter_enum he h
def iEnT (K : PySem.W.Frag) (ta : TA) : TI := fun σ H R => ta σ H fun vs H1 => ∃ a xs, vs = [.ref a] ∧ SqT K H1 a xs ∧ R (IteT K a) H1
theorem pi_enT {X : Cx} {e : Expr} {ta : TA} {p pos tpos : Pos} {elts : List Expr} {kk : Nat} (hg : Gl X "enumerate") (hm : X.mg "enumerate" = none) (ha : PA X [e] ta) (hs : starEach [e] X.env = [(false, eval e X.env)] := by rfl) :
    PI X (.Tuple elts kk tpos) (.Call (.Name "enumerate" p) [e] [] pos) (iEnT X.K ta) := by
  refine ⟨fun pins s σ H R I h => ?_⟩
  refine Call_ (ld_blt I hg hm boot_enumerate (PyProof.Rows.callWith_type1 (thn (ha.run pos pins s σ H _ I h) fun us s1 ⟨vs, H1, I1, r1, q1⟩ => ?_) hs rfl))
  obtain ⟨a, xs, rfl, hq, q⟩ := q1
  cases r1 with
  | cons r rr =>
    cases rr
    cases r
    obtain ⟨its, rv, p', hz⟩ := I1.tuple hq
    have al : a < s1.heap.objs.size := by
      obtain ⟨o, q', _⟩ := p'
      exact Heap.lt_size q'
    refine call_enum1 (begins_tuple a its.toArray) p' fun h' he hit hsz hk => wpAny_pyIter_enum he ?_
    have I2 : Inv X pins σ H1 { s1 with heap := h' } := I1.kept (t' := s1.toks) hk
    refine ⟨s1.heap.objs.size + 1, [s1.heap.objs.size + 1, s1.heap.objs.size], _, _, H1, rfl, I2, turn_enumT (Nat.ne_of_lt al) (Nat.ne_of_gt (Nat.lt_succ_of_lt al)), ⟨⟨.none, he⟩, ⟨_, hit, rfl, rfl⟩, Nat.succ_ne_self _⟩, fun b hb => ?_, q⟩
    have hle : s1.heap.objs.size ≤ b := by
      rcases (show b = s1.heap.objs.size + 1 ∨ b = s1.heap.objs.size by simpa using hb) with rfl | rfl
      · exact Nat.le_add_right _ _
      · exact Nat.le_refl _
    exact I1.fpOk hle (I1.hok.fresh hle)
theorem walk_enT {K : PySem.W.Frag} {a : Addr} {xs : List V} : Walk (IteT K a) xs.length (fun H => SqT K H a xs) (YPair (fun i => some (.int (i : Nat))) (fun i => xs[i]?)) :=
  ⟨fun i H hi h => ⟨xs, xs[i], h, by simp [hi]⟩, fun H h => ⟨xs, h, Nat.le_refl _⟩,
    fun i H x H' hi h y => by
      obtain ⟨T, u, e1, e2, e3, q⟩ := y
      exact ⟨T, _, u, e1, e2, e3, rfl, q xs h⟩⟩
end Xh
namespace Xh
open PySem PySem.Spec PyProof.Rows L2
/-- xs[i] of a list, i not below 0, for `xs[i] op= e` -/
theorem get_list {X : Cx} : PGet X (rIxL X.K) := by
  intro pins s σ H o i ov iv Q I ro ri h
  obtain ⟨p, xs, k, z, rfl, rfl, hq, he, q⟩ := h
  cases ro
  obtain ⟨t, rfl⟩ := ri
  obtain ⟨its, r, pl, hz⟩ := I.list hq
  obtain ⟨j, h1, h2, h3, h4, h5⟩ := atI_get he
  obtain ⟨w, ew, rw'⟩ := r.get h2
  have hl := r.length
  have hn := line63
  have fin : EP X pins σ Q w s := ⟨z, H, I, rw', q⟩
  by_cases h0 : 0 ≤ k
  · have hj : k.toNat = j := by
      rw [seqIndex_of h0 h5] at h1
      exact Option.some.inj h1
    exact wpAny_getItem_list pl.isList h0 (by omega) (by rw [hj]; simpa using ew) fin
  · have hj : (k + (its.toArray.size : Int)).toNat = j := by
      rw [seqIndex_neg (by omega) h4] at h1
      rw [List.size_toArray, ← hl]
      exact Option.some.inj h1
    exact wpAny_getItem_list_neg pl.isList (by omega) (by rw [List.size_toArray] <;> omega) (by omega) (by rw [hj]; simpa using ew) fin
end Xh
end
section
set_option Elab.async false
set_option linter.all false
set_option maxRecDepth 100000
set_option maxHeartbeats 4000000
namespace Xk
open PySem PySem.Spec PyProof.Rows L2 Xh
def topS (i : Nat) : Stmt := PySem.Challenge.pw_rungfields_k02_sums_and_products.main.body.getD i (.Pass ⟨0, 0, 0, 0⟩)
/-- names that are the built-in ones still -/
structure Fre (mg : Str → Option Value) : Prop where
  f_len : mg "len" = none
  f_abs : mg "abs" = none
  f_list : mg "list" = none
  f_tuple : mg "tuple" = none
  f_int : mg "int" = none
  f_bool : mg "bool" = none
  f_str : mg "str" = none
  f_isinstance : mg "isinstance" = none
  f_range : mg "range" = none
  f_all : mg "all" = none
  f_zip : mg "zip" = none
  f_enumerate : mg "enumerate" = none
  f_max : mg "max" = none
/-! ### what is drawn -/
/-- a row of draws stands at d -/
def Draw (H : Hp) (d : Addr) : Prop := ∃ (c : Addr) (ns : List Int) (i : Nat) (r g : Int), H d = some (.lst [.ref c, .int i, .int r, .int g]) ∧ H c = some (.lst (ns.map V.int)) ∧ 0 ≤ g ∧ g < 2147483647
/-- all but what stands at d is as it was -/
def But (d : Addr) (H H' : Hp) : Prop := ∀ b o, b ≠ d → H b = some o → H' b = some o
theorem But.refl (d : Addr) (H : Hp) : But d H H := fun _ _ _ e => e
theorem But.trans {d : Addr} {H H1 H2 : Hp} (a : But d H H1) (b : But d H1 H2) : But d H H2 := fun c o h e => b c o h (a c o h e)
theorem But.same {d : Addr} {H H1 : Hp} (a : Same H H1) : But d H H1 := fun c o _ e => a c o e
theorem But.upd {d : Addr} {H : Hp} {o : HO} : But d H (upd H d o) := fun b u h e => by rw [upd_ne h]; exact e
theorem But.updN {d p : Addr} {H : Hp} {o : HO} (h : H p = none) : But d H (L2.upd H p o) := fun b u _ e => by rw [upd_ne (ne_of_none e h)]; exact e
theorem But.free {d p : Addr} {H H' : Hp} (a : But d H H') (h : H' p = none) (hd : p ≠ d) : H p = none := by
  cases q : H p with
  | none => rfl
  | some o =>
    rw [a p o hd q] at h
    cases h
theorem same_upd {p : Addr} {H : Hp} {o : HO} (h : H p = none) : Same H (L2.upd H p o) := fun b u e => by rw [upd_ne (ne_of_none e h)]; exact e
theorem Draw.there {H : Hp} {d : Addr} (D : Draw H d) : ∃ o, H d = some o := by
  obtain ⟨c, ns, i, r, g, h, _⟩ := D
  exact ⟨_, h⟩
theorem Draw.same {H H' : Hp} {d : Addr} (D : Draw H d) (s : Same H H') : Draw H' d := by
  obtain ⟨c, ns, i, r, g, h1, h2, h3⟩ := D
  exact ⟨c, ns, i, r, g, s _ _ h1, s _ _ h2, h3⟩
theorem Draw.ne {H : Hp} {d p : Addr} (D : Draw H d) (h : H p = none) : p ≠ d := fun z => by
  obtain ⟨o, e⟩ := D.there
  rw [z, e] at h
  cases h
theorem But.seq {K : PySem.W.Frag} {d a : Addr} {H H' : Hp} {xs : List V} (b : But d H H') (hd : a ≠ d) (h : SqL K H a xs) : SqL K H' a xs := by
  rcases h with (h | ⟨o, h⟩) | h
  · exact .inl (.inl (b _ _ hd h))
  · exact .inl (.inr ⟨o, b _ _ hd h⟩)
  · exact .inr h
/-- a row that is not the drawing one -/
theorem Draw.apart {H : Hp} {d p : Addr} {ns : List Int} (D : Draw H d) (h : H p = some (.lst (ns.map V.int))) : p ≠ d := fun z => by
  obtain ⟨c, ms, i, r, g, h1, h2, h3⟩ := D
  rw [z, h1] at h
  cases ns with
  | nil => cases h
  | cons n ns => cases h
theorem cutV_ints (ns : List Int) (lo hi : Option Int) : ∃ ms : List Int, cutV (ns.map V.int) lo hi = ms.map V.int := by
  refine ⟨(ns.drop (HT.sIx ns.length 0 lo)).take (HT.sIx ns.length ns.length hi - HT.sIx ns.length 0 lo), ?_⟩
  unfold cutV
  rw [List.length_map, ← List.map_drop, ← List.map_take]
theorem ne_of_none' {H : Hp} {a b : Addr} {o : HO} (h : H a = none) (h' : H b = some o) : a ≠ b := fun z => by
  rw [z, h'] at h
  cases h
def spBegin (K : PySem.W.Frag) : Sp := fun vs H Q _ => ∃ (a : Addr) (ns : List Int), vs = [.ref a] ∧ SqL K H a (ns.map V.int) ∧ ∀ d H', Same H H' → H d = none → Draw H' d → Q (.ref d) H'
def spTake : Sp := fun vs H Q _ => ∃ (d : Addr) (n : Int), vs = [.ref d, .int n] ∧ Draw H d ∧ 1 ≤ n ∧ n.natAbs < 2 ^ 200 ∧ ∀ (m : Int) (H' : Hp), 0 ≤ m → m < n → Draw H' d → But d H H' → Q (.int m) H'
def spOf (K : PySem.W.Frag) : Sp := fun vs H Q _ => ∃ (d a : Addr) (xs : List V), vs = [.ref d, .ref a] ∧ Draw H d ∧ SqL K H a xs ∧ a ≠ d ∧ 0 < xs.length ∧ xs.length ≤ 1000 ∧ ∀ (x : V) (H' : Hp), x ∈ xs → Draw H' d → But d H H' → Q x H'
def primes : List Int := [2, 3, 5, 7, 11, 13, 17, 19, 23, 29, 31, 37, 41, 43, 47, 53, 59, 61, 67, 71, 73, 79, 83, 89, 97]
def spPrimes : Sp := fun vs H Q _ => vs = [] ∧ ∀ (p : Addr) (H' : Hp), Same H H' → H p = none → H' p = some (.lst (primes.map V.int)) → Q (.ref p) H'
def spAnyPrime : Sp := fun vs H Q _ => ∃ (d : Addr), vs = [.ref d] ∧ Draw H d ∧ ∀ (p : Int) (H' : Hp), p ∈ primes → Draw H' d → But d H H' → Q (.int p) H'
theorem big {n : Nat} (h : n ≤ 1000) : n < 2 ^ 200 := Nat.lt_of_le_of_lt h (by decide)
section
variable {P : Program} {w : World} {K : PySem.W.Frag} {mg : Str → Option Value} {base : Heap}
abbrev s_law_begin : Stmt := topS 25
theorem sc_law_begin : FnScope (["_law_script"] : List Str) ["_law_script"] (defScope s_law_begin) := ⟨rfl, rfl, rfl, by decide +kernel, rfl, by decide +kernel, by decide +kernel⟩
theorem ok_begin {f : Addr} {fd : FuncData} (F : FunD K "_law_begin" "_law_begin" (defArgs s_law_begin) (defBody s_law_begin) (defScope s_law_begin) [] [] f fd) (T : Fre mg) : FnOk P w K mg base CX0 1 f fd ["_law_script"] (spBegin K) := by
  refine F.ok sc_law_begin (fun vs H Q E h => ?_) (fun cdv A outer s H vs Q E hr h => ?_)
  · obtain ⟨a, ns, rfl, _⟩ := h
    rfl
  · obtain ⟨a, ns, rfl, hS, k⟩ := h
    refine ⟨_, PSs.nox (pss_one (ps_ret (pe_lst (pa_cons (pe_callTy call_list_of (by rfl) T.f_list (by decide +kernel) (pa_cons (pe_slice sl_list (pv 0) po_none (po_some pe_int)) pa_nil)) (pa_cons pe_int (pa_cons pe_int (pa_cons pe_int pa_nil))))))) , ?_⟩
    refine ⟨_, rfl, 63, rfl, a, _, rfl, hS, fun p hp => ⟨p, _, rfl, .inl (SqL.of upd_same), fun l hl => ⟨(by show 4 ≤ sizeLine; decide), fun d hd => ?_⟩⟩⟩
    obtain ⟨ms, em⟩ := cutV_ints ns none (some 63)
    have h1 : H l = none := by rw [← upd_ne (H := H) (o := .lst (cutV (ns.map V.int) none (some 63))) (ne_of_none' hl upd_same)]; exact hl
    have s1 : Same H (L2.upd H p (.lst (cutV (ns.map V.int) none (some 63)))) := same_upd hp
    have s2 := s1.trans (same_upd (o := .lst (cutV (ns.map V.int) none (some 63))) hl)
    refine k d _ (s2.trans (same_upd hd)) (s2.free hd) ⟨l, ms, 0, 0, 37, upd_same, ?_, by decide, by decide⟩
    rw [upd_ne (ne_of_none upd_same hd), upd_same, em]
abbrev s_law_take : Stmt := topS 26
theorem sc_law_take : FnScope (["_law_draw", "_law_sides", "_law_cell", "_law_got"] : List Str) ["_law_draw", "_law_sides"] (defScope s_law_take) := ⟨rfl, rfl, rfl, by decide +kernel, rfl, by decide +kernel, by decide +kernel⟩
theorem ok_take {f : Addr} {fd : FuncData} (F : FunD K "_law_take" "_law_take" (defArgs s_law_take) (defBody s_law_take) (defScope s_law_take) [] [] f fd) (T : Fre mg) : FnOk P w K mg base CX0 1 f fd ["_law_draw", "_law_sides"] spTake := by
  refine F.ok sc_law_take (fun vs H Q E h => ?_) (fun cdv A outer s H vs Q E hr h => ?_)
  · obtain ⟨d, n, rfl, _⟩ := h
    rfl
  · obtain ⟨d, n, rfl, D, h1, h2, k⟩ := h
    obtain ⟨c, ns, i, r, g, e1, e2, g0, g1⟩ := id D
    have hcd : c ≠ d := D.apart e2
    refine ⟨_, PSs.nox (C8.pss_cut (ps_if (PW.pt (pw_and (pt_cmpR op_lt (pe_ix ix_list (pv 0) pe_int (fun _ _ => rfl)) (pv 1) (nomark _)) (pw_and1 (pt_cmpR op_lt (pe_ix ix_list (pv 0) pe_int (fun _ _ => rfl)) (pe_callB call_len_seq (by rfl) T.f_len PySem.boot_len (pa_cons (pe_ix ix_list (pv 0) pe_int (fun _ _ => rfl)) pa_nil)) (nomark _))))) (pss_cons (ps_set (i := 2) sc_law_take.nd rfl (Or.inl rfl) (pe_ix ix_list (pe_ix ix_list (pv 0) pe_int (fun _ _ => rfl)) (pe_ix ix_list (pv 0) pe_int (fun _ _ => rfl)) (fun _ _ => rfl)))
      (pss_cons (ps_asg (pe_op op_add (pe_ix ix_list (pv 0) pe_int (fun _ _ => rfl)) pe_int) (pg_sub (pv 0) pe_int set_list))
      (pss_cons (ps_asg pe_int (pg_sub (pv 0) pe_int set_list))
      (pss_one (ps_if (pt_cmpR op_ge (pe_callB call_abs (by rfl) T.f_abs (by decide +kernel) (pa_cons (pv 2) pa_nil)) (pe_op op_pow pe_int pe_int) (nomark _)) (pss_one (ps_asg (pe_callB call_abs (by rfl) T.f_abs (by decide +kernel) (pa_cons (pv 2) pa_nil)) (pg_sub (pv 0) pe_int set_list))) (pss_one (ps_asg (pe_op op_modN (pe_op op_add (pe_op op_add (pe_op op_mul (pe_ix ix_list (pv 0) pe_int (fun _ _ => rfl)) pe_int) (pe_op op_mul (pe_op op_modN (pv 2) pe_int) pe_int)) pe_int) pe_int) (pg_sub (pv 0) pe_int set_list)))))))) pss_nil)
      (pss_cons (ps_if (pt_cmpR op_ge (pe_ix ix_list (pv 0) pe_int (fun _ _ => rfl)) (pv 1) (nomark _)) (pss_cons (ps_set (i := 3) sc_law_take.nd rfl (Or.inl rfl) (pe_op op_modN (pe_ix ix_list (pv 0) pe_int (fun _ _ => rfl)) (pv 1)))
      (pss_cons (ps_asg (pe_op op_fdivW (pe_ix ix_list (pv 0) pe_int (fun _ _ => rfl)) (pv 1)) (pg_sub (pv 0) pe_int set_list))
      (pss_one (ps_ret (pv 3))))) pss_nil)
      (pss_cons (ps_asg (pe_op op_modN (pe_op op_add (pe_op op_add (pe_op op_mul (pe_op op_modN (pe_op op_mul (pe_ix ix_list (pv 0) pe_int (fun _ _ => rfl)) (pe_ix ix_list (pv 0) pe_int (fun _ _ => rfl))) pe_int) pe_int) (pe_op op_mul (pe_ix ix_list (pv 0) pe_int (fun _ _ => rfl)) pe_int)) pe_int) pe_int) (pg_sub (pv 0) pe_int set_list))
      (pss_one (ps_ret (pe_op op_modN (pe_op op_add (pe_op op_fdivW (pe_ix ix_list (pv 0) pe_int (fun _ _ => rfl)) pe_int) (pe_op op_mul (pe_op op_modN (pe_ix ix_list (pv 0) pe_int (fun _ _ => rfl)) pe_int) pe_int)) (pv 1))))))) , ?_⟩
    refine ⟨fun σ' H' => ∃ x, σ' = [some (.ref d), some (.int n), x, none] ∧ Draw H' d ∧ But d H H', ?_, ?_⟩
    · have same : ∃ x, L2.start ["_law_draw", "_law_sides", "_law_cell", "_law_got"] [V.ref d, V.int n] = [some (.ref d), some (.int n), x, none] ∧ Draw H d ∧ But d H H := ⟨none, rfl, D, But.refl d H⟩
      refine ⟨_, rfl, d, _, 2, _, rfl, rfl, SqL.of e1, rfl, _, rfl, _, _, rfl, rfl, _, rfl, ?_⟩
      refine ite2 (fun hc => ?_) (fun hc => ?_)
      · refine ⟨_, rfl, d, _, 1, _, rfl, rfl, SqL.of e1, rfl, _, rfl, d, _, 0, _, rfl, rfl, SqL.of e1, rfl, c, _, rfl, .inl (SqL.of e2), _, _, rfl, rfl, _, rfl, ?_⟩
        refine ite2 (fun hi => ?_) (fun hi => ?_)
        · have hi' : i < ns.length := by
            have z := of_decide_eq_true hi
            rw [List.length_map] at z
            omega
          have e1a : ∀ o : HO, L2.upd H d o d = some o := fun o => upd_same
          refine ⟨_, rfl, d, _, 0, _, rfl, rfl, SqL.of e1, rfl, _, rfl, d, _, 1, _, rfl, rfl, SqL.of e1, rfl, c, _, i, .int ns[i], rfl, rfl, SqL.of e2, atI_nat (by simp [hi']), ?_⟩
          refine ⟨_, rfl, d, _, 1, _, rfl, rfl, SqL.of e1, rfl, _, _, rfl, rfl, _, rfl, d, _, 1, 1, rfl, rfl, e1, rfl, ?_⟩
          refine ⟨_, rfl, d, _, 2, 2, rfl, rfl, upd_same, rfl, ?_⟩
          rw [upd_upd]
          refine ⟨_, rfl, _, rfl, _, _, rfl, rfl, ⟨by decide, by decide, by decide⟩, _, _, rfl, rfl, _, rfl, ?_⟩
          have fin : ∀ (r' g' : Int), 0 ≤ g' → g' < 2147483647 → ∃ x, [some (V.ref d), some (V.int n), some (V.int ns[i]), none] = [some (.ref d), some (.int n), x, none] ∧ Draw (L2.upd H d (.lst [.ref c, .int ((i : Int) + 1), .int r', .int g'])) d ∧ But d H (L2.upd H d (.lst [.ref c, .int ((i : Int) + 1), .int r', .int g'])) := fun r' g' a1 a2 =>
            ⟨_, rfl, ⟨c, ns, i + 1, r', g', upd_same, by rw [upd_ne hcd]; exact e2, a1, a2⟩, But.upd⟩
          refine ite2 (fun ha => ?_) (fun ha => ?_)
          · refine ⟨_, rfl, _, rfl, _, rfl, d, _, 2, 2, rfl, rfl, upd_same, rfl, ?_⟩
            rw [upd_upd]
            exact fin _ g g0 g1
          · refine ⟨_, rfl, d, _, 3, _, rfl, rfl, SqL.of upd_same, rfl, _, _, rfl, rfl, .inr ⟨by decide, by decide⟩, _, rfl, _, _, rfl, rfl, (fun z => absurd z (by decide)), _, _, rfl, rfl, .inr ⟨by decide, by decide⟩, _, _, rfl, rfl, _, _, rfl, rfl, _, _, rfl, rfl, (fun z => absurd z (by decide)), _, rfl, d, _, 3, 3, rfl, rfl, upd_same, rfl, ?_⟩
            rw [upd_upd]
            exact fin 0 _ (Int.fmod_nonneg_of_pos _ (by decide)) (Int.fmod_lt_of_pos _ (by decide))
        · exact same
      · exact same
    · rintro σ' H' ⟨x, rfl, ⟨c', ns', i', r', g', f1, f2, b0, b1⟩, hb⟩
      have D' : Draw H' d := ⟨c', ns', i', r', g', f1, f2, b0, b1⟩
      have hcd' : c' ≠ d := D'.apart f2
      have hwd : CDivW r' n := wide_div (b := 200) (by omega) h2 (by decide) (by decide)
      refine ⟨_, rfl, d, _, 2, _, rfl, rfl, SqL.of f1, rfl, _, rfl, _, _, rfl, rfl, _, rfl, ?_⟩
      refine ite2 (fun hc => ?_) (fun hc => ?_)
      · refine ⟨_, rfl, d, _, 2, _, rfl, rfl, SqL.of f1, rfl, _, rfl, _, _, rfl, rfl, (by show n ≠ 0; omega), ?_⟩
        refine ⟨_, rfl, d, _, 2, _, rfl, rfl, SqL.of f1, rfl, _, rfl, _, _, rfl, rfl, hwd, _, rfl, d, _, 2, 2, rfl, rfl, f1, rfl, _, rfl, ?_⟩
        refine k _ _ (Int.fmod_nonneg_of_pos _ (by omega)) (Int.fmod_lt_of_pos _ (by omega)) ⟨c', ns', i', _, g', upd_same, by rw [upd_ne hcd']; exact f2, b0, b1⟩ (hb.trans But.upd)
      · refine ⟨_, rfl, d, _, 3, _, rfl, rfl, SqL.of f1, rfl, _, rfl, d, _, 3, _, rfl, rfl, SqL.of f1, rfl, _, _, rfl, rfl, .inl ⟨by omega, by omega⟩, _, _, rfl, rfl, (fun z => absurd z (by decide)), _, _, rfl, rfl, .inr ⟨by decide, by decide⟩, _, rfl, d, _, 3, _, rfl, rfl, SqL.of f1, rfl, _, _, rfl, rfl, .inr ⟨by decide, by decide⟩, _, _, rfl, rfl, _, _, rfl, rfl, _, _, rfl, rfl, (fun z => absurd z (by decide)), _, rfl, d, _, 3, 3, rfl, rfl, f1, rfl, ?_⟩
        refine ⟨_, rfl, d, _, 3, _, rfl, rfl, SqL.of upd_same, rfl, _, _, rfl, rfl, wide_div (b := 6) (by decide) (by decide) (by decide) (by decide), _, rfl, d, _, 3, _, rfl, rfl, SqL.of upd_same, rfl, _, _, rfl, rfl, (fun z => absurd z (by decide)), _, _, rfl, rfl, .inr ⟨by decide, by decide⟩, _, _, rfl, rfl, _, rfl, _, _, rfl, rfl, (by show n ≠ 0; omega), ?_⟩
        refine k _ _ (Int.fmod_nonneg_of_pos _ (by omega)) (Int.fmod_lt_of_pos _ (by omega)) ⟨c', ns', i', _, _, upd_same, by rw [upd_ne hcd']; exact f2, Int.fmod_nonneg_of_pos _ (by decide), Int.fmod_lt_of_pos _ (by decide)⟩ (hb.trans But.upd)
abbrev s_law_of : Stmt := topS 27
theorem sc_law_of : FnScope (["_law_draw", "_law_row"] : List Str) ["_law_draw", "_law_row"] (defScope s_law_of) := ⟨rfl, rfl, rfl, by decide +kernel, rfl, by decide +kernel, by decide +kernel⟩
theorem ok_of {f : Addr} {fd : FuncData} (F : FunD K "_law_of" "_law_of" (defArgs s_law_of) (defBody s_law_of) (defScope s_law_of) [] [] f fd) (T : Fre mg) (o_law_take : Own P w K mg base CX0 1 "_law_take" ["_law_draw", "_law_sides"] [] spTake) : FnOk P w K mg base CX0 2 f fd ["_law_draw", "_law_row"] (spOf K) := by
  refine F.ok sc_law_of (fun vs H Q E h => ?_) (fun cdv A outer s H vs Q E hr h => ?_)
  · obtain ⟨d, a, xs, rfl, _⟩ := h
    rfl
  · obtain ⟨d, a, xs, rfl, D, hS, had, h1, h2, k⟩ := h
    refine ⟨_, PSs.nox (pss_one (ps_ret (pe_ix ix_list (pv 1) (pe_own o_law_take (hr.mono (by decide)) rfl pass0 (pa_cons (pv 0) (pa_cons (pe_callB call_len_seq (by rfl) T.f_len PySem.boot_len (pa_cons (pv 1) pa_nil)) pa_nil))) (fun _ _ => rfl)))) , ?_⟩
    refine ⟨_, rfl, _, rfl, _, rfl, a, _, rfl, .inl hS, d, _, rfl, D, (by show 1 ≤ ((xs.length : Nat) : Int); omega), (by show ((xs.length : Nat) : Int).natAbs < 2 ^ 200; exact big (by omega)), fun m H' m0 m1 D' B => ?_⟩
    obtain ⟨j, rfl⟩ := Int.eq_ofNat_of_zero_le m0
    have hj : j < xs.length := by omega
    refine ⟨a, xs, j, xs[j], rfl, rfl, B.seq had hS, atI_nat (by simp [hj]), k _ _ (List.getElem_mem hj) D' B⟩
abbrev s_law_primes : Stmt := topS 29
theorem sc_law_primes : FnScope ([] : List Str) [] (defScope s_law_primes) := ⟨rfl, rfl, rfl, by decide +kernel, rfl, by decide +kernel, by decide +kernel⟩
theorem ok_primes {f : Addr} {fd : FuncData} (F : FunD K "_law_primes" "_law_primes" (defArgs s_law_primes) (defBody s_law_primes) (defScope s_law_primes) [] [] f fd) : FnOk P w K mg base CX0 1 f fd [] spPrimes := by
  refine F.ok sc_law_primes (fun vs H Q E h => ?_) (fun cdv A outer s H vs Q E hr h => ?_)
  · obtain ⟨rfl, _⟩ := h
    rfl
  · obtain ⟨rfl, k⟩ := h
    refine ⟨_, PSs.nox (pss_one (ps_ret (pe_lst (pa_cons pe_int (pa_cons pe_int (pa_cons pe_int (pa_cons pe_int (pa_cons pe_int (pa_cons pe_int (pa_cons pe_int (pa_cons pe_int (pa_cons pe_int (pa_cons pe_int (pa_cons pe_int (pa_cons pe_int (pa_cons pe_int (pa_cons pe_int (pa_cons pe_int (pa_cons pe_int (pa_cons pe_int (pa_cons pe_int (pa_cons pe_int (pa_cons pe_int (pa_cons pe_int (pa_cons pe_int (pa_cons pe_int (pa_cons pe_int (pa_cons pe_int pa_nil)))))))))))))))))))))))))))) , ?_⟩
    exact ⟨(by show 25 ≤ sizeLine; decide), fun p hp => k p _ (same_upd hp) hp upd_same⟩
abbrev s_law_any_prime : Stmt := topS 30
theorem sc_law_any_prime : FnScope (["_law_draw"] : List Str) ["_law_draw"] (defScope s_law_any_prime) := ⟨rfl, rfl, rfl, by decide +kernel, rfl, by decide +kernel, by decide +kernel⟩
theorem ok_any_prime {f : Addr} {fd : FuncData} (F : FunD K "_law_any_prime" "_law_any_prime" (defArgs s_law_any_prime) (defBody s_law_any_prime) (defScope s_law_any_prime) [] [] f fd) (o_law_of : Own P w K mg base CX0 2 "_law_of" ["_law_draw", "_law_row"] [] (spOf K)) (o_law_primes : Own P w K mg base CX0 1 "_law_primes" [] [] spPrimes) : FnOk P w K mg base CX0 3 f fd ["_law_draw"] spAnyPrime := by
  refine F.ok sc_law_any_prime (fun vs H Q E h => ?_) (fun cdv A outer s H vs Q E hr h => ?_)
  · obtain ⟨d, rfl, _⟩ := h
    rfl
  · obtain ⟨d, rfl, D, k⟩ := h
    refine ⟨_, PSs.nox (pss_one (ps_ret (pe_own o_law_of (hr.mono (by decide)) rfl pass0 (pa_cons (pv 0) (pa_cons (pe_own o_law_of (hr.mono (by decide)) rfl pass0 (pa_cons (pv 0) (pa_cons (pe_lst (pa_cons (pe_lst (pa_cons pe_int pa_nil)) (pa_cons (pe_lst (pa_cons pe_int (pa_cons pe_int (pa_cons pe_int pa_nil)))) (pa_cons (pe_lst (pa_cons pe_int (pa_cons pe_int pa_nil))) (pa_cons (pe_own0 o_law_primes (hr.mono (by decide)) rfl pass0) pa_nil))))) pa_nil))) pa_nil))))) , ?_⟩
    refine ⟨_, rfl, _, rfl, (by show 1 ≤ sizeLine; decide), fun p1 n1 => ⟨(by show 3 ≤ sizeLine; decide), fun p2 n2 => ⟨(by show 2 ≤ sizeLine; decide), fun p3 n3 => ⟨rfl, fun p4 H4 s4 n4 e4 => ⟨(by show 4 ≤ sizeLine; decide), fun p5 n5 => ?_⟩⟩⟩⟩⟩
    have S1 := same_upd (o := .lst [.int 2]) n1
    have S2 := same_upd (o := .lst [.int 3, .int 5, .int 7]) n2
    have S3 := same_upd (o := .lst [.int 2, .int 97]) n3
    have S5 := same_upd (o := .lst [.ref p1, .ref p2, .ref p3, .ref p4]) n5
    have S := (((S1.trans S2).trans S3).trans s4).trans S5
    have D5 := D.same S
    have q1 : L2.upd H4 p5 (.lst [.ref p1, .ref p2, .ref p3, .ref p4]) p1 = some (.lst ([2].map V.int)) := S5 _ _ (s4 _ _ (S3 _ _ (S2 _ _ upd_same)))
    have q2 : L2.upd H4 p5 (.lst [.ref p1, .ref p2, .ref p3, .ref p4]) p2 = some (.lst ([3, 5, 7].map V.int)) := S5 _ _ (s4 _ _ (S3 _ _ upd_same))
    have q3 : L2.upd H4 p5 (.lst [.ref p1, .ref p2, .ref p3, .ref p4]) p3 = some (.lst ([2, 97].map V.int)) := S5 _ _ (s4 _ _ upd_same)
    have q4 : L2.upd H4 p5 (.lst [.ref p1, .ref p2, .ref p3, .ref p4]) p4 = some (.lst (primes.map V.int)) := S5 _ _ e4
    refine ⟨d, p5, _, rfl, D5, SqL.of upd_same, (D.same (((S1.trans S2).trans S3).trans s4)).ne n5, (by show 0 < 4; decide), (by show 4 ≤ 1000; decide), fun x H6 hx D6 B6 => ?_⟩
    have : ∃ (p : Addr) (ms : List Int), x = .ref p ∧ L2.upd H4 p5 (.lst [.ref p1, .ref p2, .ref p3, .ref p4]) p = some (.lst (ms.map V.int)) ∧ 0 < ms.length ∧ ms.length ≤ 1000 ∧ ∀ m ∈ ms, m ∈ primes := by
      rcases List.mem_cons.mp hx with rfl | hx
      · exact ⟨p1, _, rfl, q1, by decide, by decide, by decide⟩
      rcases List.mem_cons.mp hx with rfl | hx
      · exact ⟨p2, _, rfl, q2, by decide, by decide, by decide⟩
      rcases List.mem_cons.mp hx with rfl | hx
      · exact ⟨p3, _, rfl, q3, by decide, by decide, by decide⟩
      rcases List.mem_cons.mp hx with rfl | hx
      · exact ⟨p4, _, rfl, q4, by decide, by decide, fun m hm => hm⟩
      · cases hx
    obtain ⟨p, ms, rfl, hp, l0, l1, hm⟩ := this
    have hpd : p ≠ d := D5.apart hp
    refine ⟨d, p, _, rfl, D6, SqL.of (B6 _ _ hpd hp), hpd, by rw [List.length_map]; exact l0, by rw [List.length_map]; exact l1, fun y H7 hy D7 B7 => ?_⟩
    obtain ⟨m, hm1, rfl⟩ := List.mem_map.mp hy
    exact k m H7 (hm m hm1) D7 (((But.same S).trans B6).trans B7)
end
end Xk
end
section
set_option Elab.async false
set_option linter.all false
set_option maxRecDepth 100000
set_option maxHeartbeats 4000000
namespace Xk
open PySem PySem.Spec PyProof.Rows L2 Xh LamX
/-! ### two things alike -/
theorem tyT {K : PySem.W.Frag} {H : Hp} {a : Addr} {xs : List V} (h : SqT K H a xs) : TyX K H (.ref a) (.type "tuple") := by
  rcases h with (h | ⟨o, h⟩) | ⟨o, its, n, h, c, _⟩
  · exact .base (.tup h)
  · exact .fTuple h
  · exact .kTuple h c
theorem tyL {K : PySem.W.Frag} {H : Hp} {a : Addr} {xs : List V} (h : SqL K H a xs) : TyX K H (.ref a) (.type "list") := by
  rcases h with (h | ⟨o, h⟩) | ⟨o, its, n, h, c, _⟩
  · exact .base (.lst h)
  · exact .base (.frz h)
  · exact .kList h c
theorem sameT {K : PySem.W.Frag} {H H' : Hp} {a : Addr} {xs : List V} (e : Same H H') (h : SqT K H a xs) : SqT K H' a xs := by
  rcases h with (h | ⟨o, h⟩) | h
  · exact .inl (.inl (e _ _ h))
  · exact .inl (.inr ⟨o, e _ _ h⟩)
  · exact .inr h
def tyF : V → String
  | .non => "NoneType"
  | .bl _ => "bool"
  | .int _ => "int"
  | _ => "str"
theorem flat_ty {K : PySem.W.Frag} {H : Hp} {x : V} (h : flatV x = true) : TyX K H x (.type (tyF x)) := by
  cases x with
  | non => exact .base .non
  | bl b => exact .base (.bl b)
  | int i => exact .base (.int i)
  | str s => exact .base (.str s)
  | _ => cases h
theorem flat_ty4 {x : V} (h : flatV x = true) : tyF x = "NoneType" ∨ tyF x = "bool" ∨ tyF x = "int" ∨ tyF x = "str" := by
  cases x with
  | non => exact .inl rfl
  | bl b => exact .inr (.inl rfl)
  | int i => exact .inr (.inr (.inl rfl))
  | str s => exact .inr (.inr (.inr rfl))
  | _ => cases h
theorem any_lt {K : PySem.W.Frag} : PySem.W.kitAny K (.type "list") [.type "list", .type "tuple"] = some true := kitAny_cons (b := true) (kit_ty (by decide +kernel)) (fun z => by cases z) (fun _ => rfl)
theorem any_tt {K : PySem.W.Frag} : PySem.W.kitAny K (.type "tuple") [.type "list", .type "tuple"] = some true := kitAny_cons (b := false) (kit_ty (by decide +kernel)) (fun _ => kitAny_cons (b := true) (kit_ty (by decide +kernel)) (fun z => by cases z) (fun _ => rfl)) (fun z => by cases z)
theorem any_f {K : PySem.W.Frag} {t : String} (h : t = "NoneType" ∨ t = "bool" ∨ t = "int" ∨ t = "str") : PySem.W.kitAny K (.type t) [.type "list", .type "tuple"] = some false := by
  have two : kitB t "list" = some false ∧ kitB t "tuple" = some false := by
    rcases h with rfl | rfl | rfl | rfl <;> exact ⟨by decide +kernel, by decide +kernel⟩
  exact kitAny_cons (b := false) (kit_ty two.1) (fun _ => kitAny_cons (b := false) (kit_ty two.2) (fun _ => kitAny_nil) (fun z => by cases z)) (fun z => by cases z)
theorem one_f {K : PySem.W.Frag} {t : String} (h : t = "NoneType" ∨ t = "bool" ∨ t = "int" ∨ t = "str") : (∃ b, PySem.W.kitOne K (.type t) (.type "bool") = some b) ∧ (∃ b, PySem.W.kitOne K (.type t) (.type "int") = some b) ∧ ∃ b, PySem.W.kitOne K (.type t) (.type "str") = some b := by
  rcases h with rfl | rfl | rfl | rfl
  · exact ⟨⟨_, kit_ty (r := false) (by decide +kernel)⟩, ⟨_, kit_ty (r := false) (by decide +kernel)⟩, ⟨_, kit_ty (r := false) (by decide +kernel)⟩⟩
  · exact ⟨⟨_, kit_ty (r := true) (by decide +kernel)⟩, ⟨_, kit_ty (r := true) (by decide +kernel)⟩, ⟨_, kit_ty (r := false) (by decide +kernel)⟩⟩
  · exact ⟨⟨_, kit_ty (r := false) (by decide +kernel)⟩, ⟨_, kit_ty (r := true) (by decide +kernel)⟩, ⟨_, kit_ty (r := false) (by decide +kernel)⟩⟩
  · exact ⟨⟨_, kit_ty (r := false) (by decide +kernel)⟩, ⟨_, kit_ty (r := false) (by decide +kernel)⟩, ⟨_, kit_ty (r := true) (by decide +kernel)⟩⟩
theorem walk_zipT {K : PySem.W.Frag} {a b : Addr} {xs ys : List V} (hn : xs.length = ys.length) : Walk (RZ.ItzT K a b) xs.length (fun H => SqT K H a xs ∧ SqT K H b ys) (YPair (fun i => xs[i]?) (fun i => ys[i]?)) :=
  ⟨fun i H hi h => ⟨xs, ys, xs[i], ys[i]'(by omega), h.1, h.2, by simp [hi], by simp [show i < ys.length by omega]⟩, fun H h => ⟨xs, ys, h.1, h.2, .inl (Nat.le_refl _)⟩,
    fun i H x H' hi h y => by
      obtain ⟨T, u, v, e1, e2, e3, q1, q2⟩ := y
      exact ⟨T, u, v, e1, e2, e3, q1 xs h.1, q2 ys h.2⟩⟩
/-- alike, to a depth -/
def SameAt (K : PySem.W.Frag) (H : Hp) : Nat → V → V → Prop
  | 0, v, u => flatV u = true ∧ v = u
  | n + 1, v, u => (flatV u = true ∧ v = u) ∨ ∃ (a b : Addr) (xs ys : List V), v = .ref a ∧ u = .ref b ∧ ((SqL K H a xs ∧ SqL K H b ys) ∨ (SqT K H a xs ∧ SqT K H b ys)) ∧ xs.length = ys.length ∧ xs.length ≤ 1000 ∧ ∀ (i : Nat) (x y : V), xs[i]? = some x → ys[i]? = some y → SameAt K H n x y
theorem SameAt.same {K : PySem.W.Frag} {H H' : Hp} (s : Same H H') : ∀ {n : Nat} {v u : V}, SameAt K H n v u → SameAt K H' n v u
  | 0, _, _, h => h
  | n + 1, _, _, .inl h => .inl h
  | n + 1, _, _, .inr ⟨a, b, xs, ys, e1, e2, h, l, l2, q⟩ => .inr ⟨a, b, xs, ys, e1, e2, h.imp (fun z => ⟨s.seq z.1, s.seq z.2⟩) (fun z => ⟨sameT s z.1, sameT s z.2⟩), l, l2, fun i x y hx hy => (q i x y hx hy).same s⟩
def spS (K : PySem.W.Frag) : Nat → Sp
  | 0 => fun _ _ _ _ => False
  | n + 1 => fun vs H Q _ => ∃ (v u : V), vs = [v, u] ∧ SameAt K H n v u ∧ ∀ H', Same H H' → Q (.bl true) H'
theorem spS_len {K : PySem.W.Frag} : ∀ (n : Nat) (vs : List V) (H : Hp) (Q : VK) (E : XK), spS K n vs H Q E → vs.length = (["_law_found", "_law_due"] : List Str).length
  | 0, _, _, _, _, h => h.elim
  | n + 1, _, _, _, _, ⟨v, u, e, _⟩ => by rw [e]; rfl
section
variable {P : Program} {w : World} {K : PySem.W.Frag} {mg : Str → Option Value} {base : Heap}
abbrev s_law_same : Stmt := topS 28
theorem sc_law_same : FnScope (["_law_found", "_law_due", "_law_one", "_law_other"] : List Str) ["_law_found", "_law_due"] (defScope s_law_same) := ⟨rfl, rfl, rfl, by decide +kernel, rfl, by decide +kernel, by decide +kernel⟩
theorem ok_same {f : Addr} {fd : FuncData} (F : FunD K "_law_same" "_law_same" (defArgs s_law_same) (defBody s_law_same) (defScope s_law_same) [] [] f fd) (T : Fre mg) (m : mg "_law_same" = some (.ref f)) : ∀ n : Nat, FnOk P w K mg base CX0 n f fd ["_law_found", "_law_due"] (spS K n) := by
  intro n
  induction n with
  | zero => exact ⟨fun _ _ _ _ h => h.elim, fun _ _ _ _ _ _ _ _ _ _ _ _ _ h => h.elim⟩
  | succ n ih =>
  have o_law_same : Own P w K mg base CX0 n "_law_same" ["_law_found", "_law_due"] [] (spS K n) := own_of F ih m fun _ _ _ _ _ _ us hl => match us, hl with | [_, _], _ => rfl
  refine F.ok sc_law_same (spS_len _) (fun cdv A outer s H vs Q E hr h => ?_)
  obtain ⟨v, u, rfl, hs, k⟩ := h
  refine ⟨_, PSs.nox (pss_cons (ps_if (pt_val (pe_callB call_isiT (by rfl) T.f_isinstance (by decide +kernel) (pa_cons (pv 1) (pa_cons (pe_tup (pa_cons (pe_bltn (v := .ty "list") rfl T.f_list boot_list rfl) (pa_cons (pe_bltn (v := .ty "tuple") rfl T.f_tuple boot_tuple rfl) pa_nil))) pa_nil)))) (pss_cons (ps_if (PW.pt (pw_or (pt_cmpR op_ne (pe_callB call_isi (by rfl) T.f_isinstance (by decide +kernel) (pa_cons (pv 0) (pa_cons (pe_bltn (v := .ty "list") rfl T.f_list boot_list rfl) pa_nil))) (pe_callB call_isi (by rfl) T.f_isinstance (by decide +kernel) (pa_cons (pv 1) (pa_cons (pe_bltn (v := .ty "list") rfl T.f_list boot_list rfl) pa_nil))) (nomark _)) (pw_or1 (pt_not (pt_val (pe_callB call_isiT (by rfl) T.f_isinstance (by decide +kernel) (pa_cons (pv 0) (pa_cons (pe_tup (pa_cons (pe_bltn (v := .ty "list") rfl T.f_list boot_list rfl) (pa_cons (pe_bltn (v := .ty "tuple") rfl T.f_tuple boot_tuple rfl) pa_nil))) pa_nil)))))))) (pss_one (ps_ret pe_bl)) pss_nil)
      (pss_one (ps_ret (pe_and (pe_cmpR op_eq (pe_callB call_len_seq (by rfl) T.f_len PySem.boot_len (pa_cons (pv 0) pa_nil)) (pe_callB call_len_seq (by rfl) T.f_len PySem.boot_len (pa_cons (pv 1) pa_nil)) (nomark _)) (pe_one (pe_callB (cr_all rfl) (by rfl) T.f_all (by decide +kernel) (pa_cons (pe_lc (own := [("_law_one", 2), ("_law_other", 3)]) (g := (gTup K 2 (gCons (gName 2) (gCons (gName 3) gNil)))) rfl sc_law_same.nd (RZ.pi_zipA (by rfl) T.f_zip (pa_cons (pv 0) (pa_cons (pv 1) pa_nil))) (blkOk_by (own := [("_law_one", 2), ("_law_other", 3)]) (N := ["_law_found", "_law_due", "_law_one", "_law_other"]) (sc := defScope s_law_same) (by decide +kernel)) (fun _ _ _ _ _ => pg_tup rfl (pgs_cons (pg_name (i := 2) sc_law_same.nd rfl (Or.inl rfl) (Or.inr rfl)) (pgs_cons (pg_name (i := 3) sc_law_same.nd rfl (Or.inl rfl) (Or.inr rfl)) pgs_nil))) (fun _ _ _ _ _ => pts_nil) (fun _ _ _ _ _ => (pe_own o_law_same hr rfl pass0 (pa_cons (pv 2) (pa_cons (pv 3) pa_nil))))) pa_nil))))))) pss_nil)
      (pss_cons (ps_if (pt_cmpR op_isN (pv 1) pe_non (nomark _)) (pss_one (ps_ret (pe_cmpR op_isN (pv 0) pe_non (nomark _)))) pss_nil)
      (pss_cons (ps_if (PW.pt (pw_or (pt_cmpR op_ne (pe_callB call_isi (by rfl) T.f_isinstance (by decide +kernel) (pa_cons (pv 0) (pa_cons (pe_bltn (v := .ty "bool") rfl T.f_bool boot_bool rfl) pa_nil))) (pe_callB call_isi (by rfl) T.f_isinstance (by decide +kernel) (pa_cons (pv 1) (pa_cons (pe_bltn (v := .ty "bool") rfl T.f_bool boot_bool rfl) pa_nil))) (nomark _)) (pw_or1 (pt_cmpR op_ne (pe_callB call_isi (by rfl) T.f_isinstance (by decide +kernel) (pa_cons (pv 0) (pa_cons (pe_bltn (v := .ty "int") rfl T.f_int boot_int rfl) pa_nil))) (pe_callB call_isi (by rfl) T.f_isinstance (by decide +kernel) (pa_cons (pv 1) (pa_cons (pe_bltn (v := .ty "int") rfl T.f_int boot_int rfl) pa_nil))) (nomark _))))) (pss_one (ps_ret pe_bl)) pss_nil)
      (pss_one (ps_ret (pe_and (pe_cmpR op_eq (pe_callB call_isi (by rfl) T.f_isinstance (by decide +kernel) (pa_cons (pv 0) (pa_cons (pe_bltn (v := .ty "str") rfl T.f_str boot_str rfl) pa_nil))) (pe_callB call_isi (by rfl) T.f_isinstance (by decide +kernel) (pa_cons (pv 1) (pa_cons (pe_bltn (v := .ty "str") rfl T.f_str boot_str rfl) pa_nil))) (nomark _)) (pe_one (pe_cmpR op_eq (pv 0) (pv 1) (nomark _))))))))) , ?_⟩
  have cs : (flatV u = true ∧ v = u) ∨ ∃ (a b : Addr) (xs ys : List V), v = .ref a ∧ u = .ref b ∧ ((SqL K H a xs ∧ SqL K H b ys) ∨ (SqT K H a xs ∧ SqT K H b ys)) ∧ xs.length = ys.length ∧ xs.length ≤ 1000 ∧ ∀ (H1 : Hp), Same H H1 → ∀ (i : Nat) (x y : V) (Q : VK) (E : XK), xs[i]? = some x → ys[i]? = some y → (∀ H2, Same H1 H2 → Q (.bl true) H2) → spS K n [x, y] H1 Q E := by
    cases n with
    | zero => exact .inl hs
    | succ m =>
      rcases hs with h | ⟨a, b, xs, ys, e1, e2, h, l, l2, q⟩
      · exact .inl h
      · exact .inr ⟨a, b, xs, ys, e1, e2, h, l, l2, fun H1 s1 i x y Q E hx hy k => ⟨x, y, rfl, (q i x y hx hy).same s1, k⟩⟩
  rcases cs with ⟨hf, rfl⟩ | ⟨a, b, xs, ys, rfl, rfl, hh, hl, hl2, hq⟩
  · have t4 := flat_ty4 hf
    obtain ⟨⟨b1, o1⟩, ⟨b2, o2⟩, ⟨b3, o3⟩⟩ := one_f (K := K) t4
    refine ⟨_, rfl, (by show 2 ≤ sizeLine; decide), fun p hp => ⟨v, p, [.ty "list", .ty "tuple"], _, [.type "list", .type "tuple"], false, rfl, upd_same, .cons (.ty _) (.cons (.ty _) .nil), flat_ty hf, any_f t4, _, rfl, iteF ?_⟩⟩
    refine ⟨_, rfl, rfl, _, rfl, ?_⟩
    refine ite2 (fun hc => ?_) (fun hc => ?_)
    · refine ⟨_, rfl, rfl, ?_⟩
      rw [hc]
      exact k _ (same_upd hp)
    · have ty : ∀ (H1 : Hp), TyX K H1 v (.type (tyF v)) := fun H1 => flat_ty hf
      have nb : (!decide (V.bl b1 = V.bl b1)) = false := by simp
      have nb2 : (!decide (V.bl b2 = V.bl b2)) = false := by simp
      have e3 : decide (V.bl b3 = V.bl b3) = true := by simp
      have ev : decide (v = v) = true := by simp
      have sc : scal v v = true := by
        cases v with
        | non => exact absurd (decide_eq_true rfl) hc
        | bl _ => rfl
        | int _ => rfl
        | str _ => rfl
        | _ => cases hf
      refine ⟨_, rfl, v, _, _, _, b1, rfl, .ty _, ty _, o1, _, rfl, v, _, _, _, b1, rfl, .ty _, ty _, o1, rfl, _, rfl, ?_⟩
      rw [nb]
      refine iteF ⟨_, rfl, v, _, _, _, b2, rfl, .ty _, ty _, o2, _, rfl, v, _, _, _, b2, rfl, .ty _, ty _, o2, rfl, _, rfl, ?_⟩
      rw [nb2]
      refine iteF ⟨_, rfl, v, _, _, _, b3, rfl, .ty _, ty _, o3, _, rfl, v, _, _, _, b3, rfl, .ty _, ty _, o3, rfl, _, rfl, ?_⟩
      rw [e3]
      refine iteT ⟨_, rfl, _, rfl, sc, ?_⟩
      rw [ev]
      exact k _ (same_upd hp)
  · have key : ∃ (t : String) (bl : Bool), PySem.W.kitOne K (.type t) (.type "list") = some bl ∧ PySem.W.kitAny K (.type t) [.type "list", .type "tuple"] = some true ∧ (∀ H1, Same H H1 → TyX K H1 (.ref a) (.type t) ∧ TyX K H1 (.ref b) (.type t)) := by
      rcases hh with ⟨ha, hb⟩ | ⟨ha, hb⟩
      · exact ⟨"list", true, kit_ty (by decide +kernel), any_lt, fun H1 s1 => ⟨tyL (s1.seq ha), tyL (s1.seq hb)⟩⟩
      · exact ⟨"tuple", false, kit_ty (by decide +kernel), any_tt, fun H1 s1 => ⟨tyT (sameT s1 ha), tyT (sameT s1 hb)⟩⟩
    obtain ⟨t, bl, o1, o2, ty⟩ := key
    have sq : ∀ H1, Same H H1 → (SqL K H1 a xs ∨ SqT K H1 a xs) ∧ (SqL K H1 b ys ∨ SqT K H1 b ys) := fun H1 s1 => by
      rcases hh with ⟨ha, hb⟩ | ⟨ha, hb⟩
      · exact ⟨.inl (s1.seq ha), .inl (s1.seq hb)⟩
      · exact ⟨.inr (sameT s1 ha), .inr (sameT s1 hb)⟩
    refine ⟨_, rfl, (by show 2 ≤ sizeLine; decide), fun p hp => ⟨.ref b, p, [.ty "list", .ty "tuple"], _, [.type "list", .type "tuple"], true, rfl, upd_same, .cons (.ty _) (.cons (.ty _) .nil), (ty _ (same_upd hp)).2, o2, _, rfl, iteT ?_⟩⟩
    have s1 : Same H (L2.upd H p (.tup [.ty "list", .ty "tuple"])) := same_upd hp
    refine ⟨_, rfl, .ref a, _, _, _, bl, rfl, .ty _, (ty _ s1).1, o1, _, rfl, .ref b, _, _, _, bl, rfl, .ty _, (ty _ s1).2, o1, rfl, _, rfl, ?_⟩
    rw [show (!decide (V.bl bl = V.bl bl)) = false from by simp]
    refine iteF ⟨_, rfl, (by show 2 ≤ sizeLine; decide), fun p2 hp2 => ⟨.ref a, p2, [.ty "list", .ty "tuple"], _, [.type "list", .type "tuple"], true, rfl, upd_same, .cons (.ty _) (.cons (.ty _) .nil), (ty _ (s1.trans (same_upd hp2))).1, o2, _, rfl, iteF ?_⟩⟩
    have s2 := s1.trans (same_upd (o := .tup [.ty "list", .ty "tuple"]) hp2)
    refine ⟨_, rfl, a, xs, rfl, (sq _ s2).1, _, rfl, b, ys, rfl, (sq _ s2).2, rfl, _, rfl, ?_⟩
    rw [hl, show decide (V.int (ys.length : Int) = V.int (ys.length : Int)) = true from decide_eq_true rfl]
    refine iteT ?_
    have core : ∀ (J : It) (G : Hp → Prop), Walk J xs.length G (YPair (fun i => xs[i]?) (fun i => ys[i]?)) → (∀ H1, Same H H1 → G H1) → ∀ D, (L2.upd (L2.upd H p (.tup [.ty "list", .ty "tuple"])) p2 (.tup [.ty "list", .ty "tuple"])) D = none → _ := fun J G w hG D hD =>
      lc_it w (vs := [2, 3]) (σ := [some (.ref a), some (.ref b), none, none]) (g := gTup K 2 (gCons (gName 2) (gCons (gName 3) gNil))) (tt := fun _ H Q => Q true H) (te := tCall (spS K n) [] E0 (tCons (tVar 2) (tCons (tVar 3) tNil))) (Qd := fun H1 => rAll K [.ref D] H1 Q)
        (fun i H1 => Same H H1 ∧ H D = none ∧ H1 D = some (.lst ((List.replicate i true).map V.bl)) ∧ i ≤ xs.length) ⟨s2.trans (same_upd hD), s2.free hD, upd_same, Nat.zero_le _⟩ (fun i H1 _ h => hG H1 h.1)
        (fun i v H1 H2 hi ⟨q1, q2, q3, q4⟩ ⟨Tp, x, y, e1, e2, e3, hx, hy⟩ => by
          subst e1 e3
          have q1' := q1.trans (same_upd (o := .tup [x, y]) e2)
          refine ⟨Tp, _, rfl, SqT.of upd_same, rfl, x, _, rfl, y, _, rfl, rfl, rfl, iteT ⟨_, rfl, _, rfl, hq _ q1' i x y _ _ hx hy fun H3 q5 => ?_⟩⟩
          have hD3 : H3 D = some (.lst ((List.replicate i true).map V.bl)) := q5 _ _ (by rw [upd_ne (ne_of_none q3 e2)]; exact q3)
          refine ⟨_, hD3, ?_, fun c o h => ?_, q2, ?_, hi⟩
          · rw [List.length_map, List.length_replicate]
            exact small1000 (by omega)
          · rw [upd_ne (ne_of_none h q2)]
            exact q5 _ _ (q1' _ _ h)
          · rw [upd_same, List.replicate_succ', List.map_append]
            rfl)
        (fun H1 ⟨q1, q2, q3, q4⟩ => ⟨D, List.replicate xs.length true, rfl, SqL.of q3, by rw [show (List.replicate xs.length true).all id = true from by simp]; exact k H1 q1⟩)
    rcases hh with ⟨ha, hb⟩ | ⟨ha, hb⟩
    · exact ⟨_, rfl, _, rfl, a, b, xs, ys, rfl, .inl ⟨s2.seq ha, s2.seq hb, core _ _ (walk_zip (by omega)) (fun H1 s => ⟨s.seq ha, s.seq hb⟩)⟩⟩
    · exact ⟨_, rfl, _, rfl, a, b, xs, ys, rfl, .inr ⟨sameT s2 ha, sameT s2 hb, core _ _ (walk_zipT hl) (fun H1 s => ⟨sameT s ha, sameT s hb⟩)⟩⟩
end
end Xk
end
section
set_option Elab.async false
set_option linter.all false
set_option maxRecDepth 100000
set_option maxHeartbeats 4000000
namespace Xk
open PySem PySem.Spec PyProof.Rows L2 Xh LamX
/-! ### rests -/
/-- what is wanted of a refusal: an own exception of the class at C, its word alone -/
def Ex (H : Hp) (E : XK) (C : Addr) (nm : Str) : Prop := ∀ (d : Addr) (H' : Hp), Same H H' → H' d = some (.xd [("word", .str nm)]) → H d = none → E (.ref C) (some d) H'
theorem Ex.imp {H : Hp} {E E' : XK} {C : Addr} {nm : Str} (x : Ex H E C nm) (h : ∀ c d H', E c d H' → E' c d H') : Ex H E' C nm := fun d H' a b c => h _ _ _ (x d H' a b c)
def spIsPrime : Sp := fun vs H Q _ => ∃ p : Int, vs = [.int p] ∧ Q (.bl (decide (p ∈ primes))) H
def spIsNum : Sp := fun vs H Q _ => ∃ n : Int, vs = [.int n] ∧ Q (.bl true) H
def spIsRest : Sp := fun vs H Q _ => ∃ n p : Int, vs = [.int n, .int p] ∧ Q (.bl (decide (0 ≤ n ∧ n < p))) H
def spRefP (C : Addr) : Sp := fun vs H Q E => ∃ p : Int, vs = [.int p] ∧ (p ∈ primes → Q .non H) ∧ (p ∉ primes → Ex H E C "BadPrime")
def slotN (i : Nat) (σ : L2.St) : Nat := match σ[i]? with
  | some (some (.int s)) => s.toNat
  | _ => 0
theorem inV_ints (p : Int) : ∀ ns : List Int, inV (.int p) (ns.map V.int) = decide (p ∈ ns)
  | [] => rfl
  | n :: ns => by
    have ih := inV_ints p ns
    unfold inV at ih ⊢
    rw [List.map_cons, List.any_cons, ih]
    show ((n == p) || decide (p ∈ ns)) = decide (p ∈ n :: ns)
    by_cases h : n = p
    · subst h
      simp
    · have h' : p ≠ n := fun z => h z.symm
      simp [h, h']
theorem all_flat (ns : List Int) : (ns.map V.int).all flatV = true := by
  rw [List.all_eq_true]
  intro x hx
  obtain ⟨n, _, rfl⟩ := List.mem_map.mp hx
  rfl
section
variable {P : Program} {w : World} {K : PySem.W.Frag} {mg : Str → Option Value} {base : Heap}
abbrev s_is_prime : Stmt := topS 7
theorem sc_is_prime : FnScope (["number"] : List Str) ["number"] (defScope s_is_prime) := ⟨rfl, rfl, rfl, by decide +kernel, rfl, by decide +kernel, by decide +kernel⟩
theorem ok_is_prime {f : Addr} {fd : FuncData} {cP : Addr} (F : FunD K "is_prime" "is_prime" (defArgs s_is_prime) (defBody s_is_prime) (defScope s_is_prime) [] [] f fd) (mP : mg "PRIMES" = some (.ref cP)) (hP : ∀ H, SqT K H cP (primes.map V.int)) : FnOk P w K mg base CX0 1 f fd ["number"] spIsPrime := by
  refine F.ok sc_is_prime (fun vs H Q E h => ?_) (fun cdv A outer s H vs Q E hr h => ?_)
  · obtain ⟨p, rfl, _⟩ := h
    rfl
  · obtain ⟨p, rfl, k⟩ := h
    refine ⟨_, PSs.nox (pss_one (ps_ret (pe_cmpR op_in_seq (pv 0) (pe_glob (v := .ref cP) rfl mP rfl) (by rfl)))) , ?_⟩
    refine ⟨_, rfl, cP, _, rfl, .inr (hP H), rfl, all_flat _, ?_⟩
    rw [if_neg (by decide), inV_ints]
    exact k
abbrev s_is_number : Stmt := topS 8
theorem sc_is_number : FnScope (["told"] : List Str) ["told"] (defScope s_is_number) := ⟨rfl, rfl, rfl, by decide +kernel, rfl, by decide +kernel, by decide +kernel⟩
theorem ok_is_number {f : Addr} {fd : FuncData} (F : FunD K "is_number" "is_number" (defArgs s_is_number) (defBody s_is_number) (defScope s_is_number) [] [] f fd) (T : Fre mg) : FnOk P w K mg base CX0 1 f fd ["told"] spIsNum := by
  refine F.ok sc_is_number (fun vs H Q E h => ?_) (fun cdv A outer s H vs Q E hr h => ?_)
  · obtain ⟨p, rfl, _⟩ := h
    rfl
  · obtain ⟨n, rfl, k⟩ := h
    refine ⟨_, PSs.nox (pss_one (ps_ret (pe_and (pe_callB call_isi (by rfl) T.f_isinstance (by decide +kernel) (pa_cons (pv 0) (pa_cons (pe_bltn (v := .ty "int") rfl T.f_int boot_int rfl) pa_nil))) (pe_one (pe_not (pe_callB call_isi (by rfl) T.f_isinstance (by decide +kernel) (pa_cons (pv 0) (pa_cons (pe_bltn (v := .ty "bool") rfl T.f_bool boot_bool rfl) pa_nil)))))))) , ?_⟩
    exact ⟨_, rfl, .int n, _, _, _, true, rfl, .ty _, .base (.int n), kit_ty (by decide +kernel), _, rfl, iteT ⟨_, rfl, .int n, _, _, _, false, rfl, .ty _, .base (.int n), kit_ty (by decide +kernel), _, rfl, k⟩⟩
abbrev s_is_rest : Stmt := topS 9
theorem sc_is_rest : FnScope (["told", "prime"] : List Str) ["told", "prime"] (defScope s_is_rest) := ⟨rfl, rfl, rfl, by decide +kernel, rfl, by decide +kernel, by decide +kernel⟩
theorem ok_is_rest {f : Addr} {fd : FuncData} (F : FunD K "is_rest" "is_rest" (defArgs s_is_rest) (defBody s_is_rest) (defScope s_is_rest) [] [] f fd) (o_is_number : Own P w K mg base CX0 1 "is_number" ["told"] [] spIsNum) : FnOk P w K mg base CX0 2 f fd ["told", "prime"] spIsRest := by
  refine F.ok sc_is_rest (fun vs H Q E h => ?_) (fun cdv A outer s H vs Q E hr h => ?_)
  · obtain ⟨n, p, rfl, _⟩ := h
    rfl
  · obtain ⟨n, p, rfl, k⟩ := h
    refine ⟨_, PSs.nox (pss_one (ps_ret (pe_and (pe_own o_is_number (hr.mono (by decide)) rfl pass0 (pa_cons (pv 0) pa_nil)) (pe_one (pe_chain op_le op_lt pe_int (pv 0) (pv 1)))))) , ?_⟩
    refine ⟨_, rfl, n, rfl, _, rfl, iteT ⟨_, rfl, _, _, rfl, rfl, _, rfl, ?_⟩⟩
    by_cases h0 : 0 ≤ n
    · rw [decide_eq_true h0]
      refine iteT ⟨_, rfl, _, _, rfl, rfl, ?_⟩
      show Q (.bl (decide (n < p))) H
      rw [show decide (n < p) = decide (0 ≤ n ∧ n < p) from by simp [h0]]
      exact k
    · rw [decide_eq_false h0]
      refine iteF ?_
      rw [show decide (0 ≤ n ∧ n < p) = false from decide_eq_false fun z => h0 z.1] at k
      exact k
abbrev s_refuse_prime : Stmt := topS 10
theorem sc_refuse_prime : FnScope (["prime"] : List Str) ["prime"] (defScope s_refuse_prime) := ⟨rfl, rfl, rfl, by decide +kernel, rfl, by decide +kernel, by decide +kernel⟩
theorem ok_refuse_prime {f C fI : Addr} {fd : FuncData} (F : FunD K "refuse_prime" "refuse_prime" (defArgs s_refuse_prime) (defBody s_refuse_prime) (defScope s_refuse_prime) [] [] f fd) (o_is_prime : Own P w K mg base CX0 1 "is_prime" ["number"] [] spIsPrime) (xP : RX K mg C fI "BadPrime") (o_init : FnR P w K mg base (L2.CX P w) 1 fI (spRI1 K)) : FnOk P w K mg base (L2.CX P w) 3 f fd ["prime"] (spRefP C) := by
  refine F.ok sc_refuse_prime (fun vs H Q E h => ?_) (fun cdv A outer s H vs Q E hr h => ?_)
  · obtain ⟨p, rfl, _⟩ := h
    rfl
  · obtain ⟨p, rfl, h1, h2⟩ := h
    refine ⟨_, (pss_one (ps_if (pt_not (pt_val (pe_own o_is_prime (hr.mono (by decide)) rfl pass0 (pa_cons (pv 0) pa_nil)))) (pss_one (ps_raise rfl (takes_of rfl rfl rfl rfl) (pmk_rung xP o_init hr rfl))) pss_nil)) , ?_⟩
    refine ⟨_, rfl, p, rfl, _, rfl, ?_⟩
    by_cases hp : p ∈ primes
    · rw [decide_eq_true hp]
      exact iteF (h1 hp)
    · rw [decide_eq_false hp]
      exact iteT fun d H' a b c => h2 hp d H' a b c
end
end Xk
end
section
set_option Elab.async false
set_option linter.all false
set_option maxRecDepth 100000
set_option maxHeartbeats 4000000
namespace Xk
open PySem PySem.Spec PyProof.Rows L2 Xh LamX
/-! ### polynomials: rests without a nought at their end -/
def trim : List Int → List Int
  | [] => []
  | x :: xs => if trim xs = [] ∧ x = 0 then [] else x :: trim xs
theorem trim_nil : ∀ {a : List Int}, (∀ i, a.getD i 0 = 0) → trim a = []
  | [], _ => rfl
  | x :: xs, h => by
    have h0 : x = 0 := h 0
    have h1 : trim xs = [] := trim_nil fun i => h (i + 1)
    unfold trim
    rw [if_pos ⟨h1, h0⟩]
theorem trim_congr : ∀ (a b : List Int), (∀ i, a.getD i 0 = b.getD i 0) → trim a = trim b
  | [], b, h => (trim_nil fun i => (h i).symm).symm
  | a, [], h => trim_nil fun i => h i
  | x :: xs, y :: ys, h => by
    have h0 : x = y := h 0
    have h1 : trim xs = trim ys := trim_congr xs ys fun i => h (i + 1)
    unfold trim
    rw [h0, h1]
theorem trim_getD : ∀ (a : List Int) (i : Nat), (trim a).getD i 0 = a.getD i 0
  | [], i => rfl
  | x :: xs, i => by
    unfold trim
    by_cases h : trim xs = [] ∧ x = 0
    · rw [if_pos h, h.2]
      cases i with
      | zero => rfl
      | succ i =>
        have z := trim_getD xs i
        rw [h.1] at z
        exact z
    · rw [if_neg h]
      cases i with
      | zero => rfl
      | succ i => exact trim_getD xs i
theorem trim_trim (a : List Int) : trim (trim a) = trim a := trim_congr _ _ fun i => trim_getD a i
theorem trim_length : ∀ a : List Int, (trim a).length ≤ a.length
  | [] => Nat.le_refl _
  | x :: xs => by
    unfold trim
    split
    · exact Nat.zero_le _
    · exact Nat.succ_le_succ (trim_length xs)
theorem trim_mem : ∀ {a : List Int} {x : Int}, x ∈ trim a → x ∈ a
  | y :: ys, x, h => by
    unfold trim at h
    split at h
    · cases h
    · rcases List.mem_cons.mp h with h | h
      · exact List.mem_cons.mpr (.inl h)
      · exact List.mem_cons.mpr (.inr (trim_mem h))
theorem trim_last : ∀ (a : List Int) (n : Nat), n + 1 = a.length → a.getD n 0 ≠ 0 → trim a = a
  | x :: xs, n, hn, hz => by
    have hn' : n = xs.length := Nat.succ.inj hn
    unfold trim
    cases n with
    | zero =>
      have : xs = [] := List.length_eq_zero_iff.mp hn'.symm
      subst this
      rw [if_neg (fun z => hz z.2)]
      rfl
    | succ n =>
      have ih := trim_last xs n hn' hz
      rw [if_neg (fun z => by rw [ih] at z; rw [z.1] at hn'; cases hn'), ih]
theorem trim_ne (a : List Int) (h : a ≠ []) (ht : trim a = a) : a.getD (a.length - 1) 0 ≠ 0 := by
  induction a with
  | nil => exact absurd rfl h
  | cons x xs ih =>
    unfold trim at ht
    split at ht
    · cases ht
    · rename_i hc
      have hx : trim xs = xs := (List.cons.inj ht).2
      cases xs with
      | nil => exact fun z => hc ⟨rfl, z⟩
      | cons y ys => exact ih (by intro z; cases z) hx
theorem take_getD (a : List Int) (n i : Nat) : (a.take n).getD i 0 = if i < n then a.getD i 0 else 0 := by
  rw [List.getD_eq_getElem?_getD, List.getD_eq_getElem?_getD, List.getElem?_take]
  split <;> rfl
/-- what the count from the end leaves -/
theorem take_trim {a : List Int} {n : Nat} (hn : n ≤ a.length) (hz : ∀ i, n ≤ i → a.getD i 0 = 0) (hl : n = 0 ∨ a.getD (n - 1) 0 ≠ 0) : a.take n = trim a := by
  have e : trim (a.take n) = trim a := trim_congr _ _ fun i => by
    rw [take_getD]
    split
    · rfl
    · rw [hz i (by omega)]
  rw [← e]
  rcases hl with rfl | hl
  · rfl
  · cases n with
    | zero => rfl
    | succ n => exact (trim_last _ n (by rw [List.length_take]; omega) (by rw [take_getD, if_pos (Nat.lt_succ_self n)]; exact hl)).symm
theorem cutV_take (ns : List Int) (n : Nat) : cutV (ns.map V.int) none (some (n : Int)) = (ns.take n).map V.int := by
  unfold cutV
  rw [HT.sIx_none, HT.sIx_nat, Nat.sub_zero, List.drop_zero, ← List.map_take]
  congr 1
  rw [List.length_map]
  by_cases h : n ≤ ns.length
  · rw [Nat.min_eq_left h]
  · rw [Nat.min_eq_right (by omega), List.take_length, List.take_of_length_le (by omega)]
theorem map_at (ns : List Int) (i : Nat) (h : i < ns.length) : (ns.map V.int)[i]? = some (.int (ns.getD i 0)) := by
  rw [List.getElem?_map, List.getD_eq_getElem?_getD, List.getElem?_eq_getElem h]
  rfl
/-- a new tuple of these -/
def NewT (H : Hp) (ms : List Int) (Q : VK) : Prop := ∀ (p : Addr) (H' : Hp), Same H H' → H p = none → H' p = some (.tup (ms.map V.int)) → Q (.ref p) H'
theorem out_take {H : Hp} {ns : List Int} {n : Nat} {Q : VK} (e : ns.take n = trim ns) (k : NewT H (trim ns) Q) {p l : Addr} (hp : H p = none) (hl : L2.upd H p (.lst (cutV (ns.map V.int) none (some (n : Int)))) l = none) :
    Q (.ref l) (L2.upd (L2.upd H p (.lst (cutV (ns.map V.int) none (some (n : Int))))) l (.tup (cutV (ns.map V.int) none (some (n : Int))))) := by
  refine k l _ ((same_upd hp).trans (same_upd hl)) ((same_upd hp).free hl) ?_
  rw [upd_same, cutV_take, e]
def spTrim (K : PySem.W.Frag) : Sp := fun vs H Q _ => ∃ (a : Addr) (ns : List Int), vs = [.ref a] ∧ SqL K H a (ns.map V.int) ∧ ns.length ≤ 1000 ∧ NewT H (trim ns) Q
section
variable {P : Program} {w : World} {K : PySem.W.Frag} {mg : Str → Option Value} {base : Heap}
abbrev s_trimmed : Stmt := topS 12
theorem sc_trimmed : FnScope (["rests", "count"] : List Str) ["rests"] (defScope s_trimmed) := ⟨rfl, rfl, rfl, by decide +kernel, rfl, by decide +kernel, by decide +kernel⟩
theorem ok_trimmed {f : Addr} {fd : FuncData} (F : FunD K "trimmed" "trimmed" (defArgs s_trimmed) (defBody s_trimmed) (defScope s_trimmed) [] [] f fd) (T : Fre mg) : FnOk P w K mg base CX0 1 f fd ["rests"] (spTrim K) := by
  refine F.ok sc_trimmed (fun vs H Q E h => ?_) (fun cdv A outer s H vs Q E hr h => ?_)
  · obtain ⟨a, ns, rfl, _⟩ := h
    rfl
  · obtain ⟨a, ns, rfl, hS, hl, k⟩ := h
    refine ⟨_, PSs.nox (pss_cons (ps_set (i := 1) sc_trimmed.nd rfl (Or.inl rfl) (pe_callB call_len_seq (by rfl) T.f_len PySem.boot_len (pa_cons (pv 0) pa_nil)))
      (pss_cons (ps_while PassesOwn.never (PW.pt (pw_and (pt_cmpR op_gt (pv 1) pe_int (nomark _)) (pw_and1 (pt_cmpR op_eq (pe_ix ix_list (pv 0) (pe_op op_sub (pv 1) pe_int) (fun _ _ => rfl)) pe_int (nomark _))))) (pss_one (ps_aug (i := 1) sc_trimmed.nd rfl (Or.inl rfl) pe_int ip_sub)))
      (pss_one (ps_ret (pe_callTy call_tuple_of (by rfl) T.f_tuple (by decide +kernel) (pa_cons (pe_slice sl_list (pv 0) po_none (po_some (pv 1))) pa_nil)))))) , ?_⟩
    refine ⟨_, rfl, _, _, rfl, .inl hS, ?_⟩
    refine while_by (fun σ' H' => ∃ n : Nat, σ' = [some (.ref a), some (.int n)] ∧ H' = H ∧ n ≤ ns.length ∧ ∀ i, n ≤ i → ns.getD i 0 = 0) (fun σ' _ => slotN 1 σ') ⟨ns.length, by rw [List.length_map]; rfl, rfl, Nat.le_refl _, fun i hi => by rw [List.getD_eq_getElem?_getD, List.getElem?_eq_none hi]; rfl⟩ ?_ ?_
    · rintro σ' H' ⟨n, rfl, rfl, hn, hz⟩
      have fin : n = 0 ∨ ns.getD (n - 1) 0 ≠ 0 → ns.take n = trim ns := take_trim hn hz
      refine ⟨_, rfl, _, _, rfl, rfl, _, rfl, ite2 (fun hc => ?_) (fun hc => ?_)⟩
      · have h0 : 0 < n := by
          have z := of_decide_eq_true hc
          omega
        refine ⟨_, rfl, _, rfl, _, _, rfl, rfl, a, _, _, .int (ns.getD (n - 1) 0), rfl, rfl, hS, ?_, ?_⟩
        · rw [show (n : Int) - 1 = ((n - 1 : Nat) : Int) by omega]
          exact atI_nat (map_at ns (n - 1) (by omega))
        · refine ⟨rfl, _, rfl, ite2 (fun hb => ?_) (fun hb => ?_)⟩
          · have z := V.int.inj (of_decide_eq_true hb)
            refine ⟨_, rfl, _, _, rfl, rfl, ⟨n - 1, by rw [show ((n - 1 : Nat) : Int) = (n : Int) - 1 by omega]; rfl, rfl, by omega, fun i hi => ?_⟩, ?_⟩
            · by_cases hi2 : i = n - 1
              · rw [hi2]; exact z
              · exact hz i (by omega)
            · show ((n : Int) - 1).toNat < (n : Int).toNat
              omega
          · exact ⟨_, rfl, _, rfl, n, rfl, a, _, rfl, hS, fun p hp => ⟨p, _, rfl, .inl ⟨SqL.of upd_same, fun l hl => out_take (fin (.inr fun z => hb (decide_eq_true (by rw [z])))) k hp hl⟩⟩⟩
      · have h0 : n = 0 := by
          by_cases z : n = 0
          · exact z
          · exact absurd (decide_eq_true (show (0 : Int) < (n : Int) by omega)) hc
        exact ⟨_, rfl, _, rfl, n, rfl, a, _, rfl, hS, fun p hp => ⟨p, _, rfl, .inl ⟨SqL.of upd_same, fun l hl => out_take (fin (.inl h0)) k hp hl⟩⟩⟩
    · rintro σ H Q Q' m ⟨v, h1, i, j, h2, h3, b, h4, q⟩
      refine ⟨v, h1, i, j, h2, h3, b, h4, ?_⟩
      cases b with
      | true =>
        obtain ⟨x, e1, y, e2, i2, j2, e3, e4, p1, p2, p3, p4, e5, e6, e7, e8, e9, b2, e10, q⟩ := q
        exact ⟨x, e1, y, e2, i2, j2, e3, e4, p1, p2, p3, p4, e5, e6, e7, e8, e9, b2, e10, m _ _ q⟩
      | false => exact m _ _ q
end
end Xk
end
section
set_option Elab.async false
set_option linter.all false
set_option maxRecDepth 100000
set_option maxHeartbeats 4000000
namespace Xk
open PySem PySem.Spec PyProof.Rows L2 Xh LamX
/-- the coefficients of ms, without a nought at the end, at most n of them -/
structure Is (f : Nat → Int) (n : Nat) (ms : List Int) : Prop where
  at_ : ∀ j, ms.getD j 0 = f j
  tr : trim ms = ms
  len : ms.length ≤ n
theorem Is.uniq {f g : Nat → Int} {n m : Nat} {a b : List Int} (x : Is f n a) (y : Is g m b) (h : ∀ j, f j = g j) : a = b := by
  rw [← x.tr, ← y.tr]
  exact trim_congr _ _ fun i => by rw [x.at_, y.at_, h]
def NewP (H : Hp) (f : Nat → Int) (n : Nat) (Q : VK) : Prop := ∀ ms, Is f n ms → NewT H ms Q
theorem is_trim {f : Nat → Int} {n : Nat} {ms : List Int} (h : ∀ j, ms.getD j 0 = f j) (l : ms.length ≤ n) : Is f n (trim ms) := ⟨fun j => by rw [trim_getD, h], trim_trim _, Nat.le_trans (trim_length _) l⟩
theorem NewT.same {H H' : Hp} {ms : List Int} {Q : VK} (k : NewT H ms Q) (s : Same H H') : NewT H' ms Q := fun p H2 a b c => k p H2 (s.trans a) (s.free b) c
theorem NewP.same {H H' : Hp} {f : Nat → Int} {n : Nat} {Q : VK} (k : NewP H f n Q) (s : Same H H') : NewP H' f n Q := fun ms h => (k ms h).same s
/-- rests by p -/
def Rs (p : Int) (ms : List Int) : Prop := ∀ j, 0 ≤ ms.getD j 0 ∧ ms.getD j 0 < p
structure Pm (p : Int) : Prop where
  lo : 2 ≤ p
  hi : p ≤ 1000
theorem Pm.pos {p : Int} (h : Pm p) : 0 < p := by have := h.lo; omega
theorem fm_rs {p : Int} (h : Pm p) {ms : List Int} {f : Nat → Int} (e : ∀ j, ms.getD j 0 = (f j).fmod p) : Rs p ms := fun j => by
  rw [e]
  exact ⟨Int.fmod_nonneg_of_pos _ h.pos, Int.fmod_lt_of_pos _ h.pos⟩
theorem fm_id {x p : Int} (h0 : 0 ≤ x) (h1 : x < p) : x.fmod p = x := by rw [Int.fmod_eq_emod_of_nonneg _ (by omega), Int.emod_eq_of_lt h0 h1]
theorem getD_over {a : List Int} {i : Nat} (h : a.length ≤ i) : a.getD i 0 = 0 := by
  rw [List.getD_eq_getElem?_getD, List.getElem?_eq_none h]
  rfl
theorem getD_map {a : List Int} {i : Nat} {g : Int → Int} (h : g 0 = 0) : (a.map g).getD i 0 = g (a.getD i 0) := by
  rw [List.getD_eq_getElem?_getD, List.getD_eq_getElem?_getD, List.getElem?_map]
  cases a[i]? with
  | none => exact h.symm
  | some x => rfl
theorem lcs {H H2 : Hp} {D : Addr} {o : HO} (hD : H D = none) (s : Same H H2) : Same H (L2.upd H2 D o) := fun b o h => by
  rw [upd_ne (ne_of_none h hD)]
  exact s b o h
theorem take_map {ns : List Int} {i : Nat} (g : Int → Int) (hi : i < ns.length) : ((ns.take i).map g).map V.int ++ [V.int (g (ns.getD i 0))] = ((ns.take (i + 1)).map g).map V.int := by
  rw [List.take_succ, List.getD_eq_getElem?_getD, List.getElem?_eq_getElem hi, List.map_append, List.map_append]
  rfl
theorem take_len (ns : List Int) (g : Int → Int) (i : Nat) : (((ns.take i).map g).map V.int).length ≤ ns.length := by
  rw [List.length_map, List.length_map, List.length_take]
  omega
theorem ixN_nat {n i : Nat} (h : i < n) : ixN n (i : Int) = some i := by
  unfold ixN
  rw [if_pos (by omega), if_pos (by omega), Int.toNat_natCast]
theorem getD_set {a : List Int} {i j : Nat} {v : Int} (h : i < a.length) : (a.set i v).getD j 0 = if j = i then v else a.getD j 0 := by
  rw [List.getD_eq_getElem?_getD, List.getD_eq_getElem?_getD, List.getElem?_set]
  by_cases e : j = i
  · rw [if_pos e, if_pos e.symm, if_pos h]
    rfl
  · rw [if_neg e, if_neg (fun z => e z.symm)]
def spScale (K : PySem.W.Frag) : Sp := fun vs H Q _ => ∃ (a : Addr) (ns : List Int) (r p : Int), vs = [.ref a, .int r, .int p] ∧ SqT K H a (ns.map V.int) ∧ ns.length ≤ 100 ∧ Rs p ns ∧ Pm p ∧ NewP H (fun j => (ns.getD j 0 * r).fmod p) ns.length Q
def spPlus (K : PySem.W.Frag) : Sp := fun vs H Q _ => ∃ (a b : Addr) (xs ys : List Int) (p : Int), vs = [.ref a, .ref b, .int p] ∧ SqT K H a (xs.map V.int) ∧ SqT K H b (ys.map V.int) ∧ xs.length ≤ 100 ∧ ys.length ≤ 100 ∧ Rs p xs ∧ Rs p ys ∧ Pm p ∧
  NewP H (fun j => (xs.getD j 0 + ys.getD j 0).fmod p) (max xs.length ys.length) Q
def spMinus (K : PySem.W.Frag) : Sp := fun vs H Q _ => ∃ (a b : Addr) (xs ys : List Int) (p : Int), vs = [.ref a, .ref b, .int p] ∧ SqT K H a (xs.map V.int) ∧ SqT K H b (ys.map V.int) ∧ xs.length ≤ 100 ∧ ys.length ≤ 100 ∧ Rs p xs ∧ Rs p ys ∧ Pm p ∧
  NewP H (fun j => (xs.getD j 0 + (p - 1) * ys.getD j 0).fmod p) 100 Q
section
variable {P : Program} {w : World} {K : PySem.W.Frag} {mg : Str → Option Value} {base : Heap}
abbrev s_law_trim : Stmt := topS 31
theorem sc_law_trim : FnScope (["_law_numbers", "_law_many", "_law_k"] : List Str) ["_law_numbers"] (defScope s_law_trim) := ⟨rfl, rfl, rfl, by decide +kernel, rfl, by decide +kernel, by decide +kernel⟩
theorem ok_law_trim {f : Addr} {fd : FuncData} (F : FunD K "_law_trim" "_law_trim" (defArgs s_law_trim) (defBody s_law_trim) (defScope s_law_trim) [] [] f fd) (T : Fre mg) : FnOk P w K mg base CX0 1 f fd ["_law_numbers"] (spTrim K) := by
  refine F.ok sc_law_trim (fun vs H Q E h => ?_) (fun cdv A outer s H vs Q E hr h => ?_)
  · obtain ⟨a, ns, rfl, _⟩ := h
    rfl
  · obtain ⟨a, ns, rfl, hS, hl, k⟩ := h
    refine ⟨_, PSs.nox (pss_cons (ps_set (i := 1) sc_law_trim.nd rfl (Or.inl rfl) (pe_callB call_len_seq (by rfl) T.f_len PySem.boot_len (pa_cons (pv 0) pa_nil)))
      (pss_cons (ps_for PassesOwn.never rfl (pi_range1 (by rfl) T.f_range (pa_cons (pe_callB call_len_seq (by rfl) T.f_len PySem.boot_len (pa_cons (pv 0) pa_nil)) pa_nil)) (pg_name (i := 2) sc_law_trim.nd rfl (Or.inl rfl)) (pss_one (ps_if (PW.pt (pw_and (pt_cmpR op_gt (pv 1) pe_int (nomark _)) (pw_and1 (pt_cmpR op_eq (pe_ix ix_list (pv 0) (pe_op op_sub (pv 1) pe_int) (fun _ _ => rfl)) pe_int (nomark _))))) (pss_one (ps_set (i := 1) sc_law_trim.nd rfl (Or.inl rfl) (pe_op op_sub (pv 1) pe_int))) pss_nil)))
      (pss_one (ps_ret (pe_callTy call_tuple_of (by rfl) T.f_tuple (by decide +kernel) (pa_cons (pe_slice sl_list (pv 0) po_none (po_some (pv 1))) pa_nil)))))) , ?_⟩
    refine ⟨_, rfl, _, _, rfl, .inl hS, ?_⟩
    refine ⟨_, rfl, _, _, rfl, .inl hS, (ns.length : Int), by rw [List.length_map], by omega, by omega, ?_⟩
    rw [Int.toNat_natCast]
    refine for_range (lo := 0) (n := ns.length) (fun i σ' H' => ∃ (n : Nat) (x : Option V), σ' = [some (.ref a), some (.int n), x] ∧ H' = H ∧ n ≤ ns.length ∧ (∀ j, n ≤ j → ns.getD j 0 = 0) ∧ (n + i ≤ ns.length ∨ n = 0 ∨ ns.getD (n - 1) 0 ≠ 0)) ⟨ns.length, none, by rw [List.length_map]; rfl, rfl, Nat.le_refl _, fun j hj => getD_over hj, .inl (Nat.le_refl _)⟩ ?_ ?_
    · rintro i σ' H' hi ⟨n, x, rfl, rfl, hn, hz, hq⟩
      refine ⟨_, rfl, _, _, rfl, rfl, _, rfl, ite2 (fun hc => ?_) (fun hc => ?_)⟩
      · have h0 : 0 < n := by
          have z := of_decide_eq_true hc
          omega
        refine ⟨_, rfl, _, rfl, _, _, rfl, rfl, a, _, _, .int (ns.getD (n - 1) 0), rfl, rfl, hS, ?_, ?_⟩
        · rw [show (n : Int) - 1 = ((n - 1 : Nat) : Int) by omega]
          exact atI_nat (map_at ns (n - 1) (by omega))
        · refine ⟨rfl, _, rfl, ite2 (fun hb => ?_) (fun hb => ?_)⟩
          · have z := V.int.inj (of_decide_eq_true hb)
            refine ⟨_, rfl, _, _, rfl, rfl, n - 1, _, by rw [show ((n - 1 : Nat) : Int) = (n : Int) - 1 by omega]; rfl, rfl, by omega, fun j hj => ?_, ?_⟩
            · by_cases hj2 : j = n - 1
              · rw [hj2]; exact z
              · exact hz j (by omega)
            · rcases hq with q | q | q
              · exact .inl (by omega)
              · omega
              · exact absurd z q
          · exact ⟨n, _, rfl, rfl, hn, hz, .inr (.inr fun z => hb (decide_eq_true (by rw [z])))⟩
      · have h0 : n = 0 := by
          by_cases z : n = 0
          · exact z
          · exact absurd (decide_eq_true (show (0 : Int) < (n : Int) by omega)) hc
        exact ⟨n, _, rfl, rfl, hn, hz, .inr (.inl h0)⟩
    · rintro σ' H' ⟨n, x, rfl, rfl, hn, hz, hq⟩
      have hq' : n = 0 ∨ ns.getD (n - 1) 0 ≠ 0 := by
        rcases hq with q | q
        · exact .inl (by omega)
        · exact q
      exact ⟨_, rfl, _, rfl, n, rfl, a, _, rfl, hS, fun p hp => ⟨p, _, rfl, .inl ⟨SqL.of upd_same, fun l hl => out_take (take_trim hn hz hq') k hp hl⟩⟩⟩
abbrev s_raw_scaled : Stmt := topS 13
theorem sc_raw_scaled : FnScope (["one", "rest", "prime", "own"] : List Str) ["one", "rest", "prime"] (defScope s_raw_scaled) := ⟨rfl, rfl, rfl, by decide +kernel, rfl, by decide +kernel, by decide +kernel⟩
theorem ok_raw_scaled {f : Addr} {fd : FuncData} (F : FunD K "raw_scaled" "raw_scaled" (defArgs s_raw_scaled) (defBody s_raw_scaled) (defScope s_raw_scaled) [] [] f fd) (o_trimmed : Own P w K mg base CX0 1 "trimmed" ["rests"] [] (spTrim K)) : FnOk P w K mg base CX0 2 f fd ["one", "rest", "prime"] (spScale K) := by
  refine F.ok sc_raw_scaled (fun vs H Q E h => ?_) (fun cdv A outer s H vs Q E hr h => ?_)
  · obtain ⟨a, ns, r, p, rfl, _⟩ := h
    rfl
  · obtain ⟨a, ns, r, p, rfl, hS, hl, hR, hp, k⟩ := h
    refine ⟨_, PSs.nox (pss_one (ps_ret (pe_own o_trimmed (hr.mono (by decide)) rfl pass0 (pa_cons (pe_lc (own := [("own", 3)]) rfl sc_raw_scaled.nd (pi_tup (pv 0)) (blkOk_by (own := [("own", 3)]) (N := ["one", "rest", "prime", "own"]) (sc := defScope s_raw_scaled) (by decide +kernel)) (fun _ _ _ _ _ => pg_name (i := 3) sc_raw_scaled.nd rfl (Or.inl rfl) (Or.inr rfl)) (fun _ _ _ _ _ => pts_nil) (fun _ _ _ _ _ => (pe_op op_modN (pe_op op_mul (pv 3) (pv 1)) (pv 2)))) pa_nil)))) , ?_⟩
    refine ⟨_, rfl, a, rfl, ⟨_, hS⟩, fun D hD => ?_⟩
    refine lc_it (walk_tup (xs := ns.map V.int)) (fun i H1 => Same H H1 ∧ H1 D = some (.lst (((ns.take i).map fun x => (x * r).fmod p).map V.int))) ⟨same_upd hD, upd_same⟩ (fun i H1 _ h => sameT h.1 hS) ?_ ?_
    · rintro i x H1 H2 hi ⟨s1, e1⟩ ⟨rfl, hx⟩
      rw [List.length_map] at hi
      rw [map_at ns i hi] at hx
      cases hx
      obtain ⟨x0, x1⟩ := hR i
      have := hp.hi
      refine ⟨rfl, _, rfl, _, rfl, _, _, rfl, rfl, .inl ⟨by omega, by omega⟩, _, rfl, _, _, rfl, rfl, (fun z => by have := hp.lo; omega), _, e1, ?_, ?_⟩
      · exact small1000 (Nat.le_trans (take_len _ _ _) (by omega))
      · exact ⟨lcs hD s1, by rw [upd_same]; exact congrArg (fun z => some (HO.lst z)) (take_map (fun x => (x * r).fmod p) hi)⟩
    · rintro H1 ⟨s1, e1⟩
      rw [List.length_map, List.take_length] at e1
      refine ⟨D, _, rfl, SqL.of e1, by rw [List.length_map]; omega, (k _ (is_trim (fun j => ?_) (by rw [List.length_map]; exact Nat.le_refl _))).same s1⟩
      rw [getD_map (g := fun x => (x * r).fmod p) (by show (0 * r).fmod p = 0; rw [Int.zero_mul, Int.zero_fmod])]
abbrev s_raw_plus : Stmt := topS 14
theorem sc_raw_plus : FnScope (["one", "other", "prime", "longer", "shorter", "rests", "place", "rest"] : List Str) ["one", "other", "prime"] (defScope s_raw_plus) := ⟨rfl, rfl, rfl, by decide +kernel, rfl, by decide +kernel, by decide +kernel⟩
theorem ok_raw_plus {f : Addr} {fd : FuncData} (F : FunD K "raw_plus" "raw_plus" (defArgs s_raw_plus) (defBody s_raw_plus) (defScope s_raw_plus) [] [] f fd) (T : Fre mg) (o_trimmed : Own P w K mg base CX0 1 "trimmed" ["rests"] [] (spTrim K)) : FnOk P w K mg base CX0 2 f fd ["one", "other", "prime"] (spPlus K) := by
  refine F.ok sc_raw_plus (fun vs H Q E h => ?_) (fun cdv A outer s H vs Q E hr h => ?_)
  · obtain ⟨a, b, xs, ys, p, rfl, _⟩ := h
    rfl
  · obtain ⟨a, b, xs, ys, p, rfl, hA, hB, la, lb, rA, rB, hp, k⟩ := h
    refine ⟨_, PSs.nox (C8.pss_cut (ps_asg (pe_ifExp (pt_cmpR op_ge (pe_callB call_len_seq (by rfl) T.f_len PySem.boot_len (pa_cons (pv 0) pa_nil)) (pe_callB call_len_seq (by rfl) T.f_len PySem.boot_len (pa_cons (pv 1) pa_nil)) (nomark _)) (pe_tup (pa_cons (pv 0) (pa_cons (pv 1) pa_nil))) (pe_tup (pa_cons (pv 1) (pa_cons (pv 0) pa_nil)))) (pg_tup rfl (pgs_cons (pg_name (i := 3) sc_raw_plus.nd rfl (Or.inl rfl)) (pgs_cons (pg_name (i := 4) sc_raw_plus.nd rfl (Or.inl rfl)) pgs_nil))))
      (pss_cons (ps_set (i := 5) sc_raw_plus.nd rfl (Or.inl rfl) (pe_callTy call_list_of (by rfl) T.f_list (by decide +kernel) (pa_cons (pv 3) pa_nil)))
      (pss_cons (ps_for PassesOwn.never rfl (pi_enT (by rfl) T.f_enumerate (pa_cons (pv 4) pa_nil)) (pg_tup rfl (pgs_cons (pg_name (i := 6) sc_raw_plus.nd rfl (Or.inl rfl)) (pgs_cons (pg_name (i := 7) sc_raw_plus.nd rfl (Or.inl rfl)) pgs_nil))) (pss_one (ps_asg (pe_op op_modN (pe_op op_add (pe_ix ix_list (pv 5) (pv 6) (fun _ _ => rfl)) (pv 7)) (pv 2)) (pg_sub (pv 5) (pv 6) set_list))))
      (pss_one (ps_ret (pe_own o_trimmed (hr.mono (by decide)) rfl pass0 (pa_cons (pv 5) pa_nil))))))) , ?_⟩
    refine ⟨fun σ' H' => ∃ (c d : Addr) (us ws : List Int), σ' = [some (.ref a), some (.ref b), some (.int p), some (.ref c), some (.ref d), none, none, none] ∧ Same H H' ∧ SqT K H' c (us.map V.int) ∧ SqT K H' d (ws.map V.int) ∧ us.length ≤ 100 ∧ ws.length ≤ us.length ∧ us.length = max xs.length ys.length ∧ Rs p us ∧ ∀ j, us.getD j 0 + ws.getD j 0 = xs.getD j 0 + ys.getD j 0, ?_, ?_⟩
    · refine ⟨_, rfl, _, _, rfl, .inr hA, _, rfl, _, _, rfl, .inr hB, _, _, rfl, rfl, _, rfl, ite2 (fun hc => ?_) (fun hc => ?_)⟩
      · have z := of_decide_eq_true hc
        rw [List.length_map, List.length_map] at z
        refine ⟨_, rfl, _, rfl, (by show 2 ≤ sizeLine; decide), fun t ht => ⟨t, _, rfl, .inl (.inl upd_same), rfl, _, _, rfl, _, _, rfl, rfl, a, b, xs, ys, rfl, same_upd ht, sameT (same_upd ht) hA, sameT (same_upd ht) hB, la, by omega, by omega, rA, fun j => rfl⟩⟩
      · have z : ¬ ((ys.map V.int).length : Int) ≤ ((xs.map V.int).length : Int) := fun z => hc (decide_eq_true z)
        rw [List.length_map, List.length_map] at z
        refine ⟨_, rfl, _, rfl, (by show 2 ≤ sizeLine; decide), fun t ht => ⟨t, _, rfl, .inl (.inl upd_same), rfl, _, _, rfl, _, _, rfl, rfl, b, a, ys, xs, rfl, same_upd ht, sameT (same_upd ht) hB, sameT (same_upd ht) hA, lb, by omega, by omega, rB, fun j => Int.add_comm _ _⟩⟩
    · rintro σ' H' ⟨c, d, us, ws, rfl, s1, hC, hD, lu, lw, lm, rU, ev⟩
      refine ⟨_, rfl, c, _, rfl, .inr hC, fun q hq => ?_⟩
      have nz : p ≠ 0 := by have := hp.lo; omega
      refine ⟨_, rfl, d, _, rfl, sameT (same_upd hq) hD, ?_⟩
      refine for_it (walk_enT (xs := ws.map V.int)) (fun i σ' H2 => ∃ (ms : List Int) (x y : Option V), σ' = [some (.ref a), some (.ref b), some (.int p), some (.ref c), some (.ref d), some (.ref q), x, y] ∧ Same H' H2 ∧ H2 q = some (.lst (ms.map V.int)) ∧ ms.length = us.length ∧ ∀ j, ms.getD j 0 = if j < i then (us.getD j 0 + ws.getD j 0).fmod p else us.getD j 0)
        ⟨us, none, none, rfl, same_upd hq, upd_same, rfl, fun j => (if_neg (Nat.not_lt_zero j)).symm⟩ (fun i σ' H2 _ ⟨_, _, _, _, s2, _⟩ => sameT s2 hD) ?_ ?_
      · rintro i x σ' H2 H3 hi ⟨ms, x0, y0, rfl, s2, eq, lms, cf⟩ ⟨T, u, v, rfl, hT, rfl, e1, e2⟩
        cases e1
        rw [List.length_map] at hi
        have e3 := (map_at ws i hi).symm.trans e2
        cases e3
        have hqT : q ≠ T := ne_of_none eq hT
        have eq2 : L2.upd H2 T (.tup [.int (i : Nat), .int (ws.getD i 0)]) q = some (.lst (ms.map V.int)) := by rw [upd_ne hqT]; exact eq
        have ei := cf i
        rw [if_neg (Nat.lt_irrefl i)] at ei
        refine ⟨T, _, rfl, .inl (.inl upd_same), rfl, _, _, rfl, _, _, rfl, rfl, ?_⟩
        refine ⟨_, rfl, _, rfl, q, _, (i : Int), .int (ms.getD i 0), rfl, rfl, SqL.of eq2, atI_nat (map_at ms i (by omega)), _, rfl, _, _, rfl, rfl, _, rfl, _, _, rfl, rfl, nz, _, rfl, _, rfl, q, _, _, i, rfl, rfl, eq2, ixN_nat (by rw [List.length_map]; omega), ?_⟩
        refine ⟨ms.set i ((ms.getD i 0 + ws.getD i 0).fmod p), _, _, rfl, lcs hq (s2.trans (same_upd hT)), ?_, by rw [List.length_set]; exact lms, fun j => ?_⟩
        · rw [upd_same, List.map_set]
        · rw [getD_set (by omega)]
          by_cases hj : j = i
          · rw [if_pos hj, if_pos (by omega), hj, ei]
          · rw [if_neg hj, cf j]
            by_cases hj2 : j < i
            · rw [if_pos hj2, if_pos (by omega)]
            · rw [if_neg hj2, if_neg (by omega)]
      · rintro σ' H2 ⟨ms, x0, y0, rfl, s2, eq, lms, cf⟩
        rw [List.length_map] at cf
        refine ⟨_, rfl, q, _, rfl, SqL.of eq, by omega, (k _ (is_trim (fun j => ?_) (by omega))).same (s1.trans s2)⟩
        rw [cf j, ← ev j]
        by_cases hj : j < ws.length
        · rw [if_pos hj]
        · rw [if_neg hj, getD_over (Nat.le_of_not_lt hj), Int.add_zero]
          exact (fm_id (rU j).1 (rU j).2).symm
end
end Xk
end
section
set_option Elab.async false
set_option linter.all false
set_option maxRecDepth 100000
set_option maxHeartbeats 4000000
namespace Xk
open PySem PySem.Spec PyProof.Rows L2 Xh LamX
theorem Is.imp {f g : Nat → Int} {n m : Nat} {ms : List Int} (x : Is f n ms) (h : ∀ j, f j = g j) (l : n ≤ m) : Is g m ms := ⟨fun j => (x.at_ j).trans (h j), x.tr, Nat.le_trans x.len l⟩
theorem NewP.imp {H : Hp} {f g : Nat → Int} {n m : Nat} {Q : VK} (k : NewP H g m Q) (h : ∀ j, f j = g j) (l : n ≤ m) : NewP H f n Q := fun ms x => k ms (x.imp h l)
theorem fm_add {a b p : Int} (h : 0 < p) : (a + b.fmod p).fmod p = (a + b).fmod p := by
  rw [Int.fmod_eq_emod_of_nonneg _ (by omega), Int.fmod_eq_emod_of_nonneg _ (by omega), Int.fmod_eq_emod_of_nonneg _ (by omega), Int.add_emod_emod]
theorem fm_add2 {a b p : Int} (h : 0 < p) : (a.fmod p + b).fmod p = (a + b).fmod p := by rw [Int.add_comm, fm_add h, Int.add_comm]
/-- one row of a product -/
def In (g : Nat → Int) (i : Nat) (x : Int) (ys : List Int) : Nat → Nat → Int
  | 0 => g
  | j + 1 => fun k => if k = i + j then In g i x ys j k + x * ys.getD j 0 else In g i x ys j k
/-- a product's coefficients, i rows of it -/
def Ou (xs ys : List Int) : Nat → Nat → Int
  | 0 => fun _ => 0
  | i + 1 => In (Ou xs ys i) i (xs.getD i 0) ys ys.length
def cvf (xs ys : List Int) : Nat → Int := Ou xs ys xs.length
theorem In_over {g : Nat → Int} {i n : Nat} {x : Int} {ys : List Int} (h : ∀ k, n ≤ k → g k = 0) (hn : i + ys.length ≤ n) : ∀ j, j ≤ ys.length → ∀ k, n ≤ k → In g i x ys j k = 0
  | 0, _, k, hk => h k hk
  | j + 1, hj, k, hk => by
    unfold In
    rw [if_neg (by omega)]
    exact In_over h hn j (by omega) k hk
theorem Ou_nil (xs : List Int) : ∀ i k, Ou xs [] i k = 0
  | 0, _ => rfl
  | i + 1, k => Ou_nil xs i k
theorem rep_zero (n : Nat) : (List.replicate n [V.int 0]).flatten = (List.replicate n (0 : Int)).map V.int := by
  induction n with
  | zero => rfl
  | succ n ih => rw [List.replicate_succ, List.replicate_succ, List.flatten_cons, ih]; rfl
theorem getD_rep (n j : Nat) : (List.replicate n (0 : Int)).getD j 0 = 0 := by
  rw [List.getD_eq_getElem?_getD, List.getElem?_replicate]
  split <;> rfl
def spTimes (K : PySem.W.Frag) : Sp := fun vs H Q _ => ∃ (a b : Addr) (xs ys : List Int) (p : Int), vs = [.ref a, .ref b, .int p] ∧ SqT K H a (xs.map V.int) ∧ SqT K H b (ys.map V.int) ∧ xs.length ≤ 50 ∧ ys.length ≤ 50 ∧ Rs p xs ∧ Rs p ys ∧ Pm p ∧
  NewP H (fun j => (cvf xs ys j).fmod p) 100 Q
section
variable {P : Program} {w : World} {K : PySem.W.Frag} {mg : Str → Option Value} {base : Heap}
abbrev s_raw_minus : Stmt := topS 15
theorem sc_raw_minus : FnScope (["one", "other", "prime"] : List Str) ["one", "other", "prime"] (defScope s_raw_minus) := ⟨rfl, rfl, rfl, by decide +kernel, rfl, by decide +kernel, by decide +kernel⟩
theorem ok_raw_minus {f : Addr} {fd : FuncData} (F : FunD K "raw_minus" "raw_minus" (defArgs s_raw_minus) (defBody s_raw_minus) (defScope s_raw_minus) [] [] f fd) (o_raw_scaled : Own P w K mg base CX0 2 "raw_scaled" ["one", "rest", "prime"] [] (spScale K)) (o_raw_plus : Own P w K mg base CX0 2 "raw_plus" ["one", "other", "prime"] [] (spPlus K)) : FnOk P w K mg base CX0 3 f fd ["one", "other", "prime"] (spMinus K) := by
  refine F.ok sc_raw_minus (fun vs H Q E h => ?_) (fun cdv A outer s H vs Q E hr h => ?_)
  · obtain ⟨a, b, xs, ys, p, rfl, _⟩ := h
    rfl
  · obtain ⟨a, b, xs, ys, p, rfl, hA, hB, la, lb, rA, rB, hp, k⟩ := h
    refine ⟨_, PSs.nox (pss_one (ps_ret (pe_own o_raw_plus (hr.mono (by decide)) rfl pass0 (pa_cons (pv 0) (pa_cons (pe_own o_raw_scaled (hr.mono (by decide)) rfl pass0 (pa_cons (pv 1) (pa_cons (pe_op op_sub (pv 2) pe_int) (pa_cons (pv 2) pa_nil)))) (pa_cons (pv 2) pa_nil)))))) , ?_⟩
    refine ⟨_, rfl, _, rfl, _, rfl, _, _, rfl, rfl, _, rfl, b, ys, p - 1, p, rfl, hB, lb, rB, hp, fun ms x q H1 s1 hq e1 => ?_⟩
    have lm := x.len
    refine ⟨_, rfl, a, q, xs, ms, p, rfl, sameT s1 hA, .inl (.inl e1), la, by omega, rA, fm_rs hp x.at_, hp, (k.same s1).imp (fun j => ?_) (by omega)⟩
    show (xs.getD j 0 + ms.getD j 0).fmod p = _
    rw [x.at_, fm_add hp.pos, Int.mul_comm]
abbrev s_raw_times : Stmt := topS 16
theorem sc_raw_times : FnScope (["one", "other", "prime", "sums", "low", "rest", "high", "by", "number"] : List Str) ["one", "other", "prime"] (defScope s_raw_times) := ⟨rfl, rfl, rfl, by decide +kernel, rfl, by decide +kernel, by decide +kernel⟩
theorem ok_raw_times {f : Addr} {fd : FuncData} (F : FunD K "raw_times" "raw_times" (defArgs s_raw_times) (defBody s_raw_times) (defScope s_raw_times) [] [] f fd) (T : Fre mg) (o_trimmed : Own P w K mg base CX0 1 "trimmed" ["rests"] [] (spTrim K)) : FnOk P w K mg base CX0 2 f fd ["one", "other", "prime"] (spTimes K) := by
  refine F.ok sc_raw_times (fun vs H Q E h => ?_) (fun cdv A outer s H vs Q E hr h => ?_)
  · obtain ⟨a, b, xs, ys, p, rfl, _⟩ := h
    rfl
  · obtain ⟨a, b, xs, ys, p, rfl, hA, hB, la, lb, rA, rB, hp, k⟩ := h
    refine ⟨_, PSs.nox (C8.pss_cut (ps_if (PW.pt (pw_or (pt_not (pt_truth (pv 0) (by intro _; rfl))) (pw_or1 (pt_not (pt_truth (pv 1) (by intro _; rfl)))))) (pss_one (ps_ret (pe_tup pa_nil))) pss_nil)
      (pss_cons (ps_set (i := 3) sc_raw_times.nd rfl (Or.inl rfl) (pe_op op_rep (pe_lst (pa_cons pe_int pa_nil)) (pe_op op_sub (pe_op op_add (pe_callB call_len_seq (by rfl) T.f_len PySem.boot_len (pa_cons (pv 0) pa_nil)) (pe_callB call_len_seq (by rfl) T.f_len PySem.boot_len (pa_cons (pv 1) pa_nil))) pe_int)))
      (pss_cons (ps_for PassesOwn.never rfl (pi_enT (by rfl) T.f_enumerate (pa_cons (pv 0) pa_nil)) (pg_tup rfl (pgs_cons (pg_name (i := 4) sc_raw_times.nd rfl (Or.inl rfl)) (pgs_cons (pg_name (i := 5) sc_raw_times.nd rfl (Or.inl rfl)) pgs_nil))) (pss_one (ps_for PassesOwn.never rfl (pi_enT (by rfl) T.f_enumerate (pa_cons (pv 1) pa_nil)) (pg_tup rfl (pgs_cons (pg_name (i := 6) sc_raw_times.nd rfl (Or.inl rfl)) (pgs_cons (pg_name (i := 7) sc_raw_times.nd rfl (Or.inl rfl)) pgs_nil))) (pss_one (ps_augS (pv 3) (pe_op op_add (pv 4) (pv 6)) get_list (pe_op op_mul (pv 5) (pv 7)) ip_add set_list)))))
      (pss_one (ps_ret (pe_own o_trimmed (hr.mono (by decide)) rfl pass0 (pa_cons (pe_lc (own := [("number", 8)]) rfl sc_raw_times.nd (pi_list (pv 3)) (blkOk_by (own := [("number", 8)]) (N := ["one", "other", "prime", "sums", "low", "rest", "high", "by", "number"]) (sc := defScope s_raw_times) (by decide +kernel)) (fun _ _ _ _ _ => pg_name (i := 8) sc_raw_times.nd rfl (Or.inl rfl) (Or.inr rfl)) (fun _ _ _ _ _ => pts_nil) (fun _ _ _ _ _ => (pe_op op_modN (pv 8) (pv 2)))) pa_nil))))))) , ?_⟩
    refine ⟨fun σ' H' => σ' = [some (.ref a), some (.ref b), some (.int p), none, none, none, none, none, none] ∧ H' = H ∧ 0 < xs.length ∧ 0 < ys.length, ?_, ?_⟩
    · cases xs with
      | nil => exact ⟨_, rfl, _, .inr (.inl ⟨_, hA, rfl⟩), iteT (iteT ⟨(by show 0 ≤ sizeLine; decide), fun t ht => k [] ⟨fun j => (Int.zero_fmod p).symm, rfl, Nat.zero_le _⟩ t _ (same_upd ht) ht upd_same⟩)⟩
      | cons x xs =>
        refine ⟨_, rfl, _, .inr (.inl ⟨_, hA, rfl⟩), iteF ?_⟩
        cases ys with
        | nil => exact ⟨_, rfl, _, .inr (.inl ⟨_, hB, rfl⟩), iteT ⟨(by show 0 ≤ sizeLine; decide), fun t ht => k [] ⟨fun j => by rw [cvf, Ou_nil]; exact (Int.zero_fmod p).symm, rfl, Nat.zero_le _⟩ t _ (same_upd ht) ht upd_same⟩⟩
        | cons y ys => exact ⟨_, rfl, _, .inr (.inl ⟨_, hB, rfl⟩), iteF ⟨rfl, rfl, Nat.succ_pos _, Nat.succ_pos _⟩⟩
    · rintro σ' H' ⟨rfl, rfl, lx, ly⟩
      refine ⟨(by show 1 ≤ sizeLine; decide), fun l hl => ?_⟩
      have s0 := same_upd (o := .lst [.int 0]) hl
      refine ⟨_, rfl, _, _, rfl, .inr (sameT s0 hA), _, rfl, _, _, rfl, .inr (sameT s0 hB), _, _, rfl, rfl, _, _, rfl, rfl, l, _, _, rfl, rfl, upd_same, ?_, ?_, ?_, fun q hq => ?_⟩
      · rw [List.length_map, List.length_map]; omega
      · rw [List.length_map, List.length_map]; omega
      · rw [List.length_map, List.length_map]
        exact Nat.le_trans (show 1 * ((xs.length : Int) + (ys.length : Int) - 1).toNat ≤ 1000 by omega) (Nat.le_of_lt (small1000 (Nat.le_refl _)))
      have q0 : H' q = none := s0.free hq
      have nz : p ≠ 0 := by have := hp.lo; omega
      have hi1000 := hp.hi
      rw [List.length_map, List.length_map, show ((xs.length : Int) + (ys.length : Int) - 1).toNat = xs.length + ys.length - 1 by omega, rep_zero]
      refine ⟨_, rfl, a, _, rfl, sameT (s0.trans (same_upd hq)) hA, ?_⟩
      refine for_it (walk_enT (xs := xs.map V.int)) (fun i σ' H2 => ∃ (ms : List Int) (x y u v : Option V), σ' = [some (.ref a), some (.ref b), some (.int p), some (.ref q), x, y, u, v, none] ∧ Same H' H2 ∧ H2 q = some (.lst (ms.map V.int)) ∧ ms.length = xs.length + ys.length - 1 ∧ ∀ j, ms.getD j 0 = Ou xs ys i j)
        ⟨List.replicate (xs.length + ys.length - 1) 0, none, none, none, none, rfl, s0.trans (same_upd hq), upd_same, List.length_replicate, fun j => getD_rep _ j⟩ (fun i σ' H2 _ ⟨_, _, _, _, _, _, s2, _⟩ => sameT s2 hA) ?_ ?_
      · rintro i x σ' H2 H3 hi ⟨ms, x0, y0, u0, v0, rfl, s2, eq, lms, cf⟩ ⟨T, u, v, rfl, hT, rfl, e1, e2⟩
        cases e1
        rw [List.length_map] at hi
        have e3 := (map_at xs i hi).symm.trans e2
        cases e3
        have sT := s2.trans (same_upd (o := .tup [.int (i : Nat), .int (xs.getD i 0)]) hT)
        refine ⟨T, _, rfl, .inl (.inl upd_same), rfl, _, _, rfl, _, _, rfl, rfl, ?_⟩
        refine ⟨_, rfl, b, _, rfl, sameT sT hB, ?_⟩
        refine for_it (walk_enT (xs := ys.map V.int)) (fun j σ' H2 => ∃ (ms : List Int) (u v : Option V), σ' = [some (.ref a), some (.ref b), some (.int p), some (.ref q), some (.int (i : Nat)), some (.int (xs.getD i 0)), u, v, none] ∧ Same H' H2 ∧ H2 q = some (.lst (ms.map V.int)) ∧ ms.length = xs.length + ys.length - 1 ∧ ∀ k, ms.getD k 0 = In (Ou xs ys i) i (xs.getD i 0) ys j k)
          ⟨ms, u0, v0, rfl, sT, by rw [upd_ne (ne_of_none eq hT)]; exact eq, lms, cf⟩ (fun j σ' H2 _ ⟨_, _, _, _, s2, _⟩ => sameT s2 hB) ?_ ?_
        · rintro j x' σ' H4 H5 hj ⟨ms, u0, v0, rfl, s2, eq, lms, cf⟩ ⟨T, u, v, rfl, hT, rfl, e1, e2⟩
          cases e1
          rw [List.length_map] at hj
          have e3 := (map_at ys j hj).symm.trans e2
          cases e3
          have eq2 : L2.upd H4 T (.tup [.int (j : Nat), .int (ys.getD j 0)]) q = some (.lst (ms.map V.int)) := by rw [upd_ne (ne_of_none eq hT)]; exact eq
          obtain ⟨x0, x1⟩ := rA i
          have ho : atI (ms.map V.int) ((i : Int) + (j : Int)) = some (.int (ms.getD (i + j) 0)) := by
            rw [← Int.natCast_add]
            exact atI_nat (map_at ms (i + j) (by omega))
          have hx : ixN (ms.map V.int).length ((i : Int) + (j : Int)) = some (i + j) := by
            rw [← Int.natCast_add]
            exact ixN_nat (by rw [List.length_map]; omega)
          refine ⟨T, _, rfl, .inl (.inl upd_same), rfl, _, _, rfl, _, _, rfl, rfl, ?_⟩
          refine ⟨_, rfl, _, rfl, _, rfl, _, _, rfl, rfl, q, _, _, _, rfl, rfl, SqL.of eq2, ho, _, rfl, _, rfl, _, _, rfl, rfl, .inl ⟨by omega, by omega⟩, _, _, rfl, rfl, q, _, _, _, rfl, rfl, eq2, hx, ?_⟩
          refine ⟨ms.set (i + j) (ms.getD (i + j) 0 + xs.getD i 0 * ys.getD j 0), _, _, rfl, lcs q0 (s2.trans (same_upd hT)), ?_, by rw [List.length_set]; exact lms, fun k => ?_⟩
          · rw [upd_same, List.map_set]
          · rw [getD_set (by omega)]
            unfold In
            by_cases hk : k = i + j
            · rw [if_pos hk, if_pos hk, cf, hk]
            · rw [if_neg hk, if_neg hk, cf]
        · rintro σ' H4 ⟨ms, u0, v0, rfl, s2, eq, lms, cf⟩
          rw [List.length_map] at cf
          exact ⟨ms, _, _, _, _, rfl, s2, eq, lms, cf⟩
      · rintro σ' H2 ⟨ms, x0, y0, u0, v0, rfl, s2, eq, lms, cf⟩
        rw [List.length_map] at cf
        refine ⟨_, rfl, q, rfl, ⟨_, SqL.of eq⟩, fun D hD => ?_⟩
        refine lc_it (walk_list (xs := ms.map V.int)) (fun i H3 => Same H2 H3 ∧ H3 D = some (.lst (((ms.take i).map fun x => x.fmod p).map V.int))) ⟨same_upd hD, upd_same⟩ (fun i H1 _ h => SqL.of (h.1 _ _ eq)) ?_ ?_
        · rintro i x H3 H4 hi ⟨s3, e3⟩ ⟨rfl, hx⟩
          rw [List.length_map] at hi
          have e4 := (map_at ms i hi).symm.trans hx
          cases e4
          refine ⟨rfl, _, rfl, _, rfl, _, _, rfl, rfl, nz, _, e3, small1000 (Nat.le_trans (take_len _ _ _) (by omega)), lcs hD s3, ?_⟩
          rw [upd_same]
          exact congrArg (fun z => some (HO.lst z)) (take_map (fun x => x.fmod p) hi)
        · rintro H3 ⟨s3, e3⟩
          rw [List.length_map, List.take_length] at e3
          refine ⟨D, _, rfl, SqL.of e3, by rw [List.length_map]; omega, (k _ (is_trim (fun j => ?_) (by rw [List.length_map]; omega))).same (s2.trans s3)⟩
          rw [getD_map (g := fun x => x.fmod p) (Int.zero_fmod p), cf]
          rfl
end
end Xk
end
section
set_option Elab.async false
set_option linter.all false
set_option maxRecDepth 100000
set_option maxHeartbeats 4000000
namespace Xk
open PySem PySem.Spec PyProof.Rows L2 Xh LamX
def spIsPoly (K : PySem.W.Frag) : Sp := fun vs H Q _ => ∃ (a : Addr) (ns : List Int) (p : Int), vs = [.ref a, .int p] ∧ SqT K H a (ns.map V.int) ∧ ns.length ≤ 25 ∧ Rs p ns ∧ trim ns = ns ∧ ∀ H', Same H H' → Q (.bl true) H'
theorem atI_back (n : Int) (ns : List Int) : atI ((n :: ns).map V.int) (-1) = some (.int ((n :: ns).getD ns.length 0)) := by
  unfold atI ixN
  rw [List.length_map, List.length_cons, if_neg (by decide), if_pos (by omega)]
  show ((n :: ns).map V.int)[((-1 : Int) + ((ns.length + 1 : Nat) : Int)).toNat]? = _
  rw [show ((-1 : Int) + ((ns.length + 1 : Nat) : Int)).toNat = ns.length by omega]
  exact map_at (n :: ns) ns.length (by rw [List.length_cons]; omega)
theorem dp_ints {K : PySem.W.Frag} {H : Hp} : ∀ ns : List Int, DpAll K H (ns.map V.int) (ns.map PyData.int)
  | [] => .nil
  | n :: ns => .cons (.int n) (dp_ints ns)
theorem dp_tup {K : PySem.W.Frag} {H : Hp} {a : Addr} {ns : List Int} (h : SqT K H a (ns.map V.int)) : Dp K H (.ref a) (.tuple (ns.map PyData.int)) := .tup h (dp_ints ns)
section
variable {P : Program} {w : World} {K : PySem.W.Frag} {mg : Str → Option Value} {base : Heap}
abbrev s_is_poly : Stmt := topS 19
theorem sc_is_poly : FnScope (["told", "prime", "rest"] : List Str) ["told", "prime"] (defScope s_is_poly) := ⟨rfl, rfl, rfl, by decide +kernel, rfl, by decide +kernel, by decide +kernel⟩
theorem ok_is_poly {f : Addr} {fd : FuncData} (F : FunD K "is_poly" "is_poly" (defArgs s_is_poly) (defBody s_is_poly) (defScope s_is_poly) [] [] f fd) (T : Fre mg) (mM : ∃ t, mg "MOST_RESTS" = some (.int 25 t)) (o_is_rest : Own P w K mg base CX0 2 "is_rest" ["told", "prime"] [] spIsRest) : FnOk P w K mg base CX0 3 f fd ["told", "prime"] (spIsPoly K) := by
  obtain ⟨tM, mM⟩ := mM
  refine F.ok sc_is_poly (fun vs H Q E h => ?_) (fun cdv A outer s H vs Q E hr h => ?_)
  · obtain ⟨a, ns, p, rfl, _⟩ := h
    rfl
  · obtain ⟨a, ns, p, rfl, hS, hl, hR, htr, k⟩ := h
    refine ⟨_, PSs.nox (pss_cons (ps_if (PW.pt (pw_or (pt_not (pt_val (pe_callB call_isi (by rfl) T.f_isinstance (by decide +kernel) (pa_cons (pv 0) (pa_cons (pe_bltn (v := .ty "tuple") rfl T.f_tuple boot_tuple rfl) pa_nil))))) (pw_or1 (pt_cmpR op_gt (pe_callB call_len_seq (by rfl) T.f_len PySem.boot_len (pa_cons (pv 0) pa_nil)) (pe_glob (v := .int 25) rfl mM ⟨_, rfl⟩) (nomark _))))) (pss_one (ps_ret pe_bl)) pss_nil)
      (pss_cons (ps_if (pt_not (pt_val (pe_callB (cr_all rfl) (by rfl) T.f_all (by decide +kernel) (pa_cons (pe_lc (own := [("rest", 2)]) rfl sc_is_poly.nd (pi_tup (pv 0)) (blkOk_by (own := [("rest", 2)]) (N := ["told", "prime", "rest"]) (sc := defScope s_is_poly) (by decide +kernel)) (fun _ _ _ _ _ => pg_name (i := 2) sc_is_poly.nd rfl (Or.inl rfl) (Or.inr rfl)) (fun _ _ _ _ _ => pts_nil) (fun _ _ _ _ _ => (pe_own o_is_rest (hr.mono (by decide)) rfl pass0 (pa_cons (pv 2) (pa_cons (pv 1) pa_nil))))) pa_nil)))) (pss_one (ps_ret pe_bl)) pss_nil)
      (pss_one (ps_ret (pe_or (pe_cmpR (op_eqD hr.units) (pv 0) (pe_tup pa_nil) (nomark _)) (pe_one (pe_cmpR op_ne (pe_ix ix_tup (pv 0) (pe_un un_neg pe_int) (fun _ _ => rfl)) pe_int (nomark _)))))))) , ?_⟩
    refine ⟨_, rfl, .ref a, _, _, _, true, rfl, .ty _, tyT hS, kit_ty (by decide +kernel), _, rfl, iteF ?_⟩
    refine ⟨_, rfl, _, _, rfl, .inr hS, _, _, rfl, rfl, _, rfl, ?_⟩
    rw [show decide ((25 : Int) < ((ns.map V.int).length : Int)) = false from decide_eq_false (by rw [List.length_map]; omega)]
    refine iteF ?_
    refine ⟨_, rfl, a, rfl, ⟨_, hS⟩, fun D hD => ?_⟩
    refine lc_it (walk_tup (xs := ns.map V.int)) (fun i H1 => Same H H1 ∧ H1 D = some (.lst ((List.replicate i true).map V.bl)) ∧ i ≤ ns.length) ⟨same_upd hD, upd_same, Nat.zero_le _⟩ (fun i H1 _ h => sameT h.1 hS) ?_ ?_
    · rintro i x H1 H2 hi ⟨s1, e1, _⟩ ⟨rfl, hx⟩
      rw [List.length_map] at hi
      have e3 := (map_at ns i hi).symm.trans hx
      cases e3
      refine ⟨rfl, _, rfl, _, rfl, _, _, rfl, ?_⟩
      rw [decide_eq_true (hR i)]
      refine ⟨_, e1, ?_, lcs hD s1, ?_, hi⟩
      · rw [List.length_map, List.length_replicate]
        exact small1000 (by omega)
      · rw [upd_same, List.replicate_succ', List.map_append]
        rfl
    · rintro H1 ⟨s1, e1, _⟩
      refine ⟨D, List.replicate (ns.map V.int).length true, rfl, SqL.of e1, _, rfl, ?_⟩
      rw [show (List.replicate (ns.map V.int).length true).all id = true from by simp]
      refine iteF ⟨_, rfl, (by show 0 ≤ sizeLine; decide), fun t ht => ⟨_, _, dp_tup (sameT (s1.trans (same_upd ht)) hS), dp_tup (ns := []) (.inl (.inl upd_same)), ?_, rfl, ?_⟩⟩
      · simp [SeqAt.shaped, PyData.canLay0, PyData.depth, PySem.W.ke_canLayAll0, PySem.W.ke_depthAll]
      · cases ns with
        | nil => exact ⟨_, rfl, iteT (k _ (s1.trans (same_upd ht)))⟩
        | cons n ns =>
          refine ⟨_, rfl, iteF ⟨_, rfl, _, rfl, a, _, _, .int ((n :: ns).getD ns.length 0), rfl, rfl, sameT (s1.trans (same_upd ht)) hS, ?_, ?_⟩⟩
          · exact atI_back n ns
          · have z := trim_ne _ (by intro z; cases z) htr
            refine ⟨rfl, ?_⟩
            rw [show (!decide (V.int ((n :: ns).getD ns.length 0) = V.int 0)) = true from by simpa using z]
            exact k _ (s1.trans (same_upd ht))
end
end Xk
end
section
set_option Elab.async false
set_option linter.all false
set_option maxRecDepth 100000
set_option maxHeartbeats 4000000
namespace Xk
open PySem PySem.Spec PyProof.Rows L2 Xh LamX
theorem pm_all : ∀ p ∈ primes, 2 ≤ p ∧ p ≤ 1000 := by decide
theorem pm_of {p : Int} (h : p ∈ primes) : Pm p := ⟨(pm_all p h).1, (pm_all p h).2⟩
structure Pol (K : PySem.W.Frag) (H : Hp) (a : Addr) (p : Int) (ns : List Int) : Prop where
  at_ : SqT K H a (ns.map V.int)
  len : ns.length ≤ 25
  rs : Rs p ns
  tr : trim ns = ns
theorem Pol.same {H H' : Hp} {K : PySem.W.Frag} {a : Addr} {p : Int} {ns : List Int} (x : Pol K H a p ns) (s : Same H H') : Pol K H' a p ns := ⟨sameT s x.at_, x.len, x.rs, x.tr⟩
theorem two_of {H : Hp} {K : PySem.W.Frag} {a b : Addr} {p : Int} {xs ys : List Int} (x : Pol K H a p xs) (y : Pol K H b p ys) : ∀ r ∈ [V.ref a, V.ref b], ∃ a ns, r = .ref a ∧ Pol K H a p ns := fun r hr => by
  rcases List.mem_cons.mp hr with rfl | hr
  · exact ⟨_, _, rfl, x⟩
  · rw [List.mem_singleton.mp hr]
    exact ⟨_, _, rfl, y⟩
def spRefPs (K : PySem.W.Frag) : Sp := fun vs H Q _ => ∃ (c : Addr) (rs : List V) (p : Int), vs = [.ref c, .int p] ∧ p ∈ primes ∧ SqT K H c rs ∧ (∀ r ∈ rs, ∃ a ns, r = .ref a ∧ Pol K H a p ns) ∧ ∀ H', Same H H' → Q .non H'
def spPoly (K : PySem.W.Frag) (g : Int → List Int → List Int → Nat → Int) : Sp := fun vs H Q _ => ∃ (a b : Addr) (xs ys : List Int) (p : Int), vs = [.ref a, .ref b, .int p] ∧ p ∈ primes ∧ Pol K H a p xs ∧ Pol K H b p ys ∧ NewP H (g p xs ys) 100 Q
def gPlus : Int → List Int → List Int → Nat → Int := fun p xs ys j => (xs.getD j 0 + ys.getD j 0).fmod p
def gMinus : Int → List Int → List Int → Nat → Int := fun p xs ys j => (xs.getD j 0 + (p - 1) * ys.getD j 0).fmod p
def gTimes : Int → List Int → List Int → Nat → Int := fun p xs ys j => (cvf xs ys j).fmod p
section
variable {P : Program} {w : World} {K : PySem.W.Frag} {mg : Str → Option Value} {base : Heap}
abbrev s_refuse_polys : Stmt := topS 20
theorem sc_refuse_polys : FnScope (["polys", "prime", "poly"] : List Str) ["polys", "prime"] (defScope s_refuse_polys) := ⟨rfl, rfl, rfl, by decide +kernel, rfl, by decide +kernel, by decide +kernel⟩
theorem ok_refuse_polys {f fI : Addr} {C : Fin 14 → Addr} {fd : FuncData} (F : FunD K "refuse_polys" "refuse_polys" (defArgs s_refuse_polys) (defBody s_refuse_polys) (defScope s_refuse_polys) [] [] f fd) (o_refuse_prime : Own P w K mg base (L2.CX P w) 3 "refuse_prime" ["prime"] [] (spRefP (C 0)))
    (o_is_poly : Own P w K mg base CX0 3 "is_poly" ["told", "prime"] [] (spIsPoly K)) (xP : RX K mg (C 1) fI "BadPoly") (o_init : FnR P w K mg base (L2.CX P w) 1 fI (spRI1 K)) : FnOk P w K mg base (L2.CX P w) 4 f fd ["polys", "prime"] (spRefPs K) := by
  refine F.ok sc_refuse_polys (fun vs H Q E h => ?_) (fun cdv A outer s H vs Q E hr h => ?_)
  · obtain ⟨c, rs, p, rfl, _⟩ := h
    rfl
  · obtain ⟨c, rs, p, rfl, hp, hS, hP, k⟩ := h
    refine ⟨_, (pss_cons (ps_expr (pe_own o_refuse_prime (hr.mono (by decide)) rfl (passes_call (takes_of rfl rfl rfl rfl) (fun _ _ _ _ h => h)) (pa_cons (pv 1) pa_nil)))
      (pss_one (ps_for (passes_of rfl) rfl (pi_tup (pv 0)) (pg_name (i := 2) sc_refuse_polys.nd rfl (Or.inl rfl)) (pss_one (ps_if (pt_not (pt_val (pe_own o_is_poly (hr.mono (by decide)) rfl pass0 (pa_cons (pv 2) (pa_cons (pv 1) pa_nil))))) (pss_one (ps_raise rfl (takes_of rfl rfl rfl rfl) (pmk_rung xP o_init (hr.mono (by decide)) rfl))) pss_nil))))) , ?_⟩
    refine ⟨_, rfl, p, rfl, fun _ => ?_, fun z => absurd hp z⟩
    refine ⟨_, rfl, c, rfl, ⟨_, hS⟩, ?_⟩
    refine for_it (walk_tup (xs := rs)) (fun i σ' H2 => ∃ x : Option V, σ' = [some (.ref c), some (.int p), x] ∧ Same H H2) ⟨none, rfl, fun _ _ h => h⟩ (fun i σ' H2 _ ⟨_, _, s2⟩ => sameT s2 hS) ?_ ?_
    · rintro i x σ' H2 H3 hi ⟨x0, rfl, s2⟩ ⟨rfl, hx⟩
      obtain ⟨a, ns, rfl, Pa⟩ := hP x (List.mem_of_getElem? hx)
      have Pb := Pa.same s2
      exact ⟨_, rfl, _, rfl, a, ns, p, rfl, Pb.at_, Pb.len, Pb.rs, Pb.tr, fun H4 s4 => ⟨_, rfl, iteF ⟨_, rfl, s2.trans s4⟩⟩⟩
    · rintro σ' H2 ⟨x, rfl, s2⟩
      exact k _ s2
abbrev s_poly_plus : Stmt := topS 21
theorem sc_poly_plus : FnScope (["one", "other", "prime"] : List Str) ["one", "other", "prime"] (defScope s_poly_plus) := ⟨rfl, rfl, rfl, by decide +kernel, rfl, by decide +kernel, by decide +kernel⟩
theorem ok_poly_plus {f : Addr} {fd : FuncData} {kws : List (Str × V)} (F : FunD K "poly_plus" "poly_plus" (defArgs s_poly_plus) (defBody s_poly_plus) (defScope s_poly_plus) [] kws f fd) (o_refuse_polys : Own P w K mg base (L2.CX P w) 4 "refuse_polys" ["polys", "prime"] [] (spRefPs K)) (o_raw_plus : Own P w K mg base CX0 2 "raw_plus" ["one", "other", "prime"] [] (spPlus K)) : FnOk P w K mg base (L2.CX P w) 5 f fd ["one", "other", "prime"] (spPoly K gPlus) := by
  refine F.ok sc_poly_plus (fun vs H Q E h => ?_) (fun cdv A outer s H vs Q E hr h => ?_)
  · obtain ⟨a, b, xs, ys, p, rfl, _⟩ := h
    rfl
  · obtain ⟨a, b, xs, ys, p, rfl, hp, hA, hB, k⟩ := h
    have l1 := hA.len
    have l2 := hB.len
    refine ⟨_, (pss_cons (ps_expr (pe_own o_refuse_polys (hr.mono (by decide)) rfl (passes_call (takes_of rfl rfl rfl rfl) (fun _ _ _ _ h => h)) (pa_cons (pe_tup (pa_cons (pv 0) (pa_cons (pv 1) pa_nil))) (pa_cons (pv 2) pa_nil))))
      (pss_one (ps_ret (pe_own o_raw_plus (hr.mono (by decide)) rfl pass0 (pa_cons (pv 0) (pa_cons (pv 1) (pa_cons (pv 2) pa_nil))))))) , ?_⟩
    refine ⟨_, rfl, _, rfl, (by show 2 ≤ sizeLine; decide), fun c hc => ⟨_, rfl, c, _, p, rfl, hp, SqT.of upd_same, two_of (hA.same (same_upd hc)) (hB.same (same_upd hc)), fun H1 s1 => ?_⟩⟩
    have s2 := (same_upd hc).trans s1
    exact ⟨_, rfl, _, rfl, _, rfl, a, b, xs, ys, p, rfl, sameT s2 hA.at_, sameT s2 hB.at_, by omega, by omega, hA.rs, hB.rs, pm_of hp, (k.same s2).imp (fun _ => rfl) (by omega)⟩
abbrev s_poly_minus : Stmt := topS 22
theorem sc_poly_minus : FnScope (["one", "other", "prime"] : List Str) ["one", "other", "prime"] (defScope s_poly_minus) := ⟨rfl, rfl, rfl, by decide +kernel, rfl, by decide +kernel, by decide +kernel⟩
theorem ok_poly_minus {f : Addr} {fd : FuncData} {kws : List (Str × V)} (F : FunD K "poly_minus" "poly_minus" (defArgs s_poly_minus) (defBody s_poly_minus) (defScope s_poly_minus) [] kws f fd) (o_refuse_polys : Own P w K mg base (L2.CX P w) 4 "refuse_polys" ["polys", "prime"] [] (spRefPs K)) (o_raw_minus : Own P w K mg base CX0 3 "raw_minus" ["one", "other", "prime"] [] (spMinus K)) : FnOk P w K mg base (L2.CX P w) 5 f fd ["one", "other", "prime"] (spPoly K gMinus) := by
  refine F.ok sc_poly_minus (fun vs H Q E h => ?_) (fun cdv A outer s H vs Q E hr h => ?_)
  · obtain ⟨a, b, xs, ys, p, rfl, _⟩ := h
    rfl
  · obtain ⟨a, b, xs, ys, p, rfl, hp, hA, hB, k⟩ := h
    have l1 := hA.len
    have l2 := hB.len
    refine ⟨_, (pss_cons (ps_expr (pe_own o_refuse_polys (hr.mono (by decide)) rfl (passes_call (takes_of rfl rfl rfl rfl) (fun _ _ _ _ h => h)) (pa_cons (pe_tup (pa_cons (pv 0) (pa_cons (pv 1) pa_nil))) (pa_cons (pv 2) pa_nil))))
      (pss_one (ps_ret (pe_own o_raw_minus (hr.mono (by decide)) rfl pass0 (pa_cons (pv 0) (pa_cons (pv 1) (pa_cons (pv 2) pa_nil))))))) , ?_⟩
    refine ⟨_, rfl, _, rfl, (by show 2 ≤ sizeLine; decide), fun c hc => ⟨_, rfl, c, _, p, rfl, hp, SqT.of upd_same, two_of (hA.same (same_upd hc)) (hB.same (same_upd hc)), fun H1 s1 => ?_⟩⟩
    have s2 := (same_upd hc).trans s1
    exact ⟨_, rfl, _, rfl, _, rfl, a, b, xs, ys, p, rfl, sameT s2 hA.at_, sameT s2 hB.at_, by omega, by omega, hA.rs, hB.rs, pm_of hp, (k.same s2).imp (fun _ => rfl) (by omega)⟩
abbrev s_poly_times : Stmt := topS 23
theorem sc_poly_times : FnScope (["one", "other", "prime"] : List Str) ["one", "other", "prime"] (defScope s_poly_times) := ⟨rfl, rfl, rfl, by decide +kernel, rfl, by decide +kernel, by decide +kernel⟩
theorem ok_poly_times {f : Addr} {fd : FuncData} {kws : List (Str × V)} (F : FunD K "poly_times" "poly_times" (defArgs s_poly_times) (defBody s_poly_times) (defScope s_poly_times) [] kws f fd) (o_refuse_polys : Own P w K mg base (L2.CX P w) 4 "refuse_polys" ["polys", "prime"] [] (spRefPs K)) (o_raw_times : Own P w K mg base CX0 2 "raw_times" ["one", "other", "prime"] [] (spTimes K)) : FnOk P w K mg base (L2.CX P w) 5 f fd ["one", "other", "prime"] (spPoly K gTimes) := by
  refine F.ok sc_poly_times (fun vs H Q E h => ?_) (fun cdv A outer s H vs Q E hr h => ?_)
  · obtain ⟨a, b, xs, ys, p, rfl, _⟩ := h
    rfl
  · obtain ⟨a, b, xs, ys, p, rfl, hp, hA, hB, k⟩ := h
    have l1 := hA.len
    have l2 := hB.len
    refine ⟨_, (pss_cons (ps_expr (pe_own o_refuse_polys (hr.mono (by decide)) rfl (passes_call (takes_of rfl rfl rfl rfl) (fun _ _ _ _ h => h)) (pa_cons (pe_tup (pa_cons (pv 0) (pa_cons (pv 1) pa_nil))) (pa_cons (pv 2) pa_nil))))
      (pss_one (ps_ret (pe_own o_raw_times (hr.mono (by decide)) rfl pass0 (pa_cons (pv 0) (pa_cons (pv 1) (pa_cons (pv 2) pa_nil))))))) , ?_⟩
    refine ⟨_, rfl, _, rfl, (by show 2 ≤ sizeLine; decide), fun c hc => ⟨_, rfl, c, _, p, rfl, hp, SqT.of upd_same, two_of (hA.same (same_upd hc)) (hB.same (same_upd hc)), fun H1 s1 => ?_⟩⟩
    have s2 := (same_upd hc).trans s1
    exact ⟨_, rfl, _, rfl, _, rfl, a, b, xs, ys, p, rfl, sameT s2 hA.at_, sameT s2 hB.at_, by omega, by omega, hA.rs, hB.rs, pm_of hp, (k.same s2).imp (fun _ => rfl) (by omega)⟩
end
end Xk
end
section
set_option Elab.async false
set_option linter.all false
set_option maxRecDepth 100000
set_option maxHeartbeats 4000000
namespace Xk
open PySem PySem.Spec PyProof.Rows L2 Xh LamX
theorem Draw.updL {H : Hp} {d p : Addr} {ms : List Int} (D : Draw H d) (h : p ≠ d) : Draw (L2.upd H p (.lst (ms.map V.int))) d := by
  obtain ⟨c, ns, i, r, g, h1, h2, h3⟩ := D
  by_cases hc : c = p
  · exact ⟨c, ms, i, r, g, by rw [upd_ne (Ne.symm h)]; exact h1, by rw [hc, upd_same], h3⟩
  · exact ⟨c, ns, i, r, g, by rw [upd_ne (Ne.symm h)]; exact h1, by rw [upd_ne hc]; exact h2, h3⟩
theorem But.lcs {H H2 : Hp} {d D : Addr} {o : HO} (hD : H D = none) (b : But d H H2) : But d H (L2.upd H2 D o) := fun c u h e => by
  rw [upd_ne (ne_of_none e hD)]
  exact b c u h e
theorem Rs.nil (p : Int) (h : 0 < p) : Rs p [] := fun j => ⟨Int.le_refl _, h⟩
theorem Rs.add {p x : Int} {ms : List Int} (r : Rs p ms) (h0 : 0 ≤ x) (h1 : x < p) : Rs p (ms ++ [x]) := fun j => by
  rw [List.getD_eq_getElem?_getD, List.getElem?_append]
  split
  · have z := r j
    rw [List.getD_eq_getElem?_getD] at z
    exact z
  · cases e : j - ms.length with
    | zero => exact ⟨h0, h1⟩
    | succ n => exact ⟨Int.le_refl _, show (0 : Int) < p by omega⟩
/-- a new list of rests, drawn -/
def NewL (H : Hp) (d : Addr) (p : Int) (n : Nat) (Q : VK) : Prop := ∀ (ms : List Int) (a : Addr) (H' : Hp), ms.length ≤ n → Rs p ms → Draw H' d → But d H H' → H' a = some (.lst (ms.map V.int)) → a ≠ d → H a = none → Q (.ref a) H'
def spRestsD : Sp := fun vs H Q _ => ∃ (d : Addr) (n : Nat) (p : Int), vs = [.ref d, .int n, .int p] ∧ Draw H d ∧ n ≤ 100 ∧ Pm p ∧ NewL H d p n Q
def spPolyD (K : PySem.W.Frag) : Sp := fun vs H Q _ => ∃ (d : Addr) (n : Nat) (p : Int), vs = [.ref d, .int n, .int p] ∧ Draw H d ∧ n ≤ 25 ∧ Pm p ∧ ∀ (ms : List Int) (a : Addr) (H' : Hp), Draw H' d → But d H H' → Pol K H' a p ms → a ≠ d → H a = none → H' a = some (.tup (ms.map V.int)) → Q (.ref a) H'
theorem natAbs_small {p : Int} (h : Pm p) : p.natAbs < 2 ^ 200 := big (by have := h.lo; have := h.hi; omega)
section
variable {P : Program} {w : World} {K : PySem.W.Frag} {mg : Str → Option Value} {base : Heap}
abbrev s_law_rests : Stmt := topS 32
theorem sc_law_rests : FnScope (["_law_draw", "_law_many", "_law_p", "_law_k"] : List Str) ["_law_draw", "_law_many", "_law_p"] (defScope s_law_rests) := ⟨rfl, rfl, rfl, by decide +kernel, rfl, by decide +kernel, by decide +kernel⟩
theorem ok_law_rests {f : Addr} {fd : FuncData} (F : FunD K "_law_rests" "_law_rests" (defArgs s_law_rests) (defBody s_law_rests) (defScope s_law_rests) [] [] f fd) (T : Fre mg) (o_law_take : Own P w K mg base CX0 1 "_law_take" ["_law_draw", "_law_sides"] [] spTake) : FnOk P w K mg base CX0 2 f fd ["_law_draw", "_law_many", "_law_p"] spRestsD := by
  refine F.ok sc_law_rests (fun vs H Q E h => ?_) (fun cdv A outer s H vs Q E hr h => ?_)
  · obtain ⟨d, n, p, rfl, _⟩ := h
    rfl
  · obtain ⟨d, n, p, rfl, Dr, hn, hp, k⟩ := h
    refine ⟨_, PSs.nox (pss_one (ps_ret (pe_lc (own := [("_law_k", 3)]) rfl sc_law_rests.nd (pi_range1 (by rfl) T.f_range (pa_cons (pv 1) pa_nil)) (blkOk_by (own := [("_law_k", 3)]) (N := ["_law_draw", "_law_many", "_law_p", "_law_k"]) (sc := defScope s_law_rests) (by decide +kernel)) (fun _ _ _ _ _ => pg_name (i := 3) sc_law_rests.nd rfl (Or.inl rfl) (Or.inr rfl)) (fun _ _ _ _ _ => pts_nil) (fun _ _ _ _ _ => (pe_own o_law_take (hr.mono (by decide)) rfl pass0 (pa_cons (pv 0) (pa_cons (pv 2) pa_nil))))))) , ?_⟩
    refine ⟨_, rfl, (n : Int), rfl, by omega, by omega, fun D hD => ?_⟩
    rw [Int.toNat_natCast]
    have hDd : D ≠ d := Dr.ne hD
    refine lc_range (lo := 0) (n := n) (fun i H1 => ∃ ms : List Int, H1 D = some (.lst (ms.map V.int)) ∧ ms.length = i ∧ Rs p ms ∧ Draw H1 d ∧ But d H H1) ⟨[], upd_same, rfl, Rs.nil p hp.pos, Dr.same (same_upd hD), But.updN hD⟩ ?_ ?_
    · rintro i H1 hi ⟨ms, e1, l1, r1, D1, B1⟩
      have lo := hp.lo
      refine ⟨rfl, _, rfl, _, rfl, d, p, rfl, D1, by omega, natAbs_small hp, fun m H2 m0 m1 D2 B2 => ⟨_, B2 _ _ hDd e1, ?_, ms ++ [m], ?_, ?_, r1.add m0 m1, ?_, But.lcs hD (B1.trans B2)⟩⟩
      · rw [List.length_map]
        exact small1000 (by omega)
      · rw [upd_same, List.map_append]
        rfl
      · rw [List.length_append, l1]
        rfl
      · have z := D2.updL (p := D) (ms := ms ++ [m]) hDd
        rw [List.map_append] at z
        exact z
    · rintro H1 ⟨ms, e1, l1, r1, D1, B1⟩
      exact k ms D H1 (by omega) r1 D1 B1 e1 hDd hD
abbrev s_law_poly : Stmt := topS 33
theorem sc_law_poly : FnScope (["_law_draw", "_law_most", "_law_p", "_law_found", "_law_number"] : List Str) ["_law_draw", "_law_most", "_law_p"] (defScope s_law_poly) := ⟨rfl, rfl, rfl, by decide +kernel, rfl, by decide +kernel, by decide +kernel⟩
theorem ok_law_poly {f : Addr} {fd : FuncData} (F : FunD K "_law_poly" "_law_poly" (defArgs s_law_poly) (defBody s_law_poly) (defScope s_law_poly) [] [] f fd) (T : Fre mg) (o_law_take : Own P w K mg base CX0 1 "_law_take" ["_law_draw", "_law_sides"] [] spTake) (o_law_rests : Own P w K mg base CX0 2 "_law_rests" ["_law_draw", "_law_many", "_law_p"] [] spRestsD) (o_law_trim : Own P w K mg base CX0 1 "_law_trim" ["_law_numbers"] [] (spTrim K)) : FnOk P w K mg base CX0 3 f fd ["_law_draw", "_law_most", "_law_p"] (spPolyD K) := by
  refine F.ok sc_law_poly (fun vs H Q E h => ?_) (fun cdv A outer s H vs Q E hr h => ?_)
  · obtain ⟨d, n, p, rfl, _⟩ := h
    rfl
  · obtain ⟨d, n, p, rfl, Dr, hn, hp, k⟩ := h
    have lo := hp.lo
    have hi := hp.hi
    refine ⟨_, PSs.nox (pss_cons (ps_set (i := 3) sc_law_poly.nd rfl (Or.inl rfl) (pe_own o_law_rests (hr.mono (by decide)) rfl pass0 (pa_cons (pv 0) (pa_cons (pe_own o_law_take (hr.mono (by decide)) rfl pass0 (pa_cons (pv 0) (pa_cons (pe_op op_add (pv 1) pe_int) pa_nil))) (pa_cons (pv 2) pa_nil)))))
      (C8.pss_cut (ps_if (pt_cmpR op_eq (pe_own o_law_take (hr.mono (by decide)) rfl pass0 (pa_cons (pv 0) (pa_cons pe_int pa_nil))) pe_int (nomark _)) (pss_one (ps_setLc (i := 3) (own := [("_law_number", 4)]) rfl sc_law_poly.nd rfl rfl (sw_true rfl rfl rfl (by decide +kernel)) (pi_list (pv 3)) (blkOk_by (own := [("_law_number", 4)]) (N := ["_law_draw", "_law_most", "_law_p", "_law_found", "_law_number"]) (sc := defScope s_law_poly) (by decide +kernel)) (fun _ _ _ _ _ => pg_name (i := 4) sc_law_poly.nd rfl (Or.inl rfl) (Or.inr rfl)) (fun _ _ _ _ _ => pts_nil) (fun _ _ _ _ _ => (pe_op op_mul (pv 4) (pe_callTy call_int1 (by rfl) T.f_int (by decide +kernel) (pa_cons (pe_cmpR op_eq (pe_own o_law_take (hr.mono (by decide)) rfl pass0 (pa_cons (pv 0) (pa_cons pe_int pa_nil))) pe_int (nomark _)) pa_nil)))))) pss_nil)
      (pss_one (ps_ret (pe_own o_law_trim (hr.mono (by decide)) rfl pass0 (pa_cons (pv 3) pa_nil)))))) , ?_⟩
    refine ⟨_, rfl, _, rfl, _, rfl, _, _, rfl, rfl, d, (n : Int) + 1, rfl, Dr, by omega, big (by omega), fun m H1 m0 m1 D1 B1 => ?_⟩
    obtain ⟨j, rfl⟩ := Int.eq_ofNat_of_zero_le m0
    refine ⟨_, rfl, d, j, p, rfl, D1, by omega, hp, fun ms b H2 lm rm D2 B2 e2 hbd nb => ?_⟩
    refine ⟨fun σ' H' => ∃ (ms : List Int) (b : Addr), σ' = [some (.ref d), some (.int n), some (.int p), some (.ref b), none] ∧ ms.length ≤ 25 ∧ Rs p ms ∧ Draw H' d ∧ But d H H' ∧ H' b = some (.lst (ms.map V.int)) ∧ b ≠ d ∧ H b = none, ?_, ?_⟩
    · refine ⟨_, rfl, d, 4, rfl, D2, by decide, by decide, fun m2 H3 _ _ D3 B3 => ?_⟩
      have e3 := B3 _ _ hbd e2
      have nb0 : H b = none := B1.free nb hbd
      refine ⟨rfl, _, rfl, ite2 (fun hc => ?_) (fun hc => ?_)⟩
      · refine ⟨_, rfl, b, rfl, ⟨_, SqL.of e3⟩, fun D hD => ?_⟩
        have hDd : D ≠ d := D3.ne hD
        have B0 : But d H H3 := (B1.trans B2).trans B3
        refine lc_it (walk_list (xs := ms.map V.int)) (fun i H4 => ∃ ws : List Int, H4 D = some (.lst (ws.map V.int)) ∧ ws.length = i ∧ Rs p ws ∧ Draw H4 d ∧ But d H3 H4) ⟨[], upd_same, rfl, Rs.nil p hp.pos, D3.same (same_upd hD), But.updN hD⟩ (fun i H4 _ ⟨_, _, _, _, _, B4⟩ => SqL.of (B4 _ _ hbd e3)) ?_ ?_
        · rintro i x H4 H5 hi2 ⟨ws, e4, l4, r4, D4, B4⟩ ⟨rfl, hx⟩
          rw [List.length_map] at hi2
          have e5 := (map_at ms i hi2).symm.trans hx
          cases e5
          obtain ⟨x0, x1⟩ := rm i
          refine ⟨rfl, _, rfl, _, rfl, d, 3, rfl, D4, by decide, by decide, fun m3 H6 _ _ D6 B6 => ⟨rfl, .inr ⟨_, rfl, _, _, rfl, rfl, ?_, _, B6 _ _ hDd e4, ?_, ws ++ [ms.getD i 0 * (if decide (V.int m3 = V.int 0) = true then 1 else 0)], ?_, ?_, r4.add ?_ ?_, ?_, But.lcs hD (B4.trans B6)⟩⟩⟩
          · exact .inl ⟨by omega, by omega⟩
          · rw [List.length_map]
            exact small1000 (by omega)
          · rw [upd_same, List.map_append]
            rfl
          · rw [List.length_append, l4]
            rfl
          · split <;> omega
          · split <;> omega
          · have z := D6.updL (p := D) (ms := ws ++ [ms.getD i 0 * (if decide (V.int m3 = V.int 0) = true then 1 else 0)]) hDd
            rw [List.map_append] at z
            exact z
        · rintro H4 ⟨ws, e4, l4, r4, D4, B4⟩
          rw [List.length_map] at l4
          exact ⟨ws, D, rfl, by omega, r4, D4, B0.trans B4, e4, hDd, B0.free hD hDd⟩
      · exact ⟨ms, b, rfl, by omega, rm, D3, (B1.trans B2).trans B3, e3, hbd, nb0⟩
    · rintro σ' H3 ⟨ms, b, rfl, lm, rm, D3, B3, e3, hbd, nb⟩
      refine ⟨_, rfl, b, ms, rfl, SqL.of e3, by omega, fun t H4 s4 ht e4 => ?_⟩
      exact k (trim ms) t H4 (D3.same s4) (B3.trans (But.same s4)) ⟨.inl (.inl e4), Nat.le_trans (trim_length _) lm, fun j => by rw [trim_getD]; exact rm j, trim_trim _⟩ (D3.ne ht) (B3.free ht (D3.ne ht)) e4
end
end Xk
end
section
set_option Elab.async false
set_option linter.all false
set_option maxRecDepth 100000
set_option maxHeartbeats 4000000
namespace Xk
open PySem PySem.Spec PyProof.Rows L2 Xh LamX
def spBlend (K : PySem.W.Frag) : Sp := fun vs H Q _ => ∃ (a b : Addr) (xs ys : List Int) (w p : Int), vs = [.ref a, .ref b, .int w, .int p] ∧ SqT K H a (xs.map V.int) ∧ SqT K H b (ys.map V.int) ∧ xs.length ≤ 100 ∧ ys.length ≤ 100 ∧ 0 ≤ w ∧ w ≤ 1000 ∧ Pm p ∧
  NewP H (fun j => (xs.getD j 0 + w * ys.getD j 0).fmod p) (max xs.length ys.length) Q
def pad (n : Nat) (xs : List Int) : List Int := xs ++ List.replicate (n - xs.length) 0
theorem pad_len {n : Nat} {xs : List Int} (h : xs.length ≤ n) : (pad n xs).length = n := by
  unfold pad
  rw [List.length_append, List.length_replicate]
  omega
theorem pad_getD (n : Nat) (xs : List Int) (j : Nat) : (pad n xs).getD j 0 = xs.getD j 0 := by
  unfold pad
  rw [List.getD_eq_getElem?_getD, List.getElem?_append]
  split
  · rw [List.getD_eq_getElem?_getD]
  · rename_i h
    rw [getD_over (by omega), ← List.getD_eq_getElem?_getD, getD_rep]
theorem getD_app (a : List Int) (x : Int) (j : Nat) : (a ++ [x]).getD j 0 = if j < a.length then a.getD j 0 else if j = a.length then x else 0 := by
  rw [List.getD_eq_getElem?_getD, List.getElem?_append]
  split
  · rw [List.getD_eq_getElem?_getD]
  · rename_i h
    by_cases e : j = a.length
    · rw [if_pos e, e, Nat.sub_self]
      rfl
    · rw [if_neg e]
      cases e2 : j - a.length with
      | zero => omega
      | succ n => rfl
section
variable {P : Program} {w : World} {K : PySem.W.Frag} {mg : Str → Option Value} {base : Heap}
abbrev s_law_blend : Stmt := topS 34
theorem sc_law_blend : FnScope (["_law_one", "_law_other", "_law_weight", "_law_p", "_law_many", "_law_wide", "_law_row", "_law_a", "_law_b"] : List Str) ["_law_one", "_law_other", "_law_weight", "_law_p"] (defScope s_law_blend) := ⟨rfl, rfl, rfl, by decide +kernel, rfl, by decide +kernel, by decide +kernel⟩
theorem ok_law_blend {f : Addr} {fd : FuncData} (F : FunD K "_law_blend" "_law_blend" (defArgs s_law_blend) (defBody s_law_blend) (defScope s_law_blend) [] [] f fd) (T : Fre mg) (o_law_trim : Own P w K mg base CX0 1 "_law_trim" ["_law_numbers"] [] (spTrim K)) : FnOk P w K mg base CX0 2 f fd ["_law_one", "_law_other", "_law_weight", "_law_p"] (spBlend K) := by
  refine F.ok sc_law_blend (fun vs H Q E h => ?_) (fun cdv A outer s H vs Q E hr h => ?_)
  · obtain ⟨a, b, xs, ys, w, p, rfl, _⟩ := h
    rfl
  · obtain ⟨a, b, xs, ys, w, p, rfl, hA, hB, la, lb, w0, w1, hp, k⟩ := h
    have nz : p ≠ 0 := by have := hp.lo; omega
    refine ⟨_, PSs.nox (pss_cons (ps_set (i := 4) sc_law_blend.nd rfl (Or.inr rfl) (pe_callB (call_max2 rfl) (by rfl) T.f_max (by decide +kernel) (pa_cons (pe_callB call_len_seq (by rfl) T.f_len PySem.boot_len (pa_cons (pv 0) pa_nil)) (pa_cons (pe_callB call_len_seq (by rfl) T.f_len PySem.boot_len (pa_cons (pv 1) pa_nil)) pa_nil))))
      (pss_cons (ps_setLc (i := 5) (own := [("_law_row", 6)]) (te := tOp rCat (tCB (fun xs H Q => ∃ p ys, xs = [V.ref p] ∧ (SqL K H p ys ∨ SqT K H p ys) ∧ ∀ l, H l = none → Q (V.ref l) (L2.upd H l (.lst ys))) (tCons (tVar 6) tNil)) (tOp rRep (tLst (tCons (tC (V.int 0)) tNil)) (tOp (rI0 fun i j => V.int (i - j)) (tVar 4) (tCB (fun xs H Q => ∃ p ys, xs = [V.ref p] ∧ (SqL K H p ys ∨ SqT K H p ys) ∧ Q (V.int ys.length) H) (tCons (tVar 6) tNil))))) rfl sc_law_blend.nd rfl rfl (sw_true rfl rfl rfl (by decide +kernel)) (pi_tup (pe_tup (pa_cons (pv 0) (pa_cons (pv 1) pa_nil)))) (blkOk_by (own := [("_law_row", 6)]) (N := ["_law_one", "_law_other", "_law_weight", "_law_p", "_law_many", "_law_wide", "_law_row", "_law_a", "_law_b"]) (sc := defScope s_law_blend) (by decide +kernel)) (fun _ _ _ _ _ => pg_name (i := 6) sc_law_blend.nd rfl (Or.inl rfl) (Or.inr rfl)) (fun _ _ _ _ _ => pts_nil) (fun _ _ _ _ _ => (pe_op op_cat (pe_callTy call_list_of (by rfl) T.f_list (by decide +kernel) (pa_cons (pv 6) pa_nil)) (pe_op op_rep (pe_lst (pa_cons pe_int pa_nil)) (pe_op op_sub (pv 4) (pe_callB call_len_seq (by rfl) T.f_len PySem.boot_len (pa_cons (pv 6) pa_nil)))))))
      (pss_one (ps_ret (pe_own o_law_trim (hr.mono (by decide)) rfl pass0 (pa_cons (pe_lc (own := [("_law_a", 7), ("_law_b", 8)]) (g := (gTup K 2 (gCons (gName 7) (gCons (gName 8) gNil)))) rfl sc_law_blend.nd (pi_zip (by rfl) T.f_zip (pa_cons (pe_ix ix_list (pv 5) pe_int (fun _ _ => rfl)) (pa_cons (pe_ix ix_list (pv 5) pe_int (fun _ _ => rfl)) pa_nil))) (blkOk_by (own := [("_law_a", 7), ("_law_b", 8)]) (N := ["_law_one", "_law_other", "_law_weight", "_law_p", "_law_many", "_law_wide", "_law_row", "_law_a", "_law_b"]) (sc := defScope s_law_blend) (by decide +kernel)) (fun _ _ _ _ _ => pg_tup rfl (pgs_cons (pg_name (i := 7) sc_law_blend.nd rfl (Or.inl rfl) (Or.inr rfl)) (pgs_cons (pg_name (i := 8) sc_law_blend.nd rfl (Or.inl rfl) (Or.inr rfl)) pgs_nil))) (fun _ _ _ _ _ => pts_nil) (fun _ _ _ _ _ => (pe_op op_modN (pe_op op_add (pv 7) (pe_op op_mul (pv 2) (pv 8))) (pv 3)))) pa_nil)))))) , ?_⟩
    refine ⟨_, rfl, _, _, rfl, .inr hA, _, rfl, _, _, rfl, .inr hB, _, _, rfl, ?_⟩
    rw [List.length_map, List.length_map, show (if (ys.length : Int) > (xs.length : Int) then (ys.length : Int) else (xs.length : Int)) = ((max xs.length ys.length : Nat) : Int) from by split <;> omega]
    generalize hN : max xs.length ys.length = N at k
    refine ⟨_, rfl, _, rfl, (by show 2 ≤ sizeLine; decide), fun t ht => ⟨t, rfl, ⟨_, SqT.of upd_same⟩, fun D hD => ?_⟩⟩
    have st := same_upd (o := .tup [V.ref a, V.ref b]) ht
    have D0 : H D = none := st.free hD
    have et : ∀ H2, Same (L2.upd H t (.tup [V.ref a, V.ref b])) H2 → SqT K H2 t [V.ref a, V.ref b] := fun H2 s2 => SqT.of (s2 _ _ upd_same)
    refine lc_it (walk_tup (xs := [V.ref a, V.ref b])) (fun i H1 => Same (L2.upd H t (.tup [V.ref a, V.ref b])) H1 ∧ ∃ ls : List Addr, H1 D = some (.lst (ls.map V.ref)) ∧ ls.length = i ∧ ∀ j l, ls[j]? = some l → l ≠ D ∧ H1 l = some (.lst ((pad N (if j = 0 then xs else ys)).map V.int))) ⟨same_upd hD, [], upd_same, rfl, fun j l z => by cases z⟩ (fun i H1 _ h => et _ h.1) ?_ ?_
    · rintro i x H1 H2 hi ⟨s1, ls, e1, l1, hl⟩ ⟨rfl, hx⟩
      obtain ⟨c, rfl, hC⟩ : ∃ c, x = .ref c ∧ SqT K H2 c ((if i = 0 then xs else ys).map V.int) := by
        match i, hi, hx with
        | 0, _, hx => cases hx; exact ⟨a, rfl, sameT (st.trans s1) hA⟩
        | 1, _, hx => cases hx; exact ⟨b, rfl, sameT (st.trans s1) hB⟩
      have lz : (if i = 0 then xs else ys).length ≤ N := by split <;> omega
      have lN : N ≤ 100 := by omega
      generalize hz : (if i = 0 then xs else ys) = zs at hC lz
      refine ⟨rfl, _, rfl, c, _, rfl, .inr hC, fun l hl0 => ⟨(by show 1 ≤ sizeLine; decide), fun l2 hl2 => ?_⟩⟩
      have sa := same_upd (o := .lst (zs.map V.int)) hl0
      have sb := sa.trans (same_upd (o := .lst [.int 0]) hl2)
      refine ⟨_, rfl, _, rfl, c, _, rfl, .inr (sameT sb hC), _, _, rfl, rfl, l2, _, _, rfl, rfl, upd_same, ?_, ?_, ?_, fun l3 hl3 => ?_⟩
      · rw [List.length_map]; omega
      · rw [List.length_map]; omega
      · rw [List.length_map]
        exact Nat.le_trans (show 1 * ((N : Int) - (zs.length : Int)).toNat ≤ 1000 by omega) (Nat.le_of_lt (small1000 (Nat.le_refl _)))
      rw [List.length_map, show ((N : Int) - (zs.length : Int)).toNat = N - zs.length by omega, rep_zero] at *
      have sc := sb.trans (same_upd (o := .lst ((List.replicate (N - zs.length) (0 : Int)).map V.int)) hl3)
      refine ⟨l, l3, zs.map V.int, _, rfl, rfl, ?_, upd_same, ?_, fun l4 hl4 => ?_⟩
      · rw [upd_ne (ne_of_none (by rw [upd_ne (ne_of_none upd_same hl2), upd_same]) hl3), upd_ne (ne_of_none upd_same hl2), upd_same]
      · rw [List.length_map, List.length_map, List.length_replicate]
        exact Nat.le_of_lt (small1000 (by omega))
      · rw [← List.map_append, show zs ++ List.replicate (N - zs.length) 0 = pad N zs from rfl]
        have sd := sc.trans (same_upd (o := .lst ((pad N zs).map V.int)) hl4)
        have n4 : l4 ≠ D := (ne_of_none (sc _ _ e1) hl4).symm
        refine ⟨_, sd _ _ e1, by rw [List.length_map]; exact small1000 (by rw [l1]; exact Nat.le_of_lt (Nat.lt_trans hi (by show 2 < 1000; decide))), lcs hD (s1.trans sd), ls ++ [l4], by rw [upd_same, List.map_append]; rfl, by rw [List.length_append, l1]; rfl, fun j u hu => ?_⟩
        rw [List.getElem?_append] at hu
        split at hu
        · obtain ⟨n1, e5⟩ := hl j u hu
          exact ⟨n1, by rw [upd_ne n1]; exact sd _ _ e5⟩
        · rename_i hj
          cases ej : j - ls.length with
          | succ n => rw [ej] at hu; cases hu
          | zero =>
            rw [ej] at hu
            cases hu
            have ji : j = i := by omega
            exact ⟨n4, by rw [upd_ne n4, upd_same, ji, hz]⟩
    · rintro H1 ⟨s1, ls, e1, l1, hl⟩
      obtain ⟨u, v, rfl⟩ : ∃ u v, ls = [u, v] := by
        match ls, l1 with
        | [u, v], _ => exact ⟨u, v, rfl⟩
      obtain ⟨nu, eu⟩ := hl 0 u rfl
      obtain ⟨nv, ev⟩ := hl 1 v rfl
      rw [if_pos rfl] at eu
      rw [if_neg (by decide)] at ev
      have lN : N ≤ 100 := by omega
      have px : (pad N xs).length = N := pad_len (by omega)
      have py : (pad N ys).length = N := pad_len (by omega)
      refine ⟨_, rfl, D, _, 0, .ref u, rfl, rfl, SqL.of e1, rfl, _, rfl, D, _, 1, .ref v, rfl, rfl, SqL.of e1, rfl, u, v, _, _, rfl, SqL.of eu, SqL.of ev, fun G hG => ?_⟩
      refine lc_it (walk_zip (n := N) (xs := (pad N xs).map V.int) (ys := (pad N ys).map V.int) (by rw [List.length_map, List.length_map]; omega)) (fun i H3 => Same H1 H3 ∧ ∃ ms : List Int, H3 G = some (.lst (ms.map V.int)) ∧ ms.length = i ∧ ∀ j, j < i → ms.getD j 0 = (xs.getD j 0 + w * ys.getD j 0).fmod p)
        ⟨same_upd hG, [], upd_same, rfl, fun j hj => absurd hj (Nat.not_lt_zero j)⟩ (fun i H3 _ h => ⟨SqL.of (h.1 _ _ eu), SqL.of (h.1 _ _ ev)⟩) ?_ ?_
      · rintro i x H3 H4 hi ⟨s3, ms, e3, l3, c3⟩ ⟨T, x1, y1, rfl, hT, rfl, g1, g2⟩
        have h1 := (map_at (pad N xs) i (by omega)).symm.trans g1
        have h2 := (map_at (pad N ys) i (by omega)).symm.trans g2
        cases h1
        cases h2
        have s4 := s3.trans (same_upd (o := .tup [.int ((pad N xs).getD i 0), .int ((pad N ys).getD i 0)]) hT)
        refine ⟨T, _, rfl, .inl (.inl upd_same), rfl, _, _, rfl, _, _, rfl, rfl, rfl, _, rfl, _, rfl, _, rfl, _, _, rfl, rfl, .inl ⟨by omega, by omega⟩, _, _, rfl, rfl, _, rfl, _, _, rfl, rfl, nz, _, by rw [upd_ne (ne_of_none e3 hT)]; exact e3, ?_, lcs hG s4, ms ++ [((pad N xs).getD i 0 + w * (pad N ys).getD i 0).fmod p], ?_, ?_, fun j hj => ?_⟩
        · rw [List.length_map]
          exact small1000 (by omega)
        · rw [upd_same, List.map_append]
          rfl
        · rw [List.length_append, l3]
          rfl
        · rw [getD_app, l3]
          by_cases hj2 : j < i
          · rw [if_pos hj2]
            exact c3 j hj2
          · rw [if_neg hj2, show j = i by omega, if_pos rfl, pad_getD, pad_getD]
      · rintro H3 ⟨s3, ms, e3, l3, c3⟩
        refine ⟨G, ms, rfl, SqL.of e3, by omega, (k _ (is_trim (fun j => ?_) (by omega))).same ((st.trans s1).trans s3)⟩
        by_cases hj : j < N
        · exact c3 j hj
        · rw [getD_over (by omega), getD_over (show xs.length ≤ j by omega), getD_over (show ys.length ≤ j by omega), Int.mul_zero, Int.add_zero, Int.zero_fmod]
end
end Xk
end
section
set_option Elab.async false
set_option linter.all false
set_option maxRecDepth 100000
set_option maxHeartbeats 4000000
namespace Xk
open PySem PySem.Spec PyProof.Rows L2 Xh LamX
def spConv (K : PySem.W.Frag) : Sp := fun vs H Q _ => ∃ (a b : Addr) (xs ys : List Int) (p : Int), vs = [.ref a, .ref b, .int p] ∧ SqT K H a (xs.map V.int) ∧ SqT K H b (ys.map V.int) ∧ xs.length ≤ 50 ∧ ys.length ≤ 50 ∧ Rs p xs ∧ Rs p ys ∧ Pm p ∧
  ∀ (ms : List Int) (q : Addr) (H' : Hp), Same H H' → H q = none → ms.length ≤ 100 → (∀ j, ms.getD j 0 = gTimes p xs ys j) → H' q = some (.lst (ms.map V.int)) → Q (.ref q) H'
def spMul (K : PySem.W.Frag) : Sp := fun vs H Q _ => ∃ (a b : Addr) (xs ys : List Int) (p : Int), vs = [.ref a, .ref b, .int p] ∧ SqT K H a (xs.map V.int) ∧ SqT K H b (ys.map V.int) ∧ xs.length ≤ 50 ∧ ys.length ≤ 50 ∧ Rs p xs ∧ Rs p ys ∧ Pm p ∧ NewP H (gTimes p xs ys) 100 Q
section
variable {P : Program} {w : World} {K : PySem.W.Frag} {mg : Str → Option Value} {base : Heap}
abbrev s_law_conv : Stmt := topS 35
theorem sc_law_conv : FnScope (["_law_one", "_law_other", "_law_p", "_law_found", "_law_at", "_law_a", "_law_place", "_law_b"] : List Str) ["_law_one", "_law_other", "_law_p"] (defScope s_law_conv) := ⟨rfl, rfl, rfl, by decide +kernel, rfl, by decide +kernel, by decide +kernel⟩
theorem ok_law_conv {f : Addr} {fd : FuncData} (F : FunD K "_law_conv" "_law_conv" (defArgs s_law_conv) (defBody s_law_conv) (defScope s_law_conv) [] [] f fd) (T : Fre mg) : FnOk P w K mg base CX0 1 f fd ["_law_one", "_law_other", "_law_p"] (spConv K) := by
  refine F.ok sc_law_conv (fun vs H Q E h => ?_) (fun cdv A outer s H vs Q E hr h => ?_)
  · obtain ⟨a, b, xs, ys, p, rfl, _⟩ := h
    rfl
  · obtain ⟨a, b, xs, ys, p, rfl, hA, hB, la, lb, rA, rB, hp, k⟩ := h
    have nz : p ≠ 0 := by have := hp.lo; omega
    have hi1000 := hp.hi
    refine ⟨_, PSs.nox (pss_cons (ps_set (i := 3) sc_law_conv.nd rfl (Or.inl rfl) (pe_op op_rep (pe_lst (pa_cons pe_int pa_nil)) (pe_op op_add (pe_callB call_len_seq (by rfl) T.f_len PySem.boot_len (pa_cons (pv 0) pa_nil)) (pe_callB call_len_seq (by rfl) T.f_len PySem.boot_len (pa_cons (pv 1) pa_nil)))))
      (pss_cons (ps_for PassesOwn.never rfl (pi_enT (by rfl) T.f_enumerate (pa_cons (pv 0) pa_nil)) (pg_tup rfl (pgs_cons (pg_name (i := 4) sc_law_conv.nd rfl (Or.inl rfl)) (pgs_cons (pg_name (i := 5) sc_law_conv.nd rfl (Or.inl rfl)) pgs_nil))) (pss_one (ps_for PassesOwn.never rfl (pi_enT (by rfl) T.f_enumerate (pa_cons (pv 1) pa_nil)) (pg_tup rfl (pgs_cons (pg_name (i := 6) sc_law_conv.nd rfl (Or.inl rfl)) (pgs_cons (pg_name (i := 7) sc_law_conv.nd rfl (Or.inl rfl)) pgs_nil))) (pss_one (ps_asg (pe_op op_modN (pe_op op_add (pe_ix ix_list (pv 3) (pe_op op_add (pv 4) (pv 6)) (fun _ _ => rfl)) (pe_op op_mul (pv 5) (pv 7))) (pv 2)) (pg_sub (pv 3) (pe_op op_add (pv 4) (pv 6)) set_list))))))
      (pss_one (ps_ret (pv 3))))) , ?_⟩
    refine ⟨(by show 1 ≤ sizeLine; decide), fun l hl => ?_⟩
    have s0 := same_upd (o := .lst [.int 0]) hl
    refine ⟨_, rfl, _, _, rfl, .inr (sameT s0 hA), _, rfl, _, _, rfl, .inr (sameT s0 hB), _, _, rfl, rfl, l, _, _, rfl, rfl, upd_same, ?_, ?_, ?_, fun q hq => ?_⟩
    · rw [List.length_map, List.length_map]; omega
    · rw [List.length_map, List.length_map]; omega
    · rw [List.length_map, List.length_map]
      exact Nat.le_trans (show 1 * ((xs.length : Int) + (ys.length : Int)).toNat ≤ 1000 by omega) (Nat.le_of_lt (small1000 (Nat.le_refl _)))
    have q0 : H q = none := s0.free hq
    rw [List.length_map, List.length_map, show ((xs.length : Int) + (ys.length : Int)).toNat = xs.length + ys.length by omega, rep_zero]
    refine ⟨_, rfl, a, _, rfl, sameT (s0.trans (same_upd hq)) hA, ?_⟩
    refine for_it (walk_enT (xs := xs.map V.int)) (fun i σ' H2 => ∃ (ms : List Int) (x y u v : Option V), σ' = [some (.ref a), some (.ref b), some (.int p), some (.ref q), x, y, u, v] ∧ Same H H2 ∧ H2 q = some (.lst (ms.map V.int)) ∧ ms.length = xs.length + ys.length ∧ ∀ j, ms.getD j 0 = (Ou xs ys i j).fmod p)
      ⟨List.replicate (xs.length + ys.length) 0, none, none, none, none, rfl, s0.trans (same_upd hq), upd_same, List.length_replicate, fun j => by rw [getD_rep]; exact (Int.zero_fmod p).symm⟩ (fun i σ' H2 _ ⟨_, _, _, _, _, _, s2, _⟩ => sameT s2 hA) ?_ ?_
    · rintro i x σ' H2 H3 hi ⟨ms, x0, y0, u0, v0, rfl, s2, eq, lms, cf⟩ ⟨T, u, v, rfl, hT, rfl, e1, e2⟩
      cases e1
      rw [List.length_map] at hi
      have e3 := (map_at xs i hi).symm.trans e2
      cases e3
      have sT := s2.trans (same_upd (o := .tup [.int (i : Nat), .int (xs.getD i 0)]) hT)
      refine ⟨T, _, rfl, .inl (.inl upd_same), rfl, _, _, rfl, _, _, rfl, rfl, ?_⟩
      refine ⟨_, rfl, b, _, rfl, sameT sT hB, ?_⟩
      refine for_it (walk_enT (xs := ys.map V.int)) (fun j σ' H2 => ∃ (ms : List Int) (u v : Option V), σ' = [some (.ref a), some (.ref b), some (.int p), some (.ref q), some (.int (i : Nat)), some (.int (xs.getD i 0)), u, v] ∧ Same H H2 ∧ H2 q = some (.lst (ms.map V.int)) ∧ ms.length = xs.length + ys.length ∧ ∀ k, ms.getD k 0 = (In (Ou xs ys i) i (xs.getD i 0) ys j k).fmod p)
        ⟨ms, u0, v0, rfl, sT, by rw [upd_ne (ne_of_none eq hT)]; exact eq, lms, cf⟩ (fun j σ' H2 _ ⟨_, _, _, _, s2, _⟩ => sameT s2 hB) ?_ ?_
      · rintro j x' σ' H4 H5 hj ⟨ms, u0, v0, rfl, s2, eq, lms, cf⟩ ⟨T, u, v, rfl, hT, rfl, e1, e2⟩
        cases e1
        rw [List.length_map] at hj
        have e3 := (map_at ys j hj).symm.trans e2
        cases e3
        have eq2 : L2.upd H4 T (.tup [.int (j : Nat), .int (ys.getD j 0)]) q = some (.lst (ms.map V.int)) := by rw [upd_ne (ne_of_none eq hT)]; exact eq
        obtain ⟨x0, x1⟩ := rA i
        have ho : atI (ms.map V.int) ((i : Int) + (j : Int)) = some (.int (ms.getD (i + j) 0)) := by
          rw [← Int.natCast_add]
          exact atI_nat (map_at ms (i + j) (by omega))
        have hx : ixN (ms.map V.int).length ((i : Int) + (j : Int)) = some (i + j) := by
          rw [← Int.natCast_add]
          exact ixN_nat (by rw [List.length_map]; omega)
        refine ⟨T, _, rfl, .inl (.inl upd_same), rfl, _, _, rfl, _, _, rfl, rfl, ?_⟩
        refine ⟨_, rfl, _, rfl, _, rfl, _, _, rfl, rfl, q, _, _, _, rfl, rfl, SqL.of eq2, ho, _, rfl, _, rfl, _, _, rfl, rfl, .inl ⟨by omega, by omega⟩, _, _, rfl, rfl, _, rfl, _, _, rfl, rfl, nz, _, rfl, _, rfl, _, rfl, _, _, rfl, rfl, q, _, _, _, rfl, rfl, eq2, hx, ?_⟩
        refine ⟨ms.set (i + j) ((ms.getD (i + j) 0 + xs.getD i 0 * ys.getD j 0).fmod p), _, _, rfl, lcs q0 (s2.trans (same_upd hT)), ?_, by rw [List.length_set]; exact lms, fun k => ?_⟩
        · rw [upd_same, List.map_set]
        · rw [getD_set (by omega)]
          unfold In
          by_cases hk : k = i + j
          · rw [if_pos hk, if_pos hk, cf, hk, fm_add2 hp.pos]
          · rw [if_neg hk, if_neg hk, cf]
      · rintro σ' H4 ⟨ms, u0, v0, rfl, s2, eq, lms, cf⟩
        rw [List.length_map] at cf
        exact ⟨ms, _, _, _, _, rfl, s2, eq, lms, cf⟩
    · rintro σ' H2 ⟨ms, x0, y0, u0, v0, rfl, s2, eq, lms, cf⟩
      rw [List.length_map] at cf
      exact ⟨_, rfl, k ms q H2 s2 q0 (by omega) cf eq⟩
abbrev s_law_mul : Stmt := topS 36
theorem sc_law_mul : FnScope (["_law_one", "_law_other", "_law_p"] : List Str) ["_law_one", "_law_other", "_law_p"] (defScope s_law_mul) := ⟨rfl, rfl, rfl, by decide +kernel, rfl, by decide +kernel, by decide +kernel⟩
theorem ok_law_mul {f : Addr} {fd : FuncData} (F : FunD K "_law_mul" "_law_mul" (defArgs s_law_mul) (defBody s_law_mul) (defScope s_law_mul) [] [] f fd) (o_law_conv : Own P w K mg base CX0 1 "_law_conv" ["_law_one", "_law_other", "_law_p"] [] (spConv K)) (o_law_trim : Own P w K mg base CX0 1 "_law_trim" ["_law_numbers"] [] (spTrim K)) : FnOk P w K mg base CX0 2 f fd ["_law_one", "_law_other", "_law_p"] (spMul K) := by
  refine F.ok sc_law_mul (fun vs H Q E h => ?_) (fun cdv A outer s H vs Q E hr h => ?_)
  · obtain ⟨a, b, xs, ys, p, rfl, _⟩ := h
    rfl
  · obtain ⟨a, b, xs, ys, p, rfl, hA, hB, la, lb, rA, rB, hp, k⟩ := h
    refine ⟨_, PSs.nox (pss_one (ps_ret (pe_own o_law_trim (hr.mono (by decide)) rfl pass0 (pa_cons (pe_own o_law_conv (hr.mono (by decide)) rfl pass0 (pa_cons (pv 0) (pa_cons (pv 1) (pa_cons (pv 2) pa_nil)))) pa_nil)))) , ?_⟩
    exact ⟨_, rfl, _, rfl, _, rfl, a, b, xs, ys, p, rfl, hA, hB, la, lb, rA, rB, hp, fun ms q H' s1 hq lm cf e1 => ⟨q, ms, rfl, SqL.of e1, by omega, (k _ (is_trim cf lm)).same s1⟩⟩
end
end Xk
end
section
set_option Elab.async false
set_option linter.all false
set_option maxRecDepth 100000
set_option maxHeartbeats 4000000
namespace Xk
open PySem PySem.Spec PyProof.Rows L2 Xh LamX
/-- the world of the law: the draws at d -/
def spLaw (K : PySem.W.Frag) : Sp := fun vs H Q _ => ∃ (a : Addr) (ns : List Int), vs = [.ref a] ∧ SqL K H a (ns.map V.int) ∧ ∀ H', Q (.bl true) H'

theorem sqT_but {K : PySem.W.Frag} {d a : Addr} {H H' : Hp} {xs : List V} (b : But d H H') (h : a ≠ d) (x : SqT K H a xs) : SqT K H' a xs := by
  rcases x with (x | ⟨o, x⟩) | x
  · exact .inl (.inl (b _ _ h x))
  · exact .inl (.inr ⟨o, b _ _ h x⟩)
  · exact .inr x
theorem Pol.but {K : PySem.W.Frag} {d a : Addr} {H H' : Hp} {p : Int} {ns : List Int} (x : Pol K H a p ns) (b : But d H H') (h : a ≠ d) : Pol K H' a p ns := ⟨sqT_but b h x.at_, x.len, x.rs, x.tr⟩
theorem Is.pol {K : PySem.W.Frag} {H : Hp} {q : Addr} {p : Int} {f : Nat → Int} {n : Nat} {ms : List Int} (x : Is (fun j => (f j).fmod p) n ms) (hp : Pm p) (hn : n ≤ 25) (e : H q = some (.tup (ms.map V.int))) : Pol K H q p ms := ⟨.inl (.inl e), Nat.le_trans x.len hn, fm_rs hp x.at_, x.tr⟩
/-- a list of three tuples -/
structure Tri (H : Hp) (L t1 t2 t3 : Addr) (m1 m2 m3 : List Int) : Prop where
  l : H L = some (.lst [.ref t1, .ref t2, .ref t3])
  a : H t1 = some (.tup (m1.map V.int))
  b : H t2 = some (.tup (m2.map V.int))
  c : H t3 = some (.tup (m3.map V.int))
theorem Tri.same {H H' : Hp} {L t1 t2 t3 : Addr} {m1 m2 m3 : List Int} (x : Tri H L t1 t2 t3 m1 m2 m3) (s : Same H H') : Tri H' L t1 t2 t3 m1 m2 m3 := ⟨s _ _ x.l, s _ _ x.a, s _ _ x.b, s _ _ x.c⟩
theorem like1 {K : PySem.W.Frag} {H : Hp} {t u : Addr} {m : List Int} (hl : m.length ≤ 100) (a : H t = some (.tup (m.map V.int))) (b : H u = some (.tup (m.map V.int))) : SameAt K H 1 (.ref t) (.ref u) :=
  .inr ⟨t, u, _, _, rfl, rfl, .inr ⟨.inl (.inl a), .inl (.inl b)⟩, rfl, by rw [List.length_map]; omega, fun i x y hx hy => by
    rw [hx] at hy
    cases hy
    obtain ⟨n, _, rfl⟩ := List.mem_map.mp (List.mem_of_getElem? hx)
    exact ⟨rfl, rfl⟩⟩
theorem Tri.like {K : PySem.W.Frag} {H : Hp} {L t1 t2 t3 L' u1 u2 u3 : Addr} {m1 m2 m3 : List Int} (x : Tri H L t1 t2 t3 m1 m2 m3) (y : Tri H L' u1 u2 u3 m1 m2 m3) (h1 : m1.length ≤ 100) (h2 : m2.length ≤ 100) (h3 : m3.length ≤ 100) : SameAt K H 2 (.ref L) (.ref L') :=
  .inr ⟨L, L', _, _, rfl, rfl, .inl ⟨SqL.of x.l, SqL.of y.l⟩, rfl, by show 3 ≤ 1000; decide, fun i v u hv hu => by
    match i, hv, hu with
    | 0, hv, hu => cases hv; cases hu; exact like1 h1 x.a y.a
    | 1, hv, hu => cases hv; cases hu; exact like1 h2 x.b y.b
    | 2, hv, hu => cases hv; cases hu; exact like1 h3 x.c y.c⟩
section
variable {P : Program} {w : World} {K : PySem.W.Frag} {mg : Str → Option Value} {base : Heap}
abbrev s_law : Stmt := topS 37
theorem sc_law : FnScope (["_law_script", "_law_draw", "_law_turn", "_law_p", "_law_most", "_law_one", "_law_other", "_law_due", "_law_found"] : List Str) ["_law_script"] (defScope s_law) := ⟨rfl, rfl, rfl, by decide +kernel, rfl, by decide +kernel, by decide +kernel⟩
theorem ok_law {f : Addr} {fd : FuncData} (F : FunD K "law" "law" (defArgs s_law) (defBody s_law) (defScope s_law) [] [] f fd) (T : Fre mg)
    (o_law_begin : Own P w K mg base CX0 1 "_law_begin" ["_law_script"] [] (spBegin K)) (o_law_take : Own P w K mg base CX0 1 "_law_take" ["_law_draw", "_law_sides"] [] spTake) (o_law_of : Own P w K mg base CX0 2 "_law_of" ["_law_draw", "_law_row"] [] (spOf K))
    (o_law_any_prime : Own P w K mg base CX0 3 "_law_any_prime" ["_law_draw"] [] spAnyPrime) (o_law_poly : Own P w K mg base CX0 3 "_law_poly" ["_law_draw", "_law_most", "_law_p"] [] (spPolyD K)) (o_law_blend : Own P w K mg base CX0 2 "_law_blend" ["_law_one", "_law_other", "_law_weight", "_law_p"] [] (spBlend K))
    (o_law_mul : Own P w K mg base CX0 2 "_law_mul" ["_law_one", "_law_other", "_law_p"] [] (spMul K)) (o_law_same : Own P w K mg base CX0 3 "_law_same" ["_law_found", "_law_due"] [] (spS K 3))
    (k_poly_plus : OwnK P w K mg base (L2.CX P w) 5 2 "poly_plus" ["one", "other", "prime"] ["prime"] (spPoly K gPlus)) (o_poly_plus : Own P w K mg base (L2.CX P w) 5 "poly_plus" ["one", "other", "prime"] [.int 2] (spPoly K gPlus))
    (k_poly_minus : OwnK P w K mg base (L2.CX P w) 5 2 "poly_minus" ["one", "other", "prime"] ["prime"] (spPoly K gMinus)) (o_poly_minus : Own P w K mg base (L2.CX P w) 5 "poly_minus" ["one", "other", "prime"] [.int 2] (spPoly K gMinus))
    (k_poly_times : OwnK P w K mg base (L2.CX P w) 5 2 "poly_times" ["one", "other", "prime"] ["prime"] (spPoly K gTimes)) (o_poly_times : Own P w K mg base (L2.CX P w) 5 "poly_times" ["one", "other", "prime"] [.int 2] (spPoly K gTimes)) : FnOk P w K mg base CX0 6 f fd ["_law_script"] (spLaw K) := by
  refine F.ok sc_law (fun vs H Q E h => ?_) (fun cdv A outer s H vs Q E hr h => ?_)
  · obtain ⟨a, ns, rfl, _⟩ := h
    rfl
  · obtain ⟨a, ns, rfl, hS, k⟩ := h
    refine ⟨_, PSs.nox (pss_cons (ps_set (i := 1) sc_law.nd rfl (Or.inl rfl) (pe_own o_law_begin (hr.mono (by decide)) rfl pass0 (pa_cons (pv 0) pa_nil)))
      (pss_cons (ps_for PassesOwn.never rfl (pi_range1 (by rfl) T.f_range (pa_cons pe_int pa_nil)) (pg_name (i := 2) sc_law.nd rfl (Or.inl rfl)) (pss_cons (ps_set (i := 3) sc_law.nd rfl (Or.inl rfl) (pe_own o_law_any_prime (hr.mono (by decide)) rfl pass0 (pa_cons (pv 1) pa_nil)))
      (pss_cons (ps_set (i := 4) sc_law.nd rfl (Or.inl rfl) (pe_own o_law_of (hr.mono (by decide)) rfl pass0 (pa_cons (pv 1) (pa_cons (pe_lst (pa_cons pe_int (pa_cons pe_int (pa_cons pe_int pa_nil)))) pa_nil))))
      (pss_cons (ps_par (i := 5) (j := 6) (by rfl) sc_law.nd rfl rfl (by decide) rfl rfl (pa_cons (pe_own o_law_poly (hr.mono (by decide)) rfl pass0 (pa_cons (pv 1) (pa_cons (pv 4) (pa_cons (pv 3) pa_nil)))) (pa_cons (pe_own o_law_poly (hr.mono (by decide)) rfl pass0 (pa_cons (pv 1) (pa_cons (pv 4) (pa_cons (pv 3) pa_nil)))) pa_nil)) (by rfl))
      (C8.pss_cut (ps_if (pt_cmpR op_eq (pe_own o_law_take (hr.mono (by decide)) rfl pass0 (pa_cons (pv 1) (pa_cons pe_int pa_nil))) pe_int (nomark _)) (pss_one (ps_set (i := 6) sc_law.nd rfl (Or.inl rfl) (pe_own o_law_blend (hr.mono (by decide)) rfl pass0 (pa_cons (pe_own o_law_poly (hr.mono (by decide)) rfl pass0 (pa_cons (pv 1) (pa_cons pe_int (pa_cons (pv 3) pa_nil)))) (pa_cons (pv 5) (pa_cons (pe_op op_sub (pv 3) pe_int) (pa_cons (pv 3) pa_nil))))))) pss_nil)
      (pss_cons (ps_set (i := 7) sc_law.nd rfl (Or.inl rfl) (pe_lst (pa_cons (pe_own o_law_blend (hr.mono (by decide)) rfl pass0 (pa_cons (pv 5) (pa_cons (pv 6) (pa_cons pe_int (pa_cons (pv 3) pa_nil))))) (pa_cons (pe_own o_law_blend (hr.mono (by decide)) rfl pass0 (pa_cons (pv 5) (pa_cons (pv 6) (pa_cons (pe_op op_sub (pv 3) pe_int) (pa_cons (pv 3) pa_nil))))) (pa_cons (pe_own o_law_mul (hr.mono (by decide)) rfl pass0 (pa_cons (pv 5) (pa_cons (pv 6) (pa_cons (pv 3) pa_nil)))) pa_nil)))))
      (pss_cons (ps_set (i := 8) sc_law.nd rfl (Or.inl rfl) (pe_lst (pa_cons (pe_ownK k_poly_plus (hr.mono (by decide)) rfl passL (pa_cons (pv 5) (pa_cons (pv 6) pa_nil)) (pk_cons (pv 3) pk_nil)) (pa_cons (pe_ownK k_poly_minus (hr.mono (by decide)) rfl passL (pa_cons (pv 5) (pa_cons (pv 6) pa_nil)) (pk_cons (pv 3) pk_nil)) pa_nil))))
      (C8.pss_cut (ps_expr (pe_bm PySem.F.plainAttrs_list PySem.F.slot_list_append PySem.F.type_list_append mt_append (pv 8) (pa_cons (pe_ownK k_poly_times (hr.mono (by decide)) rfl passL (pa_cons (pv 5) (pa_cons (pv 6) pa_nil)) (pk_cons (pv 3) pk_nil)) pa_nil)))
      (pss_cons (ps_if (pt_not (pt_val (pe_own o_law_same (hr.mono (by decide)) rfl pass0 (pa_cons (pv 8) (pa_cons (pv 7) pa_nil))))) (pss_one (ps_ret pe_bl)) pss_nil)
      (pss_one (ps_if (pt_cmpR op_eq (pv 3) pe_int (nomark _)) (pss_one (ps_if (pt_not (pt_val (pe_own o_law_same (hr.mono (by decide)) rfl pass0 (pa_cons (pe_lst (pa_cons (pe_own o_poly_plus (hr.mono (by decide)) rfl passL (pa_cons (pv 5) (pa_cons (pv 6) pa_nil))) (pa_cons (pe_own o_poly_minus (hr.mono (by decide)) rfl passL (pa_cons (pv 5) (pa_cons (pv 6) pa_nil))) (pa_cons (pe_own o_poly_times (hr.mono (by decide)) rfl passL (pa_cons (pv 5) (pa_cons (pv 6) pa_nil))) pa_nil)))) (pa_cons (pv 7) pa_nil))))) (pss_one (ps_ret pe_bl)) pss_nil)) pss_nil)))))))))))
      (pss_one (ps_ret (pe_and (pe_cmpR (op_eqD hr.units) (pe_ownK k_poly_times (hr.mono (by decide)) rfl passL (pa_cons (pe_tup pa_nil) (pa_cons (pe_tup (pa_cons pe_int pa_nil)) pa_nil)) (pk_cons pe_int pk_nil)) (pe_tup pa_nil) (nomark _)) (pe_one (pe_cmpR (op_eqD hr.units) (pe_ownK k_poly_plus (hr.mono (by decide)) rfl passL (pa_cons (pe_tup pa_nil) (pa_cons (pe_tup pa_nil) pa_nil)) (pk_cons pe_int pk_nil)) (pe_tup pa_nil) (nomark _)))))))) , ?_⟩
    refine ⟨_, rfl, a, ns, rfl, hS, fun d H1 s1 nd D1 => ?_⟩
    refine ⟨5, rfl, by decide, by decide, ?_⟩
    refine for_range (lo := 0) (n := 5) (fun i σ' H' => ∃ x2 x3 x4 x5 x6 x7 x8, σ' = [some (.ref a), some (.ref d), x2, x3, x4, x5, x6, x7, x8] ∧ Draw H' d) ⟨none, none, none, none, none, none, none, rfl, D1⟩ ?_ ?_
    · rintro i σ' H2 hi ⟨x2, x3, x4, x5, x6, x7, x8, rfl, D2⟩
      refine ⟨_, rfl, d, rfl, D2, fun p H3 hp D3 B3 => ?_⟩
      have hpm := pm_of hp
      have lo := hpm.lo
      have hi1000 := hpm.hi
      refine ⟨_, rfl, (by show 3 ≤ sizeLine; decide), fun r hr => ⟨d, r, _, rfl, D3.same (same_upd hr), SqL.of upd_same, D3.ne hr, by decide, by decide, fun x H4 hx D4 B4 => ?_⟩⟩
      obtain ⟨n, rfl, hn⟩ : ∃ n : Nat, x = .int n ∧ n ≤ 25 := by
        rcases List.mem_cons.mp hx with rfl | hx
        · exact ⟨3, rfl, by decide⟩
        · rcases List.mem_cons.mp hx with rfl | hx
          · exact ⟨8, rfl, by decide⟩
          · rw [List.mem_singleton.mp hx]
            exact ⟨25, rfl, by decide⟩
      refine ⟨_, rfl, _, rfl, _, rfl, d, n, p, rfl, D4, hn, hpm, fun xs b H5 D5 B5 P5 n1 f1 e1 => ⟨_, rfl, _, rfl, _, rfl, d, n, p, rfl, D5, hn, hpm, fun ys c H6 D6 B6 P6 n2 f2 e2 => ⟨_, _, rfl, ?_⟩⟩⟩
      refine ⟨fun σ' H' => ∃ (ys : List Int) (c : Addr), σ' = [some (.ref a), some (.ref d), some (.int (0 + (i : Int))), some (.int p), some (.int n), some (.ref b), some (.ref c), x7, x8] ∧ Draw H' d ∧ Pol K H' b p xs ∧ Pol K H' c p ys ∧ c ≠ d, ?_, ?_⟩
      · have Pb := P5.but B6 n1
        refine ⟨_, rfl, d, 3, rfl, D6, by decide, by decide, fun m H7 _ _ D7 B7 => ⟨rfl, _, rfl, ite2 (fun hc => ?_) (fun hc => ⟨ys, c, rfl, D7, Pb.but B7 n1, P6.but B7 n2, n2⟩)⟩⟩
        refine ⟨_, rfl, _, rfl, d, 3, p, rfl, D7, by decide, hpm, fun zs q H8 D8 B8 P8 n3 f3 e3 => ?_⟩
        have Pb8 := (Pb.but B7 n1).but B8 n1
        have l1 := P8.len
        have l2 := Pb8.len
        refine ⟨_, rfl, _, rfl, _, _, rfl, rfl, _, rfl, q, b, zs, xs, p - 1, p, rfl, P8.at_, Pb8.at_, by omega, by omega, by omega, by omega, hpm, fun ms x q2 H9 s9 f9 e9 => ?_⟩
        exact ⟨ms, q2, rfl, D8.same s9, Pb8.same s9, x.pol hpm (by omega) e9, D8.ne f9⟩
      · rintro σ' H6 ⟨ys, c, rfl, D6, Pb, Pc, nc⟩
        have l1 := Pb.len
        have l2 := Pc.len
        refine ⟨_, rfl, _, rfl, _, rfl, b, c, xs, ys, 1, p, rfl, Pb.at_, Pc.at_, by omega, by omega, by decide, by decide, hpm, fun m1 i1 t1 H7 s7 f7 e7 => ?_⟩
        refine ⟨_, rfl, _, rfl, _, rfl, _, _, rfl, rfl, _, rfl, b, c, xs, ys, p - 1, p, rfl, (Pb.same s7).at_, (Pc.same s7).at_, by omega, by omega, by omega, by omega, hpm, fun m2 i2 t2 H8 s8 f8 e8 => ?_⟩
        have s78 := s7.trans s8
        refine ⟨_, rfl, _, rfl, _, rfl, b, c, xs, ys, p, rfl, (Pb.same s78).at_, (Pc.same s78).at_, by omega, by omega, Pb.rs, Pc.rs, hpm, fun m3 i3 t3 H9 s9 f9 e9 => ?_⟩
        have s79 := s78.trans s9
        refine ⟨(by show 3 ≤ sizeLine; decide), fun Ld hLd => ?_⟩
        have Td : Tri (L2.upd H9 Ld (.lst [.ref t1, .ref t2, .ref t3])) Ld t1 t2 t3 m1 m2 m3 := ⟨upd_same, same_upd hLd _ _ (s9 _ _ (s8 _ _ e7)), same_upd hLd _ _ (s9 _ _ e8), same_upd hLd _ _ e9⟩
        have sL := s79.trans (same_upd (o := .lst [.ref t1, .ref t2, .ref t3]) hLd)
        refine ⟨_, rfl, _, rfl, _, rfl, rfl, rfl, b, c, xs, ys, p, rfl, hp, Pb.same sL, Pc.same sL, fun w1 j1 u1 G1 q1 g1 v1 => ?_⟩
        have ew1 : w1 = m1 := j1.uniq i1 fun j => by show gPlus p xs ys j = _; unfold gPlus; rw [Int.one_mul]
        subst ew1
        have sG1 := sL.trans q1
        refine ⟨_, rfl, _, rfl, _, rfl, rfl, rfl, b, c, xs, ys, p, rfl, hp, Pb.same sG1, Pc.same sG1, fun w2 j2 u2 G2 q2 g2 v2 => ?_⟩
        have ew2 : w2 = m2 := j2.uniq i2 fun j => rfl
        subst ew2
        have sG2 := sG1.trans q2
        refine ⟨(by show 2 ≤ sizeLine; decide), fun Lf hLf => ?_⟩
        have sF := same_upd (o := .lst [.ref u1, .ref u2]) hLf
        refine ⟨fun σ' H' => ∃ Lf t1 t2 t3 u1 u2 u3, σ' = [some (.ref a), some (.ref d), some (.int (0 + (i : Int))), some (.int p), some (.int n), some (.ref b), some (.ref c), some (.ref Ld), some (.ref Lf)] ∧ Draw H' d ∧ Pol K H' b p xs ∧ Pol K H' c p ys ∧ Tri H' Ld t1 t2 t3 w1 w2 m3 ∧ Tri H' Lf u1 u2 u3 w1 w2 m3, ?_, ?_⟩
        · refine ⟨_, rfl, ?_, ?_⟩
          · exact .inl ⟨rfl, _, SqL.of upd_same⟩
          · have sG3 := sG2.trans sF
            refine ⟨_, rfl, _, rfl, _, rfl, rfl, rfl, b, c, xs, ys, p, rfl, hp, Pb.same sG3, Pc.same sG3, fun w3 j3 u3 G3 q3 g3 v3 => ?_⟩
            have ew3 : w3 = m3 := j3.uniq i3 fun j => rfl
            subst ew3
            refine ⟨Lf, _, _, rfl, rfl, q3 _ _ upd_same, (by show 2 < sizeLine; decide), ?_⟩
            have sZ : Same G2 (L2.upd G3 Lf (.lst ([.ref u1, .ref u2] ++ [.ref u3]))) := lcs hLf (sF.trans q3)
            have sY := sG2.trans sZ
            have n3 : u3 ≠ Lf := (ne_of_none upd_same g3).symm
            exact ⟨Lf, t1, t2, t3, u1, u2, u3, rfl, D6.same sY, Pb.same sY, Pc.same sY, ((Td.same q1).same q2).same sZ, ⟨upd_same, sZ _ _ (q2 _ _ v1), sZ _ _ v2, by rw [upd_ne n3]; exact v3⟩⟩
        · rintro σ' G ⟨Lf, t1, t2, t3, u1, u2, u3, rfl, DG, Qb, Qc, Ta, Tb⟩
          have k1 : w1.length ≤ 100 := j1.len
          have k2 : w2.length ≤ 100 := j2.len
          have k3 : m3.length ≤ 100 := i3.len
          refine ⟨_, rfl, _, rfl, _, _, rfl, Tb.like Ta k1 k2 k3, fun G2 q2 => ⟨_, rfl, iteF ?_⟩⟩
          refine ⟨_, rfl, rfl, _, rfl, ite2 (fun hc => ?_) (fun hc => ?_)⟩
          · have e := V.int.inj (of_decide_eq_true hc)
            subst e
            refine ⟨_, rfl, _, rfl, b, c, xs, ys, 2, rfl, hp, Qb.same q2, Qc.same q2, fun y1 h1 z1 G3 q3 g3 o1 => ?_⟩
            have ey1 : y1 = w1 := h1.uniq j1 fun j => rfl
            subst ey1
            have r3 := q2.trans q3
            refine ⟨_, rfl, _, rfl, b, c, xs, ys, 2, rfl, hp, Qb.same r3, Qc.same r3, fun y2 h2 z2 G4 q4 g4 o2 => ?_⟩
            have ey2 : y2 = w2 := h2.uniq j2 fun j => rfl
            subst ey2
            have r4 := r3.trans q4
            refine ⟨_, rfl, _, rfl, b, c, xs, ys, 2, rfl, hp, Qb.same r4, Qc.same r4, fun y3 h3 z3 G5 q5 g5 o3 => ?_⟩
            have ey3 : y3 = m3 := h3.uniq i3 fun j => rfl
            subst ey3
            have r5 := r4.trans q5
            refine ⟨(by show 3 ≤ sizeLine; decide), fun L hL => ?_⟩
            have sL' := same_upd (o := .lst [.ref z1, .ref z2, .ref z3]) hL
            have Tn : Tri (L2.upd G5 L (.lst [.ref z1, .ref z2, .ref z3])) L z1 z2 z3 y1 y2 y3 := ⟨upd_same, sL' _ _ (q5 _ _ (q4 _ _ o1)), sL' _ _ (q5 _ _ o2), sL' _ _ o3⟩
            exact ⟨_, rfl, _, _, rfl, Tn.like (Ta.same (r5.trans sL')) k1 k2 k3, fun G6 q6 => ⟨_, rfl, iteF ⟨_, _, _, _, _, _, _, rfl, (DG.same (r5.trans sL')).same q6⟩⟩⟩
          · exact ⟨_, _, _, _, _, _, _, rfl, DG.same q2⟩
    · rintro σ' H2 ⟨x2, x3, x4, x5, x6, x7, x8, rfl, D2⟩
      have sh : SeqAt.shaped (PyData.tuple (([] : List Int).map PyData.int)) = true := rfl
      refine ⟨(by show 0 ≤ sizeLine; decide), fun e he => ⟨(by show 1 ≤ sizeLine; decide), fun o ho => ⟨rfl, rfl, e, o, [], [1], 7, rfl, by decide, ?_, ?_, fun ms x q H3 s3 f3 e3 => ?_⟩⟩⟩
      · exact ⟨.inl (.inl (same_upd ho _ _ upd_same)), Nat.zero_le _, Rs.nil 7 (by decide), rfl⟩
      · exact ⟨.inl (.inl upd_same), by decide, (Rs.nil 7 (by decide)).add (by decide) (by decide), rfl⟩
      · have em : ms = [] := x.uniq (g := fun _ => 0) (m := 0) (b := []) ⟨fun j => rfl, rfl, Nat.le_refl _⟩ (fun j => Int.zero_fmod 7)
        subst em
        refine ⟨(by show 0 ≤ sizeLine; decide), fun z hz => ⟨_, _, dp_tup (ns := []) (.inl (.inl (same_upd hz _ _ e3))), dp_tup (ns := []) (.inl (.inl upd_same)), sh, sh, _, rfl, iteT ?_⟩⟩
        refine ⟨(by show 0 ≤ sizeLine; decide), fun e2 he2 => ⟨(by show 0 ≤ sizeLine; decide), fun o2 ho2 => ⟨rfl, rfl, e2, o2, [], [], 97, rfl, by decide, ?_, ?_, fun ms x q H4 s4 f4 e4 => ?_⟩⟩⟩
        · exact ⟨.inl (.inl (same_upd ho2 _ _ upd_same)), Nat.zero_le _, Rs.nil 97 (by decide), rfl⟩
        · exact ⟨.inl (.inl upd_same), Nat.zero_le _, Rs.nil 97 (by decide), rfl⟩
        · have em : ms = [] := x.uniq (g := fun _ => 0) (m := 0) (b := []) ⟨fun j => rfl, rfl, Nat.le_refl _⟩ (fun j => rfl)
          subst em
          exact ⟨(by show 0 ≤ sizeLine; decide), fun z2 hz2 => ⟨_, _, dp_tup (ns := []) (.inl (.inl (same_upd hz2 _ _ e4))), dp_tup (ns := []) (.inl (.inl upd_same)), sh, sh, k _⟩⟩
end
end Xk
end
section
set_option Elab.async false
set_option linter.all false
set_option maxRecDepth 100000
set_option maxHeartbeats 0
namespace Xh
open PySem PySem.Spec PyProof.Rows L2 He
/-- where the written part looks: what the names reach in n steps, and the statics -/
def asS (g : Addr → Option Obj) (n : Nat) : List Addr := cStatics :: asD g n
def obsZ (n : Nat) (fa : List Fa) (fn : List DefD) (tf : List Defn) (ex : PySem.W.Frag → Bool) (g : Addr → Option Obj) : AlX :=
  let K := frT g (asS g n)
  (obsT fa fn [] K, ex K && tabsB g tf K)
theorem saysZ {n : Nat} {fa : List Fa} {fn : List DefD} {tf : List Defn} {ex : PySem.W.Frag → Bool} {w : World} {h : Heap} (e : obsZ n fa fn tf ex h.get? = valX fn [] w) :
    SaysX fa fn [] tf ex w h (frT h.get? (asS h.get? n)) := by
  generalize hK : frT h.get? (asS h.get? n) = K
  have e' : (obsT fa fn [] K, ex K && tabsB h.get? tf K) = valX fn [] w := by rw [← hK]; exact e
  injection e' with e1 e2
  rw [Bool.and_eq_true] at e2
  have key : ∀ p ∈ tf, PySem.W.codeHdIn K (cT K p).1 (cT K p).2 = true ∧ ∃ o, h.get? (cT K p).2 = some o ∧ emptyTab o = true := by
    intro p hp
    have z := List.all_eq_true.mp e2.2 p hp
    rw [Bool.and_eq_true] at z
    refine ⟨z.1, ?_⟩
    have z2 := z.2
    split at z2
    · exact ⟨_, ‹_›, z2⟩
    · cases z2
  refine ⟨e1, e2.1, fun p hp => (key p hp).1, fun p hp => ?_, fun p hp => ?_⟩
  · obtain ⟨_, o, q, z⟩ := key p hp
    rw [← hK] at q ⊢
    exact frT_none q z
  · obtain ⟨_, o, q, z⟩ := key p hp
    rw [q, emptyTab_eq z]
def hookZ (n : Nat) (fa : List Fa) (fn : List DefD) (tf : List Defn) (ex : PySem.W.Frag → Bool) : PySem.W.Hook where
  α := AlX
  obs := fun s => obsZ n fa fn tf ex s.heap.get?
  val := fun w => valX fn [] w
  says := fun w h => ∃ K : PySem.W.Frag, K.In h ∧ SaysX fa fn [] tf ex w h K
  of := fun _ _ e => ⟨_, frT_in, saysZ e⟩
  keeps := fun _ _ _ ⟨K, hK, c⟩ k => ⟨K, PySem.W.Frag.In.keeps hK k, ⟨c.t, c.more, c.hd, c.out, fun p hp => k _ _ (c.empty p hp)⟩⟩
theorem obsZ_eq {n : Nat} {fa : List Fa} {fn : List DefD} {tf : List Defn} {ex : PySem.W.Frag → Bool} {g : Addr → Option Obj} {s : Shared} (h : ∀ a, g a = s.heap.get? a) :
    obsZ n fa fn tf ex g = (hookZ n fa fn tf ex).obs s := by
  have e : g = s.heap.get? := funext h
  subst e
  rfl
end Xh
end
section
set_option Elab.async false
set_option linter.all false
set_option maxRecDepth 100000
set_option maxHeartbeats 0
namespace Xk
open PySem PySem.Spec PyProof.Rows L2 Xh LamX
abbrev s_RungError___init : Stmt := inClass (topS 1) 0
theorem sc_RungError___init : FnScope (["self", "told"] : List Str) ["self", "told"] (defScope s_RungError___init) := ⟨rfl, rfl, rfl, by decide +kernel, rfl, by decide +kernel, by decide +kernel⟩
/-! ### the head: what of the written part is looked at -/
open He
/-- the class at C, an own exception over ValueError, called nm; f: how it is made -/
def clsB (K : PySem.W.Frag) (C fI : Addr) (nm : Str) : Bool := (match K.lookup C with
    | some ⟨.type c, _, .cls cd, sl⟩ => decide (c = "type") && ((match cd.mro with
      | .ref a :: bm => decide (a = C) && PySem.HandSPX.refsVE bm
      | _ => false) && (cd.hasDict && (!cd.hasDel && ((match sl.toList with
      | [_, _, some (.str x _), _, some (.builtin n), _] => decide (x = nm) && decide (n = "ValueError.__new__")
      | _ => false)))))
    | _ => false) &&
  (eqO (PySem.W.findIn K (.ref C) "__setattr__") (some (some (.builtin "object.__setattr__"))) && (decide (PySem.W.subIn K (.ref C) (.type "BaseException") = some true) && (decide (PySem.W.typeIn K (.ref C) = some (.type "type")) && (PySem.W.keepIn K (.ref C) &&
  (eqO (PySem.W.findIn K (.ref C) "__getattribute__") (some (some (.builtin "BaseException.__getattribute__"))) && (eqO (PySem.W.findIn K (.ref C) "__getattr__") (some none) && (PySem.W.hasDictIn K C && (eqO (PySem.W.findIn K (.ref C) "__class__") (some (some (.builtin "object.__class__"))) &&
  (eqO (PySem.W.specialIn K (.builtin "object.__class__") "__get__") (some (some (.builtin "getset_descriptor.__get__"))) && (decide (PySem.W.takesIn K (.builtin "object.__class__") = some true) && (decide (PySem.W.mroIn K C (.type "object") = some true) && (PySem.W.readsIn K C (.type "type") &&
  ((match PySem.W.findCls K (.ref C) (.type "type") "__name__" with
    | some (.get (.builtin g) (.builtin n) (.ref c) (.type t)) => decide (g = "getset_descriptor.__get__") && (decide (n = "type.__name__") && (decide (c = C) && decide (t = "type")))
    | _ => false) && (eqO (PySem.W.findIn K (.ref C) "word") (some none) && (eqO (PySem.W.findIn K (.ref C) "__init__") (some (some (.ref fI))) && decide (PySem.W.typeIn K (.ref fI) = some (.type "function")))))))))))))))))
theorem clsB_ok {K : PySem.W.Frag} {C fI : Addr} {nm : Str} (h : clsB K C fI nm = true) : RC K C nm ∧ PySem.W.findIn K (.ref C) "word" = some none ∧ PySem.W.findIn K (.ref C) "__init__" = some (some (.ref fI)) ∧ PySem.W.typeIn K (.ref fI) = some (.type "function") := by
  obtain ⟨h0, h⟩ := ba h
  obtain ⟨h1, h⟩ := ba h
  obtain ⟨h2, h⟩ := ba h
  obtain ⟨h3, h⟩ := ba h
  obtain ⟨h4, h⟩ := ba h
  obtain ⟨h5, h⟩ := ba h
  obtain ⟨h6, h⟩ := ba h
  obtain ⟨h7, h⟩ := ba h
  obtain ⟨h8, h⟩ := ba h
  obtain ⟨h9, h⟩ := ba h
  obtain ⟨h10, h⟩ := ba h
  obtain ⟨h11, h⟩ := ba h
  obtain ⟨h12, h⟩ := ba h
  obtain ⟨h13, h⟩ := ba h
  obtain ⟨h14, h⟩ := ba h
  obtain ⟨h15, h16⟩ := ba h
  have fn : PySem.W.findCls K (.ref C) (.type "type") "__name__" = some (.get (.builtin "getset_descriptor.__get__") (.builtin "type.__name__") (.ref C) (.type "type")) := by
    revert h13
    split
    · rename_i g n c t e
      intro z
      obtain ⟨z1, z⟩ := ba z
      obtain ⟨z2, z⟩ := ba z
      obtain ⟨z3, z4⟩ := ba z
      rw [e, of_decide_eq_true z1, of_decide_eq_true z2, of_decide_eq_true z3, of_decide_eq_true z4]
    · intro z
      cases z
  revert h0
  split
  · rename_i c dd cd sl e
    intro z
    obtain ⟨z1, z⟩ := ba z
    obtain ⟨z2, z⟩ := ba z
    obtain ⟨z3, z⟩ := ba z
    obtain ⟨z4, z5⟩ := ba z
    have c1 : c = "type" := of_decide_eq_true z1
    subst c1
    obtain ⟨cn, cb, cm, cns, cq, chd, csn, csub, cab, ccol, cdel⟩ := cd
    revert z2
    split
    · rename_i a bm em
      intro z2
      obtain ⟨y1, y2⟩ := ba z2
      have y1' := of_decide_eq_true y1
      have em' : cm = .ref a :: bm := em
      subst em'
      subst y1'
      revert z5
      split
      · rename_i s0 s1 x t s3 n s5 es
        intro z5
        obtain ⟨x1, x2⟩ := ba z5
        have x1' := of_decide_eq_true x1
        have x2' := of_decide_eq_true x2
        subst x1' x2'
        have esl : sl = #[s0, s1, some (.str x t), s3, some (.builtin "ValueError.__new__"), s5] := by
          rw [← es]
        have d1 : chd = true := z3
        have d2 : cdel = false := by
          have z4' : (!cdel) = true := z4
          cases cdel with
          | true => cases z4'
          | false => rfl
        subst d1 d2 esl
        exact ⟨⟨⟨⟨_, _, _, _, _, _, _, _, _, _, _, _, _, _, _, e, y2⟩, eqO_ok h1, of_decide_eq_true h2, of_decide_eq_true h3, h4⟩, ⟨eqO_ok h5, eqO_ok h6, of_decide_eq_true h2, h7, eqO_ok h8, eqO_ok h9, of_decide_eq_true h10, of_decide_eq_true h11⟩, h12, fn, ⟨_, _, _, t, e, rfl⟩⟩, eqO_ok h14, eqO_ok h15, of_decide_eq_true h16⟩
      · intro z5
        cases z5
    · intro z2
      cases z2
  · intro z
    cases z

def fnL : List DefD := [⟨("RungError", some "__init__"), "__init__", "RungError.__init__", defArgs s_RungError___init, defBody s_RungError___init, defScope s_RungError___init, [], []⟩, ⟨("is_prime", none), "is_prime", "is_prime", defArgs s_is_prime, defBody s_is_prime, defScope s_is_prime, [], []⟩, ⟨("is_number", none), "is_number", "is_number", defArgs s_is_number, defBody s_is_number, defScope s_is_number, [], []⟩, ⟨("is_rest", none), "is_rest", "is_rest", defArgs s_is_rest, defBody s_is_rest, defScope s_is_rest, [], []⟩, ⟨("refuse_prime", none), "refuse_prime", "refuse_prime", defArgs s_refuse_prime, defBody s_refuse_prime, defScope s_refuse_prime, [], []⟩, ⟨("trimmed", none), "trimmed", "trimmed", defArgs s_trimmed, defBody s_trimmed, defScope s_trimmed, [], []⟩, ⟨("raw_scaled", none), "raw_scaled", "raw_scaled", defArgs s_raw_scaled, defBody s_raw_scaled, defScope s_raw_scaled, [], []⟩, ⟨("raw_plus", none), "raw_plus", "raw_plus", defArgs s_raw_plus, defBody s_raw_plus, defScope s_raw_plus, [], []⟩, ⟨("raw_minus", none), "raw_minus", "raw_minus", defArgs s_raw_minus, defBody s_raw_minus, defScope s_raw_minus, [], []⟩, ⟨("raw_times", none), "raw_times", "raw_times", defArgs s_raw_times, defBody s_raw_times, defScope s_raw_times, [], []⟩, ⟨("is_poly", none), "is_poly", "is_poly", defArgs s_is_poly, defBody s_is_poly, defScope s_is_poly, [], []⟩, ⟨("refuse_polys", none), "refuse_polys", "refuse_polys", defArgs s_refuse_polys, defBody s_refuse_polys, defScope s_refuse_polys, [], []⟩, ⟨("poly_plus", none), "poly_plus", "poly_plus", defArgs s_poly_plus, defBody s_poly_plus, defScope s_poly_plus, [], [("prime", .int 2)]⟩, ⟨("poly_minus", none), "poly_minus", "poly_minus", defArgs s_poly_minus, defBody s_poly_minus, defScope s_poly_minus, [], [("prime", .int 2)]⟩, ⟨("poly_times", none), "poly_times", "poly_times", defArgs s_poly_times, defBody s_poly_times, defScope s_poly_times, [], [("prime", .int 2)]⟩, ⟨("_law_begin", none), "_law_begin", "_law_begin", defArgs s_law_begin, defBody s_law_begin, defScope s_law_begin, [], []⟩, ⟨("_law_take", none), "_law_take", "_law_take", defArgs s_law_take, defBody s_law_take, defScope s_law_take, [], []⟩, ⟨("_law_of", none), "_law_of", "_law_of", defArgs s_law_of, defBody s_law_of, defScope s_law_of, [], []⟩, ⟨("_law_same", none), "_law_same", "_law_same", defArgs s_law_same, defBody s_law_same, defScope s_law_same, [], []⟩, ⟨("_law_primes", none), "_law_primes", "_law_primes", defArgs s_law_primes, defBody s_law_primes, defScope s_law_primes, [], []⟩, ⟨("_law_any_prime", none), "_law_any_prime", "_law_any_prime", defArgs s_law_any_prime, defBody s_law_any_prime, defScope s_law_any_prime, [], []⟩, ⟨("_law_trim", none), "_law_trim", "_law_trim", defArgs s_law_trim, defBody s_law_trim, defScope s_law_trim, [], []⟩, ⟨("_law_rests", none), "_law_rests", "_law_rests", defArgs s_law_rests, defBody s_law_rests, defScope s_law_rests, [], []⟩, ⟨("_law_poly", none), "_law_poly", "_law_poly", defArgs s_law_poly, defBody s_law_poly, defScope s_law_poly, [], []⟩, ⟨("_law_blend", none), "_law_blend", "_law_blend", defArgs s_law_blend, defBody s_law_blend, defScope s_law_blend, [], []⟩, ⟨("_law_conv", none), "_law_conv", "_law_conv", defArgs s_law_conv, defBody s_law_conv, defScope s_law_conv, [], []⟩, ⟨("_law_mul", none), "_law_mul", "_law_mul", defArgs s_law_mul, defBody s_law_mul, defScope s_law_mul, [], []⟩, ⟨("law", none), "law", "law", defArgs s_law, defBody s_law, defScope s_law, [], []⟩]
def faL : List Fa := [.glo "BadPrime", .glo "BadPoly", .glo "RungError", .glo "PRIMES", .glo "is_prime", .glo "is_number", .glo "is_rest", .glo "refuse_prime", .glo "trimmed", .glo "raw_scaled", .glo "raw_plus", .glo "raw_minus", .glo "raw_times", .glo "is_poly", .glo "refuse_polys", .glo "poly_plus", .glo "poly_minus", .glo "poly_times", .glo "_law_begin", .glo "_law_take", .glo "_law_of", .glo "_law_same", .glo "_law_primes", .glo "_law_any_prime", .glo "_law_trim", .glo "_law_rests", .glo "_law_poly", .glo "_law_blend", .glo "_law_conv", .glo "_law_mul", .glo "law", .int "MOST_RESTS" 25, .free "len", .free "abs", .free "list", .free "tuple", .free "int", .free "bool", .free "str", .free "isinstance", .free "range", .free "all", .free "zip", .free "enumerate", .free "max"]
def exL (K : PySem.W.Frag) : Bool := tupB K "PRIMES" (primes.map Dv.int) && (clsB K (ga K "BadPrime") (ma K (ga K "RungError") "__init__") "BadPrime" && clsB K (ga K "BadPoly") (ma K (ga K "RungError") "__init__") "BadPoly")
abbrev R : PySem.W.OpenRow := PySem.W.OpenLaw.row PySem.Challenge.rw_rungfields_k02_sums_and_products
abbrev hk : PySem.W.Hook := hookZ 5 faL fnL [] exL
def ob (s : PySem.W.SharedT) : AlX := obsZ 5 faL fnL [] exL (HandSHeadRun.getT s)
theorem ob_eq (s : PySem.W.SharedT) : ob s = hk.obs s.abs := obsZ_eq (HandSHeadRun.getT_eq s)
def loL : List Str := (["RungError", "BadPrime", "BadPoly", "PRIMES", "LEAST", "is_prime", "is_number", "is_rest", "refuse_prime", "trimmed"] : List Str) ++ (["raw_scaled", "raw_plus", "raw_minus", "raw_times", "MOST_RESTS", "is_poly", "refuse_polys", "poly_plus", "poly_minus", "poly_times"] : List Str) ++ (["_law_begin", "_law_take", "_law_of", "_law_same", "_law_primes", "_law_any_prime", "_law_trim", "_law_rests", "_law_poly", "_law_blend"] : List Str) ++ (["_law_conv", "_law_mul"] : List Str)
theorem run (w : World) : HandSHeadRun.RunEq R (PySem.W.view R.prog [37]) hk ob 6000 loL w := by
  intro os
  kernel_rfl
end Xk
end
section
set_option Elab.async false
set_option linter.all false
set_option maxRecDepth 100000
set_option maxHeartbeats 4000000
namespace Xk
open PySem PySem.Spec PyProof.Rows L2 Xh LamX He
section
variable {P : Program} {w : World} {K : PySem.W.Frag} {mg : Str → Option Value} {base : Heap}
theorem o_init0 {f : Addr} {fd : FuncData} (F : FunD K "__init__" "RungError.__init__" (defArgs s_RungError___init) (defBody s_RungError___init) (defScope s_RungError___init) [] [] f fd) : FnR P w K mg base (L2.CX P w) 1 f (spRI1 K) :=
  ok_rinit (st := s_RungError___init) F sc_RungError___init (fun kV doc pm an cdv ct => StX.bind_star1 (p1 := "self") (pv := "told") (B := fun vs => bindArgs (PySem.W.fnOf "__init__" "RungError.__init__" (defArgs s_RungError___init) (defBody s_RungError___init) (defScope s_RungError___init) .none kV doc pm an cdv ct) ⟨vs, []⟩) (fun a => rfl) (fun a r rs => rfl))
    (fun X hK hN hs => by
      subst hK
      have hN0 : X.N[0]? = some ("self" : Str) := by rw [hN]; rfl
      have hv0 : Vis X.env.scope ("self" : Str) := by rw [hs]; first | exact Or.inl rfl | exact Or.inr (Or.inl rfl) | exact Or.inr (Or.inr rfl)
      exact pss_one (ps_ost (pv 0 hN0 hv0) (pe_clsnm (pv 0 hN0 hv0))))
theorem code_of {x q : Str} {params : Arguments} {body : List Stmt} {scope : Scope} {dvs : List V} {kws : List (Str × V)} {p : Defn} {fd : FuncData} (F : FunD K x q params body scope dvs kws (fAd K p) fd) : fd.code = .ref (cT K p).1 := by
  obtain ⟨oc, od, dV, kV, doc, pm, an, cdv, ct, osl, rfl, lk, hcd, hD, _⟩ := F.ex
  obtain ⟨c, rfl⟩ := codeIn_ref hcd
  show Value.ref c = .ref (codeOf K p)
  rw [codeOf_eq lk rfl]
theorem lit_tup (H : Hp) (h : tupB K "PRIMES" (primes.map Dv.int) = true) : SqT K H (ga K "PRIMES") (primes.map V.int) := by
  have z := tupB_ok h H
  rw [List.map_map] at z
  exact z
def kOf (K : PySem.W.Frag) (i : Fin 14) : Addr := ga K ((["BadPrime", "BadPoly"] : List Str).getD i.val "BadPrime")
theorem facts {h : Heap} {f : Addr} (X : K.In h) (G : h.Ns mainGlobals mg) (hfa : mg ("law" : Str) = some (.ref f)) (c : SaysX faL fnL [] [] exL w h K) :
    ∃ fd : FuncData, (∀ (s : Shared) (v : Value), BindsTo s fd ⟨[v], []⟩ [("_law_script", v)]) ∧ ∀ base : Heap, FnOk P w K mg base CX0 6 f fd ["_law_script"] (spLaw K) := by
  obtain ⟨e0, e⟩ := ba c.more
  obtain ⟨e1, e2⟩ := ba e
  obtain ⟨r1, w1, i1, t1⟩ := clsB_ok e1
  obtain ⟨r2, w2, i2, t2⟩ := clsB_ok e2
  obtain ⟨fdRungError___init, FRungError___init⟩ := c.t.d.def_ 0 (d := fnL[0]) rfl
  obtain ⟨fdis_prime, Fis_prime⟩ := c.t.d.def_ 1 (d := fnL[1]) rfl
  obtain ⟨fdis_number, Fis_number⟩ := c.t.d.def_ 2 (d := fnL[2]) rfl
  obtain ⟨fdis_rest, Fis_rest⟩ := c.t.d.def_ 3 (d := fnL[3]) rfl
  obtain ⟨fdrefuse_prime, Frefuse_prime⟩ := c.t.d.def_ 4 (d := fnL[4]) rfl
  obtain ⟨fdtrimmed, Ftrimmed⟩ := c.t.d.def_ 5 (d := fnL[5]) rfl
  obtain ⟨fdraw_scaled, Fraw_scaled⟩ := c.t.d.def_ 6 (d := fnL[6]) rfl
  obtain ⟨fdraw_plus, Fraw_plus⟩ := c.t.d.def_ 7 (d := fnL[7]) rfl
  obtain ⟨fdraw_minus, Fraw_minus⟩ := c.t.d.def_ 8 (d := fnL[8]) rfl
  obtain ⟨fdraw_times, Fraw_times⟩ := c.t.d.def_ 9 (d := fnL[9]) rfl
  obtain ⟨fdis_poly, Fis_poly⟩ := c.t.d.def_ 10 (d := fnL[10]) rfl
  obtain ⟨fdrefuse_polys, Frefuse_polys⟩ := c.t.d.def_ 11 (d := fnL[11]) rfl
  obtain ⟨fdpoly_plus, Fpoly_plus⟩ := c.t.d.def_ 12 (d := fnL[12]) rfl
  obtain ⟨fdpoly_minus, Fpoly_minus⟩ := c.t.d.def_ 13 (d := fnL[13]) rfl
  obtain ⟨fdpoly_times, Fpoly_times⟩ := c.t.d.def_ 14 (d := fnL[14]) rfl
  obtain ⟨fdlaw_begin, Flaw_begin⟩ := c.t.d.def_ 15 (d := fnL[15]) rfl
  obtain ⟨fdlaw_take, Flaw_take⟩ := c.t.d.def_ 16 (d := fnL[16]) rfl
  obtain ⟨fdlaw_of, Flaw_of⟩ := c.t.d.def_ 17 (d := fnL[17]) rfl
  obtain ⟨fdlaw_same, Flaw_same⟩ := c.t.d.def_ 18 (d := fnL[18]) rfl
  obtain ⟨fdlaw_primes, Flaw_primes⟩ := c.t.d.def_ 19 (d := fnL[19]) rfl
  obtain ⟨fdlaw_any_prime, Flaw_any_prime⟩ := c.t.d.def_ 20 (d := fnL[20]) rfl
  obtain ⟨fdlaw_trim, Flaw_trim⟩ := c.t.d.def_ 21 (d := fnL[21]) rfl
  obtain ⟨fdlaw_rests, Flaw_rests⟩ := c.t.d.def_ 22 (d := fnL[22]) rfl
  obtain ⟨fdlaw_poly, Flaw_poly⟩ := c.t.d.def_ 23 (d := fnL[23]) rfl
  obtain ⟨fdlaw_blend, Flaw_blend⟩ := c.t.d.def_ 24 (d := fnL[24]) rfl
  obtain ⟨fdlaw_conv, Flaw_conv⟩ := c.t.d.def_ 25 (d := fnL[25]) rfl
  obtain ⟨fdlaw_mul, Flaw_mul⟩ := c.t.d.def_ 26 (d := fnL[26]) rfl
  obtain ⟨fdlaw, Flaw⟩ := c.t.d.def_ 27 (d := fnL[27]) rfl
  have e := hfa.symm.trans (glo_ok X G (c.t.d.fact 30 (f := .glo "law") rfl))
  cases e
  have b := FunD.bindsA (ps := ["_law_script"]) Flaw fun _ _ _ _ _ _ us hl => match us, hl with | [_], _ => rfl
  have T : Fre mg := ⟨free_ok X G (c.t.d.fact 32 (f := .free "len") rfl), free_ok X G (c.t.d.fact 33 (f := .free "abs") rfl), free_ok X G (c.t.d.fact 34 (f := .free "list") rfl), free_ok X G (c.t.d.fact 35 (f := .free "tuple") rfl), free_ok X G (c.t.d.fact 36 (f := .free "int") rfl), free_ok X G (c.t.d.fact 37 (f := .free "bool") rfl), free_ok X G (c.t.d.fact 38 (f := .free "str") rfl), free_ok X G (c.t.d.fact 39 (f := .free "isinstance") rfl), free_ok X G (c.t.d.fact 40 (f := .free "range") rfl), free_ok X G (c.t.d.fact 41 (f := .free "all") rfl), free_ok X G (c.t.d.fact 42 (f := .free "zip") rfl), free_ok X G (c.t.d.fact 43 (f := .free "enumerate") rfl), free_ok X G (c.t.d.fact 44 (f := .free "max") rfl)⟩
  have x1 : RX K mg (kOf K 0) (ma K (ga K "RungError") "__init__") "BadPrime" := ⟨r1, w1, i1, t1, glo_ok X G (c.t.d.fact 0 (f := .glo "BadPrime") rfl)⟩
  have x2 : RX K mg (kOf K 1) (ma K (ga K "RungError") "__init__") "BadPoly" := ⟨r2, w2, i2, t2, glo_ok X G (c.t.d.fact 1 (f := .glo "BadPoly") rfl)⟩
  have mP : mg "PRIMES" = some (.ref (ga K "PRIMES")) := glo_ok X G (c.t.d.fact 3 (f := .glo "PRIMES") rfl)
  have hP : ∀ H, SqT K H (ga K "PRIMES") (primes.map V.int) := fun H => lit_tup H e0
  have mM : ∃ t, mg "MOST_RESTS" = some (.int 25 t) := int_ok X G (c.t.d.fact 31 (f := .int "MOST_RESTS" 25) rfl)
  refine ⟨fdlaw, fun s v => b s [v] rfl, fun base => ?_⟩
  have o_init : FnR P w K mg base (L2.CX P w) 1 (ma K (ga K "RungError") "__init__") (spRI1 K) := o_init0 FRungError___init
  have o_law_begin : Own P w K mg base CX0 1 "_law_begin" ["_law_script"] [] (spBegin K) := own_of Flaw_begin (ok_begin Flaw_begin T) (glo_ok X G (c.t.d.fact 18 (f := .glo "_law_begin") rfl)) (fun _ _ _ _ _ _ us hl => match us, hl with | [_], _ => rfl)
  have o_law_take : Own P w K mg base CX0 1 "_law_take" ["_law_draw", "_law_sides"] [] spTake := own_of Flaw_take (ok_take Flaw_take T) (glo_ok X G (c.t.d.fact 19 (f := .glo "_law_take") rfl)) (fun _ _ _ _ _ _ us hl => match us, hl with | [_, _], _ => rfl)
  have o_law_of : Own P w K mg base CX0 2 "_law_of" ["_law_draw", "_law_row"] [] (spOf K) := own_of Flaw_of (ok_of Flaw_of T o_law_take) (glo_ok X G (c.t.d.fact 20 (f := .glo "_law_of") rfl)) (fun _ _ _ _ _ _ us hl => match us, hl with | [_, _], _ => rfl)
  have o_law_primes : Own P w K mg base CX0 1 "_law_primes" [] [] spPrimes := own_of Flaw_primes (ok_primes Flaw_primes) (glo_ok X G (c.t.d.fact 22 (f := .glo "_law_primes") rfl)) (fun _ _ _ _ _ _ us hl => match us, hl with | [], _ => rfl)
  have o_law_any_prime : Own P w K mg base CX0 3 "_law_any_prime" ["_law_draw"] [] spAnyPrime := own_of Flaw_any_prime (ok_any_prime Flaw_any_prime o_law_of o_law_primes) (glo_ok X G (c.t.d.fact 23 (f := .glo "_law_any_prime") rfl)) (fun _ _ _ _ _ _ us hl => match us, hl with | [_], _ => rfl)
  have o_law_same : Own P w K mg base CX0 3 "_law_same" ["_law_found", "_law_due"] [] (spS K 3) := own_of Flaw_same (ok_same Flaw_same T (glo_ok X G (c.t.d.fact 21 (f := .glo "_law_same") rfl)) 3) (glo_ok X G (c.t.d.fact 21 (f := .glo "_law_same") rfl)) (fun _ _ _ _ _ _ us hl => match us, hl with | [_, _], _ => rfl)
  have o_is_prime : Own P w K mg base CX0 1 "is_prime" ["number"] [] spIsPrime := own_of Fis_prime (ok_is_prime Fis_prime mP hP) (glo_ok X G (c.t.d.fact 4 (f := .glo "is_prime") rfl)) (fun _ _ _ _ _ _ us hl => match us, hl with | [_], _ => rfl)
  have o_is_number : Own P w K mg base CX0 1 "is_number" ["told"] [] spIsNum := own_of Fis_number (ok_is_number Fis_number T) (glo_ok X G (c.t.d.fact 5 (f := .glo "is_number") rfl)) (fun _ _ _ _ _ _ us hl => match us, hl with | [_], _ => rfl)
  have o_is_rest : Own P w K mg base CX0 2 "is_rest" ["told", "prime"] [] spIsRest := own_of Fis_rest (ok_is_rest Fis_rest o_is_number) (glo_ok X G (c.t.d.fact 6 (f := .glo "is_rest") rfl)) (fun _ _ _ _ _ _ us hl => match us, hl with | [_, _], _ => rfl)
  have o_refuse_prime : Own P w K mg base (L2.CX P w) 3 "refuse_prime" ["prime"] [] (spRefP (kOf K 0)) := own_of Frefuse_prime (ok_refuse_prime Frefuse_prime o_is_prime x1 o_init) (glo_ok X G (c.t.d.fact 7 (f := .glo "refuse_prime") rfl)) (fun _ _ _ _ _ _ us hl => match us, hl with | [_], _ => rfl)
  have o_trimmed : Own P w K mg base CX0 1 "trimmed" ["rests"] [] (spTrim K) := own_of Ftrimmed (ok_trimmed Ftrimmed T) (glo_ok X G (c.t.d.fact 8 (f := .glo "trimmed") rfl)) (fun _ _ _ _ _ _ us hl => match us, hl with | [_], _ => rfl)
  have o_law_trim : Own P w K mg base CX0 1 "_law_trim" ["_law_numbers"] [] (spTrim K) := own_of Flaw_trim (ok_law_trim Flaw_trim T) (glo_ok X G (c.t.d.fact 24 (f := .glo "_law_trim") rfl)) (fun _ _ _ _ _ _ us hl => match us, hl with | [_], _ => rfl)
  have o_raw_scaled : Own P w K mg base CX0 2 "raw_scaled" ["one", "rest", "prime"] [] (spScale K) := own_of Fraw_scaled (ok_raw_scaled Fraw_scaled o_trimmed) (glo_ok X G (c.t.d.fact 9 (f := .glo "raw_scaled") rfl)) (fun _ _ _ _ _ _ us hl => match us, hl with | [_, _, _], _ => rfl)
  have o_raw_plus : Own P w K mg base CX0 2 "raw_plus" ["one", "other", "prime"] [] (spPlus K) := own_of Fraw_plus (ok_raw_plus Fraw_plus T o_trimmed) (glo_ok X G (c.t.d.fact 10 (f := .glo "raw_plus") rfl)) (fun _ _ _ _ _ _ us hl => match us, hl with | [_, _, _], _ => rfl)
  have o_raw_minus : Own P w K mg base CX0 3 "raw_minus" ["one", "other", "prime"] [] (spMinus K) := own_of Fraw_minus (ok_raw_minus Fraw_minus o_raw_scaled o_raw_plus) (glo_ok X G (c.t.d.fact 11 (f := .glo "raw_minus") rfl)) (fun _ _ _ _ _ _ us hl => match us, hl with | [_, _, _], _ => rfl)
  have o_raw_times : Own P w K mg base CX0 2 "raw_times" ["one", "other", "prime"] [] (spTimes K) := own_of Fraw_times (ok_raw_times Fraw_times T o_trimmed) (glo_ok X G (c.t.d.fact 12 (f := .glo "raw_times") rfl)) (fun _ _ _ _ _ _ us hl => match us, hl with | [_, _, _], _ => rfl)
  have o_is_poly : Own P w K mg base CX0 3 "is_poly" ["told", "prime"] [] (spIsPoly K) := own_of Fis_poly (ok_is_poly Fis_poly T mM o_is_rest) (glo_ok X G (c.t.d.fact 13 (f := .glo "is_poly") rfl)) (fun _ _ _ _ _ _ us hl => match us, hl with | [_, _], _ => rfl)
  have o_refuse_polys : Own P w K mg base (L2.CX P w) 4 "refuse_polys" ["polys", "prime"] [] (spRefPs K) := own_of Frefuse_polys (ok_refuse_polys (C := kOf K) Frefuse_polys o_refuse_prime o_is_poly x2 o_init) (glo_ok X G (c.t.d.fact 14 (f := .glo "refuse_polys") rfl)) (fun _ _ _ _ _ _ us hl => match us, hl with | [_, _], _ => rfl)
  have o_law_rests : Own P w K mg base CX0 2 "_law_rests" ["_law_draw", "_law_many", "_law_p"] [] spRestsD := own_of Flaw_rests (ok_law_rests Flaw_rests T o_law_take) (glo_ok X G (c.t.d.fact 25 (f := .glo "_law_rests") rfl)) (fun _ _ _ _ _ _ us hl => match us, hl with | [_, _, _], _ => rfl)
  have o_law_poly : Own P w K mg base CX0 3 "_law_poly" ["_law_draw", "_law_most", "_law_p"] [] (spPolyD K) := own_of Flaw_poly (ok_law_poly Flaw_poly T o_law_take o_law_rests o_law_trim) (glo_ok X G (c.t.d.fact 26 (f := .glo "_law_poly") rfl)) (fun _ _ _ _ _ _ us hl => match us, hl with | [_, _, _], _ => rfl)
  have o_law_blend : Own P w K mg base CX0 2 "_law_blend" ["_law_one", "_law_other", "_law_weight", "_law_p"] [] (spBlend K) := own_of Flaw_blend (ok_law_blend Flaw_blend T o_law_trim) (glo_ok X G (c.t.d.fact 27 (f := .glo "_law_blend") rfl)) (fun _ _ _ _ _ _ us hl => match us, hl with | [_, _, _, _], _ => rfl)
  have o_law_conv : Own P w K mg base CX0 1 "_law_conv" ["_law_one", "_law_other", "_law_p"] [] (spConv K) := own_of Flaw_conv (ok_law_conv Flaw_conv T) (glo_ok X G (c.t.d.fact 28 (f := .glo "_law_conv") rfl)) (fun _ _ _ _ _ _ us hl => match us, hl with | [_, _, _], _ => rfl)
  have o_law_mul : Own P w K mg base CX0 2 "_law_mul" ["_law_one", "_law_other", "_law_p"] [] (spMul K) := own_of Flaw_mul (ok_law_mul Flaw_mul o_law_conv o_law_trim) (glo_ok X G (c.t.d.fact 29 (f := .glo "_law_mul") rfl)) (fun _ _ _ _ _ _ us hl => match us, hl with | [_, _, _], _ => rfl)
  have G_poly_plus : FnOk P w K mg base (L2.CX P w) 5 (ga K "poly_plus") fdpoly_plus ["one", "other", "prime"] (spPoly K gPlus) := ok_poly_plus Fpoly_plus o_refuse_polys o_raw_plus
  have k_poly_plus : OwnK P w K mg base (L2.CX P w) 5 2 "poly_plus" ["one", "other", "prime"] ["prime"] (spPoly K gPlus) := own_ofK Fpoly_plus G_poly_plus (glo_ok X G (c.t.d.fact 15 (f := .glo "poly_plus") rfl)) (fun _ _ _ _ _ _ us ws hl hk => match us, hl, ws, hk with | [_, _], _, [_], _ => rfl)
  have o_poly_plus : Own P w K mg base (L2.CX P w) 5 "poly_plus" ["one", "other", "prime"] [.int 2] (spPoly K gPlus) := own_of0 Fpoly_plus G_poly_plus (glo_ok X G (c.t.d.fact 15 (f := .glo "poly_plus") rfl)) 2 (by intro z; cases z) rfl (fun D _ _ _ _ _ us ks hl hk => match us, hl, ks, hk with | [_, _], _, [_], _ => ⟨_, _, _, _, _, _, rfl, rfl, rfl⟩)
  have G_poly_minus : FnOk P w K mg base (L2.CX P w) 5 (ga K "poly_minus") fdpoly_minus ["one", "other", "prime"] (spPoly K gMinus) := ok_poly_minus Fpoly_minus o_refuse_polys o_raw_minus
  have k_poly_minus : OwnK P w K mg base (L2.CX P w) 5 2 "poly_minus" ["one", "other", "prime"] ["prime"] (spPoly K gMinus) := own_ofK Fpoly_minus G_poly_minus (glo_ok X G (c.t.d.fact 16 (f := .glo "poly_minus") rfl)) (fun _ _ _ _ _ _ us ws hl hk => match us, hl, ws, hk with | [_, _], _, [_], _ => rfl)
  have o_poly_minus : Own P w K mg base (L2.CX P w) 5 "poly_minus" ["one", "other", "prime"] [.int 2] (spPoly K gMinus) := own_of0 Fpoly_minus G_poly_minus (glo_ok X G (c.t.d.fact 16 (f := .glo "poly_minus") rfl)) 2 (by intro z; cases z) rfl (fun D _ _ _ _ _ us ks hl hk => match us, hl, ks, hk with | [_, _], _, [_], _ => ⟨_, _, _, _, _, _, rfl, rfl, rfl⟩)
  have G_poly_times : FnOk P w K mg base (L2.CX P w) 5 (ga K "poly_times") fdpoly_times ["one", "other", "prime"] (spPoly K gTimes) := ok_poly_times Fpoly_times o_refuse_polys o_raw_times
  have k_poly_times : OwnK P w K mg base (L2.CX P w) 5 2 "poly_times" ["one", "other", "prime"] ["prime"] (spPoly K gTimes) := own_ofK Fpoly_times G_poly_times (glo_ok X G (c.t.d.fact 17 (f := .glo "poly_times") rfl)) (fun _ _ _ _ _ _ us ws hl hk => match us, hl, ws, hk with | [_, _], _, [_], _ => rfl)
  have o_poly_times : Own P w K mg base (L2.CX P w) 5 "poly_times" ["one", "other", "prime"] [.int 2] (spPoly K gTimes) := own_of0 Fpoly_times G_poly_times (glo_ok X G (c.t.d.fact 17 (f := .glo "poly_times") rfl)) 2 (by intro z; cases z) rfl (fun D _ _ _ _ _ us ks hl hk => match us, hl, ks, hk with | [_, _], _, [_], _ => ⟨_, _, _, _, _, _, rfl, rfl, rfl⟩)
  exact ok_law Flaw T o_law_begin o_law_take o_law_of o_law_any_prime o_law_poly o_law_blend o_law_mul o_law_same k_poly_plus o_poly_plus k_poly_minus o_poly_minus k_poly_times o_poly_times
end
end Xk
end
set_option Elab.async false
set_option linter.all false
set_option maxRecDepth 100000
set_option maxHeartbeats 0
open PySem PySem.W PySem.Calls PyProof.Rows
theorem PySem.Challenge.cw_rungfields_k02_sums_and_products_holds : PySem.Challenge.rw_rungfields_k02_sums_and_products.Holds := by
  w_on; o_law
  refine HandSHeadRun.head_any (r := OpenLaw.row PySem.Challenge.rw_rungfields_k02_sums_and_products) (q := view (OpenLaw.row PySem.Challenge.rw_rungfields_k02_sums_and_products).prog [37]) (H := Xk.hk) (ob := Xk.ob) (M := 6000) (loose := Xk.loL) (d := HandSHeadRun.topDef (OpenLaw.row PySem.Challenge.rw_rungfields_k02_sums_and_products).prog 37) (kwd := []) Xk.ob_eq
    (by kernel_rfl) (fun s => by kernel_rfl) Xk.run (by kernel_rfl) (by kernel_rfl) (by kernel_rfl) (by rfl) (by first | assumption | decide +kernel) (by decide +kernel) ⟨rfl, rfl, rfl, rfl, rfl, by decide +kernel⟩ ?hw ?hc
  case hw => w_witness2
  case hc =>
    refine LamX.walk_ofTsE (l := PySem.Challenge.rw_rungfields_k02_sums_and_products) (n := 63) (k := 6) (x := "_law_script") (CX := fun _ => L2.CX0) rfl (by decide) (by kernel_rfl) ⟨rfl, by decide, by decide⟩ ?F (fun _ _ _ _ _ z => z)
    intro w mg fa h Y G hmg0
    obtain ⟨K, KX, c⟩ := Y
    have hmg : mg ("law" : PySem.Str) = some (.ref fa) := by
      have e : (HandSHeadRun.topDef (OpenLaw.row PySem.Challenge.rw_rungfields_k02_sums_and_products).prog 37).name = ("law" : PySem.Str) := by kernel_rfl
      rw [← e]
      exact hmg0
    obtain ⟨fd, hb, hF⟩ := Xk.facts (P := (PySem.Challenge.rw_rungfields_k02_sums_and_products).prog) (w := w) KX G hmg c
    refine ⟨K, KX, fd, [], Xk.spLaw K, (fun p hp => absurd hp List.not_mem_nil), (fun p hp => absurd hp List.not_mem_nil), (fun p hp => absurd hp List.not_mem_nil), hb, ?_, ?_⟩
    · intro H a ns hl _ hT hS
      exact ⟨a, ns, rfl, hS, fun _ => rfl⟩
    · intro base _ _ _
      exact hF base
