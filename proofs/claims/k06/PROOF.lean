import PyProof.Rows.All
import Wide.All
import OpenK.AllK
import Wide.FinOn
import KE.KTypeName
import KE.KTryMore
import HandS.ForMost
import HandS.ForExc
import HandS.ExcInit
import HandS.ExcIs
import HandS.ExcField
import HandS.Star
import HandS.Defaults
import HandS.TryMany
import HandS.Lambda
import HandS.EndTab
import HandS.IsInst
import HandS.Wide
import HandS.WideMore
import HandS.Codes
import HandS.Flow
import HandS.Zip
import HandS.Walk
import HandS.Iter
import KE.GoesEnum
import PySem.Challenge.RW_rungfields_k06_texts_of_polynomials
import HandS.Nested
import KE.KEqSeq
import HandS.Text
import HandS.StrMore
import HandS.FStr
import HandS.ClsMeth
import HandS.TupMul
import HandS.TupAny
import HandS.Conv
import PyProof.ListStr
import PyProof.StrOps2
import PyProof.Rows.StrOver
import HandS.More
import HandS.TryOnly
import HandS.Head0
import HandS.Head1
import HandS.Head2
import HandS.HeadHook1
import HandS.HeadHook2
import HandS.HeadHook3
import HandS.HeadHook4
import HandS.HeadWalk
import HandS.HeadEnd
section
set_option Elab.async false
set_option linter.all false
set_option maxRecDepth 100000
set_option maxHeartbeats 2000000
/-! An own exception in the making: `self.__class__.__name__`. -/
namespace Xh
open PySem PySem.W PySem.Calls PyProof.Rows PySem.HandSPX Builtin Builtin.ObjectAttr Builtin.Getset_descriptor
section
variable {prog : Program} {w : World} {A : Around} {E : Value → Shared → Prop} {R : Result → Shared → Prop} {s : Shared} {K : Frag} {x D : Addr} {ox : Obj}
/-- x.__class__ of an exception without a dict of its own as yet -/
theorem exc_class {expr : Bool} {Q : Value → Shared → Prop} (hga : findIn K (.ref D) "__getattribute__" = some (some (.builtin "BaseException.__getattribute__"))) (hgt : findIn K (.ref D) "__getattr__" = some none) (hsub : subIn K (.ref D) (.type "BaseException") = some true)
    (hdct : hasDictIn K D = true) (ha : findIn K (.ref D) "__class__" = some (some (.builtin "object.__class__")))
    (hn : specialIn K (.builtin "object.__class__") "__get__" = some (some (.builtin "getset_descriptor.__get__"))) (htk : takesIn K (.builtin "object.__class__") = some true) (hm : mroIn K D (.type "object") = some true)
    (X : K.In s.heap) (I : InstAt s.heap x ox D none) (h : Q (.ref D) { s with toks := s.toks + 1 }) : wpAny (model prog w) A (getAttr (.ref x) "__class__" expr) Q E s := by
  have hf : findObj K D none "__class__" = some (.bind (.builtin "getset_descriptor.__get__") (.builtin "object.__class__")) := findObj_dataN (by obtain ⟨cd, hc, _⟩ := any_some hdct; rw [hc]; rfl) ha hn htk
  obtain ⟨hp, g, d, t, os⟩ := s
  have L0 := I.type (M := model prog w)
  have L1 := looks_findIn (M := model prog w) X hga
  have L2 := looks_findIn (M := model prog w) X hgt
  have L3 := looks_find (M := model prog w) X I hf
  have sub : Looks (model prog w) hp (isInstance (.ref x) (.type "BaseException")) true := L0.andThen (looks_subIn X hsub)
  have hx0 : (expr && onTheHeap (Value.builtin "BaseException.__getattribute__")) = false := by cases expr <;> rfl
  have hx2 : (Value.builtin "BaseException.__getattribute__" == Value.builtin "object.__getattribute__") = false := by decide +kernel
  have hx1 : (onTheHeap (Value.ref D) && Value.builtin "BaseException.__getattribute__" == Value.builtin "object.__getattribute__") = false := by rw [hx2]; rfl
  unfold getAttr getAttrBy
  refine wpAny_bind (wpAny_mkText (wpAny_holding (wpAny_bind (L0.at (wpAny_bind (L1.at ?_))))))
  show wpAny _ _ (if (onTheHeap (Value.ref D) && Value.builtin "BaseException.__getattribute__" == Value.builtin "object.__getattribute__") = true then _ else _) _ _ _
  rw [hx1, if_neg Bool.false_ne_true]
  unfold getAttrByItsOwn hookBefore
  refine wpAny_bind ?_
  rw [if_pos (show onTheHeap (Value.ref D) = true from rfl)]
  refine L2.at ?_
  refine wpAny_bind (wpAny_attempt (wpAny_holding ?_))
  unfold callGetattribute
  rw [hx0, if_neg Bool.false_ne_true]
  unfold boundAndCalled
  rw [PySem.F.excAttr_ValueError.ga.bind (.ref x)]
  refine wpAny_bind (wpAny_pure ?_)
  show wpAny _ _ (call (.builtin "BaseException.__getattribute__") [.ref x, .str "__class__" t]) _ _ _
  refine wpAny_call (codeAny_call_builtin PySem.F.excAttr_ValueError.ga.plain PySem.F.entry_bexc_ga ?_)
  refine @check_slot (model prog w) _ _ ⟨hp, g, d, t + 1, os⟩ "BaseException.__getattribute__" "BaseException" "__getattribute__" (.ref x) [.str "__class__" t] [] _ (by decide +kernel) (by decide +kernel) sub (PySem.F.args_bexc_ga (.ref x) (.str "__class__" t)) ?_
  unfold Builtin.«object.__getattribute__»
  refine wpAny_bind (wpAny_of_eq (a := ((Value.ref x : Value), [Value.str "__class__" t])) (by first | rfl | (simp only [slotArgs]; rfl)) ?_)
  refine wpAny_bind (wpAny_pure (wpAny_bind (L0.at (wpAny_bind (L3.at ?_)))))
  show wpAny _ _ (holding [Value.builtin "object.__class__"] (call (.builtin "getset_descriptor.__get__") [.builtin "object.__class__", .ref x, .ref D]) >>= ret) _ _ _
  refine wpAny_bind (wpAny_holding (wpAny_call (class_get (s := ⟨hp, g, d, t + 1, os⟩) (ox := ox) (od := none) X I hm ?_)))
  refine wpAny_pure ?_
  show wpAny _ _ (handedOut (.ref D)) _ _ _
  rw [handedOut_of (v := .ref D) rfl]
  exact wpAny_pure h
/-- type.__name__ of an own class: what its third slot holds -/
theorem name_get {C : Addr} {tp : Value} {cd : ClassData} {dd : Option Addr} {sl : Array (Option Value)} {v : Value} (hC : K.lookup C = some ⟨.type "type", dd, .cls cd, sl⟩) (hs : (sl[2]?).join = some v) (X : K.In s.heap)
    (h : R (.ok (.ret v)) s) : codeAny (model prog w) A (.call (.builtin "getset_descriptor.__get__") ⟨[.builtin "type.__name__", .ref C, tp], []⟩) R s := by
  obtain ⟨hh, g, dr, t, os⟩ := s
  have hg := X _ _ hC
  have L0 : Looks (model prog w) hh (typeOf (.ref C)) (.type "type") := fun A Q E s k q => wpAny_typeOf_ref (k _ _ hg) q
  have L1 : Looks (model prog w) hh (isSubtype (.type "type") (.type "type")) true := Looks.of_pure (by rw [isSubtype_type]; kernel_rfl)
  refine codeAny_call_builtin KF.slot_gs.plain KF.entry_gs (KF.slot_gs.check _ _ _ _ _ _ _ _ ktyn_type (KF.args_gs _ _ _) ?_)
  unfold Builtin.«getset_descriptor.__get__» descrGet
  rw [dga_obj]
  refine wpAny_bind (wpAny_pure ?_)
  unfold descrGetter descrCheckInstance descrNameAndClass isInstance
  simp only [ktyn_owner]
  repeat lk
  refine ⟨Code.quiet_builtin _ (by decide +kernel), codeAny_builtin ktyn_entry ?_⟩
  unfold Builtin.«type.__name__»
  dsimp only
  unfold keptObject slotAt
  dsimp only
  refine wpAny_bind (wpAny_bind (wpAny_loadPart hg ?_))
  refine wpAny_pure ?_
  dsimp only
  rw [hs]
  dsimp only
  exact wpAny_pure h
/-- C.__name__, C an own class -/
theorem cls_name {C : Addr} {cd : ClassData} {dd : Option Addr} {sl : Array (Option Value)} {v : Value} {expr : Bool} {Q : Value → Shared → Prop} (hC : K.lookup C = some ⟨.type "type", dd, .cls cd, sl⟩) (hs : (sl[2]?).join = some v) (hv : handedIn v = true)
    (hr : readsIn K C (.type "type") = true) (e : findCls K (.ref C) (.type "type") "__name__" = some (.get (.builtin "getset_descriptor.__get__") (.builtin "type.__name__") (.ref C) (.type "type")))
    (X : K.In s.heap) (h : Q v { s with toks := s.toks + 1 }) : wpAny (model prog w) A (getAttr (.ref C) "__name__" expr) Q E s :=
  cls_bind X hr e (wpAny_call (name_get hC hs X (handed_on hv h)))
end
end Xh
namespace L2
open PySem PySem.Spec PyProof.Rows
/-- what the written part says of an own exception class C of the name nm -/
structure RC (K : PySem.W.Frag) (C : Addr) (nm : Str) : Prop where
  o : OexC K C
  x : ExcC K C
  rd : PySem.W.readsIn K C (.type "type") = true
  fn : PySem.W.findCls K (.ref C) (.type "type") "__name__" = some (.get (.builtin "getset_descriptor.__get__") (.builtin "type.__name__") (.ref C) (.type "type"))
  nm : ∃ cd dd sl t, K.lookup C = some ⟨.type "type", dd, .cls cd, sl⟩ ∧ (sl[2]?).join = some (.str nm t)
section
variable {X : Cx} {o : Expr} {to : TE} {p q : Pos}
/-- e.__class__.__name__, e an exception in the making, without a dict as yet -/
def tClsNm (K : PySem.W.Frag) (to : TE) : TE := fun σ H Q => to σ H fun x H1 => ∃ (a C : Addr) (nm : Str), x = .ref a ∧ RC K C nm ∧ H1 a = some (exo a C none) ∧ Q (.str nm) H1
theorem pe_clsnm (ho : PE X o to) (h1 : attributeBase o "__class__" X.env (eval o X.env) = eval o X.env := by rfl)
    (h2 : attributeBase (.Attribute o "__class__" p) "__name__" X.env (eval (.Attribute o "__class__" p) X.env) = eval (.Attribute o "__class__" p) X.env := by rfl) :
    PE X (.Attribute (.Attribute o "__class__" p) "__name__" q) (tClsNm X.K to) := by
  refine ⟨fun pins s σ H Q I h => ?_⟩
  refine attr_of h2 (attr_of h1 (thn (ho.run pins s σ H _ I h) fun u s1 hh => ?_))
  obtain ⟨x, H1, I1, rx, a, C, nm, ex, T, ha, q⟩ := hh
  subst ex
  obtain rfl : u = Value.ref a := rx
  obtain ⟨t1, hg⟩ := exo_at I1.hok ha
  obtain ⟨cd, dd, sl, t, hC, hs⟩ := T.nm
  have J : PySem.W.InstAt s1.heap a { cls := .ref C, dict := none, data := .fields #[.ref t1, .none, .none, .none, .bool false, .none] } C none := ⟨hg, rfl, rfl, trivial⟩
  refine Xh.exc_class T.x.hg T.x.hk T.x.hs T.x.hd T.x.ha T.x.hn T.x.ht T.x.hm I1.kIn J ?_
  have I2 := I1.tok (s1.toks + 1)
  refine Xh.cls_name hC hs rfl T.rd T.fn I2.kIn ?_
  exact ⟨.str nm, H1, I2.tok _, ⟨t, rfl⟩, q⟩
end
end L2
end
section
set_option Elab.async false
set_option linter.all false
set_option maxRecDepth 100000
set_option maxHeartbeats 2000000
namespace L2
open PySem PySem.Spec PyProof.Rows
/-! ### RungError.__init__(self, *told): self.word = self.__class__.__name__ -/
/-- C() where C's __init__ takes only what is left over -/
def tMkO0 (C : Addr) (sp : Sp) : St → Hp → XK → Prop := fun σ H Q => ∀ a, H a = none → sp [.ref a] (upd H a (exo a C none))
  (fun v H2 => v = .non ∧ ∃ (d : Addr) (fs : List (Str × V)), H2 a = some (exo a C (some d)) ∧ H2 d = some (exd d fs) ∧ H d = none ∧ Q (.ref C) (some d) (upd (del H2 a) d (.xd fs))) (fun _ _ _ => False)
section
variable {X : Cx} {p pos : Pos}
theorem pmk_oex0 {CX : CXT} {x : Str} {C fI : Addr} {k : Nat} {sp : Sp} (T : OexC X.K C) (iC : PySem.W.findIn X.K (.ref C) "__init__" = some (some (.ref fI))) (tI : PySem.W.typeIn X.K (.ref fI) = some (.type "function"))
    (F1 : FnR X.prog X.w X.K X.mg X.base CX k fI sp) (hr : Room (k + 1) X.A) (hx : Passes CX X (fun _ _ _ => False)) (hg : Gl X x) (hm : X.mg x = some (.ref C))
    (hdb : (x == ("__debug__" : Str)) = false := by decide) :
    PMk X (.Call (.Name x p) [] [] pos) (tMkO0 C sp) := by
  intro pins s σ H Q I h
  obtain ⟨nm, q, N, bs, bm, sn, sub, ab, col, dd, k0, k1, k2, k3, k5, hC, hbm⟩ := T.cls
  refine wpAny_Call_Name_kw (ld_glob I hg hm ?_ hdb)
  refine PySem.W.callWith_K0 I.kIn T.kC ?_
  show wpAny _ _ (call (.ref C) []) _ _ _
  obtain ⟨hp, g, dr, tk, os⟩ := s
  have hsz : hp.objs.size ≤ hp.objs.size + 1 := Nat.le_succ _
  have hn : H (hp.objs.size + 1) = none := I.hok.fresh hsz
  have hq := h (hp.objs.size + 1) hn
  have kk : ∀ b o, hp.get? b = some o → ((hp.push (PySem.W.kdv_tup [])).push (PySem.HandSPX.excO C hp.objs.size)).get? b = some o := fun b o e => Heap.get?_push_of_some _ (Heap.get?_push_of_some _ e)
  have hget : ((hp.push (PySem.W.kdv_tup [])).push (PySem.HandSPX.excO C hp.objs.size)).get? (hp.objs.size + 1) = some (PySem.HandSPX.excO C hp.objs.size) := by heap_get
  have I2 : Inv X pins σ (upd H (hp.objs.size + 1) (exo (hp.objs.size + 1) C none)) ⟨(hp.push (PySem.W.kdv_tup [])).push (PySem.HandSPX.excO C hp.objs.size), g, dr, tk, os⟩ :=
    I.laid (t' := tk) (a := hp.objs.size + 1) (o := exo (hp.objs.size + 1) C none) (h' := (hp.push (PySem.W.kdv_tup [])).push (PySem.HandSPX.excO C hp.objs.size)) kk hsz (exo_ok hget)
  have r2 : Vals [V.ref (hp.objs.size + 1)] [Value.ref (hp.objs.size + 1)] := .cons rfl .nil
  refine wpAny_call (PySem.HandSPX.call_own F.excBase_ValueError (fun Y => PySem.HandSPX.refsVE_contains Y bm hbm) (I.kIn _ _ hC) (PySem.W.looks_findIn I.kIn iC) (fun self => PySem.W.bind_fn I.kIn self tI) (by rw [sizeLine_eq]; exact Nat.zero_le _)
    (codeAny_mono (F1 _ X.stack _ _ [Value.ref (hp.objs.size + 1)] [V.ref (hp.objs.size + 1)] _ (fun _ _ _ => False) (hr.make C [] []) (I2.env0.make C [] []) r2 hq) fun r s' hq' => ?_))
  cases r with
  | error er => exact hx pins σ _ _ er s' I2 hq'
  | ok fl =>
    cases fl with
    | ret u =>
      obtain ⟨v, H2, os2, bare2, un2, hok2, rv, ev, d, fs, ea, ed, hd1, q2⟩ := hq'
      subst ev
      obtain ⟨h2, g2, d2, t2, os'⟩ := s'
      exact ⟨rv, mk_end (raises_own T.exC T.tyC) I hsz kk un2 hok2 os2 bare2 ea ed hd1 q2⟩
    | next => exact False.elim hq'
    | brk => exact False.elim hq'
    | cont => exact False.elim hq'
end
end L2
namespace Xh
open PySem PySem.Spec PyProof.Rows L2
/-- what RungError.__init__ promises: self an exception in the making, told a new tuple -/
def spRI (K : PySem.W.Frag) : Sp := fun vs H Q E => ∃ (a p C : Addr) (nm : Str), vs = [.ref a, .ref p] ∧ RC K C nm ∧ PySem.W.findIn K (.ref C) "word" = some none ∧ H a = some (exo a C none) ∧
  ∀ dx, H dx = none → dx ≠ a → Q .non (upd (upd H dx (exd dx [("word", .str nm)])) a (exo a C (some dx)))
/-- .. as it is called -/
def spRI1 (K : PySem.W.Frag) : Sp := fun vs H Q E => ∃ (a C : Addr) (nm : Str), vs = [.ref a] ∧ RC K C nm ∧ PySem.W.findIn K (.ref C) "word" = some none ∧ H a = some (exo a C none) ∧
  ∀ H1 dx, H dx = none → dx ≠ a → Same H H1 → H1 dx = none → Q .non (upd (upd H1 dx (exd dx [("word", .str nm)])) a (exo a C (some dx)))
section
variable {P : Program} {w : World} {K : PySem.W.Frag} {mg : Str → Option Value} {base : Heap}
theorem ok_rinit {st : Stmt} {f : Addr} {fd : FuncData} (F : FunD K "__init__" "RungError.__init__" (defArgs st) (defBody st) (defScope st) [] [] f fd) (S : FnScope (["self", "told"] : List Str) ["self", "told"] (defScope st))
    (hb : ∀ (kV doc pm : Value) (an : Option Addr) (cdv ct : Value) (us rest : List Value), us.length = ["self"].length → bindArgs (PySem.W.fnOf "__init__" "RungError.__init__" (defArgs st) (defBody st) (defScope st) .none kV doc pm an cdv ct) ⟨us ++ rest, []⟩ = (newTuple rest >>= fun t => pure ((["self"] : List Str).zip us ++ [(("told" : Str), t)])))
    (body : ∀ X : Cx, X.K = K → X.N = (["self", "told"] : List Str) → X.env.scope = defScope st → PSs X (defBody st) (tOst K "word" (tVar 0) (tClsNm K (tVar 0)))) : FnR P w K mg base (L2.CX P w) 1 f (spRI1 K) := by
  obtain ⟨oc, od, dV, kV, doc, pm, an, cdv, ct, osl, rfl, lk, hcd, hD, _⟩ := F.ex
  rcases hD with ⟨_, rfl⟩ | ⟨e, _⟩
  case inr => exact absurd rfl e
  have G := StX.fn_star (CX := L2.CX P w) (P := P) (w := w) (mg := mg) (base := base) (k := 0) (ps := ["self"]) (pv := "told") (N := ["self", "told"]) (sp := spRI K) lk hcd S StX.cxUp (hb kV doc pm an cdv ct) (fun A outer s H vs Q E hr h => ?_)
  · intro A outer s H us vs Q E hr e0 r h
    obtain ⟨a, C, nm, rfl, T, hw, ha, k⟩ := h
    refine G A outer s H us _ Q E hr e0 r ⟨[.ref a], [], rfl, rfl, by rw [sizeLine_eq]; exact Nat.zero_le _, fun p hp => ⟨a, p, C, nm, rfl, T, hw, by rw [upd_ne (ne_of_none ha hp)]; exact ha, fun dx hdx hne => ?_⟩⟩
    have hdp : dx ≠ p := fun z => by rw [z, upd_same] at hdx; cases hdx
    refine k _ dx (by rw [upd_ne hdp] at hdx; exact hdx) hne (fun b o e => by rw [upd_ne (ne_of_none e hp)]; exact e) hdx
  · obtain ⟨a, p, C, nm, rfl, T, hw, ha, k⟩ := h
    refine ⟨_, body _ rfl rfl rfl, ?_⟩
    refine ⟨_, rfl, a, C, nm, rfl, T, ha, _, rfl, a, C, rfl, T.o, hw, .inl ⟨ha, fun dx hdx hne => k dx hdx hne⟩⟩
/-- a class whose objects RungError.__init__ alone makes -/
structure RX (K : PySem.W.Frag) (mg : Str → Option Value) (C fI : Addr) (nm : Str) : Prop where
  c : RC K C nm
  w : PySem.W.findIn K (.ref C) "word" = some none
  i : PySem.W.findIn K (.ref C) "__init__" = some (some (.ref fI))
  t : PySem.W.typeIn K (.ref fI) = some (.type "function")
  g : mg nm = some (.ref C)
/-- raise C(): its word -/
def tMkR (C : Addr) (nm : Str) : L2.St → Hp → XK → Prop := fun _ H Q => ∀ (d : Addr) (H' : Hp), Same H H' → H' d = some (.xd [("word", .str nm)]) → H d = none → Q (.ref C) (some d) H'
theorem pmk_rung {X : Cx} {C fI : Addr} {nm : Str} {p pos : Pos} (T : RX X.K X.mg C fI nm) (F : FnR X.prog X.w X.K X.mg X.base (L2.CX X.prog X.w) 1 fI (spRI1 X.K)) (hr : Room 2 X.A) (hg : Gl X nm) (hdb : (nm == ("__debug__" : Str)) = false := by decide) :
    PMk X (.Call (.Name nm p) [] [] pos) (tMkR C nm) := by
  intro pins s σ H Q I h
  refine pmk_oex0 T.c.o T.i T.t F hr passL hg T.g hdb pins s σ H Q I fun a ha => ?_
  refine ⟨a, C, nm, rfl, T.c, T.w, upd_same, fun H1 dx hdx hne hs h1 => ⟨rfl, dx, _, upd_same, by rw [upd_ne hne, upd_same], by rw [upd_ne hne] at hdx; exact hdx, ?_⟩⟩
  have hdx' : H dx = none := by rw [upd_ne hne] at hdx; exact hdx
  refine h dx _ (fun b o e => ?_) upd_same hdx'
  have h2 : b ≠ a := ne_of_none e ha
  have h3 : b ≠ dx := ne_of_none e hdx'
  rw [upd_ne h3, del_ne h2, upd_ne h2, upd_ne h3]
  exact hs b o (by rw [upd_ne h2]; exact e)
end
end Xh
end
section
set_option Elab.async false
set_option linter.all false
set_option maxRecDepth 100000
set_option maxHeartbeats 2000000
/-! several except clauses, each with a class or a tuple of classes, with or without a name -/
namespace Xh
open PySem PySem.Spec PyProof.Rows L2
/-- what a clause's test tells: its classes -/
def TestE (X : Cx) (te : Expr) (cs : List Value) : Prop :=
  ∀ (a : Addr) (pn : List (Addr × Obj)) (s : Shared) (σ : L2.St) (H : Hp) (cls : Value) (b : Bool), Inv (X.suite a pn) [] σ H s → PySem.W.Looks (model X.prog X.w) s.heap (typeOf (.ref a)) cls → PySem.W.exmAny X.K cls cs = some b →
    ∀ (Q : Bool → Shared → Prop) (E : Value → Shared → Prop), (∀ (h' : Heap) (tk : Nat), (∀ c o, s.heap.get? c = some o → h'.get? c = some o) → Q b { s with heap := h', toks := tk }) →
      wpAny (model X.prog X.w) (X.A.mark (some (.ref a))) (eval te X.env) (fun c s₁ => wpAny (model X.prog X.w) (X.A.mark (some (.ref a))) (excMatches (.ref a) c) Q E s₁) E s
theorem testName {X : Cx} {x : Str} {c : Value} {np : Pos} (hc : Names X x c) : TestE X (.Name x np) [c] := by
  intro a pn s σ H cls b I LT hx Q E hq
  obtain ⟨b1, d1, h1, h2, h3⟩ := PySem.W.exmAny_cons hx
  have e2 : d1 = false := (Option.some.inj h2).symm
  subst e2
  rw [Bool.or_false] at h3
  subst h3
  have LM := PySem.W.exm_one (M := model X.prog X.w) I.kIn LT h1
  have q : Q b s := by
    obtain ⟨hp, g, d, tk, os⟩ := s
    exact hq hp tk fun _ _ e => e
  obtain ⟨hg, hdbg, hm | ⟨hm, hv, hnn⟩⟩ := hc
  · exact ld_glob (X := X.suite a pn) I hg hm (LM.here q) hdbg
  · exact ld_blt (X := X.suite a pn) I hg hm hv (LM.here q) hnn hdbg
theorem testTup2 {X : Cx} {x y : Str} {C D : Addr} {p1 p2 pos : Pos} {k} (hx : Gl X x) (hmx : X.mg x = some (.ref C)) (hy : Gl X y) (hmy : X.mg y = some (.ref D)) (hdx : (x == ("__debug__" : Str)) = false := by decide) (hdy : (y == ("__debug__" : Str)) = false := by decide) :
    TestE X (.Tuple [.Name x p1, .Name y p2] k pos) [.ref C, .ref D] := by
  intro a pn s σ H cls b I LT hb Q E hq
  obtain ⟨hp, g, d, tk, os⟩ := s
  refine wpAny_Tuple_spliced ?_
  show wpAny _ _ (spliced ((false, eval (.Name x p1) X.env) :: (false, eval (.Name y p2) X.env) :: [])) _ _ _
  refine Calls.spliced_cons (ld_glob (X := X.suite a pn) I hx hmx (Calls.spliced_cons (ld_glob (X := X.suite a pn) I hy hmy (Calls.spliced_nil ⟨by rw [sizeLine_eq]; exact (by decide : 2 ≤ 16777216), ?_⟩) hdy)) hdx)
  have kk : ∀ b o, hp.get? b = some o → (hp.push ({ cls := .type "tuple", data := .seq [Value.ref C, Value.ref D].toArray } : Obj)).get? b = some o := fun b o e => Heap.get?_push_of_some _ e
  have LM := PySem.W.exm_tup2 (M := model X.prog X.w) (K := X.K) (I.kIn.keeps kk) (LT.keeps kk) (Heap.get?_push_size _ rfl) hb
  exact LM.here (hq _ tk kk)
/-- a clause: its test, its name's slot (if any), its suite -/
abbrev Cl : Type := List Value × Option Nat × (Addr → Value → Option Addr → TS)
/-- the ends behind a suite: the clause's name is gone -/
def outOf (D : Ends) : Option Nat → Ends
  | none => D
  | some i => { nx := fun σ' H' => D.nx (σ'.set i none) H', rt := D.rt, bk := fun σ' H' => D.bk (σ'.set i none) H', ct := fun σ' H' => D.ct (σ'.set i none) H' }
def intoS (σ : L2.St) (a : Addr) : Option Nat → L2.St
  | none => σ
  | some i => σ.set i (some (.ref a))
/-- what the clauses wish of an exception of the body, one after the other -/
def wClauses (K : PySem.W.Frag) (Wout : WX) (D : Ends) : List Cl → WX
  | [] => Wout
  | (cs, n, ts) :: r => fun cls d σ H => ∃ b, PySem.W.exmAny K cls cs = some b ∧ (b = true → ∀ a, H a = none → ts a cls d (outOf D n) (intoS σ a n) H) ∧ (b = false → wClauses K Wout D r cls d σ H)
inductive ClsOk (X : Cx) : List ExceptHandler → List Cl → Prop
  | nil : ClsOk X [] []
  | cons {te : Expr} {cs : List Value} {ts : Addr → Value → Option Addr → TS} {b₀ : Stmt} {suite : List Stmt} {pos' : Pos} {hds : List ExceptHandler} {l : List Cl} (hc : TestE X te cs)
      (hsu : ∀ (a : Addr) (oe : Obj) (cls : Value) (d : Option Addr) (pn : List (Addr × Obj)), Zc cls d oe → (∃ vs, oe.data = .fields vs) → PSs (X.suite a ((a, oe) :: pn)) (b₀ :: suite) (ts a cls d)) (r : ClsOk X hds l) :
      ClsOk X (.ExceptHandler (some te) none (b₀ :: suite) pos' :: hds) ((cs, none, ts) :: l)
  | as {te : Expr} {cs : List Value} {ts : Addr → Value → Option Addr → TS} {b₀ : Stmt} {suite : List Stmt} {pos' : Pos} {hds : List ExceptHandler} {l : List Cl} {n : Str} {i : Nat} (hc : TestE X te cs) (hi : X.N[i]? = some n) (hln : X.env.kindOf n = some .local)
      (hsu : ∀ (a : Addr) (oe : Obj) (cls : Value) (d : Option Addr) (pn : List (Addr × Obj)), Zc cls d oe → (∃ vs, oe.data = .fields vs) → PSs (X.suite a ((a, oe) :: pn)) (b₀ :: suite) (ts a cls d)) (r : ClsOk X hds l) :
      ClsOk X (.ExceptHandler (some te) (some n) (b₀ :: suite) pos' :: hds) ((cs, some i, ts) :: l)
theorem flying_keeps {base h h' : Heap} {l : List Env} {e : Addr} {Z : Obj → Prop} (x : HandSPX.FlyingZ base l e Z h) (k : ∀ b o, h.get? b = some o → h'.get? b = some o) : HandSPX.FlyingZ base l e Z h' := by
  obtain ⟨f1, f2, f3, oe, vs, T, oT, ts, g1, g2, g3, g4, g5, g6, g7, g8, g9⟩ := x
  exact ⟨fun b o e => k b o (f1 b o e), f2, f3.of_keeps fun b o e _ => ⟨o, k b o e, rfl⟩, oe, vs, T, oT, ts, k _ _ g1, g2, g3, g4, g5, g6, k _ _ g7, g8, g9⟩
section
variable {X : Cx} {body : List Stmt} {h₀ : ExceptHandler} {hds : List ExceptHandler} {l : List Cl} {pos : Pos} {tb : WX → TS} {Wout : WX}
theorem ps_try_cls (hs : X.stack = X.env :: X.outer) (hf : X.env.frame = some X.env.locals) (hN : X.N.Nodup) (tk : Takes X Wout)
    (hb : ∀ (W : WX) (pn : List (Addr × Obj)) (xe : Value → Shared → Prop), Takes (X.tr pn xe) W → PassesOwn (model X.prog X.w) X.A X.env xe → PSs (X.tr pn xe) body (tb W))
    (hh : ClsOk X (h₀ :: hds) l) : PS X (.Try body (h₀ :: hds) [] [] pos) (fun D σ H => tb (wClauses X.K Wout D l) D σ H) := by
  refine ⟨fun pins s σ H D I h => ?_⟩
  have ok := I.ok
  have hfr : X.A.frames = some (X.env :: X.outer) := by rw [ok.frames, hs]
  refine wpAny_Try_except ?_
  refine wpAny_mono ((hb (wClauses X.K Wout D l) (X.pn ++ pins) (fun e s₁ => wpAny (model X.prog X.w) X.A (noteFrame e X.env) (fun _ s₂ => wpAny (model X.prog X.w) X.A (setFlight e none) (fun _ s₃ =>
    wpAny (model X.prog X.w) X.A (handleBy e X.env (h₀ :: hds)) (SP X pins D) X.xe s₃) X.xe s₂) X.xe s₁) (fun u s' xx => ?_) PassesOwn.looking).run [] s σ H D (I.toTry _) h) (fun f s1 hsp => ?_) (fun e s1 he => he)
  · -- the catch
    obtain ⟨a, B, sI, pins', σ', H', cls, d, rfl, J', nb, up, sky, na, os, ag, w⟩ := xx
    have J : Inv X pins σ' H' sI := J'.ofTry ok
    have sky' : Sky B (X.env :: X.outer) a (Zc cls d) X.env.locals s'.heap := by rw [← hs]; exact sky
    show wpAny (model X.prog X.w) X.A (noteFrame (.ref a) X.env) _ _ _
    refine Sky.land Zc.steady hfr hf sky' fun h3 fl3 up3 => ?_
    have notFr : ∀ {h : Heap} {o : Obj} {vs : Array Value}, h.FunFrames B (X.env :: X.outer) → h.get? a = some o → o.data = .fields vs → a ∉ frs (X.env :: X.outer) := fun {h o vs} ff e dd hm => by
      obtain ⟨_, o', e', hnf⟩ := ff.mem hm
      rw [e] at e'; cases e'
      exact hnf _ dd
    have go : ∀ {hds' : List ExceptHandler} {l' : List Cl}, ClsOk X hds' l' → ∀ (h3 : Heap) (t3 : Nat), HandSPX.FlyingZ B (X.env :: X.outer) a (Zc cls d) h3 → sI.heap.UpToSlots h3 → wClauses X.K Wout D l' cls d σ' H' →
        wpAny (model X.prog X.w) X.A (handleBy (.ref a) X.env hds') (SP X pins D) X.xe { s' with heap := h3, toks := t3 } := by
      intro hds' l' hk
      induction hk with
      | nil =>
        intro h3 t3 fl3 up3 w
        refine wpAny_handleBy_nil ?_
        obtain ⟨k1, k2, k3, oe, vs, T, oT, ts', he, hz, hd, h1, hr⟩ := id fl3
        unfold PySem.passOn
        refine wpAny_bind (wpAny_field he hd h1 ?_)
        rw [if_neg (show ¬ ((Value.ref T == Value.none) = true) from by simp)]
        have fin : wpAny (model X.prog X.w) X.A (setFlight (.ref a) X.env.frame) (fun _ s4 => wpAny (model X.prog X.w) X.A (throw (.ref a) : Sem Flow) (SP X pins D) X.xe s4) X.xe { s' with heap := h3, toks := t3 } := by
          rw [hf]
          refine HandSPX.setFlight_upZ fl3 fun h4 hh4 up4 => wpAny_throw (tk _ _ ?_)
          exact ⟨a, B, sI, pins, σ', H', cls, d, rfl, J, nb, up3.trans up4, .inr (.inr (by rw [hs]; exact hh4)), na, os, ag, w⟩
        first
          | exact wpAny_bind (wpAny_pure (wpAny_bind fin))
          | exact wpAny_bind fin
      | @cons te cs ts b₀ suite pos' hds2 l2 hc hsu r ih =>
        intro h3 t3 fl3 up3 w
        obtain ⟨b, hb1, hyes, hno⟩ := w
        have J3 : Inv X pins σ' H' { s' with heap := h3, toks := t3 } := J.landed nb fl3.1 up3 os ag
        obtain ⟨oe3, vs3, he3, hz3, hd3⟩ := fl3.there
        have nfr := notFr fl3.2.2.1 he3 hd3
        have nL : a ≠ X.env.locals := fun z => nfr (List.mem_filterMap.mpr ⟨X.env, List.mem_cons_self, by rw [hf, z]⟩)
        have nF : a ∉ X.fs := fun hm => by
          obtain ⟨e, he, q⟩ := List.mem_filterMap.mp hm
          exact nfr (List.mem_filterMap.mpr ⟨e, List.mem_cons_of_mem _ he, q⟩)
        have S3 := J3.suite he3 hd3 na nL nF
        refine wpAny_handleBy_cons (codeAny_handlers_test ?_) (by intro q; cases q)
        have LT : PySem.W.Looks (model X.prog X.w) h3 (typeOf (.ref a)) cls := fun A Q E s k q => wpAny_typeOf_ref (k _ _ he3) (by rw [hz3.1]; exact q)
        refine hc a _ _ _ _ cls b S3 LT hb1 _ _ fun h5 t5 k5 => ?_
        have fl5 := flying_keeps fl3 k5
        have up5 : sI.heap.UpToSlots h5 := up3.trans (Heap.UpToSlots.of_keeps k5)
        cases b with
        | true =>
          refine codeAny_handlers_suite ?_
          refine HandSPX.lands_againZ fl5 fun h4 fl4 up4 => ?_
          have J4 : Inv X pins σ' H' { s' with heap := h4, toks := t5 } := J.landed nb fl4.1 (up5.trans up4) os ag
          obtain ⟨oe4, vs4, he4, hz4, hd4⟩ := fl4.there
          have S4 := J4.suite he4 hd4 na nL nF
          refine wpAny_mono ((hsu a oe4 cls d (X.pn ++ pins) hz4 ⟨_, hd4⟩).run [] _ _ H' _ S4 (hyes rfl a na)) (fun f s6 hsp => ?_) (fun _ _ z => False.elim z)
          cases f with
          | next =>
            obtain ⟨σ6, H6, S6, q6⟩ := hsp
            exact ⟨_, _, S6.unsuite ok, q6⟩
          | brk =>
            obtain ⟨σ6, H6, S6, q6⟩ := hsp
            exact ⟨_, _, S6.unsuite ok, q6⟩
          | cont =>
            obtain ⟨σ6, H6, S6, q6⟩ := hsp
            exact ⟨_, _, S6.unsuite ok, q6⟩
          | ret u =>
            obtain ⟨v6, σ6, H6, S6, r6, q6⟩ := hsp
            exact ⟨_, _, _, S6.unsuite ok, r6, q6⟩
        | false =>
          show wpAny _ X.A (handleBy (.ref a) X.env hds2) _ _ _
          exact ih h5 t5 fl5 up5 (hno rfl)
      | @as te cs ts b₀ suite pos' hds2 l2 n i hc hi hln hsu r ih =>
        intro h3 t3 fl3 up3 w
        obtain ⟨b, hb1, hyes, hno⟩ := w
        have J3 : Inv X pins σ' H' { s' with heap := h3, toks := t3 } := J.landed nb fl3.1 up3 os ag
        obtain ⟨oe3, vs3, he3, hz3, hd3⟩ := fl3.there
        have nfr := notFr fl3.2.2.1 he3 hd3
        have nL : a ≠ X.env.locals := fun z => nfr (List.mem_filterMap.mpr ⟨X.env, List.mem_cons_self, by rw [hf, z]⟩)
        have nF : a ∉ X.fs := fun hm => by
          obtain ⟨e, he, q⟩ := List.mem_filterMap.mp hm
          exact nfr (List.mem_filterMap.mpr ⟨e, List.mem_cons_of_mem _ he, q⟩)
        have S3 := J3.suite he3 hd3 na nL nF
        refine wpAny_handleBy_cons (codeAny_handlers_test ?_) (by intro q; cases q)
        have LT : PySem.W.Looks (model X.prog X.w) h3 (typeOf (.ref a)) cls := fun A Q E s k q => wpAny_typeOf_ref (k _ _ he3) (by rw [hz3.1]; exact q)
        refine hc a _ _ _ _ cls b S3 LT hb1 _ _ fun h5 t5 k5 => ?_
        have fl5 := flying_keeps fl3 k5
        have up5 : sI.heap.UpToSlots h5 := up3.trans (Heap.UpToSlots.of_keeps k5)
        cases b with
        | true =>
          refine codeAny_handlers_suite_as ?_
          refine HandSPX.lands_againZ fl5 fun h4 fl4 up4 => ?_
          have J4 : Inv X pins σ' H' { s' with heap := h4, toks := t5 } := J.landed nb fl4.1 (up5.trans up4) os ag
          obtain ⟨oe4, vs4, he4, hz4, hd4⟩ := fl4.there
          have S4 := J4.suite he4 hd4 na nL nF
          refine store_ok (X := X.suite a ((a, oe4) :: (X.pn ++ pins))) (v := .ref a) S4 hN hi (.inl hln) rfl (fun s5 S5 => ?_) (.inr hln)
          refine wpAny_mono ((hsu a oe4 cls d (X.pn ++ pins) hz4 ⟨_, hd4⟩).run [] s5 _ H' _ S5 (hyes rfl a na)) (fun f s6 hsp => ?_) (fun _ _ z => False.elim z)
          have end_ : ∀ {σ6 : L2.St} {H6 : Hp} {Q : Shared → Prop}, Inv (X.suite a ((a, oe4) :: (X.pn ++ pins))) [] σ6 H6 s6 → (∀ s7, Inv X pins (σ6.set i none) H6 s7 → Q s7) →
              wpAny (model X.prog X.w) X.A (do bindName X.env n .none; unbindBehindTheSuite X.env n pos') (fun _ s7 => Q s7) X.xe s6 := fun {σ6 H6 Q} S6 hq => gone_ok (S6.unsuite ok) hN hi hln hq
          cases f with
          | next =>
            obtain ⟨σ6, H6, S6, q6⟩ := hsp
            exact end_ S6 fun s7 J7 => ⟨_, _, J7, q6⟩
          | brk =>
            obtain ⟨σ6, H6, S6, q6⟩ := hsp
            exact end_ S6 fun s7 J7 => ⟨_, _, J7, q6⟩
          | cont =>
            obtain ⟨σ6, H6, S6, q6⟩ := hsp
            exact end_ S6 fun s7 J7 => ⟨_, _, J7, q6⟩
          | ret u =>
            obtain ⟨v6, σ6, H6, S6, r6, q6⟩ := hsp
            exact end_ S6 fun s7 J7 => ⟨_, _, _, J7, r6, q6⟩
        | false =>
          show wpAny _ X.A (handleBy (.ref a) X.env hds2) _ _ _
          exact ih h5 t5 fl5 up5 (hno rfl)
    exact go hh h3 s'.toks fl3 (up.trans up3) w
  · cases f with
    | next =>
      obtain ⟨σ', H', J', q⟩ := hsp
      exact wpAny_execs_nil ⟨σ', H', J'.ofTry ok, q⟩
    | brk =>
      obtain ⟨σ', H', J', q⟩ := hsp
      exact ⟨σ', H', J'.ofTry ok, q⟩
    | cont =>
      obtain ⟨σ', H', J', q⟩ := hsp
      exact ⟨σ', H', J'.ofTry ok, q⟩
    | ret u =>
      obtain ⟨v, σ', H', J', r, q⟩ := hsp
      exact ⟨v, σ', H', J'.ofTry ok, r, q⟩
end
end Xh
end
section
set_option Elab.async false
set_option linter.all false
set_option maxRecDepth 100000
set_option maxHeartbeats 2000000
/-! a lambda handed on from def to def -/
namespace Xh
open PySem PySem.Spec PyProof.Rows L2 LamX
section
variable {X : Cx} {pins : List (Addr × Obj)} {σ : L2.St} {H HZ : Hp} {s s1 : Shared}
theorem lam_startG {fs : List Addr} {A : Around} {outer : List Env} {E : XK} {scope : Scope} {f c' : Addr} {h₁ : Heap} {tk : Nat} (I : Inv X pins σ H s) (L : LamS X.env.scope scope) (e0 : Env0 X.prog X.w X.K X.mg X.base A outer s1 HZ) (hd : A.handled = none)
    (un : Un fs [] H HZ s.heap s1.heap) (hns : h₁.Ns s1.heap.objs.size fun y => ([] : List (Str × Value)).reverse.lookup y) (kp : ∀ b o, s1.heap.get? b = some o → h₁.get? b = some o) :
    Inv (lamCx X A outer s1 HZ E scope f c') [] σ HZ { s1 with heap := h₁, toks := tk } := by
  have hfree := L.has I.ok
  have cm : ∀ {y c}, (cloFrom X.env.cells scope.names []).lookup y = some c → X.env.cells.lookup y = some c := fun {y c} e => by
    rcases cloFrom_mem (PySem.mem_of_lookup e) with hm | ⟨h1, h2⟩
    · cases hm
    · obtain ⟨c1, hc⟩ := hfree _ h1 rfl
      have hc : X.env.cells.lookup y = some c1 := hc
      have e2 : c = c1 := by
        rw [h2, hc] <;> rfl
      rw [e2]
      exact hc
  have look : ∀ {y}, scope.names.lookup y = some .free → ∃ c, (cloFrom X.env.cells scope.names []).lookup y = some c := fun {y} hl => by
    have hy : (y, NameKind.free) ∈ scope.names := PySem.mem_of_lookup hl
    exact mem_lookup (cloFrom_has (cells := X.env.cells) (acc := []) hy)
  have cellK : ∀ {c : Addr} {v : Option Value}, H c = none → s.heap.IsCell c v → h₁.IsCell c v := fun {c v} n ⟨o, ho, hd⟩ => by
    obtain ⟨sl, q⟩ := un.any ho n (by simp)
    exact ⟨_, kp _ _ q, hd⟩
  have noA : ∀ b : Addr, b ∉ (lamCx X A outer s1 HZ E scope f c').ex := fun b z => absurd (show b ∈ ([] : List Addr) from z) (by simp)
  refine ⟨⟨e0.mod, L.kind, rfl, rfl, Nat.le_refl _, fun y z c e1 e2 => I.ok.inj y z c (cm e1) (cm e2), fun y hy => ?_, fun y c z _ => ?_, fun _ => hd, Around.frames_deeper e0.frames, .inr ⟨rfl, rfl⟩, fun b z => absurd z (noA b), e0.bs, e0.bsz, fun b _ _ => noA b,
      fun b z => absurd z (noA b), e0.funs, e0.frf⟩,
    rfl, e0.bare, Un.kept kp, ⟨_, hns, fun i y v e1 e2 e3 => ?_⟩, fun y c e => ?_, e0.hok.fresh (Nat.le_refl _), fun y c e => ?_, fun q hq => absurd (show q ∈ ([] : List (Addr × Obj)) ++ [] from hq) (by simp), e0.hok.kept kp, I.len⟩
  · have hy : scope.names.lookup y = some .cell ∨ scope.names.lookup y = some .free := hy
    rcases hy with hy | hy
    · exact absurd rfl (L.own _ (PySem.mem_of_lookup hy)).2
    · exact look hy
  · have z : false = true := z
    cases z
  · have e3 : Vis scope y := e3
    rcases e3 with k | k | k
    · exact absurd rfl (L.own _ (PySem.mem_of_lookup k)).1
    · exact absurd rfl (L.own _ (PySem.mem_of_lookup k)).2
    · obtain ⟨m, hn, hl⟩ := I.loc
      have hvis : Vis X.env.scope y := (L.free _ (PySem.mem_of_lookup k) rfl).elim (fun k => .inr (.inl k)) (fun k => .inr (.inr k))
      obtain ⟨w', r, q⟩ := hl i y v e1 e2 hvis
      obtain ⟨c2, h2⟩ := look k
      refine ⟨w', r, .inr ⟨.inr k, c2, h2, ?_⟩⟩
      have c1 := cm h2
      rcases q with ⟨k', _⟩ | ⟨_, c3, e', z⟩
      · have k' : X.env.scope.names.lookup y = some .local := k'
        rcases L.free _ (PySem.mem_of_lookup k) rfl with k2 | k2 <;> rw [show X.env.scope.names.lookup y = _ from k2] at k' <;> cases k'
      · rw [c1] at e'
        cases e'
        exact cellK (I.freeC y _ c1) z
  · obtain ⟨w', z⟩ := I.cell y c (cm e)
    exact ⟨w', cellK (I.freeC y c (cm e)) z⟩
  · obtain ⟨v, o, ho, hd⟩ := I.cell y c (cm e)
    exact un.free c o ho (I.freeC y c (cm e)) (by simp)
end
/-- the thing at f can be called, without arguments, from whatever runs behind the state s (abstract heap H): tl tells its reading, q its code's name -/
def CanAct (P : Program) (w : World) (K : PySem.W.Frag) (mg : Str → Option Value) (base : Heap) (k : Nat) (q : Str) (f c' : Addr) (tl : XK → Hp → VK → Prop) (s : Shared) (H : Hp) : Prop :=
  ∀ (fs : List Addr) (CXg : CXT) (Ng : List Str) (qg : Str) (sg : Scope) (g : Addr) (cdg : Value) (A : Around) (outer : List Env) (sZ : Shared) (HZ0 : Hp) (Eg : XK), Un fs [] H HZ0 s.heap sZ.heap → f ∉ fs → (∀ b ∈ frs outer, b ∈ fs) → Room (k + 1) (A.deeper (envOfC qg sg sZ.heap.objs.size g cdg)) →
    ∀ (i : Nat) (a : Str) (W : WX) (pn : List (Addr × Obj)) (xe : Value → Shared → Prop) (E : XK) (p1 p2 : Pos), Ng[i]? = some a → Vis sg a → (a == ("__debug__" : Str)) = false → (a == ("__classdict__" : Str)) = false →
      Takes ((cxOf CXg P w K mg base Ng qg sg g cdg A outer sZ HZ0 Eg).tr pn xe) W → (∀ cls d σ' H', E cls d H' → W cls d σ' H') →
      PE ((cxOf CXg P w K mg base Ng qg sg g cdg A outer sZ HZ0 Eg).tr pn xe) (.Call (.Name a p1) [] [] p2) (fun σZ HZ Q => σZ[i]? = some (some (.ref f)) ∧ HZ c' = some (CodeO c' q) ∧ tl E HZ Q)
theorem CanAct.later {P : Program} {w : World} {K : PySem.W.Frag} {mg : Str → Option Value} {base : Heap} {k : Nat} {q : Str} {f c' : Addr} {tl : XK → Hp → VK → Prop} {s s1 : Shared} {H H1 : Hp} {fs0 : List Addr} (c : CanAct P w K mg base k q f c' tl s H) (un : Un fs0 [] H H1 s.heap s1.heap) (hf : f ∉ fs0) :
    CanAct P w K mg base k q f c' tl s1 H1 := fun fs CXg Ng qg sg g cdg A outer sZ HZ0 Eg un1 hf1 ho hr i a W pn xe E p1 p2 => by
  refine c (fs0 ++ fs) CXg Ng qg sg g cdg A outer sZ HZ0 Eg ((un.mono (fun b hb => List.mem_append_left _ hb) (fun _ z => z)).trans (un1.mono (fun b hb => List.mem_append_right _ hb) (fun _ z => z))) (fun z => ?_) (fun b hb => List.mem_append_right _ (ho b hb)) hr i a W pn xe E p1 p2
  rcases List.mem_append.mp z with z | z
  · exact hf z
  · exact hf1 z
section
variable {X : Cx} {pins : List (Addr × Obj)} {σ : L2.St} {H : Hp} {s : Shared}
/-- a lambda just made can be called -/
theorem canAct_of {f c' : Addr} {pm ctv : Value} {params : Arguments} {body : Expr} {scope : Scope} {k : Nat} {tb : XK → TE}
    (I : Inv X pins σ H s) (L : LamS X.env.scope scope) (hf : s.heap.get? f = some (PySem.W.kla_obj "<lambda>" (X.env.qual ++ "<lambda>") params body scope (cloFrom X.env.cells scope.names []) pm c' ctv)) (hfn : H f = none)
    (hbind : bindArgs (PySem.W.kla_fn "<lambda>" (X.env.qual ++ "<lambda>") params body scope (cloFrom X.env.cells scope.names []) pm (.ref c') ctv) ⟨[], []⟩ = pure [])
    (hbody : ∀ (A : Around) (outer : List Env) (s : Shared) (H : Hp) (E : XK), Room k (A.deeper (lamEnv X scope s.heap.objs.size f c')) → PE (lamCx X A outer s H E scope f c') body (tb E)) :
    CanAct X.prog X.w X.K X.mg X.base k (X.env.qual ++ "<lambda>") f c' (fun E H' Q => tb E σ H' Q) s H := by
  intro fs CXg Ng qg sg g cdg A outer sZ HZ0 Eg un0 hff ho hr i a W pn xe E p1 p2 hN hv hd hcd tk hW
  refine ⟨fun pinsZ s0 σZ HZ Q IZ h => ?_⟩
  obtain ⟨hs, hc, ht⟩ := h
  refine wpAny_Call_Name_kw (thn ((pe_var (pos := p1) (i := i) hN hv hd hcd).run pinsZ s0 σZ HZ (fun v H1 => v = .ref f ∧ H1 = HZ) IZ ⟨.ref f, hs, rfl, rfl⟩) fun u s1 ⟨v, H1, I1, r1, q1⟩ => ?_)
  obtain ⟨ev, eH⟩ := q1
  subst ev
  rw [eH] at I1
  obtain rfl : u = Value.ref f := r1
  have un : Un fs [] H HZ s.heap s1.heap := un0.trans (I1.base.mono ho fun _ z => z)
  have of1 : s1.heap.get? f = some (PySem.W.kla_obj "<lambda>" (X.env.qual ++ "<lambda>") params body scope (cloFrom X.env.cells scope.names []) pm c' ctv) := un.keep f _ hf hfn hff (fun z => nomatch (show f ∈ ([] : List Addr) from z))
  refine PySem.W.callWith_F0 ⟨_, _, _, _, of1⟩ ?_
  obtain ⟨⟨oc, vs, t, hoc, hdc, hvc⟩, _, _⟩ := I1.hok c' _ hc
  have rc : codeAny (model X.prog X.w) (A.deeper (envOfC qg sg sZ.heap.objs.size g cdg)) (.call (.ref f) ⟨[], []⟩) (CR (L2.CX X.prog X.w) (envOfC qg sg sZ.heap.objs.size g cdg :: outer) X.prog X.w HZ s1 Q E) s1 := by
    refine PySem.W.kla_callFunE hr.depth of1 rfl L.co L.gen rfl ⟨c', oc, vs, t, rfl, hoc, hdc, hvc⟩ ?_
    rw [hbind]
    refine wpAny_pure (wpAny_newFunctionEnv (fun y hy => (L.own y hy).2) (fun y hy => absurd hy (by simp)) (fun h₁ hns hsb => ⟨I1.nolimit.fresh _ hsb, ?_⟩) L.kind)
    show codeAny _ _ (.expr body (lamEnv X scope s1.heap.objs.size f c')) _ _
    have kp : ∀ b o, s1.heap.get? b = some o → h₁.get? b = some o := fun b o e => hsb.extBut b o (Nat.ne_of_lt (Heap.lt_size e)) (Heap.get?_push_of_some _ e)
    have J : Inv (lamCx X (A.deeper (envOfC qg sg sZ.heap.objs.size g cdg)) (envOfC qg sg sZ.heap.objs.size g cdg :: outer) s1 HZ E scope f c') [] σ HZ { s1 with heap := h₁, toks := s1.toks + ([] : List (Str × Value)).length } :=
      lam_startG I L I1.env0 hr.hd un hns kp
    refine PySem.W.kla_codeExpr (wpAny_mono ((hbody _ _ s1 HZ E (hr.deeper _)).run [] _ _ HZ Q J ht) (fun v s' hq => ?_) fun e s' hq => hq)
    obtain ⟨w', H', J', rv, q⟩ := hq
    exact ⟨w', H', J'.os, J'.bare, J'.base, J'.hok, rv, q⟩
  have hx : Passes (L2.CX X.prog X.w) ((cxOf CXg X.prog X.w X.K X.mg X.base Ng qg sg g cdg A outer sZ HZ0 Eg).tr pn xe) E := passes_call tk hW
  refine wpAny_call (codeAny_mono rc fun r s' hq => ?_)
  cases r with
  | error e => exact hx pinsZ σZ HZ s1 e s' I1 hq
  | ok fl =>
    cases fl with
    | ret u => exact I1.after hq
    | next => exact False.elim hq
    | brk => exact False.elim hq
    | cont => exact False.elim hq
end
/-- a def of one parameter (Ng: its names, the parameter first) that gets something to call: TT its promise; what the callee raises is caught within -/
structure Gives (P : Program) (w : World) (K : PySem.W.Frag) (mg : Str → Option Value) (base : Heap) (k kl : Nat) (x : Str) (g : Addr) (TT : (XK → Hp → VK → Prop) → Hp → VK → Prop) : Prop where
  m : mg x = some (.ref g)
  kp : PySem.W.keepIn K (.ref g) = true
  run : ∀ (q : Str) (A : Around) (outer : List Env) (f c' : Addr) (s : Shared) (H : Hp) (Q : VK) (tl : XK → Hp → VK → Prop), Room k A → Env0 P w K mg base A outer s H → CanAct P w K mg base kl q f c' tl s H → f ∉ frs outer → f < s.heap.objs.size → H c' = some (CodeO c' q) → TT tl H Q →
    codeAny (model P w) A (.call (.ref g) ⟨[.ref f], []⟩) (CR CX0 outer P w H s Q E0) s
theorem gives_of {P : Program} {w : World} {K : PySem.W.Frag} {mg : Str → Option Value} {base : Heap} {k kl : Nat} {x a : Str} {g : Addr} {fd : FuncData} {pg : Arguments} {bg : List Stmt} {sg : Scope} {Ng : List Str} {TT : (XK → Hp → VK → Prop) → Hp → VK → Prop}
    (F : FunD K x x pg bg sg [] [] g fd) (hm : mg x = some (.ref g)) (Sg : FnScope Ng [a] sg)
    (hb : ∀ (kV doc pm : Value) (an : Option Addr) (cdv ct : Value) (us : List Value), us.length = [a].length → bindArgs (PySem.W.fnOf x x pg bg sg .none kV doc pm an cdv ct) ⟨us, []⟩ = pure ([a].zip us))
    (hG : ∀ (q : Str) (cdg : Value) (A : Around) (outer : List Env) (f c' : Addr) (s : Shared) (H : Hp) (Q : VK) (tl : XK → Hp → VK → Prop), Room k (A.deeper (envOfC x sg s.heap.objs.size g cdg)) → CanAct P w K mg base kl q f c' tl s H → f ∉ frs outer → f < s.heap.objs.size → H c' = some (CodeO c' q) → TT tl H Q →
      ∃ t, PSs (cxOf CX0 P w K mg base Ng x sg g cdg A outer s H E0).nox bg t ∧ t { nx := fun _ H' => Q .non H', rt := Q } (L2.start Ng [.ref f]) H) : Gives P w K mg base (k + 1) kl x g TT := by
  have b := FunD.bindsN F hb
  refine ⟨hm, F.kp, fun q A outer f c' s H Q tl hr e0 act hfo hfs hc hT => ?_⟩
  obtain ⟨oc, od, dV, kV, doc, pm, an, cdv, ct, osl, rfl, lk, hcd, _, _⟩ := F.ex
  refine run_ofS (N := Ng) (ps := [a]) (us := [.ref f]) (vs := [.ref f]) lk hcd Sg hr e0 (b s [.ref f] (e0.mod.kin.keeps fun c o e => (e0.bs c o e).1) rfl) (.cons rfl .nil) rfl fun hr' => ?_
  obtain ⟨t, h1, h2⟩ := hG q cdv A outer f c' s H Q tl hr' act hfo hfs hc hT
  exact ⟨t, h1.nox, h2⟩
section
variable {X : Cx}
/-- x(lambda: body) -/
theorem pe_lam {T : List (Addr × Str)} {TT : (XK → Hp → VK → Prop) → Hp → VK → Prop} {x : Str} {g c P : Addr} {k kl : Nat}
    {params : Arguments} {body : Expr} {scope : Scope} {t : XK → TE} {p lpos pos : Pos} (G : Gives X.prog X.w X.K X.mg X.base k kl x g TT) (hg : Gl X x)
    (TB : TabB X.base X.mg c P) (hcode : X.env.code = .ref c) (hmT : (P, X.env.qual ++ "<lambda>") ∈ T) (hu : ∀ p ∈ T, p.1 = P → p.2 = X.env.qual ++ "<lambda>") (hr : Room k X.A) (L : LamS X.env.scope scope) (hdef : defaultsOf params X.env = ([], []))
    (hbind : ∀ (q : Str) (cl : List (Str × Addr)) (pm cv ctv : Value), bindArgs (PySem.W.kla_fn "<lambda>" q params body scope cl pm cv ctv) ⟨[], []⟩ = pure [])
    (hbody : ∀ (A : Around) (outer : List Env) (s : Shared) (H : Hp) (E : XK) (f c' : Addr), Room kl (A.deeper (lamEnv X scope s.heap.objs.size f c')) → PE (lamCx X A outer s H E scope f c') body (t E))
    (hdb : (x == ("__debug__" : Str)) = false := by decide) :
    PE X (.Call (.Name x p) [.Lambda params body scope lpos] [] pos) (tLam T TT t) := by
  refine ⟨fun pins s σ H Q I h => ?_⟩
  obtain ⟨hT, h⟩ := h
  refine wpAny_Call_Name_kw (ld_glob I hg G.m ?_ hdb)
  refine PySem.W.callWith_K (h₀ := X.base) I.ok.mod.kin G.kp ?_ (by rfl) (by rfl)
  show wpAny _ _ (spliced ((false, eval (.Lambda params body scope lpos) X.env) :: backTo pos (starEach [] X.env))) _ _ s
  refine Calls.spliced_cons (lam_make2 I TB hcode hmT hu hT hdef (L.has I.ok) fun f c' pm' ctv H1 s' I1 eN T1 hf hfn hfr hco => ?_)
  refine Calls.spliced_nil ⟨I1.kIn, ?_⟩
  have act := canAct_of (tb := t) I1 L hf hfn (hbind _ _ _ _ _) (fun A outer s H E hr2 => hbody A outer s H E f c' hr2)
  have rc := G.run _ X.A X.stack f c' s' H1 Q _ hr I1.env0 act hfr (Heap.lt_size hf) hco (h H1 eN T1)
  refine wpAny_call (codeAny_mono rc fun r s2 hq => ?_)
  cases r with
  | error e => exact (show False from hq).elim
  | ok fl =>
    cases fl with
    | ret u => exact I1.after hq
    | next => exact False.elim hq
    | brk => exact False.elim hq
    | cont => exact False.elim hq
end
/-- y(a) in a def that got something to call, y such a def too -/
theorem pe_passOn {P : Program} {w : World} {K : PySem.W.Frag} {mg : Str → Option Value} {base : Heap} {k kl : Nat} {q a y x : Str} {f c' gy g : Addr} {tl : XK → Hp → VK → Prop} {TT : (XK → Hp → VK → Prop) → Hp → VK → Prop} {s : Shared} {H : Hp} {A : Around} {outer : List Env} {Ng : List Str} {sg : Scope} {cdg : Value} {p1 p2 pos : Pos} {i : Nat}
    (G : Gives P w K mg base k kl y gy TT) (act : CanAct P w K mg base kl q f c' tl s H) (hfo : f ∉ frs outer) (hfs : f < s.heap.objs.size) (hr : Room k (A.deeper (envOfC x sg s.heap.objs.size g cdg)))
    (hgy : sg.names.lookup y = some .globalImplicit) (hN : Ng[i]? = some a) (hv : Vis sg a) (hdy : (y == ("__debug__" : Str)) = false := by decide) (hd : (a == ("__debug__" : Str)) = false := by decide) (hcd : (a == ("__classdict__" : Str)) = false := by decide) :
    PE (cxOf CX0 P w K mg base Ng x sg g cdg A outer s H E0).nox (.Call (.Name y p1) [.Name a p2] [] pos) (fun σZ HZ Q => σZ[i]? = some (some (.ref f)) ∧ HZ c' = some (CodeO c' q) ∧ TT tl HZ Q) := by
  refine ⟨fun pins s1 σZ HZ Q I h => ?_⟩
  obtain ⟨hs, hc, hT⟩ := h
  refine wpAny_Call_Name_kw (ld_glob (X := (cxOf CX0 P w K mg base Ng x sg g cdg A outer s H E0).nox) I hgy G.m ?_ hdy)
  refine PySem.W.callWith_K (h₀ := base) I.ok.mod.kin G.kp (thn ((pa_cons (X := (cxOf CX0 P w K mg base Ng x sg g cdg A outer s H E0).nox) (pe_var (pos := p2) (i := i) hN hv hd hcd) pa_nil).run pos pins s1 σZ HZ (fun vs H1 => vs = [.ref f] ∧ H1 = HZ) I ⟨.ref f, hs, rfl, rfl⟩) fun us s2 ⟨vs, H2, I2, r, q2⟩ => ⟨I2.kIn, ?_⟩) (by rfl) (by rfl)
  obtain ⟨ev, eH⟩ := q2
  subst ev
  rw [eH] at I2
  have eu : us = [Value.ref f] := by
    cases r with
    | cons r0 rr =>
      cases rr
      obtain rfl := (show _ = Value.ref f from r0)
      rfl
  subst eu
  have un : Un (frs outer) [] H HZ s.heap s2.heap := I2.base
  have lt2 : s.heap.objs.size ≤ s2.heap.objs.size := I2.sz
  have nfr : f ∉ frs (envOfC x sg s.heap.objs.size g cdg :: outer) := fun z => by
    unfold frs at z
    rw [List.filterMap_cons] at z
    have z' : f ∈ s.heap.objs.size :: frs outer := z
    rcases List.mem_cons.mp z' with e | e
    · exact absurd hfs (by rw [e]; exact Nat.lt_irrefl _)
    · exact hfo e
  have rc := G.run q (A.deeper (envOfC x sg s.heap.objs.size g cdg)) (envOfC x sg s.heap.objs.size g cdg :: outer) f c' s2 HZ Q tl hr I2.env0 (act.later un hfo) nfr (Nat.lt_of_lt_of_le hfs lt2) hc hT
  refine wpAny_call (codeAny_mono rc fun r s3 hq => ?_)
  cases r with
  | error e => exact (show False from hq).elim
  | ok fl =>
    cases fl with
    | ret u => exact I2.after hq
    | next => exact False.elim hq
    | brk => exact False.elim hq
    | cont => exact False.elim hq
end Xh
end
section
set_option Elab.async false
set_option linter.all false
set_option maxRecDepth 100000
set_option maxHeartbeats 2000000
namespace Xh
open PySem PySem.Spec PyProof.Rows L2
/-- a def of the module, called by its name: its promise, its defaults -/
structure Own (P : Program) (w : World) (K : PySem.W.Frag) (mg : Str → Option Value) (base : Heap) (CX : CXT) (k : Nat) (x : Str) (ps : List Str) (dvs : List V) (sp : Sp) : Prop where
  ex : ∃ (f : Addr) (fd : FuncData) (ds : List Value), FnOk P w K mg base CX k f fd ps sp ∧ mg x = some (.ref f) ∧ PySem.W.keepIn K (.ref f) = true ∧ Binds K fd ps ds ∧ Vals dvs ds
/-- .. called with its last parameter by keyword -/
structure OwnK (P : Program) (w : World) (K : PySem.W.Frag) (mg : Str → Option Value) (base : Heap) (CX : CXT) (k n : Nat) (x : Str) (ps ks : List Str) (sp : Sp) : Prop where
  ex : ∃ (f : Addr) (fd : FuncData), FnOk P w K mg base CX k f fd ps sp ∧ mg x = some (.ref f) ∧ PySem.W.keepIn K (.ref f) = true ∧ KBn K fd ps n ks (fun us ws => us ++ ws) (fun vs zs => vs ++ zs)
section
variable {P : Program} {w : World} {K : PySem.W.Frag} {mg : Str → Option Value} {base : Heap} {CX : CXT} {j k n : Nat} {x : Str} {ps ks : List Str} {dvs : List V} {sp sp' : Sp}
theorem Own.mono (O : Own P w K mg base CX j x ps dvs sp) (h : j ≤ k) : Own P w K mg base CX k x ps dvs sp := by
  obtain ⟨f, fd, ds, F, m, kp, b, r⟩ := O.ex
  exact ⟨f, fd, ds, F.mono h, m, kp, b, r⟩
theorem OwnK.mono (O : OwnK P w K mg base CX j n x ps ks sp) (h : j ≤ k) : OwnK P w K mg base CX k n x ps ks sp := by
  obtain ⟨f, fd, F, m, kp, b⟩ := O.ex
  exact ⟨f, fd, F.mono h, m, kp, b⟩
theorem own_of {q : Str} {params : Arguments} {body : List Stmt} {scope : Scope} {f : Addr} {fd : FuncData} (F : FunD K x q params body scope [] [] f fd) (G : FnOk P w K mg base CX k f fd ps sp) (m : mg x = some (.ref f))
    (h : ∀ (kV doc pm : Value) (an : Option Addr) (cdv ct : Value) (us : List Value), us.length = ps.length → bindArgs (PySem.W.fnOf x q params body scope .none kV doc pm an cdv ct) ⟨us, []⟩ = pure (ps.zip us)) : Own P w K mg base CX k x ps [] sp :=
  ⟨f, fd, [], G, m, F.kp, FunD.bindsN F h, .nil⟩
theorem own_ofK {q : Str} {params : Arguments} {body : List Stmt} {scope : Scope} {f : Addr} {fd : FuncData} {kws : List (Str × V)} (F : FunD K x q params body scope [] kws f fd) (G : FnOk P w K mg base CX k f fd ps sp) (m : mg x = some (.ref f))
    (h : ∀ (kV doc pm : Value) (an : Option Addr) (cdv ct : Value) (us ws : List Value), us.length = n → ws.length = ks.length → bindArgs (PySem.W.fnOf x q params body scope .none kV doc pm an cdv ct) ⟨us, ks.zip ws⟩ = pure (ps.zip (us ++ ws))) : OwnK P w K mg base CX k n x ps ks sp := by
  have kp := F.kp
  obtain ⟨oc, od, dV, kV, doc, pm, an, cdv, ct, osl, rfl, lk, hcd, hD, hK⟩ := F.ex
  rcases hD with ⟨_, rfl⟩ | ⟨e, _⟩
  · exact ⟨f, _, G, m, kp, ⟨fun s us ws X l1 l2 => .of_eq (h kV doc pm an cdv ct us ws l1 l2), fun r1 r2 => r1.append r2⟩⟩
  · exact absurd rfl e
theorem own_of0 {q : Str} {params : Arguments} {body : List Stmt} {scope : Scope} {f : Addr} {fd : FuncData} {kws : List (Str × V)} (F : FunD K x q params body scope [] kws f fd) (G : FnOk P w K mg base CX k f fd ps sp) (m : mg x = some (.ref f)) (n : Nat) (hk : kws ≠ []) (hn : n + kws.length = ps.length)
    (h : ∀ (D : Addr) (doc pm : Value) (an : Option Addr) (cdv ct : Value) (us ks : List Value), us.length = n → ks.length = kws.length →
      KwChain D ((kws.map (·.1)).zip ks) (bindArgs (PySem.W.fnOf x q params body scope .none (.ref D) doc pm an cdv ct) ⟨us, []⟩) (ps.zip (us ++ ks))) : Own P w K mg base CX k x ps (kws.map (·.2)) sp := by
  obtain ⟨ds, r, b⟩ := FunD.binds0 F n hk hn h
  exact ⟨f, fd, ds, G, m, F.kp, b, r⟩
end
section
variable {X : Cx} {CX : CXT} {k n : Nat} {x : Str} {ps ks : List Str} {dvs : List V} {sp : Sp} {E : XK} {p pos : Pos} {e : Expr} {es : List Expr} {kws : List Keyword} {t tk : TA}
theorem pe_own (O : Own X.prog X.w X.K X.mg X.base CX k x ps dvs sp) (hr : Room k X.A) (hg : Gl X x) (hx : Passes CX X E) (ha : PA X (e :: es) t) (hdb : (x == ("__debug__" : Str)) = false := by decide)
    (he : starEach (e :: es) X.env = (false, eval e X.env) :: starEach es X.env := by rfl) (hpl : (backTo pos (starEach es X.env)).any (·.1) = false := by rfl) : PE X (.Call (.Name x p) (e :: es) [] pos) (tCall sp dvs E t) := by
  obtain ⟨f, fd, ds, F, m, kp, b, r⟩ := O.ex
  exact pe_call F hr hg m kp b r hx ha hdb he hpl
theorem pe_own0 (O : Own X.prog X.w X.K X.mg X.base CX k x ps dvs sp) (hr : Room k X.A) (hg : Gl X x) (hx : Passes CX X E) (hdb : (x == ("__debug__" : Str)) = false := by decide) : PE X (.Call (.Name x p) [] [] pos) (tCall sp dvs E tNil) := by
  obtain ⟨f, fd, ds, F, m, kp, b, r⟩ := O.ex
  exact pe_call0 F hr hg m kp b r hx hdb
theorem pe_ownK (O : OwnK X.prog X.w X.K X.mg X.base CX k n x ps ks sp) (hr : Room k X.A) (hg : Gl X x) (hx : Passes CX X E)
    (ha : PA X (e :: es) t) (hkw : PK X kws tk) (hall : (backToKw pos (keywordEach kws X.env)).all (·.1.isSome) = true := by rfl) (hks : (backToKw pos (keywordEach kws X.env)).filterMap (·.1) = ks := by rfl)
    (hdb : (x == ("__debug__" : Str)) = false := by decide) (he : starEach (e :: es) X.env = (false, eval e X.env) :: starEach es X.env := by rfl)
    (hpl : ((backTo pos (starEach (e :: es) X.env)).any (·.1) || (backToKw pos (keywordEach kws X.env)).any (·.1.isNone)) = false := by rfl) :
    PE X (.Call (.Name x p) (e :: es) kws pos) (tCallN n ks.length sp (fun vs zs => vs ++ zs) E t tk) := by
  obtain ⟨f, fd, F, m, kp, b⟩ := O.ex
  exact pe_callN F hr hg m kp b hx ha hkw hall hks hdb he hpl
end
end Xh
end
section
set_option Elab.async false
set_option linter.all false
set_option maxRecDepth 100000
set_option maxHeartbeats 2000000
namespace Xh
open PySem PySem.Spec PyProof.Rows L2
/-! ### enumerate of a tuple -/
theorem meets_enum1 {v : Value} {o : Obj} {H : Heap → Prop} (B : Begins v o H) :
    Meets (Builtin.«enumerate.__new__» ⟨[.type "enumerate", v], []⟩) (fun _ R s => H s.heap ∧
      R (.ok (.ret (.ref (s.heap.push o).objs.size))) { s with heap := (s.heap.push o).push { cls := .type "enumerate", data := .fields #[.none, .bool false, .ref s.heap.objs.size, rawInt 0, .none, .none] } }) :=
  .of_wp fun prog w A R s h => by
    obtain ⟨hp, g, d, tk, os⟩ := s
    obtain ⟨h1, h⟩ := h
    have hsub := sub_enumerate
    have q1 : ∀ {A' : Around} {E : Value → Shared → Prop} {Q : Value → Shared → Prop}, Q (.ref hp.objs.size) ⟨hp.push o, g, d, tk, os⟩ → wpAny (model prog w) A' (pyIter v) Q E ⟨hp, g, d, tk, os⟩ :=
      fun q => B.iter prog w _ _ ⟨hp, g, d, tk, os⟩ _ h1 q
    wp_walk using q1
    refine wpAny_stack_any fun st => wpAny_pure ?_
    split
    · rename_i c _ _ _ _ _
      cases (c == Value.type "enumerate")
      · wp_walk using q1
        exact ⟨_, rfl, h⟩
      · wp_walk using q1
        exact ⟨_, rfl, h⟩
    · wp_walk using q1
      exact ⟨_, rfl, h⟩
theorem call_enum1 {prog : Program} {w : World} {A : Around} {E : Value → Shared → Prop} {s : Shared} {v : Value} {o : Obj} {H : Heap → Prop} {Q : Value → Shared → Prop} (B : Begins v o H) (h1 : H s.heap)
    (h : ∀ h', IsEnum h' (s.heap.objs.size + 1) s.heap.objs.size 0 .none → h'.get? s.heap.objs.size = some o → h'.objs.size = s.heap.objs.size + 2 →
      (∀ b o, s.heap.get? b = some o → h'.get? b = some o) → Q (.ref (s.heap.objs.size + 1)) { s with heap := h' }) :
    wpAny (model prog w) A (call (.type "enumerate") [v]) Q E s := by
  refine callType_new F.called_enumerate (by decide) (F.typeCall_enumerate_1 _) (F.newCall_enumerate_1 _) (fun obj => F.args_object_init_2 obj _) F.entry_enumerate_new (meets_enum1 B) ⟨h1, ?_⟩
  have hz : (s.heap.push o).objs.size = s.heap.objs.size + 1 := Heap.size_push ..
  show _ ∧ _
  rw [hz]
  have he := Heap.get?_push_size (s.heap.push o) (o := { cls := .type "enumerate", data := .fields #[.none, .bool false, .ref s.heap.objs.size, rawInt 0, .none, .none] }) rfl
  rw [hz] at he
  exact ⟨⟨_, he, rfl⟩, h _ he (Heap.get?_push_of_some _ (Heap.get?_push_size _ B.free)) (by rw [Heap.size_push, hz]) fun b o x => Heap.get?_push_of_some _ (Heap.get?_push_of_some _ x)⟩
/-- the tuple at a, each item in a new pair with its place -/
def IteT (K : PySem.W.Frag) (a : Addr) : It :=
  ⟨fun i H => ∃ (xs : List V) (x : V), SqT K H a xs ∧ xs[i]? = some x, fun i H v H' => ∃ T x, v = .ref T ∧ H T = none ∧ H' = upd H T (.tup [.int (i : Nat), x]) ∧ ∀ xs, SqT K H a xs → xs[i]? = some x, fun i H => ∃ xs : List V, SqT K H a xs ∧ xs.length ≤ i⟩
theorem next_enum_endT {prog : Program} {w : World} {A : Around} {E : Value → Shared → Prop} {s : Shared} {e it l : Addr} {i : Nat} {items : Array Value} {c : Int} {old : Value} {Q : Option Value → Shared → Prop} (hh : A.handled = none)
    (he : IsEnum s.heap e it c old) (hit : s.heap.IsTupleIter it l i) (hl : s.heap.IsTuple l items) (hx : items[i]? = none) (hQ : ∀ h', Heap.ExtBut it s.heap h' → Q none { s with heap := h' }) : wpAny (model prog w) A (pyNext (.ref e)) Q E s := by
  unfold pyNext
  refine wpAny_bind (wpAny_attempt (wpAny_callSpecial?_slot (name := Str.ofString "__next__") ⟨_, he, rfl⟩ F.slot_enumerate_next (wpAny_call_entry F.slot_enumerate_next ⟨_, he, rfl⟩ F.entry_enumerate_next ?_ (F.args_enumerate_next_1 _))))
  show wpAny _ _ (field (.ref e) 2 >>= _) _ _ _
  refine wpAny_bind (wpAny_field he rfl (x := .ref it) rfl (wpAny_bind (wpAny_nextOf_tuple_end hh hit hl hx fun h' x he' hx' => ?_)))
  obtain ⟨o, ho, hc⟩ := hx'
  exact wpAny_bind (wpAny_isInstance (T := "StopIteration") (b := true) ⟨o, ho, hc⟩ isSubtype_stop (wpAny_pure (hQ _ he')))
theorem turn_enumT {P : Program} {w : World} {K : PySem.W.Frag} {elts : List Expr} {kk : Nat} {tpos : Pos} {a e it : Addr} (hai : a ≠ it) (hea : e ≠ a) :
    Turn P w K (.Tuple elts kk tpos) (IteT K a) [e, it] e (fun i h => (∃ old, IsEnum h e it ((i : Nat) : Int) old) ∧ h.IsTupleIter it a i ∧ e ≠ it) where
  mem := by simp
  obj := fun i h st b hb => by
    obtain ⟨⟨old, he⟩, ⟨o, ho, hc, hd⟩, _⟩ := st
    rcases (show b = e ∨ b = it by simpa using hb) with rfl | rfl
    · exact ⟨_, he, fun v q => nomatch q⟩
    · exact ⟨o, ho, fun v q => by rw [hd] at q; cases q⟩
  keep := fun i h h' st k => let ⟨⟨old, he⟩, hi, hne⟩ := st; ⟨⟨old, k e (by simp) _ he⟩, hi.at fun o q => k it (by simp) o q, hne⟩
  item := by
    intro X hP hw hK hc i pins s σ H E I hf st hg
    subst hP hw hK
    obtain ⟨⟨old, he⟩, hit, hne⟩ := st
    obtain ⟨xs, x, hq, hx⟩ := hg
    obtain ⟨its, rv, p, hz⟩ := I.tuple hq
    obtain ⟨u, hu, ru⟩ := rv.get hx
    have hel : e < s.heap.objs.size := Heap.lt_size he
    have hil : it < s.heap.objs.size := by obtain ⟨_, q, _⟩ := hit; exact Heap.lt_size q
    have hlt : i < its.toArray.size := by
      obtain ⟨z, _⟩ := List.getElem?_eq_some_iff.mp hu
      simpa using z
    have D := Draws.tuple (prog := X.prog) (w := X.w) (A := X.A.in1) (I.ok.hd hc) it a hai its.toArray
    refine wpAny_pyNext_enum_itemD D he ⟨hit, p⟩ hlt hne (by simp [hne, hea]) fun x' h' tk hx' ho hs' hT hsz hk => ?_
    have ex : x' = u := by
      have z : its[i]? = some x' := by simpa using hx'
      rw [hu] at z
      exact (Option.some.inj z).symm
    subst ex
    refine ⟨_, rfl, wpAny_letOwnedTupleGo_enum (s := { s with heap := h', toks := tk + 1 }) ho fun h'' he' sb => ?_⟩
    have hT2 := (sb.2 _ (Nat.ne_of_gt hel)).trans hT
    have new : ObjOk X.prog X.w (upd H s.heap.objs.size (.tup [.int (i : Nat), x])) h'' s.heap.objs.size (.tup [.int (i : Nat), x]) :=
      ⟨by show 2 ≤ sizeLine; decide, [.int i tk, x'], .cons ⟨_, rfl⟩ (.cons ru .nil), ⟨_, hT2, rfl, _, rfl⟩⟩
    have I1 : Inv X pins σ (upd H s.heap.objs.size (.tup [.int (i : Nat), x])) { s with heap := h'', toks := tk + 1 } :=
      I.turnedNew (ch := [e, it]) (fun b ob hb q => (sb.2 b (fun z => hb (by simp [z]))).trans (hk b ob (fun z => hb (by simp [z])) (fun z => hb (by simp [z])) q)) hf (Nat.le_refl _) new
    refine ⟨.ref s.heap.objs.size, _, I1, rfl, ⟨_, x, rfl, I.hok.fresh (Nat.le_refl _), rfl, fun ys hy => by rw [I.tuple_inj hy hq]; exact hx⟩, ⟨⟨x', ?_⟩, hs'.1.at fun o q => (sb.2 it (Ne.symm hne)).trans q, hne⟩, fun b hb => ?_⟩
    · rw [show ((i + 1 : Nat) : Int) = (i : Int) + 1 by omega]
      exact he'
    · have hb' : b < s.heap.objs.size := by
        rcases (show b = e ∨ b = it by simpa using hb) with rfl | rfl
        · exact hel
        · exact hil
      rw [upd_ne (Nat.ne_of_lt hb')]
      exact (hf b hb).1
  done := by
    intro X hP hw hK hc i pins s σ H E I hf st hg
    subst hP hw hK
    obtain ⟨⟨old, he⟩, hit, hne⟩ := st
    obtain ⟨xs, hq, hx⟩ := hg
    obtain ⟨its, rv, p, hz⟩ := I.tuple hq
    obtain ⟨f0, f1, f2, f3, f4, f5⟩ := hf it (by simp)
    have hl := rv.length
    exact next_enum_endT (I.ok.hd hc) he hit p (by simp; omega) fun h' eb => ⟨rfl, I.turned (t' := s.toks) (fun b o hb q => eb b o hb q) f0 f1 f3 f4 f5⟩
  self := fun A i s Q E st h => let ⟨⟨_, he⟩, _⟩ := st; wpAny_pyIter_enum he h
def iEnT (K : PySem.W.Frag) (ta : TA) : TI := fun σ H R => ta σ H fun vs H1 => ∃ a xs, vs = [.ref a] ∧ SqT K H1 a xs ∧ R (IteT K a) H1
theorem pi_enT {X : Cx} {e : Expr} {ta : TA} {p pos tpos : Pos} {elts : List Expr} {kk : Nat} (hg : Gl X "enumerate") (hm : X.mg "enumerate" = none) (ha : PA X [e] ta) (hs : starEach [e] X.env = [(false, eval e X.env)] := by rfl) :
    PI X (.Tuple elts kk tpos) (.Call (.Name "enumerate" p) [e] [] pos) (iEnT X.K ta) := by
  refine ⟨fun pins s σ H R I h => ?_⟩
  refine Call_ (ld_blt I hg hm boot_enumerate (PyProof.Rows.callWith_type1 (thn (ha.run pos pins s σ H _ I h) fun us s1 ⟨vs, H1, I1, r1, q1⟩ => ?_) hs rfl))
  obtain ⟨a, xs, rfl, hq, q⟩ := q1
  cases r1 with
  | cons r rr =>
    cases rr
    cases r
    obtain ⟨its, rv, p', hz⟩ := I1.tuple hq
    have al : a < s1.heap.objs.size := by
      obtain ⟨o, q', _⟩ := p'
      exact Heap.lt_size q'
    refine call_enum1 (begins_tuple a its.toArray) p' fun h' he hit hsz hk => wpAny_pyIter_enum he ?_
    have I2 : Inv X pins σ H1 { s1 with heap := h' } := I1.kept (t' := s1.toks) hk
    refine ⟨s1.heap.objs.size + 1, [s1.heap.objs.size + 1, s1.heap.objs.size], _, _, H1, rfl, I2, turn_enumT (Nat.ne_of_lt al) (Nat.ne_of_gt (Nat.lt_succ_of_lt al)), ⟨⟨.none, he⟩, ⟨_, hit, rfl, rfl⟩, Nat.succ_ne_self _⟩, fun b hb => ?_, q⟩
    have hle : s1.heap.objs.size ≤ b := by
      rcases (show b = s1.heap.objs.size + 1 ∨ b = s1.heap.objs.size by simpa using hb) with rfl | rfl
      · exact Nat.le_add_right _ _
      · exact Nat.le_refl _
    exact I1.fpOk hle (I1.hok.fresh hle)
theorem walk_enT {K : PySem.W.Frag} {a : Addr} {xs : List V} : Walk (IteT K a) xs.length (fun H => SqT K H a xs) (YPair (fun i => some (.int (i : Nat))) (fun i => xs[i]?)) :=
  ⟨fun i H hi h => ⟨xs, xs[i], h, by simp [hi]⟩, fun H h => ⟨xs, h, Nat.le_refl _⟩,
    fun i H x H' hi h y => by
      obtain ⟨T, u, e1, e2, e3, q⟩ := y
      exact ⟨T, _, u, e1, e2, e3, rfl, q xs h⟩⟩
end Xh
namespace Xh
open PySem PySem.Spec PyProof.Rows L2
/-- xs[i] of a list, i not below 0, for `xs[i] op= e` -/
theorem get_list {X : Cx} : PGet X (rIxL X.K) := by
  intro pins s σ H o i ov iv Q I ro ri h
  obtain ⟨p, xs, k, z, rfl, rfl, hq, he, q⟩ := h
  cases ro
  obtain ⟨t, rfl⟩ := ri
  obtain ⟨its, r, pl, hz⟩ := I.list hq
  obtain ⟨j, h1, h2, h3, h4, h5⟩ := atI_get he
  obtain ⟨w, ew, rw'⟩ := r.get h2
  have hl := r.length
  have hn := line63
  have fin : EP X pins σ Q w s := ⟨z, H, I, rw', q⟩
  by_cases h0 : 0 ≤ k
  · have hj : k.toNat = j := by
      rw [seqIndex_of h0 h5] at h1
      exact Option.some.inj h1
    exact wpAny_getItem_list pl.isList h0 (by omega) (by rw [hj]; simpa using ew) fin
  · have hj : (k + (its.toArray.size : Int)).toNat = j := by
      rw [seqIndex_neg (by omega) h4] at h1
      rw [List.size_toArray, ← hl]
      exact Option.some.inj h1
    exact wpAny_getItem_list_neg pl.isList (by omega) (by rw [List.size_toArray] <;> omega) (by omega) (by rw [hj]; simpa using ew) fin
end Xh
end
section
set_option Elab.async false
set_option linter.all false
set_option maxRecDepth 100000
set_option maxHeartbeats 2000000
/-! a lambda as a thing that is handed about: with parameters, kept, called in another def -/
namespace Xh
open PySem PySem.Spec PyProof.Rows L2 LamX NdefX
/-- at f stands the lambda of the words F and the body b -/
def LamO (f : Addr) (F : NF) (b : Expr) : HO := .ext fun h => ∃ pm ctv : Value, h.get? f = some (PySem.W.kla_obj "<lambda>" F.qual F.params b F.scope F.cl pm F.c ctv)
theorem lamO_ne {f : Addr} {F : NF} {b : Expr} (ps : Array Value) : LamO f F b ≠ .tbl ps := fun z => by
  unfold LamO at z
  cases z
theorem lamO_at {P : Program} {w : World} {H : Hp} {h : Heap} {f : Addr} {F : NF} {b : Expr} (hok : HOk P w H h) (e : H f = some (LamO f F b)) : ∃ pm ctv : Value, h.get? f = some (PySem.W.kla_obj "<lambda>" F.qual F.params b F.scope F.cl pm F.c ctv) := (hok f _ e).1
/-- all but the tables stays, nothing tracked is lost, the tables are tables -/
structure Gr (T : List (Addr × Str)) (H H' : Hp) : Prop where
  x : ExtN H H'
  n : ∀ b, H' b = none → H b = none
  t : Tabs T H'
section
variable {T : List (Addr × Str)} {H H1 H2 : Hp}
theorem Gr.refl (t : Tabs T H) : Gr T H H := ⟨ExtN.refl H, fun _ e => e, t⟩
theorem Gr.trans (a : Gr T H H1) (b : Gr T H1 H2) : Gr T H H2 := ⟨a.x.trans b.x, fun c e => a.n c (b.n c e), b.t⟩
theorem Gr.of (t : Tabs T H) (s : Same H H1) : Gr T H H1 := ⟨ExtN.of s, fun b e => s.free e, t.ext s⟩
theorem Gr.same (a : Gr T H H1) (s : Same H1 H2) : Gr T H H2 := a.trans (.of a.t s)
end
section
variable {X : Cx} {pins : List (Addr × Obj)} {σ : L2.St} {H : Hp} {s : Shared}
theorem inv_lamO {F : NF} {b : Expr} {pm ctv : Value} {t' : Nat} (I : Inv X pins σ H s) :
    Inv X pins σ (upd H s.heap.objs.size (LamO s.heap.objs.size F b)) { s with heap := s.heap.push (PySem.W.kla_obj "<lambda>" F.qual F.params b F.scope F.cl pm F.c ctv), toks := t' } := by
  have e : (s.heap.push (PySem.W.kla_obj "<lambda>" F.qual F.params b F.scope F.cl pm F.c ctv)).get? s.heap.objs.size = some (PySem.W.kla_obj "<lambda>" F.qual F.params b F.scope F.cl pm F.c ctv) := Heap.get?_push_size _ rfl
  exact I.laid (fun c u q => Heap.get?_push_of_some _ q) (Nat.le_refl _) ⟨⟨pm, ctv, e⟩, ⟨_, e⟩, fun g1 g2 ⟨u, v, z⟩ st => ⟨u, v, st _ z⟩⟩
/-- the lambda's words, by the maker's context -/
def lamF (X : Cx) (params : Arguments) (scope : Scope) (c' : Addr) : NF := ⟨"<lambda>", X.env.qual ++ "<lambda>", params, [], scope, cloFrom X.env.cells scope.names [], c'⟩
theorem lamV_make {T : List (Addr × Str)} {c P : Addr} {params : Arguments} {body : Expr} {scope : Scope} {pos : Pos} {E : Value → Shared → Prop} {Q : Value → Shared → Prop} (I : Inv X pins σ H s) (TB : TabB X.base X.mg c P) (hcode : X.env.code = .ref c)
    (hm : (P, X.env.qual ++ "<lambda>") ∈ T) (hu : ∀ p ∈ T, p.1 = P → p.2 = X.env.qual ++ "<lambda>") (hT : Tabs T H) (hdef : defaultsOf params X.env = ([], [])) (hfree : ∀ y ∈ scope.names, y.2 = .free → ∃ c, X.env.cells.lookup y.1 = some c)
    (fin : ∀ (f c' : Addr) (H1 : Hp) (s' : Shared), Inv X pins σ H1 s' → Gr T H H1 → H f = none → H1 f = some (LamO f (lamF X params scope c') body) → H1 c' = some (CodeO c' (X.env.qual ++ "<lambda>")) → f ∉ frs X.stack → Q (.ref f) s') :
    wpAny (model X.prog X.w) X.A (eval (.Lambda params body scope pos) X.env) Q E s := by
  obtain ⟨tb, onP, good, known⟩ := hT _ hm
  have inHeap : s.heap.get? P = some { cls := .none, data := .fields tb } := I.hok P _ onP
  have bt : s.heap.BuiltinsAt X.mg P := TB.bm.keeps I.bk
  have off : ∀ f, s.heap.objs.size ≤ f → f ∉ frs X.stack := fun f le z => by
    rcases List.mem_cons.mp (I.stkSub _ z) with e | e
    · exact absurd I.lt (by rw [← e]; exact Nat.not_lt_of_le le)
    · exact I.nofs le e
  refine PySem.W.kla_eval hdef ?_
  cases look : codeAmong pos tb.toList with
  | some cv =>
    obtain ⟨c', rfl, co⟩ := known pos cv look
    refine PySem.W.kla_makeFunctionHit (mg := X.mg) (c := c) (P := P) (ps := tb) (closure_ok hfree) I.ok.glob (I.mod.glob.keeps I.bk) hcode (TB.code.keeps I.bk) inHeap good look bt fun ctv g tk up le => ?_
    have J : Inv X pins σ H { s with heap := g, toks := tk } := I.kept up
    have nw : H g.objs.size = none := J.hok.fresh (Nat.le_refl _)
    have sm : Same H (upd H g.objs.size (LamO g.objs.size (lamF X params scope c') body)) := fun b u e => by rw [upd_ne (ne_of_none e nw)]; exact e
    exact fin g.objs.size c' _ _ (inv_lamO (F := lamF X params scope c') (b := body) (pm := (X.mg "__name__").getD .none) (ctv := ctv) (t' := tk) J) (.of hT sm) nw upd_same (sm _ _ co) (off _ le)
  | none =>
    refine PySem.W.kla_makeFunction (mg := X.mg) (c := c) (P := P) (ps := tb) (closure_ok hfree) I.ok.glob (I.mod.glob.keeps I.bk) hcode (TB.code.keeps I.bk) inHeap good look TB.gP bt fun c' ctv g tk but le lt rec tab => ?_
    obtain ⟨c2, oc, vs, t, e2, g1, g2, g3⟩ := rec
    cases e2
    have nC : H c' = none := I.hok.fresh le
    have J := inv_table (t' := tk) (more := #[rawInt pos.line, rawInt pos.col, .ref c']) (h' := g) I onP (fun b o hb e => but b o hb e) tab le ⟨oc, vs, t, g1, g2, g3⟩
    have ex : ExtN H (upd (upd H P (.tbl (tb ++ #[rawInt pos.line, rawInt pos.col, .ref c']))) c' (CodeO c' (X.env.qual ++ "<lambda>"))) := fun b o e no => by
      have b1 : b ≠ P := fun z => by
        rw [z, onP] at e
        exact no tb (Option.some.inj e).symm
      rw [upd_ne (ne_of_none e nC), upd_ne b1]
      exact e
    have nn : ∀ b, upd (upd H P (.tbl (tb ++ #[rawInt pos.line, rawInt pos.col, .ref c']))) c' (CodeO c' (X.env.qual ++ "<lambda>")) b = none → H b = none := fun b e => upd_none (upd_none e)
    have lst : (tb ++ #[rawInt pos.line, rawInt pos.col, .ref c']).toList = tb.toList ++ [rawInt pos.line, rawInt pos.col, .ref c'] := by simp
    have tabs : Tabs T (upd (upd H P (.tbl (tb ++ #[rawInt pos.line, rawInt pos.col, .ref c']))) c' (CodeO c' (X.env.qual ++ "<lambda>"))) := fun p hp => by
      by_cases same : p.1 = P
      · refine ⟨_, by rw [same, upd_ne (ne_of_none onP nC), upd_same], by rw [lst]; exact PySem.TriplesOk_snoc _ _ _ _ good, fun p' cv q => ?_⟩
        rw [lst] at q
        rw [hu p hp same]
        rcases among_app _ good q with z | z
        · obtain ⟨c0, a1, a2⟩ := known p' cv z
          exact ⟨c0, a1, ex _ _ a2 codeO_ne⟩
        · exact ⟨c', z, upd_same⟩
      · obtain ⟨tb2, a1, a2, a3⟩ := hT p hp
        refine ⟨tb2, by rw [upd_ne (ne_of_none a1 nC), upd_ne same]; exact a1, a2, fun p' cv q => ?_⟩
        obtain ⟨c0, d1, d2⟩ := a3 p' cv q
        exact ⟨c0, d1, ex _ _ d2 codeO_ne⟩
    have nw := J.hok.fresh (Nat.le_refl g.objs.size)
    have sm := fun (o : HO) => (show Same _ (upd _ g.objs.size o) from fun b u e => by rw [upd_ne (ne_of_none e nw)]; exact e)
    exact fin g.objs.size c' _ _ (inv_lamO (F := lamF X params scope c') (b := body) (pm := (X.mg "__name__").getD .none) (ctv := ctv) (t' := tk) J) ((Gr.mk ex nn tabs).same (sm _)) (nn _ nw) upd_same (sm _ _ _ upd_same) (off _ (Nat.le_trans le (Nat.le_of_lt lt)))
end
/-- the lambda as a value -/
def tLamV (X : Cx) (T : List (Addr × Str)) (params : Arguments) (scope : Scope) (body : Expr) : TE := fun _ H Q => Tabs T H ∧ ∀ (f c' : Addr) (H1 : Hp), Gr T H H1 → H f = none → H1 f = some (LamO f (lamF X params scope c') body) → H1 c' = some (CodeO c' (X.env.qual ++ "<lambda>")) → f ∉ frs X.stack → Q (.ref f) H1
theorem pe_lamV {X : Cx} {T : List (Addr × Str)} {c P : Addr} {params : Arguments} {body : Expr} {scope : Scope} {pos : Pos} (TB : TabB X.base X.mg c P) (hcode : X.env.code = .ref c) (hm : (P, X.env.qual ++ "<lambda>") ∈ T) (hu : ∀ p ∈ T, p.1 = P → p.2 = X.env.qual ++ "<lambda>")
    (hdef : defaultsOf params X.env = ([], [])) (hfree : ∀ y ∈ scope.names, y.2 = .free → X.env.scope.names.lookup y.1 = some .cell ∨ X.env.scope.names.lookup y.1 = some .free) : PE X (.Lambda params body scope pos) (tLamV X T params scope body) := by
  refine ⟨fun pins s σ H Q I h => ?_⟩
  obtain ⟨hT, h⟩ := h
  have hfr : ∀ y ∈ scope.names, y.2 = .free → ∃ c, X.env.cells.lookup y.1 = some c := fun y hy e => (hfree y hy e).elim (fun z => I.ok.has _ (.inl z)) fun z => I.ok.has _ (.inr z)
  exact lamV_make I TB hcode hm hu hT hdef hfr fun f c' H1 s' J g n e1 e2 e3 => ⟨.ref f, H1, J, rfl, h f c' H1 g n e1 e2 e3⟩
/-! ### its promise -/
structure NOkL (P : Program) (w : World) (K : PySem.W.Frag) (mg : Str → Option Value) (base : Heap) (CX : CXT) (k : Nat) (f : Addr) (F : NF) (b : Expr) (ps fr : List Str) (sp : List (Option V) → Sp) : Prop where
  run : ∀ (A : Around) (outer : List Env) (s : Shared) (H : Hp) (us : List Value) (vs : List V) (ws : List (Option V)) (Q : VK) (E : XK), Room k A → Env0 P w K mg base A outer s H → H f = some (LamO f F b) → H F.c = some (CodeO F.c F.qual) →
    CellsAt F.cl fr ws s.heap H → Vals vs us → sp ws vs H Q E → codeAny (model P w) A (.call (.ref f) ⟨us, []⟩) (CR CX outer P w H s Q E) s
section
variable {CX : CXT} {P : Program} {w : World} {K : PySem.W.Frag} {mg : Str → Option Value} {base : Heap} {N ps fr : List Str} {F : NF} {b : Expr} {f : Addr} {k : Nat} {sp : List (Option V) → Sp}
theorem nokL_of (S : NScope N ps fr F.scope) (hb : ∀ (pm ctv : Value) (us : List Value), us.length = ps.length → bindArgs (PySem.W.kla_fn "<lambda>" F.qual F.params b F.scope F.cl pm (.ref F.c) ctv) ⟨us, []⟩ = pure (ps.zip us)) (len : ∀ ws vs H Q E, sp ws vs H Q E → vs.length = ps.length)
    (hbody : ∀ (A : Around) (outer : List Env) (s : Shared) (H : Hp) (vs : List V) (ws : List (Option V)) (Q : VK) (E : XK), Room k (A.deeper (envF F f s.heap.objs.size)) → ws.length = fr.length → sp ws vs H Q E →
      ∃ t, PE (ncx CX P w K mg base N F f A outer s H E) b t ∧ t (startF N vs ws) H Q) : NOkL P w K mg base CX (k + 1) f F b ps fr sp := by
  refine ⟨fun A outer s H us vs ws Q E room e0 hf hc C r hsp => ?_⟩
  have many := len _ _ _ _ _ hsp
  obtain ⟨pm, ctv, onF⟩ := lamO_at e0.hok hf
  have lim : s.heap.NoLimit := e0.mod.nolimit.keeps fun c o e => (e0.bs c o e).1
  refine PySem.W.kla_callFunE room.depth onF rfl S.co S.gen rfl (codeO_at e0.hok hc) ?_
  rw [hb pm ctv us (by rw [← r.length]; exact many)]
  refine wpAny_pure (wpAny_newFunctionEnv S.nocell (fun ⟨n, _⟩ hy => S.par n (List.of_mem_zip hy).1) (fun h₁ hns hsb => ⟨lim.fresh _ hsb, ?_⟩) S.kind)
  show codeAny _ _ (.expr b (envF F f s.heap.objs.size)) _ _
  have up : ∀ c o, s.heap.get? c = some o → h₁.get? c = some o := fun c o e => hsb.extBut c o (Nat.ne_of_lt (Heap.lt_size e)) (Heap.get?_push_of_some _ e)
  obtain ⟨t, ht, q⟩ := hbody A outer s H vs ws Q E (room.deeper _) C.len hsp
  have I : Inv (ncx CX P w K mg base N F f A outer s H E) [] (startF N vs ws) H { s with heap := h₁, toks := s.toks + (ps.zip us).length } := inv_startN S room.hd e0 many r C hns up
  refine PySem.W.kla_codeExpr (wpAny_mono (ht.run [] _ _ H Q I q) (fun u s' z => ?_) fun e s' z => z)
  obtain ⟨v, H', J, rv, y⟩ := z
  exact ⟨v, H', J.os, J.bare, J.base, J.hok, rv, y⟩
/-- the cells hold what they held -/
theorem cells_on {cl : List (Str × Addr)} {ws : List (Option V)} {fs : List Addr} {H H1 : Hp} {h h1 : Heap} (C : CellsAt cl fr ws h H) (un : Un fs [] H H1 h h1) : CellsAt cl fr ws h1 H1 := by
  have kp : ∀ y c, cl.lookup y = some c → ∀ v, h.IsCell c v → h1.IsCell c v := fun y c e v ⟨o, a1, a2⟩ => by
    obtain ⟨sl, q⟩ := un.any a1 (C.all y c e).1 (fun z => nomatch z)
    exact ⟨_, q, a2⟩
  refine ⟨C.len, fun y c e => ?_, C.inj, fun i y e => ?_⟩
  · obtain ⟨no, v, z⟩ := C.all y c e
    obtain ⟨o, ho, _⟩ := id z
    exact ⟨un.free c o ho no (fun z => nomatch z), v, kp y c e v z⟩
  · obtain ⟨c, a1, a2⟩ := C.has i y e
    refine ⟨c, a1, fun v ev => ?_⟩
    obtain ⟨u, r, z⟩ := a2 v ev
    exact ⟨u, r, kp y c a1 _ z⟩
end
/-- what is known of the thing at f, and of what it does with what its cells hold -/
def spGot (f : Addr) (F : NF) (b : Expr) (ws : List (Option V)) (sp : List (Option V) → Sp) : Sp := fun vs H Q E => H f = some (LamO f F b) ∧ H F.c = some (CodeO F.c F.qual) ∧ sp ws vs H Q E
section
variable {X : Cx} {CX : CXT} {F : NF} {b : Expr} {ps fr : List Str} {ws : List (Option V)} {i j k : Nat} {f : Addr} {x : Str} {sp : List (Option V) → Sp} {E : XK} {t : TA} {e : Expr} {es : List Expr} {p pos : Pos}
/-- x(..), x a name that holds a lambda of another frame -/
theorem pe_callP (Fn : NOkL X.prog X.w X.K X.mg X.base CX k f F b ps fr sp) (C : CellsAt F.cl fr ws X.s_0.heap X.H_0) (hex : X.ex = []) (hr : Room j X.A) (hk : k ≤ j) (hx : Passes CX X E) (hN : X.N[i]? = some x) (hv : Vis X.env.scope x) (ha : PA X (e :: es) t)
    (hd : (x == ("__debug__" : Str)) = false := by decide) (hcd : (x == ("__classdict__" : Str)) = false := by decide)
    (he : starEach (e :: es) X.env = (false, eval e X.env) :: starEach es X.env := by rfl) (hpl : (backTo pos (starEach es X.env)).any (·.1) = false := by rfl) :
    PE X (.Call (.Name x p) (e :: es) [] pos) (fun σ H Q => σ[i]? = some (some (.ref f)) ∧ H f = some (LamO f F b) ∧ t σ H fun vs H1 => spGot f F b ws sp vs H1 Q E) := by
  refine ⟨fun pins s σ H Q I h => ?_⟩
  obtain ⟨hs, hf, ht⟩ := h
  have at_ : ∀ {H : Hp} {s : Shared}, Inv X pins σ H s → H f = some (LamO f F b) → PySem.W.FnAt f s.heap := fun J e => by
    obtain ⟨pm, ctv, o⟩ := lamO_at J.hok e
    exact ⟨_, _, _, _, o⟩
  refine wpAny_Call_Name_kw (thn ((pe_var (pos := p) hN hv hd hcd).run pins s σ H (fun v H1 => v = .ref f ∧ H1 = H) I ⟨.ref f, hs, rfl, rfl⟩) fun u s1 ⟨v, H1, I1, r1, q1⟩ => ?_)
  obtain ⟨ev, eH⟩ := q1
  subst ev
  rw [eH] at I1
  obtain rfl : u = Value.ref f := r1
  refine PySem.W.callWith_F (first := []) (at_ I1 hf) (thn (ha.run pos pins s1 σ H _ I1 ht) fun us s2 ⟨vs, H2, I2, r, h1, h2, q⟩ => ⟨at_ I2 h1, ?_⟩) he hpl
  show wpAny _ _ (call (.ref f) us) _ _ _
  have un := I2.base
  rw [hex] at un
  refine wpAny_call (codeAny_mono (Fn.run X.A X.stack s2 H2 us vs _ Q E (hr.mono hk) I2.env0 h1 h2 (cells_on C un) r q) fun r s' hq => ?_)
  cases r with
  | error e => exact hx pins σ H2 s2 e s' I2 hq
  | ok fl =>
    cases fl with
    | ret u => exact I2.after hq
    | next => exact False.elim hq
    | brk => exact False.elim hq
    | cont => exact False.elim hq
end
/-! ### a def that gets a lambda to call -/
structure GivesV (P : Program) (w : World) (K : PySem.W.Frag) (mg : Str → Option Value) (base : Heap) (k kl : Nat) (x : Str) (g : Addr) (TT : Addr → Sp → Sp) : Prop where
  m : mg x = some (.ref g)
  kp : PySem.W.keepIn K (.ref g) = true
  run : ∀ (A : Around) (outer : List Env) (f : Addr) (F : NF) (b : Expr) (lps fr : List Str) (ws : List (Option V)) (spl : List (Option V) → Sp) (s : Shared) (H : Hp) (us : List Value) (vs : List V) (Q : VK), Room k A → Env0 P w K mg base A outer s H → NOkL P w K mg base CX0 kl f F b lps fr spl → CellsAt F.cl fr ws s.heap H → H f = some (LamO f F b) → Vals vs us → TT f (spGot f F b ws spl) vs H Q E0 →
    codeAny (model P w) A (.call (.ref g) ⟨us, []⟩) (CR CX0 outer P w H s Q E0) s
theorem givesV_of {P : Program} {w : World} {K : PySem.W.Frag} {mg : Str → Option Value} {base : Heap} {k kl : Nat} {x : Str} {g : Addr} {fd : FuncData} {pg : Arguments} {bg : List Stmt} {sg : Scope} {Ng ps : List Str} {TT : Addr → Sp → Sp}
    (F : FunD K x x pg bg sg [] [] g fd) (hm : mg x = some (.ref g)) (Sg : FnScope Ng ps sg)
    (hb : ∀ (kV doc pm : Value) (an : Option Addr) (cdv ct : Value) (us : List Value), us.length = ps.length → bindArgs (PySem.W.fnOf x x pg bg sg .none kV doc pm an cdv ct) ⟨us, []⟩ = pure (ps.zip us))
    (len : ∀ f c vs H Q E, TT f c vs H Q E → vs.length = ps.length)
    (hG : ∀ (cdg : Value) (A : Around) (outer : List Env) (f : Addr) (F : NF) (b : Expr) (lps fr : List Str) (ws : List (Option V)) (spl : List (Option V) → Sp) (s : Shared) (H : Hp) (vs : List V) (Q : VK), Room k (A.deeper (envOfC x sg s.heap.objs.size g cdg)) → NOkL P w K mg base CX0 kl f F b lps fr spl → CellsAt F.cl fr ws s.heap H → H f = some (LamO f F b) → TT f (spGot f F b ws spl) vs H Q E0 →
      ∃ t, PSs (cxOf CX0 P w K mg base Ng x sg g cdg A outer s H E0).nox bg t ∧ t { nx := fun _ H' => Q .non H', rt := Q } (L2.start Ng vs) H) : GivesV P w K mg base (k + 1) kl x g TT := by
  have bd := FunD.bindsN F hb
  refine ⟨hm, F.kp, fun A outer f FF b lps fr ws spl s H us vs Q room e0 Fn C hf r hT => ?_⟩
  have many := len _ _ _ _ _ _ hT
  obtain ⟨oc, od, dV, kV, doc, pm, an, cdv, ct, osl, rfl, lk, hcd, _, _⟩ := F.ex
  refine run_ofS (N := Ng) (ps := ps) (us := us) (vs := vs) lk hcd Sg room e0 (by
      have z := bd s us (e0.mod.kin.keeps fun c o e => (e0.bs c o e).1) (by rw [List.append_nil, ← r.length]; exact many)
      rw [List.append_nil] at z
      exact z) r many fun room' => ?_
  obtain ⟨t, h1, h2⟩ := hG cdv A outer f FF b lps fr ws spl s H vs Q room' Fn C hf hT
  exact ⟨t, h1.nox, h2⟩
/-- g(lambda, ..): the call -/
def tGiveV (mk : Addr → NF) (b : Expr) (js : List Nat) (TT : Addr → Sp → Sp) (sp : List (Option V) → Sp) (t : TA) : TE := fun σ H Q => t σ H fun vs H1 => ∃ f c', H1 f = some (LamO f (mk c') b) ∧ TT f (spGot f (mk c') b (js.map (slotAt σ)) sp) vs H1 Q E0
theorem pe_giveV {X : Cx} {k kl : Nat} {g : Addr} {TT : Addr → Sp → Sp} {mk : Addr → NF} {cl : List (Str × Addr)} {lps fr : List Str} {js : List Nat} {x : Str} {sp : List (Option V) → Sp} {t : TA} {b e : Expr} {es : List Expr} {p pos : Pos}
    (G : GivesV X.prog X.w X.K X.mg X.base k kl x g TT) (Fn : ∀ f c', NOkL X.prog X.w X.K X.mg X.base CX0 kl f (mk c') b lps fr sp) (hcl : ∀ c', (mk c').cl = cl) (cp : X.Ok → Caps X cl fr js) (hr : Room k X.A) (hg : Gl X x) (ha : PA X (e :: es) t)
    (hdb : (x == ("__debug__" : Str)) = false := by decide) (he : starEach (e :: es) X.env = (false, eval e X.env) :: starEach es X.env := by rfl) (hpl : (backTo pos (starEach es X.env)).any (·.1) = false := by rfl) :
    PE X (.Call (.Name x p) (e :: es) [] pos) (tGiveV mk b js TT sp t) := by
  refine ⟨fun pins s σ H Q I h => ?_⟩
  refine wpAny_Call_Name_kw (ld_glob I hg G.m ?_ hdb)
  refine PySem.W.callWith_K (h₀ := X.base) I.ok.mod.kin G.kp (thn (ha.run pos pins s σ H _ I h) fun us s2 ⟨vs, H2, I2, r, q2⟩ => ⟨I2.kIn, ?_⟩) he hpl
  obtain ⟨f, c', h1, hT⟩ := q2
  have C : CellsAt (mk c').cl fr (js.map (slotAt σ)) s2.heap H2 := by
    rw [hcl c']
    exact cells_of I2 (cp I2.ok)
  show wpAny _ _ (call (.ref g) us) _ _ _
  refine wpAny_call (codeAny_mono (G.run X.A X.stack f (mk c') b lps fr _ sp s2 H2 us vs Q hr I2.env0 (Fn f c') C h1 r hT) fun r s3 hq => ?_)
  cases r with
  | error e => exact (show False from hq).elim
  | ok fl =>
    cases fl with
    | ret u => exact I2.after hq
    | next => exact False.elim hq
    | brk => exact False.elim hq
    | cont => exact False.elim hq
/-- a def whose own code object is known -/
theorem FunD_okC {P : Program} {w : World} {K : PySem.W.Frag} {mg : Str → Option Value} {base : Heap} {x qual : Str} {params : Arguments} {body : List Stmt} {scope : Scope} {dvs : List V} {kws : List (Str × V)} {f c : Addr} {fd : FuncData} {CX : CXT} {N ps : List Str} {k : Nat} {sp : Sp} (F : FunD K x qual params body scope dvs kws f fd) (hc : fd.code = .ref c) (S : FnScope N ps scope) (len : ∀ vs H Q E, sp vs H Q E → vs.length = ps.length)
    (hbody : ∀ (A : Around) (outer : List Env) (s : Shared) (H : Hp) (vs : List V) (Q : VK) (E : XK), Room k (A.deeper (envOfC qual scope s.heap.objs.size f (.ref c))) → sp vs H Q E →
      ∃ t, PSs (cxOf CX P w K mg base N qual scope f (.ref c) A outer s H E) body t ∧ t { nx := fun _ H' => Q .non H', rt := Q } (start N vs) H) : FnOk P w K mg base CX (k + 1) f fd ps sp := by
  obtain ⟨oc, od, dV, kV, doc, pm, an, cdv, ct, osl, rfl, lk, hcd, _, _⟩ := F.ex
  obtain rfl : cdv = .ref c := hc
  exact fn_of lk hcd S len fun A outer s H vs Q E hr hsp => hbody A outer s H vs Q E hr hsp
end Xh
end
section
set_option Elab.async false
set_option linter.all false
set_option maxRecDepth 100000
set_option maxHeartbeats 2000000
/-! C.m(..): a plain def of an own class, called by the class; own exceptions with one field -/
namespace Xh
open PySem PySem.Spec PyProof.Rows L2
/-- C.m is g -/
structure CDef (K : PySem.W.Frag) (C g : Addr) (m : Str) : Prop where
  rd : ClX.CRead K C (.type "type")
  at_ : PySem.W.findCls K (.ref C) (.type "type") m = some (.val (.ref g))
  ty : PySem.W.typeIn K (.ref C) = some (.type "type")
  kp : PySem.W.keepIn K (.ref g) = true
/-- C.m(..) -/
def tCDef (sp : Sp) (E : XK) (t : TA) : TE := fun σ H Q => t σ H fun vs H2 => sp vs H2 Q E
theorem pe_cdef {X : Cx} {CX : CXT} {k : Nat} {C g : Addr} {x m : Str} {sp : Sp} {E : XK} {t : TA} {e : Expr} {es : List Expr} {np apos pos : Pos} {pl : Sem Bool} (hg : Gl X x) (hm : X.mg x = some (.ref C)) (c : CDef X.K C g m) (F : FnR X.prog X.w X.K X.mg X.base CX k g sp) (hr : Room k X.A) (hx : Passes CX X E) (ha : PA X (e :: es) t)
    (he : starEach (e :: es) X.env = (false, eval e X.env) :: starEach es X.env := by rfl) (hpl : (backTo pos (starEach es X.env)).any (·.1) = false := by rfl) (hdb : (x == ("__debug__" : Str)) = false := by decide)
    (hc : eval (.Call (.Attribute (.Name x np) m apos) (e :: es) [] pos) X.env = (do
      let ov ← eval (.Name x np) X.env
      standAt apos.atName
      let (f, first) ← holding [ov] (getMethod ov m pl)
      callWith pos f first (backTo pos (starEach (e :: es) X.env)) []) := by rfl) :
    PE X (.Call (.Attribute (.Name x np) m apos) (e :: es) [] pos) (tCDef sp E t) := by
  refine ⟨fun pins s σ H Q I h => ?_⟩
  obtain ⟨mm, FR⟩ := I.fr
  refine PyProof.Rows.MethodCall_ (pl := pl) (ld_glob I hg hm (PySem.W.method_of_cls FR I.ok.mod.kin c.rd.ga (PySem.W.cls_val FR I.ok.mod.kin c.ty c.rd.rd c.at_ rfl ?_)) hdb) hc
  have I2 := I.tok (s.toks + 1)
  refine PySem.W.callWith_K (h₀ := X.base) I2.ok.mod.kin c.kp (thn (ha.run pos pins _ σ H _ I2 h) fun us s2 ⟨vs, H2, I3, r, q⟩ => ⟨I3.kIn, ?_⟩) he hpl
  show wpAny _ _ (call (.ref g) us) _ _ _
  refine wpAny_call (codeAny_mono (F X.A X.stack s2 H2 us vs Q E hr I3.env0 r q) fun r s3 hq => ?_)
  cases r with
  | error er => exact hx pins σ _ _ er s3 I3 hq
  | ok fl =>
    cases fl with
    | ret u => exact I3.after hq
    | next => exact False.elim hq
    | brk => exact False.elim hq
    | cont => exact False.elim hq
/-- what C.__init__(self, y) promises: the word, and y in the field -/
def spFI (K : PySem.W.Frag) (f : Str) : Sp := fun vs H Q E => ∃ (a C : Addr) (nm : Str) (y : V), vs = [.ref a, y] ∧ RC K C nm ∧ PySem.W.findIn K (.ref C) "word" = some none ∧ PySem.W.findIn K (.ref C) f = some none ∧ H a = some (exo a C none) ∧
  ∀ H1 dx, H dx = none → dx ≠ a → Same H H1 → H1 dx = none → Q .non (upd (upd (upd H1 dx (exd dx [("word", .str nm)])) a (exo a C (some dx))) dx (exd dx [(f, y), ("word", .str nm)]))
/-- a class with a field of its own -/
structure RXF (K : PySem.W.Frag) (mg : Str → Option Value) (C fI : Addr) (nm f : Str) : Prop where
  c : RC K C nm
  w : PySem.W.findIn K (.ref C) "word" = some none
  fd : PySem.W.findIn K (.ref C) f = some none
  i : PySem.W.findIn K (.ref C) "__init__" = some (some (.ref fI))
  t : PySem.W.typeIn K (.ref fI) = some (.type "function")
  g : mg nm = some (.ref C)
/-- raise C(y) -/
theorem pmk_field {X : Cx} {C fI : Addr} {nm f x0 : Str} {p pos : Pos} {e : Expr} {fd : FuncData} {ta : TA} {k : Nat} (T : RXF X.K X.mg C fI nm f) (F : FnOk X.prog X.w X.K X.mg X.base (L2.CX X.prog X.w) k fI fd ["self", x0] (spFI X.K f)) (hr : Room (k + 1) X.A) (hb : Binds X.K fd ["self", x0] []) (hg : Gl X nm) (ha : PA X [e] ta)
    (hdb : (nm == ("__debug__" : Str)) = false := by decide) (he : starEach [e] X.env = (false, eval e X.env) :: starEach [] X.env := by rfl) (hpl : (backTo pos (starEach [] X.env)).any (·.1) = false := by rfl) : PMk X (.Call (.Name nm p) [e] [] pos) (tMkO C (spFI X.K f) [] ta) :=
  pmk_oex T.c.o T.i T.t F hr hb .nil passL hg T.g ha hdb he hpl
/-- .. what it wants: its word, its field -/
theorem mkF {K : PySem.W.Frag} {mg : Str → Option Value} {C fI : Addr} {nm f : Str} (T : RXF K mg C fI nm f) {y : V} {H1 : Hp} {Q : XK} (h : ∀ (d : Addr) (H' : Hp), Same H1 H' → H' d = some (.xd [(f, y), ("word", .str nm)]) → H1 d = none → Q (.ref C) (some d) H') :
    [y].length ≤ 1000 ∧ ∀ a, H1 a = none → spFI K f (.ref a :: ([y] ++ [])) (upd H1 a (exo a C none)) (fun v H2 => v = .non ∧ ∃ (d : Addr) (fs : List (Str × V)), H2 a = some (exo a C (some d)) ∧ H2 d = some (exd d fs) ∧ H1 d = none ∧ Q (.ref C) (some d) (upd (del H2 a) d (.xd fs))) (fun _ _ _ => False) := by
  refine ⟨by show 1 ≤ 1000; decide, fun a ha => ⟨a, C, nm, y, rfl, T.c, T.w, T.fd, upd_same, fun H2 dx hdx hne hs h2 => ⟨rfl, dx, _, by rw [upd_ne (Ne.symm hne), upd_same], upd_same, by rw [upd_ne hne] at hdx; exact hdx, ?_⟩⟩⟩
  have hdx' : H1 dx = none := by rw [upd_ne hne] at hdx; exact hdx
  refine h dx _ (fun b o e => ?_) upd_same hdx'
  have n2 : b ≠ a := ne_of_none e ha
  have n3 : b ≠ dx := ne_of_none e hdx'
  rw [upd_ne n3, del_ne n2, upd_ne n3, upd_ne n2, upd_ne n3]
  exact hs b o (by rw [upd_ne n2]; exact e)
section
variable {P : Program} {w : World} {K : PySem.W.Frag} {mg : Str → Option Value} {base : Heap}
/-- __init__(self, y): RungError.__init__(self); self.f = y -/
theorem ok_finit {st : Stmt} {g fI R : Addr} {fd : FuncData} {q x0 f : Str} (F : FunD K "__init__" q (defArgs st) (defBody st) (defScope st) [] [] g fd) (S : FnScope ([("self" : Str), x0]) [("self" : Str), x0] (defScope st))
    (body : ∀ X : Cx, X.K = K → X.prog = P → X.w = w → X.mg = mg → X.base = base → X.N = [("self" : Str), x0] → X.env.scope = defScope st → Room 1 X.A → Passes (L2.CX P w) X (fun _ _ _ => False) → PSs X (defBody st) (tSeq (tDrop (tCDef (spRI1 K) (fun _ _ _ => False) (tCons (tVar 0) tNil))) (tOst K f (tVar 0) (tVar 1)))) : FnOk P w K mg base (L2.CX P w) 2 g fd ["self", x0] (spFI K f) := by
  refine F.ok S (fun vs H Q E h => ?_) (fun cdv A outer s H vs Q E hr h => ?_)
  · obtain ⟨a, C, nm, y, rfl, _⟩ := h
    rfl
  · obtain ⟨a, C, nm, y, rfl, T, hw, hf, ha, k⟩ := h
    refine ⟨_, body _ rfl rfl rfl rfl rfl rfl rfl (hr.mono (by decide)) passL, ?_⟩
    refine ⟨_, rfl, a, C, nm, rfl, T, hw, ha, fun H1 dx hdx hne hs h1 => ?_⟩
    refine ⟨_, rfl, _, rfl, a, C, rfl, T.o, hf, .inr ⟨dx, _, upd_same, by rw [upd_ne hne, upd_same], by show 1 ≤ 900; decide, ?_⟩⟩
    exact k H1 dx hdx hne hs h1
end
end Xh
end
section
set_option Elab.async false
set_option linter.all false
set_option maxRecDepth 100000
set_option maxHeartbeats 4000000
/-! t * k of a tuple, k from 1: one time is the very tuple -/
namespace Xh
open PySem PySem.Spec PyProof.Rows L2
theorem tup_once (l : Addr) (items : Array Value) (n : Nat) (dd : Option Addr) (sl : Array (Option Value)) (u : Tok) :
    Meets (Builtin.«tuple.__mul__» ⟨[.ref l, .int 1 u], []⟩) (fun _ R s => s.heap.get? l = some { cls := .type "tuple", dict := dd, data := .seq items n, slots := sl } ∧ R (.ok (.ret (.ref l))) s) :=
  .of_wp fun prog w A R s h => by
    obtain ⟨hp, g, d, tk, os⟩ := s
    obtain ⟨hl, h⟩ := h
    have f1 := AutoSeq1.idx_int
    have c0 : (decide ((1 : Int) < -(2 ^ 63)) || decide ((1 : Int) ≥ 2 ^ 63)) = false := by decide
    have c1 : (items.isEmpty || (1 : Int) == 1) = true := by simp
    wp_walk using wpAny_loadPart' hl
    repeat (first
      | (refine wpAny_ite_false (decide_eq_false (by rw [c0]; exact Bool.false_ne_true)) ?_; wp_walk using wpAny_loadPart' hl)
      | (refine wpAny_ite_true (decide_eq_true c1) ?_; wp_walk using wpAny_loadPart' hl))
    exact ⟨_, rfl, h⟩
def rRepP (K : PySem.W.Frag) : R2 := fun x y H Q => ∃ l k xs, x = .ref l ∧ y = .int k ∧ SqT K H l xs ∧ xs ≠ [] ∧ 1 ≤ k ∧ k ≤ 1000 ∧ xs.length ≤ 1000 ∧ (k = 1 → Q (.ref l) H) ∧ (2 ≤ k → ∀ p, H p = none → Q (.ref p) (upd H p (.tup (List.replicate k.toNat xs).flatten)))
theorem op_repP {X : Cx} : OpR X (binaryOp .Mult) (rRepP X.K) := by
  intro pins s σ H x y v u Q I rx ry h
  obtain ⟨l, k, xs, ex, ey, hT, hne, h1, h2, hz, q1, q2⟩ := h
  by_cases hk : k = 1
  · subst hk
    subst ex
    subst ey
    cases rx
    obtain ⟨t, rfl⟩ := ry
    obtain ⟨its, r, ⟨⟨cls, dd, data, sl⟩, ho, hc, n, hd⟩, hs⟩ := I.tuple hT
    simp only at hc hd
    subst hc hd
    exact wpAny_binaryOp_repeat_ref (T := "tuple") (U := "int") (by decide) ⟨_, ho, rfl⟩ (fun s' => typeIs_int s' 1 t) noFill_tuple_mul F.fills_int_mul F.slot_int_rmul repeat_tuple F.slot_int_index.lookup
      (call_meets F.slot_int_rmul (typeIs_int s 1 t) F.entry_int_rmul (F.args_int_rmul_2 _ _) (int_rmul_tuple 1 t l its.toArray n dd sl)
        ⟨ho, rfl, ⟨_, ho, rfl⟩, call_meets F.slot_tuple_mul ⟨_, ho, rfl⟩ F.entry_tuple_mul (F.args_tuple_mul_2 _ _) (tup_once l its.toArray n dd sl t) ⟨ho, ⟨.ref l, H, I, rfl, q1 rfl⟩⟩⟩)
  · exact op_repT pins s σ H x y v u Q I rx ry ⟨l, k, xs, ex, ey, hT, hne, by omega, h2, hz, q2 (by omega)⟩
theorem tup_none (l : Addr) (items : Array Value) (n : Nat) (dd : Option Addr) (sl : Array (Option Value)) (x : Int) (u : Tok) (h0 : x ≤ 0) (h1 : -1000 ≤ x) (ne : items.isEmpty = false) :
    Meets (Builtin.«tuple.__mul__» ⟨[.ref l, .int x u], []⟩) (fun _ R s => s.heap.get? l = some { cls := .type "tuple", dict := dd, data := .seq items n, slots := sl } ∧ R (.ok (.ret (.ref s.heap.objs.size))) { s with heap := s.heap.push { cls := Value.type "tuple", data := Data.seq #[] }, toks := s.toks }) :=
  .of_wp fun prog w A R s h => by
    obtain ⟨hp, g, d, tk, os⟩ := s
    obtain ⟨hl, h⟩ := h
    have f1 := AutoSeq1.idx_int
    have c0 : (decide (x < -(2 ^ 63)) || decide (x ≥ 2 ^ 63)) = false := by rw [decide_eq_false (by omega), decide_eq_false (by omega)]; rfl
    have c1 : (items.isEmpty || x == 1) = false := by rw [ne, Bool.false_or]; exact beq_eq_false_iff_ne.mpr (by omega)
    have c2 : (decide (x ≤ 0) || items.isEmpty) = true := by rw [decide_eq_true h0]; rfl
    wp_walk using wpAny_loadPart' hl
    repeat (first
      | (refine wpAny_ite_false (decide_eq_false (by rw [c0]; exact Bool.false_ne_true)) ?_; wp_walk using wpAny_loadPart' hl)
      | (refine wpAny_ite_false (decide_eq_false (by rw [c1]; exact Bool.false_ne_true)) ?_; wp_walk using wpAny_loadPart' hl)
      | (refine wpAny_ite_true (decide_eq_true c2) ?_; wp_walk using wpAny_loadPart' hl))
    exact ⟨_, rfl, h⟩
def rRepZ (K : PySem.W.Frag) : R2 := fun x y H Q => ∃ l k xs, x = .ref l ∧ y = .int k ∧ SqT K H l xs ∧ xs ≠ [] ∧ -1000 ≤ k ∧ k ≤ 1000 ∧ xs.length ≤ 1000 ∧ (k = 1 → Q (.ref l) H) ∧ (k ≠ 1 → ∀ p, H p = none → Q (.ref p) (upd H p (.tup (List.replicate k.toNat xs).flatten)))
/-- t * k, any k -/
theorem op_repZ {X : Cx} : OpR X (binaryOp .Mult) (rRepZ X.K) := by
  intro pins s σ H x y v u Q I rx ry h
  obtain ⟨l, k, xs, ex, ey, hT, hne, h1, h2, hz, q1, q2⟩ := h
  by_cases hk : k ≤ 0
  · have q := q2 (by omega)
    rw [show k.toNat = 0 by omega] at q
    subst ex
    subst ey
    cases rx
    obtain ⟨t, rfl⟩ := ry
    obtain ⟨its, r, ⟨⟨cls, dd, data, sl⟩, ho, hc, n, hd⟩, hs⟩ := I.tuple hT
    simp only at hc hd
    subst hc hd
    have hi : its.toArray.isEmpty = false := by
      cases its with
      | nil =>
        have := r.length
        exact absurd (List.eq_nil_of_length_eq_zero this) hne
      | cons a b => rfl
    refine wpAny_binaryOp_repeat_ref (T := "tuple") (U := "int") (by decide) ⟨_, ho, rfl⟩ (fun s' => typeIs_int s' k t) noFill_tuple_mul F.fills_int_mul F.slot_int_rmul repeat_tuple F.slot_int_index.lookup
      (call_meets F.slot_int_rmul (typeIs_int s k t) F.entry_int_rmul (F.args_int_rmul_2 _ _) (int_rmul_tuple k t l its.toArray n dd sl)
        ⟨ho, rfl, ⟨_, ho, rfl⟩, call_meets F.slot_tuple_mul ⟨_, ho, rfl⟩ F.entry_tuple_mul (F.args_tuple_mul_2 _ _) (tup_none l its.toArray n dd sl k t hk h1 hi) ⟨ho, ?_⟩⟩)
    refine ⟨.ref s.heap.objs.size, _, I.laid (t' := s.toks) (o := .tup []) (fun b ob q => Heap.get?_push_of_some _ q) (Nat.le_refl _) ?_, rfl, q _ (I.hok.fresh (Nat.le_refl _))⟩
    exact ⟨Nat.zero_le _, _, .nil, IsTup.new _ _⟩
  · exact op_repP pins s σ H x y v u Q I rx ry ⟨l, k, xs, ex, ey, hT, hne, by omega, h2, hz, q1, fun h => q2 (by omega)⟩
end Xh
end
section
set_option Elab.async false
set_option linter.all false
set_option maxRecDepth 100000
set_option maxHeartbeats 2000000
/-! list(text); text * 0 and text * 1 -/
namespace Xh
open PySem PySem.Spec PyProof.Rows L2
section
variable {X : Cx}
theorem vals_signs {x : Str} {acc : Array Value} (h : ItemsOf (SignAt x) acc x.cps.size) : Vals ((signs x).map V.str) acc.toList := by
  have key : ∀ (l : List Nat) (us : List Value), us.length = l.length → (∀ (j : Nat) (v : Value), us[j]? = some v → ∃ c u, l[j]? = some c ∧ v = .str ⟨#[c]⟩ u) → Vals ((l.map fun n => (⟨#[n]⟩ : Str)).map V.str) us := by
    intro l
    induction l with
    | nil =>
      intro us hl _
      cases us with
      | nil => exact .nil
      | cons u us => cases hl
    | cons c l ih =>
      intro us hl hv
      cases us with
      | nil => cases hl
      | cons u us =>
        obtain ⟨c', t, e1, e2⟩ := hv 0 u rfl
        cases e1
        exact .cons ⟨t, e2⟩ (ih us (Nat.succ.inj hl) fun j v e => hv (j + 1) v e)
  refine key x.cps.toList acc.toList (by rw [Array.length_toList, Array.length_toList]; exact h.1) fun j v e => ?_
  obtain ⟨c, u, hc, rfl⟩ := h.2 j v (by rw [← e, Array.getElem?_toList])
  exact ⟨c, u, by rw [Array.getElem?_toList]; exact hc, rfl⟩
theorem call_listS (hc : X.calm = true) : CallR X (.type "list") (fun xs H Q => ∃ a : Str, xs = [.str a] ∧ a.length ≤ sizeLine ∧ ∀ p, H p = none → Q (.ref p) (upd H p (.lst ((signs a).map V.str)))) := by
  intro pins s σ H xs us Q I r h
  obtain ⟨a, rfl, hz, q⟩ := h
  obtain ⟨u, rfl, rx⟩ := vals1 r
  obtain ⟨t, rfl⟩ := rx
  refine call_list_str (I.ok.hd hc) a t (hn := hz) fun h' tk acc c' hk e' hi => ?_
  refine ⟨.ref s.heap.objs.size, upd H s.heap.objs.size (.lst ((signs a).map V.str)), I.laid hk (Nat.le_refl _) (show ObjOk X.prog X.w _ _ _ (.lst ((signs a).map V.str)) from ⟨?_, acc.toList, c', vals_signs hi, ?_⟩), rfl, q _ (I.hok.fresh (Nat.le_refl _))⟩
  · rw [List.length_map, signs_length]
    exact hz
  · rw [Array.toArray_toList]
    exact e'
theorem op_mulS : OpR X (binaryOp .Mult) (fun x y H Q => ∃ (a : Str) (k : Int), x = .str a ∧ y = .int k ∧ 0 ≤ k ∧ k ≤ 1 ∧ Q (.str (if k = 0 then Str.empty else a)) H) := by
  intro pins s σ H x y v u Q I rx ry h
  obtain ⟨a, k, rfl, rfl, h0, h1, q⟩ := h
  obtain ⟨t, rfl⟩ := rx
  obtain ⟨t', rfl⟩ := ry
  by_cases e : k = 0
  · subst e
    rw [if_pos rfl] at q
    exact P.mul_str_none (by decide) (by decide) ⟨.str Str.empty, H, I.tok _, ⟨_, rfl⟩, q⟩
  · have e1 : k = 1 := by omega
    subst e1
    rw [if_neg (by decide)] at q
    refine P.mul_str (by decide) (fun _ z => by simp at z) (fun _ z => by simp at z) ?_
    rw [if_neg (by decide), if_pos (by simp)]
    exact ⟨.str a, H, I, ⟨_, rfl⟩, q⟩
end
end Xh
end
section
set_option Elab.async false
set_option linter.all false
set_option maxRecDepth 100000
set_option maxHeartbeats 0
namespace Xh
open PySem PySem.Spec PyProof.Rows L2 He
/-- where the written part looks: what the names reach in n steps, and the statics -/
def asS (g : Addr → Option Obj) (n : Nat) : List Addr := cStatics :: asD g n
def obsZ (n : Nat) (fa : List Fa) (fn : List DefD) (tf : List Defn) (ex : PySem.W.Frag → Bool) (g : Addr → Option Obj) : AlX :=
  let K := frT g (asS g n)
  (obsT fa fn [] K, ex K && tabsB g tf K)
theorem saysZ {n : Nat} {fa : List Fa} {fn : List DefD} {tf : List Defn} {ex : PySem.W.Frag → Bool} {w : World} {h : Heap} (e : obsZ n fa fn tf ex h.get? = valX fn [] w) :
    SaysX fa fn [] tf ex w h (frT h.get? (asS h.get? n)) := by
  generalize hK : frT h.get? (asS h.get? n) = K
  have e' : (obsT fa fn [] K, ex K && tabsB h.get? tf K) = valX fn [] w := by rw [← hK]; exact e
  injection e' with e1 e2
  rw [Bool.and_eq_true] at e2
  have key : ∀ p ∈ tf, PySem.W.codeHdIn K (cT K p).1 (cT K p).2 = true ∧ ∃ o, h.get? (cT K p).2 = some o ∧ emptyTab o = true := by
    intro p hp
    have z := List.all_eq_true.mp e2.2 p hp
    rw [Bool.and_eq_true] at z
    refine ⟨z.1, ?_⟩
    have z2 := z.2
    split at z2
    · exact ⟨_, ‹_›, z2⟩
    · cases z2
  refine ⟨e1, e2.1, fun p hp => (key p hp).1, fun p hp => ?_, fun p hp => ?_⟩
  · obtain ⟨_, o, q, z⟩ := key p hp
    rw [← hK] at q ⊢
    exact frT_none q z
  · obtain ⟨_, o, q, z⟩ := key p hp
    rw [q, emptyTab_eq z]
def hookZ (n : Nat) (fa : List Fa) (fn : List DefD) (tf : List Defn) (ex : PySem.W.Frag → Bool) : PySem.W.Hook where
  α := AlX
  obs := fun s => obsZ n fa fn tf ex s.heap.get?
  val := fun w => valX fn [] w
  says := fun w h => ∃ K : PySem.W.Frag, K.In h ∧ SaysX fa fn [] tf ex w h K
  of := fun _ _ e => ⟨_, frT_in, saysZ e⟩
  keeps := fun _ _ _ ⟨K, hK, c⟩ k => ⟨K, PySem.W.Frag.In.keeps hK k, ⟨c.t, c.more, c.hd, c.out, fun p hp => k _ _ (c.empty p hp)⟩⟩
theorem obsZ_eq {n : Nat} {fa : List Fa} {fn : List DefD} {tf : List Defn} {ex : PySem.W.Frag → Bool} {g : Addr → Option Obj} {s : Shared} (h : ∀ a, g a = s.heap.get? a) :
    obsZ n fa fn tf ex g = (hookZ n fa fn tf ex).obs s := by
  have e : g = s.heap.get? := funext h
  subst e
  rfl
end Xh
end
section
set_option Elab.async false
set_option linter.all false
set_option maxRecDepth 100000
set_option maxHeartbeats 0
namespace Xh
open PySem PySem.Spec PyProof.Rows L2 He
/-! The same hook, its addresses found layer by layer, each once: what was seen is a mask. -/
/-- those of a row that the mask has not, each once, and the mask then -/
def freshB {β : Type} : List Addr → Nat → List Addr → (List Addr → Nat → β) → β
  | [], m, acc, k => k acc m
  | a :: r, m, acc, k => match Nat.beq (Nat.mod (Nat.shiftRight m a) 2) 1 with
    | true => freshB r m acc k
    | false => freshB r (Nat.add m (Nat.pow 2 a)) (a :: acc) k
def refsB (g : Addr → Option Obj) (as : List Addr) : List Addr := as.flatMap fun a => match g a with
  | some o => refsD o
  | none => []
def bfsB (g : Addr → Option Obj) : Nat → List Addr → Nat → List Addr
  | 0, fr, _ => fr
  | n + 1, fr, m => fr ++ freshB (refsB g fr) m [] fun new m' => bfsB g n new m'
def asB (n : Nat) (g : Addr → Option Obj) : List Addr := mainGlobals :: cStatics :: freshB (refsB g [mainGlobals]) (2 ^ mainGlobals + 2 ^ cStatics) [] fun new m => bfsB g n new m
/-- over any row of addresses -/
def obsA (as : (Addr → Option Obj) → List Addr) (fa : List Fa) (fn : List DefD) (tf : List Defn) (ex : PySem.W.Frag → Bool) (g : Addr → Option Obj) : AlX :=
  let K := frT g (as g)
  (obsT fa fn [] K, ex K && tabsB g tf K)
theorem saysA {as : (Addr → Option Obj) → List Addr} {fa : List Fa} {fn : List DefD} {tf : List Defn} {ex : PySem.W.Frag → Bool} {w : World} {h : Heap} (e : obsA as fa fn tf ex h.get? = valX fn [] w) :
    SaysX fa fn [] tf ex w h (frT h.get? (as h.get?)) := by
  generalize hK : frT h.get? (as h.get?) = K
  have e' : (obsT fa fn [] K, ex K && tabsB h.get? tf K) = valX fn [] w := by rw [← hK]; exact e
  injection e' with e1 e2
  rw [Bool.and_eq_true] at e2
  have key : ∀ p ∈ tf, PySem.W.codeHdIn K (cT K p).1 (cT K p).2 = true ∧ ∃ o, h.get? (cT K p).2 = some o ∧ emptyTab o = true := by
    intro p hp
    have z := List.all_eq_true.mp e2.2 p hp
    rw [Bool.and_eq_true] at z
    refine ⟨z.1, ?_⟩
    have z2 := z.2
    split at z2
    · exact ⟨_, ‹_›, z2⟩
    · cases z2
  refine ⟨e1, e2.1, fun p hp => (key p hp).1, fun p hp => ?_, fun p hp => ?_⟩
  · obtain ⟨_, o, q, z⟩ := key p hp
    rw [← hK] at q ⊢
    exact frT_none q z
  · obtain ⟨_, o, q, z⟩ := key p hp
    rw [q, emptyTab_eq z]
def hookA (as : (Addr → Option Obj) → List Addr) (fa : List Fa) (fn : List DefD) (tf : List Defn) (ex : PySem.W.Frag → Bool) : PySem.W.Hook where
  α := AlX
  obs := fun s => obsA as fa fn tf ex s.heap.get?
  val := fun w => valX fn [] w
  says := fun w h => ∃ K : PySem.W.Frag, K.In h ∧ SaysX fa fn [] tf ex w h K
  of := fun _ _ e => ⟨_, frT_in, saysA e⟩
  keeps := fun _ _ _ ⟨K, hK, c⟩ k => ⟨K, PySem.W.Frag.In.keeps hK k, ⟨c.t, c.more, c.hd, c.out, fun p hp => k _ _ (c.empty p hp)⟩⟩
theorem obsA_eq {as : (Addr → Option Obj) → List Addr} {fa : List Fa} {fn : List DefD} {tf : List Defn} {ex : PySem.W.Frag → Bool} {g : Addr → Option Obj} {s : Shared} (h : ∀ a, g a = s.heap.get? a) :
    obsA as fa fn tf ex g = (hookA as fa fn tf ex).obs s := by
  have e : g = s.heap.get? := funext h
  subst e
  rfl
end Xh
end
section
set_option Elab.async false
set_option linter.all false
set_option maxRecDepth 100000
namespace Xk
open PySem PySem.Spec PyProof.Rows L2 Xh
def topS (i : Nat) : Stmt := PySem.Challenge.pw_rungfields_k06_texts_of_polynomials.main.body.getD i (.Pass ⟨0, 0, 0, 0⟩)
def primes : List Int := [2, 3, 5, 7, 11, 13, 17, 19, 23, 29, 31, 37, 41, 43, 47, 53, 59, 61, 67, 71, 73, 79, 83, 89, 97]
def hcs (c : Fin 14 → Addr) : List (List Value) := [[.ref (c 0)], [.ref (c 1)], [.ref (c 2), .ref (c 3)], [.ref (c 4)], [.ref (c 5)], [.ref (c 6), .ref (c 7)], [.ref (c 8), .ref (c 9)], [.ref (c 10), .ref (c 11)]]
/-- the class at C is taken by the j-th clause -/
def Catch (K : PySem.W.Frag) (c : Fin 14 → Addr) (C : Addr) (j : Nat) : Prop := XfC K C ∧ (∀ i < j, ∀ cs, (hcs c)[i]? = some cs → PySem.W.exmAny K (.ref C) cs = some false) ∧ ∀ cs, (hcs c)[j]? = some cs → PySem.W.exmAny K (.ref C) cs = some true
abbrev s_law_begin : Stmt := topS 35
abbrev s_law_take : Stmt := topS 36
abbrev s_law_of : Stmt := topS 37
abbrev s_law_same : Stmt := topS 39
abbrev s_is_prime : Stmt := topS 18
abbrev s_is_number : Stmt := topS 19
abbrev s_is_rest : Stmt := topS 20
abbrev s_refuse_prime : Stmt := topS 21
abbrev s_trimmed : Stmt := topS 23
abbrev s_law_trim : Stmt := topS 41
abbrev s_is_poly : Stmt := topS 26
abbrev s_refuse_polys : Stmt := topS 27
abbrev s_law_rests : Stmt := topS 42
abbrev s_law_poly : Stmt := topS 43
abbrev s_written_term : Stmt := topS 31
abbrev s_written : Stmt := topS 30
abbrev s_read_figures : Stmt := topS 33
abbrev s_read_term : Stmt := topS 32
abbrev s_poly_text : Stmt := topS 28
abbrev s_read_poly : Stmt := topS 29
abbrev s_law_poly_text : Stmt := topS 45
abbrev s_law_pairs : Stmt := topS 44
abbrev s_law_term : Stmt := topS 47
abbrev s_law_read : Stmt := topS 46
abbrev s_law_mixed : Stmt := topS 38
abbrev s_law_bent : Stmt := topS 48
abbrev s_law_why : Stmt := topS 40
abbrev s_law : Stmt := topS 49
abbrev s_RungError___init : Stmt := inClass (topS 1) 0
abbrev s_BadText___init : Stmt := inClass (topS 7) 0
end Xk
end
section
set_option Elab.async false
set_option linter.all false
set_option maxRecDepth 100000
set_option maxHeartbeats 0
namespace Xk
open PySem PySem.Spec PyProof.Rows L2 Xh LamX NdefX
theorem sc_RungError___init : FnScope (["self", "told"] : List Str) ["self", "told"] (defScope s_RungError___init) := ⟨rfl, rfl, rfl, by decide +kernel, rfl, by decide +kernel, by decide +kernel⟩
theorem sc_BadText___init : FnScope (["self", "at"] : List Str) ["self", "at"] (defScope s_BadText___init) := ⟨rfl, rfl, rfl, by decide +kernel, rfl, by decide +kernel, by decide +kernel⟩
/-! ### the head: what of the written part is looked at -/
open He
/-- the class at C, an own exception over ValueError, called nm; f: how it is made -/
def clsB (K : PySem.W.Frag) (C fI : Addr) (nm : Str) : Bool := (match K.lookup C with
    | some ⟨.type c, _, .cls cd, sl⟩ => decide (c = "type") && ((match cd.mro with
      | .ref a :: bm => decide (a = C) && PySem.HandSPX.refsVE bm
      | _ => false) && (cd.hasDict && (!cd.hasDel && ((match sl.toList with
      | [_, _, some (.str x _), _, some (.builtin n), _] => decide (x = nm) && decide (n = "ValueError.__new__")
      | _ => false)))))
    | _ => false) &&
  (eqO (PySem.W.findIn K (.ref C) "__setattr__") (some (some (.builtin "object.__setattr__"))) && (decide (PySem.W.subIn K (.ref C) (.type "BaseException") = some true) && (decide (PySem.W.typeIn K (.ref C) = some (.type "type")) && (PySem.W.keepIn K (.ref C) &&
  (eqO (PySem.W.findIn K (.ref C) "__getattribute__") (some (some (.builtin "BaseException.__getattribute__"))) && (eqO (PySem.W.findIn K (.ref C) "__getattr__") (some none) && (PySem.W.hasDictIn K C && (eqO (PySem.W.findIn K (.ref C) "__class__") (some (some (.builtin "object.__class__"))) &&
  (eqO (PySem.W.specialIn K (.builtin "object.__class__") "__get__") (some (some (.builtin "getset_descriptor.__get__"))) && (decide (PySem.W.takesIn K (.builtin "object.__class__") = some true) && (decide (PySem.W.mroIn K C (.type "object") = some true) && (PySem.W.readsIn K C (.type "type") &&
  ((match PySem.W.findCls K (.ref C) (.type "type") "__name__" with
    | some (.get (.builtin g) (.builtin n) (.ref c) (.type t)) => decide (g = "getset_descriptor.__get__") && (decide (n = "type.__name__") && (decide (c = C) && decide (t = "type")))
    | _ => false) && (eqO (PySem.W.findIn K (.ref C) "word") (some none) && (eqO (PySem.W.findIn K (.ref C) "__init__") (some (some (.ref fI))) && decide (PySem.W.typeIn K (.ref fI) = some (.type "function")))))))))))))))))
theorem clsB_ok {K : PySem.W.Frag} {C fI : Addr} {nm : Str} (h : clsB K C fI nm = true) : RC K C nm ∧ PySem.W.findIn K (.ref C) "word" = some none ∧ PySem.W.findIn K (.ref C) "__init__" = some (some (.ref fI)) ∧ PySem.W.typeIn K (.ref fI) = some (.type "function") := by
  obtain ⟨h0, h⟩ := ba h
  obtain ⟨h1, h⟩ := ba h
  obtain ⟨h2, h⟩ := ba h
  obtain ⟨h3, h⟩ := ba h
  obtain ⟨h4, h⟩ := ba h
  obtain ⟨h5, h⟩ := ba h
  obtain ⟨h6, h⟩ := ba h
  obtain ⟨h7, h⟩ := ba h
  obtain ⟨h8, h⟩ := ba h
  obtain ⟨h9, h⟩ := ba h
  obtain ⟨h10, h⟩ := ba h
  obtain ⟨h11, h⟩ := ba h
  obtain ⟨h12, h⟩ := ba h
  obtain ⟨h13, h⟩ := ba h
  obtain ⟨h14, h⟩ := ba h
  obtain ⟨h15, h16⟩ := ba h
  have fn : PySem.W.findCls K (.ref C) (.type "type") "__name__" = some (.get (.builtin "getset_descriptor.__get__") (.builtin "type.__name__") (.ref C) (.type "type")) := by
    revert h13
    split
    · rename_i g n c t e
      intro z
      obtain ⟨z1, z⟩ := ba z
      obtain ⟨z2, z⟩ := ba z
      obtain ⟨z3, z4⟩ := ba z
      rw [e, of_decide_eq_true z1, of_decide_eq_true z2, of_decide_eq_true z3, of_decide_eq_true z4]
    · intro z
      cases z
  revert h0
  split
  · rename_i c dd cd sl e
    intro z
    obtain ⟨z1, z⟩ := ba z
    obtain ⟨z2, z⟩ := ba z
    obtain ⟨z3, z⟩ := ba z
    obtain ⟨z4, z5⟩ := ba z
    have c1 : c = "type" := of_decide_eq_true z1
    subst c1
    obtain ⟨cn, cb, cm, cns, cq, chd, csn, csub, cab, ccol, cdel⟩ := cd
    revert z2
    split
    · rename_i a bm em
      intro z2
      obtain ⟨y1, y2⟩ := ba z2
      have y1' := of_decide_eq_true y1
      have em' : cm = .ref a :: bm := em
      subst em'
      subst y1'
      revert z5
      split
      · rename_i s0 s1 x t s3 n s5 es
        intro z5
        obtain ⟨x1, x2⟩ := ba z5
        have x1' := of_decide_eq_true x1
        have x2' := of_decide_eq_true x2
        subst x1' x2'
        have esl : sl = #[s0, s1, some (.str x t), s3, some (.builtin "ValueError.__new__"), s5] := by
          rw [← es]
        have d1 : chd = true := z3
        have d2 : cdel = false := by
          have z4' : (!cdel) = true := z4
          cases cdel with
          | true => cases z4'
          | false => rfl
        subst d1 d2 esl
        exact ⟨⟨⟨⟨_, _, _, _, _, _, _, _, _, _, _, _, _, _, _, e, y2⟩, eqO_ok h1, of_decide_eq_true h2, of_decide_eq_true h3, h4⟩, ⟨eqO_ok h5, eqO_ok h6, of_decide_eq_true h2, h7, eqO_ok h8, eqO_ok h9, of_decide_eq_true h10, of_decide_eq_true h11⟩, h12, fn, ⟨_, _, _, t, e, rfl⟩⟩, eqO_ok h14, eqO_ok h15, of_decide_eq_true h16⟩
      · intro z5
        cases z5
    · intro z2
      cases z2
  · intro z
    cases z
/-- by which clause -/
def catchB (K : PySem.W.Frag) (c : Fin 14 → Addr) (C : Addr) (j : Nat) : Bool := xfB K C && (((hcs c).take j).all (fun cs => decide (PySem.W.exmAny K (.ref C) cs = some false)) && (match (hcs c)[j]? with
  | some cs => decide (PySem.W.exmAny K (.ref C) cs = some true)
  | none => false))
theorem catchB_ok {K : PySem.W.Frag} {c : Fin 14 → Addr} {C : Addr} {j : Nat} (h : catchB K c C j = true) : Catch K c C j := by
  obtain ⟨h1, h⟩ := ba h
  obtain ⟨h2, h3⟩ := ba h
  refine ⟨xfB_ok h1, fun i hi cs hcs => ?_, fun cs hcs => ?_⟩
  · refine of_decide_eq_true (List.all_eq_true.mp h2 cs ?_)
    refine List.mem_of_getElem? (i := i) ?_
    rw [List.getElem?_take_of_lt hi]
    exact hcs
  · rw [hcs] at h3
    exact of_decide_eq_true h3
def names12 : List Str := ["NotWhole", "TooTall", "BadTable", "BadText", "BadPage", "Stopped", "Used", "Held", "NoGuest", "NoName", "RungError", "RungMissing"]
def cOf (K : PySem.W.Frag) (i : Fin 14) : Addr := ga K (names12.getD i.val "RungError")

/-- C.__init__ as a plain def, called by the class -/
def cdefB (K : PySem.W.Frag) (C g : Addr) : Bool := PySem.W.readsIn K C (.type "type") && (eqO (PySem.W.specialIn K (.ref C) "__getattribute__") (some (some (.builtin "type.__getattribute__"))) && ((match PySem.W.findCls K (.ref C) (.type "type") "__init__" with
  | some (.val (.ref a)) => decide (a = g)
  | _ => false) && decide (PySem.W.typeIn K (.ref C) = some (.type "type"))))
theorem cdefB_ok {K : PySem.W.Frag} {C g : Addr} (h : cdefB K C g = true) (kp : PySem.W.keepIn K (.ref g) = true) : CDef K C g "__init__" := by
  obtain ⟨h1, h⟩ := ba h
  obtain ⟨h2, h⟩ := ba h
  obtain ⟨h3, h4⟩ := ba h
  refine ⟨⟨h1, eqO_ok h2⟩, ?_, of_decide_eq_true h4, kp⟩
  revert h3
  split
  · rename_i a e
    intro z
    rw [e, of_decide_eq_true z]
  · intro z
    cases z

def fnL : List DefD := [⟨("RungError", some "__init__"), "__init__", "RungError.__init__", defArgs s_RungError___init, defBody s_RungError___init, defScope s_RungError___init, [], []⟩, ⟨("BadText", some "__init__"), "__init__", "BadText.__init__", defArgs s_BadText___init, defBody s_BadText___init, defScope s_BadText___init, [], []⟩, ⟨("is_prime", none), "is_prime", "is_prime", defArgs s_is_prime, defBody s_is_prime, defScope s_is_prime, [], []⟩, ⟨("is_number", none), "is_number", "is_number", defArgs s_is_number, defBody s_is_number, defScope s_is_number, [], []⟩, ⟨("is_rest", none), "is_rest", "is_rest", defArgs s_is_rest, defBody s_is_rest, defScope s_is_rest, [], []⟩, ⟨("refuse_prime", none), "refuse_prime", "refuse_prime", defArgs s_refuse_prime, defBody s_refuse_prime, defScope s_refuse_prime, [], []⟩, ⟨("trimmed", none), "trimmed", "trimmed", defArgs s_trimmed, defBody s_trimmed, defScope s_trimmed, [], []⟩, ⟨("is_poly", none), "is_poly", "is_poly", defArgs s_is_poly, defBody s_is_poly, defScope s_is_poly, [], []⟩, ⟨("refuse_polys", none), "refuse_polys", "refuse_polys", defArgs s_refuse_polys, defBody s_refuse_polys, defScope s_refuse_polys, [], []⟩, ⟨("poly_text", none), "poly_text", "poly_text", defArgs s_poly_text, defBody s_poly_text, defScope s_poly_text, [], [("prime", .int 2)]⟩, ⟨("read_poly", none), "read_poly", "read_poly", defArgs s_read_poly, defBody s_read_poly, defScope s_read_poly, [], [("prime", .int 2)]⟩, ⟨("written", none), "written", "written", defArgs s_written, defBody s_written, defScope s_written, [], []⟩, ⟨("written_term", none), "written_term", "written_term", defArgs s_written_term, defBody s_written_term, defScope s_written_term, [], []⟩, ⟨("read_term", none), "read_term", "read_term", defArgs s_read_term, defBody s_read_term, defScope s_read_term, [], []⟩, ⟨("read_figures", none), "read_figures", "read_figures", defArgs s_read_figures, defBody s_read_figures, defScope s_read_figures, [], []⟩, ⟨("_law_begin", none), "_law_begin", "_law_begin", defArgs s_law_begin, defBody s_law_begin, defScope s_law_begin, [], []⟩, ⟨("_law_take", none), "_law_take", "_law_take", defArgs s_law_take, defBody s_law_take, defScope s_law_take, [], []⟩, ⟨("_law_of", none), "_law_of", "_law_of", defArgs s_law_of, defBody s_law_of, defScope s_law_of, [], []⟩, ⟨("_law_mixed", none), "_law_mixed", "_law_mixed", defArgs s_law_mixed, defBody s_law_mixed, defScope s_law_mixed, [], []⟩, ⟨("_law_same", none), "_law_same", "_law_same", defArgs s_law_same, defBody s_law_same, defScope s_law_same, [], []⟩, ⟨("_law_why", none), "_law_why", "_law_why", defArgs s_law_why, defBody s_law_why, defScope s_law_why, [], []⟩, ⟨("_law_trim", none), "_law_trim", "_law_trim", defArgs s_law_trim, defBody s_law_trim, defScope s_law_trim, [], []⟩, ⟨("_law_rests", none), "_law_rests", "_law_rests", defArgs s_law_rests, defBody s_law_rests, defScope s_law_rests, [], []⟩, ⟨("_law_poly", none), "_law_poly", "_law_poly", defArgs s_law_poly, defBody s_law_poly, defScope s_law_poly, [], []⟩, ⟨("_law_pairs", none), "_law_pairs", "_law_pairs", defArgs s_law_pairs, defBody s_law_pairs, defScope s_law_pairs, [], []⟩, ⟨("_law_poly_text", none), "_law_poly_text", "_law_poly_text", defArgs s_law_poly_text, defBody s_law_poly_text, defScope s_law_poly_text, [], []⟩, ⟨("_law_read", none), "_law_read", "_law_read", defArgs s_law_read, defBody s_law_read, defScope s_law_read, [], []⟩, ⟨("_law_term", none), "_law_term", "_law_term", defArgs s_law_term, defBody s_law_term, defScope s_law_term, [], []⟩, ⟨("_law_bent", none), "_law_bent", "_law_bent", defArgs s_law_bent, defBody s_law_bent, defScope s_law_bent, [], []⟩, ⟨("law", none), "law", "law", defArgs s_law, defBody s_law, defScope s_law, [], []⟩]
def faL : List Fa := [.glo "NotWhole", .glo "TooTall", .glo "BadTable", .glo "BadText", .glo "BadPage", .glo "Stopped", .glo "Used", .glo "Held", .glo "NoGuest", .glo "NoName", .glo "RungError", .glo "RungMissing", .glo "BadPrime", .glo "BadPoly", .glo "PRIMES", .glo "is_prime", .glo "is_number", .glo "is_rest", .glo "refuse_prime", .glo "trimmed", .glo "is_poly", .glo "refuse_polys", .glo "poly_text", .glo "read_poly", .glo "written", .glo "written_term", .glo "read_term", .glo "read_figures", .glo "_law_begin", .glo "_law_take", .glo "_law_of", .glo "_law_mixed", .glo "_law_same", .glo "_law_why", .glo "_law_trim", .glo "_law_rests", .glo "_law_poly", .glo "_law_pairs", .glo "_law_poly_text", .glo "_law_read", .glo "_law_term", .glo "_law_bent", .glo "law", .int "MOST_RESTS" 25, .free "len", .free "abs", .free "list", .free "tuple", .free "int", .free "bool", .free "str", .free "isinstance", .free "range", .free "all", .free "zip", .free "enumerate", .free "max", .free "reversed", .free "any", .free "sorted", .free "set", .free "sum"]
def exL (K : PySem.W.Frag) : Bool := tupB K "PRIMES" (primes.map Dv.int) && (clsB K (ga K "BadPrime") (ma K (ga K "RungError") "__init__") "BadPrime" && (clsB K (ga K "BadPoly") (ma K (ga K "RungError") "__init__") "BadPoly" && (clsB K (ga K "BadText") (ma K (ga K "BadText") "__init__") "BadText" && (eqO (PySem.W.findIn K (.ref (ga K "BadText")) "at") (some none) && (cdefB K (ga K "RungError") (ma K (ga K "RungError") "__init__") && (catchB K (cOf K) (ga K "BadText") 2))))))
abbrev R : PySem.W.OpenRow := PySem.W.OpenLaw.row PySem.Challenge.rw_rungfields_k06_texts_of_polynomials
abbrev hk : PySem.W.Hook := hookA (asB 3) faL fnL [("law", none)] exL
def ob (s : PySem.W.SharedT) : AlX := obsA (asB 3) faL fnL [("law", none)] exL (HandSHeadRun.getT s)
theorem ob_eq (s : PySem.W.SharedT) : ob s = hk.obs s.abs := obsA_eq (HandSHeadRun.getT_eq s)
def loL : List Str := (["RungError", "BadPrime", "BadPoly", "BadTable", "NotWhole", "TooTall", "BadText", "Used", "Held", "BadPage"] : List Str) ++ (["Stopped", "RungMissing", "NoGuest", "NoName", "PRIMES", "LEAST", "is_prime", "is_number", "is_rest", "refuse_prime"] : List Str) ++ (["trimmed", "MOST_RESTS", "is_poly", "refuse_polys", "poly_text", "read_poly", "written", "written_term", "read_term", "read_figures"] : List Str) ++ (["_law_begin", "_law_take", "_law_of", "_law_mixed", "_law_same", "_law_why", "_law_trim", "_law_rests", "_law_poly", "_law_pairs"] : List Str) ++ (["_law_poly_text", "_law_read", "_law_term", "_law_bent"] : List Str)
theorem map3 {A B B2 C D : Type} {r : Option A} {f : A → B} {g : A → B2} {h : A → C} {i : A → D} {a : B} {b : B2} {c : C} {d : D} (h1 : r.map (fun s => (f s, g s)) = some (a, b)) (h2 : r.map h = some c) (h3 : r.map i = some d) : r.map (fun s => (f s, g s, (h s, i s))) = some (a, b, (c, d)) := by
  cases r with
  | none => cases h1
  | some x =>
    cases h1
    cases h2
    cases h3
    rfl
section
open PySem.W PySem.Calls
noncomputable abbrev endS (w : World) (os : OsState) : Option PySem.W.SharedT := HandSHeadRun.endF (HandSHeadRun.stepQ (HandSHeadRun.denQ HandSHeadRun.tabQ) R.prog w) 16000 R.prog w os
def obK (s : PySem.W.SharedT) : PySem.W.Frag := frT (HandSHeadRun.getT s) (asB 3 (HandSHeadRun.getT s))
theorem run1 (w : World) (os : OsState) : (endS w os).map (fun s => (HandSHeadRun.looksF R.prog (boot_heap w.params) s.abs, HandSHeadRun.seenQ (PySem.W.view R.prog [49]) loL (importedModules R.prog.main.body) (fun s => xlAt (PySem.W.view R.prog [49]) [] s && recOk R.toRowW.records s) s.abs)) = some (true, openGood (PySem.W.view R.prog [49]) loL) := by
  kernel_rfl
theorem run2 (w : World) (os : OsState) : (endS w os).map (fun s => obsT faL fnL [] (obK s)) = some (valT fnL [] w) := by
  kernel_rfl
theorem run3 (w : World) (os : OsState) : (endS w os).map (fun s => exL (obK s) && tabsB (HandSHeadRun.getT s) [("law", none)] (obK s)) = some true := by
  kernel_rfl
theorem run (w : World) : HandSHeadRun.RunEq R (PySem.W.view R.prog [49]) hk ob 16000 loL w := by
  intro os
  exact map3 (run1 w os) (run2 w os) (run3 w os)
end
end Xk
end
section
set_option Elab.async false
set_option linter.all false
set_option maxRecDepth 100000
set_option maxHeartbeats 4000000
namespace Xk
open PySem PySem.Spec PyProof.Rows L2 Xh
/-- names that are the built-in ones still -/
structure Fre (mg : Str → Option Value) : Prop where
  f_len : mg "len" = none
  f_abs : mg "abs" = none
  f_list : mg "list" = none
  f_tuple : mg "tuple" = none
  f_int : mg "int" = none
  f_bool : mg "bool" = none
  f_str : mg "str" = none
  f_isinstance : mg "isinstance" = none
  f_range : mg "range" = none
  f_all : mg "all" = none
  f_zip : mg "zip" = none
  f_enumerate : mg "enumerate" = none
  f_max : mg "max" = none
  f_reversed : mg "reversed" = none
  f_any : mg "any" = none
  f_sorted : mg "sorted" = none
  f_set : mg "set" = none
  f_sum : mg "sum" = none
/-! ### what is drawn -/
/-- a row of draws stands at d -/
def Draw (H : Hp) (d : Addr) : Prop := ∃ (c : Addr) (ns : List Int) (i : Nat) (r g : Int), H d = some (.lst [.ref c, .int i, .int r, .int g]) ∧ H c = some (.lst (ns.map V.int)) ∧ 0 ≤ g ∧ g < 2147483647
/-- all but what stands at d is as it was -/
structure But (d : Addr) (H H' : Hp) : Prop where
  f : ∀ b o, b ≠ d → H b = some o → H' b = some o
  c : ∀ c r, H d = some (.lst (.ref c :: r)) → ∃ r', H' d = some (.lst (.ref c :: r'))
instance {d : Addr} {H H' : Hp} : CoeFun (But d H H') (fun _ => ∀ b o, b ≠ d → H b = some o → H' b = some o) := ⟨But.f⟩
theorem But.refl (d : Addr) (H : Hp) : But d H H := ⟨fun _ _ _ e => e, fun _ r e => ⟨r, e⟩⟩
theorem But.trans {d : Addr} {H H1 H2 : Hp} (a : But d H H1) (b : But d H1 H2) : But d H H2 := ⟨fun c o h e => b.f c o h (a.f c o h e), fun c r e => by
  obtain ⟨r1, e1⟩ := a.c c r e
  exact b.c c r1 e1⟩
theorem But.same {d : Addr} {H H1 : Hp} (a : Same H H1) : But d H H1 := ⟨fun c o _ e => a c o e, fun c r e => ⟨r, a _ _ e⟩⟩
theorem But.upd {d c : Addr} {H : Hp} {r r' : List V} (h : H d = some (.lst (.ref c :: r))) : But d H (upd H d (.lst (.ref c :: r'))) := ⟨fun b u h e => by rw [upd_ne h]; exact e, fun c' r2 e => by
  rw [h] at e
  cases e
  exact ⟨r', upd_same⟩⟩
theorem But.updN {d p : Addr} {H : Hp} {o : HO} (h : H p = none) : But d H (L2.upd H p o) := ⟨fun b u _ e => by rw [upd_ne (ne_of_none e h)]; exact e, fun c r e => ⟨r, by rw [upd_ne (ne_of_none e h)]; exact e⟩⟩
theorem But.free {d p : Addr} {H H' : Hp} (a : But d H H') (h : H' p = none) (hd : p ≠ d) : H p = none := by
  cases q : H p with
  | none => rfl
  | some o =>
    rw [a p o hd q] at h
    cases h
theorem same_upd {p : Addr} {H : Hp} {o : HO} (h : H p = none) : Same H (L2.upd H p o) := fun b u e => by rw [upd_ne (ne_of_none e h)]; exact e
theorem Draw.there {H : Hp} {d : Addr} (D : Draw H d) : ∃ o, H d = some o := by
  obtain ⟨c, ns, i, r, g, h, _⟩ := D
  exact ⟨_, h⟩
theorem Draw.same {H H' : Hp} {d : Addr} (D : Draw H d) (s : Same H H') : Draw H' d := by
  obtain ⟨c, ns, i, r, g, h1, h2, h3⟩ := D
  exact ⟨c, ns, i, r, g, s _ _ h1, s _ _ h2, h3⟩
theorem Draw.ne {H : Hp} {d p : Addr} (D : Draw H d) (h : H p = none) : p ≠ d := fun z => by
  obtain ⟨o, e⟩ := D.there
  rw [z, e] at h
  cases h
theorem But.seq {K : PySem.W.Frag} {d a : Addr} {H H' : Hp} {xs : List V} (b : But d H H') (hd : a ≠ d) (h : SqL K H a xs) : SqL K H' a xs := by
  rcases h with (h | ⟨o, h⟩) | h
  · exact .inl (.inl (b _ _ hd h))
  · exact .inl (.inr ⟨o, b _ _ hd h⟩)
  · exact .inr h
/-- a row that is not the drawing one -/
theorem Draw.apart {H : Hp} {d p : Addr} {ns : List Int} (D : Draw H d) (h : H p = some (.lst (ns.map V.int))) : p ≠ d := fun z => by
  obtain ⟨c, ms, i, r, g, h1, h2, h3⟩ := D
  rw [z, h1] at h
  cases ns with
  | nil => cases h
  | cons n ns => cases h
/-- a list of the comprehension's own grows while draws go on -/
theorem Draw.updR {H0 H2 : Hp} {d D : Addr} {xs ys : List V} (D0 : Draw H0 d) (hD : H0 D = none) (b : But d H0 H2) (D2 : Draw H2 d) (e : H2 D = some (.lst xs)) : Draw (L2.upd H2 D (.lst ys)) d := by
  obtain ⟨c, ns, i, r, g, h1, h2, _⟩ := D0
  obtain ⟨c', ns', i', r', g', f1, f2, f3⟩ := D2
  obtain ⟨q, e1⟩ := b.c _ _ h1
  rw [f1] at e1
  cases e1
  exact ⟨_, ns', i', r', g', by rw [upd_ne (ne_of_none h1 hD)]; exact f1, by rw [upd_ne (ne_of_none h2 hD)]; exact f2, f3⟩
theorem cutV_ints (ns : List Int) (lo hi : Option Int) : ∃ ms : List Int, cutV (ns.map V.int) lo hi = ms.map V.int := by
  refine ⟨(ns.drop (HT.sIx ns.length 0 lo)).take (HT.sIx ns.length ns.length hi - HT.sIx ns.length 0 lo), ?_⟩
  unfold cutV
  rw [List.length_map, ← List.map_drop, ← List.map_take]
theorem ne_of_none' {H : Hp} {a b : Addr} {o : HO} (h : H a = none) (h' : H b = some o) : a ≠ b := fun z => by
  rw [z, h'] at h
  cases h
def spBegin (K : PySem.W.Frag) : Sp := fun vs H Q _ => ∃ (a : Addr) (ns : List Int), vs = [.ref a] ∧ SqL K H a (ns.map V.int) ∧ ∀ d H', Same H H' → H d = none → Draw H' d → Q (.ref d) H'
def spTake : Sp := fun vs H Q _ => ∃ (d : Addr) (n : Int), vs = [.ref d, .int n] ∧ Draw H d ∧ 1 ≤ n ∧ n.natAbs < 2 ^ 200 ∧ ∀ (m : Int) (H' : Hp), 0 ≤ m → m < n → Draw H' d → But d H H' → Q (.int m) H'
def spOf (K : PySem.W.Frag) : Sp := fun vs H Q _ => ∃ (d a : Addr) (xs : List V), vs = [.ref d, .ref a] ∧ Draw H d ∧ SqL K H a xs ∧ a ≠ d ∧ 0 < xs.length ∧ xs.length ≤ 1000 ∧ ∀ (x : V) (H' : Hp), x ∈ xs → Draw H' d → But d H H' → Q x H'
def spPrimes : Sp := fun vs H Q _ => vs = [] ∧ ∀ (p : Addr) (H' : Hp), Same H H' → H p = none → H' p = some (.lst (primes.map V.int)) → Q (.ref p) H'
def spAnyPrime : Sp := fun vs H Q _ => ∃ (d : Addr), vs = [.ref d] ∧ Draw H d ∧ ∀ (p : Int) (H' : Hp), p ∈ primes → Draw H' d → But d H H' → Q (.int p) H'
theorem big {n : Nat} (h : n ≤ 1000) : n < 2 ^ 200 := Nat.lt_of_le_of_lt h (by decide)
section
variable {P : Program} {w : World} {K : PySem.W.Frag} {mg : Str → Option Value} {base : Heap}
theorem sc_law_begin : FnScope (["_law_script"] : List Str) ["_law_script"] (defScope s_law_begin) := ⟨rfl, rfl, rfl, by decide +kernel, rfl, by decide +kernel, by decide +kernel⟩
theorem ok_begin {f : Addr} {fd : FuncData} (F : FunD K "_law_begin" "_law_begin" (defArgs s_law_begin) (defBody s_law_begin) (defScope s_law_begin) [] [] f fd) (T : Fre mg) : FnOk P w K mg base CX0 1 f fd ["_law_script"] (spBegin K) := by
  refine F.ok sc_law_begin (fun vs H Q E h => ?_) (fun cdv A outer s H vs Q E hr h => ?_)
  · obtain ⟨a, ns, rfl, _⟩ := h
    rfl
  · obtain ⟨a, ns, rfl, hS, k⟩ := h
    refine ⟨_, PSs.nox (pss_one (ps_ret (pe_lst (pa_cons (pe_callTy call_list_of (by rfl) T.f_list (by decide +kernel) (pa_cons (pe_slice sl_list (pv 0) po_none (po_some pe_int)) pa_nil)) (pa_cons pe_int (pa_cons pe_int (pa_cons pe_int pa_nil))))))) , ?_⟩
    refine ⟨_, rfl, 63, rfl, a, _, rfl, hS, fun p hp => ⟨p, _, rfl, .inl (SqL.of upd_same), fun l hl => ⟨(by show 4 ≤ sizeLine; decide), fun d hd => ?_⟩⟩⟩
    obtain ⟨ms, em⟩ := cutV_ints ns none (some 63)
    have h1 : H l = none := by rw [← upd_ne (H := H) (o := .lst (cutV (ns.map V.int) none (some 63))) (ne_of_none' hl upd_same)]; exact hl
    have s1 : Same H (L2.upd H p (.lst (cutV (ns.map V.int) none (some 63)))) := same_upd hp
    have s2 := s1.trans (same_upd (o := .lst (cutV (ns.map V.int) none (some 63))) hl)
    refine k d _ (s2.trans (same_upd hd)) (s2.free hd) ⟨l, ms, 0, 0, 37, upd_same, ?_, by decide, by decide⟩
    rw [upd_ne (ne_of_none upd_same hd), upd_same, em]
theorem sc_law_take : FnScope (["_law_draw", "_law_sides", "_law_cell", "_law_got"] : List Str) ["_law_draw", "_law_sides"] (defScope s_law_take) := ⟨rfl, rfl, rfl, by decide +kernel, rfl, by decide +kernel, by decide +kernel⟩
theorem ok_take {f : Addr} {fd : FuncData} (F : FunD K "_law_take" "_law_take" (defArgs s_law_take) (defBody s_law_take) (defScope s_law_take) [] [] f fd) (T : Fre mg) : FnOk P w K mg base CX0 1 f fd ["_law_draw", "_law_sides"] spTake := by
  refine F.ok sc_law_take (fun vs H Q E h => ?_) (fun cdv A outer s H vs Q E hr h => ?_)
  · obtain ⟨d, n, rfl, _⟩ := h
    rfl
  · obtain ⟨d, n, rfl, D, h1, h2, k⟩ := h
    obtain ⟨c, ns, i, r, g, e1, e2, g0, g1⟩ := id D
    have hcd : c ≠ d := D.apart e2
    refine ⟨_, PSs.nox (C8.pss_cut (ps_if (PW.pt (pw_and (pt_cmpR op_lt (pe_ix ix_list (pv 0) pe_int (fun _ _ => rfl)) (pv 1) (nomark _)) (pw_and1 (pt_cmpR op_lt (pe_ix ix_list (pv 0) pe_int (fun _ _ => rfl)) (pe_callB call_len_seq (by rfl) T.f_len PySem.boot_len (pa_cons (pe_ix ix_list (pv 0) pe_int (fun _ _ => rfl)) pa_nil)) (nomark _))))) (pss_cons (ps_set (i := 2) sc_law_take.nd rfl (Or.inl rfl) (pe_ix ix_list (pe_ix ix_list (pv 0) pe_int (fun _ _ => rfl)) (pe_ix ix_list (pv 0) pe_int (fun _ _ => rfl)) (fun _ _ => rfl)))
      (pss_cons (ps_asg (pe_op op_add (pe_ix ix_list (pv 0) pe_int (fun _ _ => rfl)) pe_int) (pg_sub (pv 0) pe_int set_list))
      (pss_cons (ps_asg pe_int (pg_sub (pv 0) pe_int set_list))
      (pss_one (ps_if (pt_cmpR op_ge (pe_callB call_abs (by rfl) T.f_abs (by decide +kernel) (pa_cons (pv 2) pa_nil)) (pe_op op_pow pe_int pe_int) (nomark _)) (pss_one (ps_asg (pe_callB call_abs (by rfl) T.f_abs (by decide +kernel) (pa_cons (pv 2) pa_nil)) (pg_sub (pv 0) pe_int set_list))) (pss_one (ps_asg (pe_op op_modN (pe_op op_add (pe_op op_add (pe_op op_mul (pe_ix ix_list (pv 0) pe_int (fun _ _ => rfl)) pe_int) (pe_op op_mul (pe_op op_modN (pv 2) pe_int) pe_int)) pe_int) pe_int) (pg_sub (pv 0) pe_int set_list)))))))) pss_nil)
      (pss_cons (ps_if (pt_cmpR op_ge (pe_ix ix_list (pv 0) pe_int (fun _ _ => rfl)) (pv 1) (nomark _)) (pss_cons (ps_set (i := 3) sc_law_take.nd rfl (Or.inl rfl) (pe_op op_modN (pe_ix ix_list (pv 0) pe_int (fun _ _ => rfl)) (pv 1)))
      (pss_cons (ps_asg (pe_op op_fdivW (pe_ix ix_list (pv 0) pe_int (fun _ _ => rfl)) (pv 1)) (pg_sub (pv 0) pe_int set_list))
      (pss_one (ps_ret (pv 3))))) pss_nil)
      (pss_cons (ps_asg (pe_op op_modN (pe_op op_add (pe_op op_add (pe_op op_mul (pe_op op_modN (pe_op op_mul (pe_ix ix_list (pv 0) pe_int (fun _ _ => rfl)) (pe_ix ix_list (pv 0) pe_int (fun _ _ => rfl))) pe_int) pe_int) (pe_op op_mul (pe_ix ix_list (pv 0) pe_int (fun _ _ => rfl)) pe_int)) pe_int) pe_int) (pg_sub (pv 0) pe_int set_list))
      (pss_one (ps_ret (pe_op op_modN (pe_op op_add (pe_op op_fdivW (pe_ix ix_list (pv 0) pe_int (fun _ _ => rfl)) pe_int) (pe_op op_mul (pe_op op_modN (pe_ix ix_list (pv 0) pe_int (fun _ _ => rfl)) pe_int) pe_int)) (pv 1))))))) , ?_⟩
    refine ⟨fun σ' H' => ∃ x, σ' = [some (.ref d), some (.int n), x, none] ∧ Draw H' d ∧ But d H H', ?_, ?_⟩
    · have same : ∃ x, L2.start ["_law_draw", "_law_sides", "_law_cell", "_law_got"] [V.ref d, V.int n] = [some (.ref d), some (.int n), x, none] ∧ Draw H d ∧ But d H H := ⟨none, rfl, D, But.refl d H⟩
      refine ⟨_, rfl, d, _, 2, _, rfl, rfl, SqL.of e1, rfl, _, rfl, _, _, rfl, rfl, _, rfl, ?_⟩
      refine ite2 (fun hc => ?_) (fun hc => ?_)
      · refine ⟨_, rfl, d, _, 1, _, rfl, rfl, SqL.of e1, rfl, _, rfl, d, _, 0, _, rfl, rfl, SqL.of e1, rfl, c, _, rfl, .inl (SqL.of e2), _, _, rfl, rfl, _, rfl, ?_⟩
        refine ite2 (fun hi => ?_) (fun hi => ?_)
        · have hi' : i < ns.length := by
            have z := of_decide_eq_true hi
            rw [List.length_map] at z
            omega
          have e1a : ∀ o : HO, L2.upd H d o d = some o := fun o => upd_same
          refine ⟨_, rfl, d, _, 0, _, rfl, rfl, SqL.of e1, rfl, _, rfl, d, _, 1, _, rfl, rfl, SqL.of e1, rfl, c, _, i, .int ns[i], rfl, rfl, SqL.of e2, atI_nat (by simp [hi']), ?_⟩
          refine ⟨_, rfl, d, _, 1, _, rfl, rfl, SqL.of e1, rfl, _, _, rfl, rfl, _, rfl, d, _, 1, 1, rfl, rfl, e1, rfl, ?_⟩
          refine ⟨_, rfl, d, _, 2, 2, rfl, rfl, upd_same, rfl, ?_⟩
          rw [upd_upd]
          refine ⟨_, rfl, _, rfl, _, _, rfl, rfl, ⟨by decide, by decide, by decide⟩, _, _, rfl, rfl, _, rfl, ?_⟩
          have fin : ∀ (r' g' : Int), 0 ≤ g' → g' < 2147483647 → ∃ x, [some (V.ref d), some (V.int n), some (V.int ns[i]), none] = [some (.ref d), some (.int n), x, none] ∧ Draw (L2.upd H d (.lst [.ref c, .int ((i : Int) + 1), .int r', .int g'])) d ∧ But d H (L2.upd H d (.lst [.ref c, .int ((i : Int) + 1), .int r', .int g'])) := fun r' g' a1 a2 =>
            ⟨_, rfl, ⟨c, ns, i + 1, r', g', upd_same, by rw [upd_ne hcd]; exact e2, a1, a2⟩, But.upd e1⟩
          refine ite2 (fun ha => ?_) (fun ha => ?_)
          · refine ⟨_, rfl, _, rfl, _, rfl, d, _, 2, 2, rfl, rfl, upd_same, rfl, ?_⟩
            rw [upd_upd]
            exact fin _ g g0 g1
          · refine ⟨_, rfl, d, _, 3, _, rfl, rfl, SqL.of upd_same, rfl, _, _, rfl, rfl, .inr ⟨by decide, by decide⟩, _, rfl, _, _, rfl, rfl, (fun z => absurd z (by decide)), _, _, rfl, rfl, .inr ⟨by decide, by decide⟩, _, _, rfl, rfl, _, _, rfl, rfl, _, _, rfl, rfl, (fun z => absurd z (by decide)), _, rfl, d, _, 3, 3, rfl, rfl, upd_same, rfl, ?_⟩
            rw [upd_upd]
            exact fin 0 _ (Int.fmod_nonneg_of_pos _ (by decide)) (Int.fmod_lt_of_pos _ (by decide))
        · exact same
      · exact same
    · rintro σ' H' ⟨x, rfl, ⟨c', ns', i', r', g', f1, f2, b0, b1⟩, hb⟩
      have D' : Draw H' d := ⟨c', ns', i', r', g', f1, f2, b0, b1⟩
      have hcd' : c' ≠ d := D'.apart f2
      have hwd : CDivW r' n := wide_div (b := 200) (by omega) h2 (by decide) (by decide)
      refine ⟨_, rfl, d, _, 2, _, rfl, rfl, SqL.of f1, rfl, _, rfl, _, _, rfl, rfl, _, rfl, ?_⟩
      refine ite2 (fun hc => ?_) (fun hc => ?_)
      · refine ⟨_, rfl, d, _, 2, _, rfl, rfl, SqL.of f1, rfl, _, rfl, _, _, rfl, rfl, (by show n ≠ 0; omega), ?_⟩
        refine ⟨_, rfl, d, _, 2, _, rfl, rfl, SqL.of f1, rfl, _, rfl, _, _, rfl, rfl, hwd, _, rfl, d, _, 2, 2, rfl, rfl, f1, rfl, _, rfl, ?_⟩
        refine k _ _ (Int.fmod_nonneg_of_pos _ (by omega)) (Int.fmod_lt_of_pos _ (by omega)) ⟨c', ns', i', _, g', upd_same, by rw [upd_ne hcd']; exact f2, b0, b1⟩ (hb.trans (But.upd f1))
      · refine ⟨_, rfl, d, _, 3, _, rfl, rfl, SqL.of f1, rfl, _, rfl, d, _, 3, _, rfl, rfl, SqL.of f1, rfl, _, _, rfl, rfl, .inl ⟨by omega, by omega⟩, _, _, rfl, rfl, (fun z => absurd z (by decide)), _, _, rfl, rfl, .inr ⟨by decide, by decide⟩, _, rfl, d, _, 3, _, rfl, rfl, SqL.of f1, rfl, _, _, rfl, rfl, .inr ⟨by decide, by decide⟩, _, _, rfl, rfl, _, _, rfl, rfl, _, _, rfl, rfl, (fun z => absurd z (by decide)), _, rfl, d, _, 3, 3, rfl, rfl, f1, rfl, ?_⟩
        refine ⟨_, rfl, d, _, 3, _, rfl, rfl, SqL.of upd_same, rfl, _, _, rfl, rfl, wide_div (b := 6) (by decide) (by decide) (by decide) (by decide), _, rfl, d, _, 3, _, rfl, rfl, SqL.of upd_same, rfl, _, _, rfl, rfl, (fun z => absurd z (by decide)), _, _, rfl, rfl, .inr ⟨by decide, by decide⟩, _, _, rfl, rfl, _, rfl, _, _, rfl, rfl, (by show n ≠ 0; omega), ?_⟩
        refine k _ _ (Int.fmod_nonneg_of_pos _ (by omega)) (Int.fmod_lt_of_pos _ (by omega)) ⟨c', ns', i', _, _, upd_same, by rw [upd_ne hcd']; exact f2, Int.fmod_nonneg_of_pos _ (by decide), Int.fmod_lt_of_pos _ (by decide)⟩ (hb.trans (But.upd f1))
theorem sc_law_of : FnScope (["_law_draw", "_law_row"] : List Str) ["_law_draw", "_law_row"] (defScope s_law_of) := ⟨rfl, rfl, rfl, by decide +kernel, rfl, by decide +kernel, by decide +kernel⟩
theorem ok_of {f : Addr} {fd : FuncData} (F : FunD K "_law_of" "_law_of" (defArgs s_law_of) (defBody s_law_of) (defScope s_law_of) [] [] f fd) (T : Fre mg) (o_law_take : Own P w K mg base CX0 1 "_law_take" ["_law_draw", "_law_sides"] [] spTake) : FnOk P w K mg base CX0 2 f fd ["_law_draw", "_law_row"] (spOf K) := by
  refine F.ok sc_law_of (fun vs H Q E h => ?_) (fun cdv A outer s H vs Q E hr h => ?_)
  · obtain ⟨d, a, xs, rfl, _⟩ := h
    rfl
  · obtain ⟨d, a, xs, rfl, D, hS, had, h1, h2, k⟩ := h
    refine ⟨_, PSs.nox (pss_one (ps_ret (pe_ix ix_list (pv 1) (pe_own o_law_take (hr.mono (by decide)) rfl pass0 (pa_cons (pv 0) (pa_cons (pe_callB call_len_seq (by rfl) T.f_len PySem.boot_len (pa_cons (pv 1) pa_nil)) pa_nil))) (fun _ _ => rfl)))) , ?_⟩
    refine ⟨_, rfl, _, rfl, _, rfl, a, _, rfl, .inl hS, d, _, rfl, D, (by show 1 ≤ ((xs.length : Nat) : Int); omega), (by show ((xs.length : Nat) : Int).natAbs < 2 ^ 200; exact big (by omega)), fun m H' m0 m1 D' B => ?_⟩
    obtain ⟨j, rfl⟩ := Int.eq_ofNat_of_zero_le m0
    have hj : j < xs.length := by omega
    refine ⟨a, xs, j, xs[j], rfl, rfl, B.seq had hS, atI_nat (by simp [hj]), k _ _ (List.getElem_mem hj) D' B⟩
end
end Xk
end
section
set_option Elab.async false
set_option linter.all false
set_option maxRecDepth 100000
set_option maxHeartbeats 4000000
namespace Xk
open PySem PySem.Spec PyProof.Rows L2 Xh LamX NdefX
/-! ### two things alike -/
theorem tyT {K : PySem.W.Frag} {H : Hp} {a : Addr} {xs : List V} (h : SqT K H a xs) : TyX K H (.ref a) (.type "tuple") := by
  rcases h with (h | ⟨o, h⟩) | ⟨o, its, n, h, c, _⟩
  · exact .base (.tup h)
  · exact .fTuple h
  · exact .kTuple h c
theorem tyL {K : PySem.W.Frag} {H : Hp} {a : Addr} {xs : List V} (h : SqL K H a xs) : TyX K H (.ref a) (.type "list") := by
  rcases h with (h | ⟨o, h⟩) | ⟨o, its, n, h, c, _⟩
  · exact .base (.lst h)
  · exact .base (.frz h)
  · exact .kList h c
theorem sameT {K : PySem.W.Frag} {H H' : Hp} {a : Addr} {xs : List V} (e : Same H H') (h : SqT K H a xs) : SqT K H' a xs := by
  rcases h with (h | ⟨o, h⟩) | h
  · exact .inl (.inl (e _ _ h))
  · exact .inl (.inr ⟨o, e _ _ h⟩)
  · exact .inr h
def tyF : V → String
  | .non => "NoneType"
  | .bl _ => "bool"
  | .int _ => "int"
  | _ => "str"
theorem flat_ty {K : PySem.W.Frag} {H : Hp} {x : V} (h : flatV x = true) : TyX K H x (.type (tyF x)) := by
  cases x with
  | non => exact .base .non
  | bl b => exact .base (.bl b)
  | int i => exact .base (.int i)
  | str s => exact .base (.str s)
  | _ => cases h
theorem flat_ty4 {x : V} (h : flatV x = true) : tyF x = "NoneType" ∨ tyF x = "bool" ∨ tyF x = "int" ∨ tyF x = "str" := by
  cases x with
  | non => exact .inl rfl
  | bl b => exact .inr (.inl rfl)
  | int i => exact .inr (.inr (.inl rfl))
  | str s => exact .inr (.inr (.inr rfl))
  | _ => cases h
theorem any_lt {K : PySem.W.Frag} : PySem.W.kitAny K (.type "list") [.type "list", .type "tuple"] = some true := kitAny_cons (b := true) (kit_ty (by decide +kernel)) (fun z => by cases z) (fun _ => rfl)
theorem any_tt {K : PySem.W.Frag} : PySem.W.kitAny K (.type "tuple") [.type "list", .type "tuple"] = some true := kitAny_cons (b := false) (kit_ty (by decide +kernel)) (fun _ => kitAny_cons (b := true) (kit_ty (by decide +kernel)) (fun z => by cases z) (fun _ => rfl)) (fun z => by cases z)
theorem any_f {K : PySem.W.Frag} {t : String} (h : t = "NoneType" ∨ t = "bool" ∨ t = "int" ∨ t = "str") : PySem.W.kitAny K (.type t) [.type "list", .type "tuple"] = some false := by
  have two : kitB t "list" = some false ∧ kitB t "tuple" = some false := by
    rcases h with rfl | rfl | rfl | rfl <;> exact ⟨by decide +kernel, by decide +kernel⟩
  exact kitAny_cons (b := false) (kit_ty two.1) (fun _ => kitAny_cons (b := false) (kit_ty two.2) (fun _ => kitAny_nil) (fun z => by cases z)) (fun z => by cases z)
theorem one_f {K : PySem.W.Frag} {t : String} (h : t = "NoneType" ∨ t = "bool" ∨ t = "int" ∨ t = "str") : (∃ b, PySem.W.kitOne K (.type t) (.type "bool") = some b) ∧ (∃ b, PySem.W.kitOne K (.type t) (.type "int") = some b) ∧ ∃ b, PySem.W.kitOne K (.type t) (.type "str") = some b := by
  rcases h with rfl | rfl | rfl | rfl
  · exact ⟨⟨_, kit_ty (r := false) (by decide +kernel)⟩, ⟨_, kit_ty (r := false) (by decide +kernel)⟩, ⟨_, kit_ty (r := false) (by decide +kernel)⟩⟩
  · exact ⟨⟨_, kit_ty (r := true) (by decide +kernel)⟩, ⟨_, kit_ty (r := true) (by decide +kernel)⟩, ⟨_, kit_ty (r := false) (by decide +kernel)⟩⟩
  · exact ⟨⟨_, kit_ty (r := false) (by decide +kernel)⟩, ⟨_, kit_ty (r := true) (by decide +kernel)⟩, ⟨_, kit_ty (r := false) (by decide +kernel)⟩⟩
  · exact ⟨⟨_, kit_ty (r := false) (by decide +kernel)⟩, ⟨_, kit_ty (r := false) (by decide +kernel)⟩, ⟨_, kit_ty (r := true) (by decide +kernel)⟩⟩
theorem walk_zipT {K : PySem.W.Frag} {a b : Addr} {xs ys : List V} (hn : xs.length = ys.length) : Walk (RZ.ItzT K a b) xs.length (fun H => SqT K H a xs ∧ SqT K H b ys) (YPair (fun i => xs[i]?) (fun i => ys[i]?)) :=
  ⟨fun i H hi h => ⟨xs, ys, xs[i], ys[i]'(by omega), h.1, h.2, by simp [hi], by simp [show i < ys.length by omega]⟩, fun H h => ⟨xs, ys, h.1, h.2, .inl (Nat.le_refl _)⟩,
    fun i H x H' hi h y => by
      obtain ⟨T, u, v, e1, e2, e3, q1, q2⟩ := y
      exact ⟨T, u, v, e1, e2, e3, q1 xs h.1, q2 ys h.2⟩⟩
/-- alike, to a depth -/
def SameAt (K : PySem.W.Frag) (H : Hp) : Nat → V → V → Prop
  | 0, v, u => flatV u = true ∧ v = u
  | n + 1, v, u => (flatV u = true ∧ v = u) ∨ ∃ (a b : Addr) (xs ys : List V), v = .ref a ∧ u = .ref b ∧ ((SqL K H a xs ∧ SqL K H b ys) ∨ (SqT K H a xs ∧ SqT K H b ys)) ∧ xs.length = ys.length ∧ xs.length ≤ 1000 ∧ ∀ (i : Nat) (x y : V), xs[i]? = some x → ys[i]? = some y → SameAt K H n x y
theorem SameAt.same {K : PySem.W.Frag} {H H' : Hp} (s : Same H H') : ∀ {n : Nat} {v u : V}, SameAt K H n v u → SameAt K H' n v u
  | 0, _, _, h => h
  | n + 1, _, _, .inl h => .inl h
  | n + 1, _, _, .inr ⟨a, b, xs, ys, e1, e2, h, l, l2, q⟩ => .inr ⟨a, b, xs, ys, e1, e2, h.imp (fun z => ⟨s.seq z.1, s.seq z.2⟩) (fun z => ⟨sameT s z.1, sameT s z.2⟩), l, l2, fun i x y hx hy => (q i x y hx hy).same s⟩
def spS (K : PySem.W.Frag) : Nat → Sp
  | 0 => fun _ _ _ _ => False
  | n + 1 => fun vs H Q _ => ∃ (v u : V), vs = [v, u] ∧ SameAt K H n v u ∧ ∀ H', Same H H' → Q (.bl true) H'
theorem spS_len {K : PySem.W.Frag} : ∀ (n : Nat) (vs : List V) (H : Hp) (Q : VK) (E : XK), spS K n vs H Q E → vs.length = (["_law_found", "_law_due"] : List Str).length
  | 0, _, _, _, _, h => h.elim
  | n + 1, _, _, _, _, ⟨v, u, e, _⟩ => by rw [e]; rfl
section
variable {P : Program} {w : World} {K : PySem.W.Frag} {mg : Str → Option Value} {base : Heap}
theorem sc_law_same : FnScope (["_law_found", "_law_due", "_law_one", "_law_other"] : List Str) ["_law_found", "_law_due"] (defScope s_law_same) := ⟨rfl, rfl, rfl, by decide +kernel, rfl, by decide +kernel, by decide +kernel⟩
theorem ok_same {f : Addr} {fd : FuncData} (F : FunD K "_law_same" "_law_same" (defArgs s_law_same) (defBody s_law_same) (defScope s_law_same) [] [] f fd) (T : Fre mg) (m : mg "_law_same" = some (.ref f)) : ∀ n : Nat, FnOk P w K mg base CX0 n f fd ["_law_found", "_law_due"] (spS K n) := by
  intro n
  induction n with
  | zero => exact ⟨fun _ _ _ _ h => h.elim, fun _ _ _ _ _ _ _ _ _ _ _ _ _ h => h.elim⟩
  | succ n ih =>
  have o_law_same : Own P w K mg base CX0 n "_law_same" ["_law_found", "_law_due"] [] (spS K n) := own_of F ih m fun _ _ _ _ _ _ us hl => match us, hl with | [_, _], _ => rfl
  refine F.ok sc_law_same (spS_len _) (fun cdv A outer s H vs Q E hr h => ?_)
  obtain ⟨v, u, rfl, hs, k⟩ := h
  refine ⟨_, PSs.nox (pss_cons (ps_if (pt_val (pe_callB call_isiT (by rfl) T.f_isinstance PyProof.Rows.boot_isinstance (pa_cons (pv 1) (pa_cons (pe_tup (pa_cons (pe_bltn (v := .ty "list") rfl T.f_list boot_list rfl) (pa_cons (pe_bltn (v := .ty "tuple") rfl T.f_tuple boot_tuple rfl) pa_nil))) pa_nil)))) (pss_cons (ps_if (PW.pt (pw_or (pt_cmpR op_ne (pe_callB call_isi (by rfl) T.f_isinstance PyProof.Rows.boot_isinstance (pa_cons (pv 0) (pa_cons (pe_bltn (v := .ty "list") rfl T.f_list boot_list rfl) pa_nil))) (pe_callB call_isi (by rfl) T.f_isinstance PyProof.Rows.boot_isinstance (pa_cons (pv 1) (pa_cons (pe_bltn (v := .ty "list") rfl T.f_list boot_list rfl) pa_nil))) (nomark _)) (pw_or1 (pt_not (pt_val (pe_callB call_isiT (by rfl) T.f_isinstance PyProof.Rows.boot_isinstance (pa_cons (pv 0) (pa_cons (pe_tup (pa_cons (pe_bltn (v := .ty "list") rfl T.f_list boot_list rfl) (pa_cons (pe_bltn (v := .ty "tuple") rfl T.f_tuple boot_tuple rfl) pa_nil))) pa_nil)))))))) (pss_one (ps_ret pe_bl)) pss_nil)
      (pss_one (ps_ret (pe_and (pe_cmpR op_eq (pe_callB call_len_seq (by rfl) T.f_len PySem.boot_len (pa_cons (pv 0) pa_nil)) (pe_callB call_len_seq (by rfl) T.f_len PySem.boot_len (pa_cons (pv 1) pa_nil)) (nomark _)) (pe_one (pe_callB (cr_all rfl) (by rfl) T.f_all (by decide +kernel) (pa_cons (pe_lc (own := [("_law_one", 2), ("_law_other", 3)]) (g := (gTup K 2 (gCons (gName 2) (gCons (gName 3) gNil)))) rfl sc_law_same.nd (RZ.pi_zipA (by rfl) T.f_zip (pa_cons (pv 0) (pa_cons (pv 1) pa_nil))) (blkOk_by (own := [("_law_one", 2), ("_law_other", 3)]) (N := ["_law_found", "_law_due", "_law_one", "_law_other"]) (sc := defScope s_law_same) (by decide +kernel)) (fun _ _ _ _ _ => pg_tup rfl (pgs_cons (pg_name (i := 2) sc_law_same.nd rfl (Or.inl rfl) (Or.inr rfl)) (pgs_cons (pg_name (i := 3) sc_law_same.nd rfl (Or.inl rfl) (Or.inr rfl)) pgs_nil))) (fun _ _ _ _ _ => pts_nil) (fun _ _ _ _ _ => (pe_own o_law_same hr rfl pass0 (pa_cons (pv 2) (pa_cons (pv 3) pa_nil))))) pa_nil))))))) pss_nil)
      (pss_cons (ps_if (pt_cmpR op_isN (pv 1) pe_non (nomark _)) (pss_one (ps_ret (pe_cmpR op_isN (pv 0) pe_non (nomark _)))) pss_nil)
      (pss_cons (ps_if (PW.pt (pw_or (pt_cmpR op_ne (pe_callB call_isi (by rfl) T.f_isinstance PyProof.Rows.boot_isinstance (pa_cons (pv 0) (pa_cons (pe_bltn (v := .ty "bool") rfl T.f_bool boot_bool rfl) pa_nil))) (pe_callB call_isi (by rfl) T.f_isinstance PyProof.Rows.boot_isinstance (pa_cons (pv 1) (pa_cons (pe_bltn (v := .ty "bool") rfl T.f_bool boot_bool rfl) pa_nil))) (nomark _)) (pw_or1 (pt_cmpR op_ne (pe_callB call_isi (by rfl) T.f_isinstance PyProof.Rows.boot_isinstance (pa_cons (pv 0) (pa_cons (pe_bltn (v := .ty "int") rfl T.f_int boot_int rfl) pa_nil))) (pe_callB call_isi (by rfl) T.f_isinstance PyProof.Rows.boot_isinstance (pa_cons (pv 1) (pa_cons (pe_bltn (v := .ty "int") rfl T.f_int boot_int rfl) pa_nil))) (nomark _))))) (pss_one (ps_ret pe_bl)) pss_nil)
      (pss_one (ps_ret (pe_and (pe_cmpR op_eq (pe_callB call_isi (by rfl) T.f_isinstance PyProof.Rows.boot_isinstance (pa_cons (pv 0) (pa_cons (pe_bltn (v := .ty "str") rfl T.f_str boot_str rfl) pa_nil))) (pe_callB call_isi (by rfl) T.f_isinstance PyProof.Rows.boot_isinstance (pa_cons (pv 1) (pa_cons (pe_bltn (v := .ty "str") rfl T.f_str boot_str rfl) pa_nil))) (nomark _)) (pe_one (pe_cmpR op_eq (pv 0) (pv 1) (nomark _))))))))) , ?_⟩
  have cs : (flatV u = true ∧ v = u) ∨ ∃ (a b : Addr) (xs ys : List V), v = .ref a ∧ u = .ref b ∧ ((SqL K H a xs ∧ SqL K H b ys) ∨ (SqT K H a xs ∧ SqT K H b ys)) ∧ xs.length = ys.length ∧ xs.length ≤ 1000 ∧ ∀ (H1 : Hp), Same H H1 → ∀ (i : Nat) (x y : V) (Q : VK) (E : XK), xs[i]? = some x → ys[i]? = some y → (∀ H2, Same H1 H2 → Q (.bl true) H2) → spS K n [x, y] H1 Q E := by
    cases n with
    | zero => exact .inl hs
    | succ m =>
      rcases hs with h | ⟨a, b, xs, ys, e1, e2, h, l, l2, q⟩
      · exact .inl h
      · exact .inr ⟨a, b, xs, ys, e1, e2, h, l, l2, fun H1 s1 i x y Q E hx hy k => ⟨x, y, rfl, (q i x y hx hy).same s1, k⟩⟩
  rcases cs with ⟨hf, rfl⟩ | ⟨a, b, xs, ys, rfl, rfl, hh, hl, hl2, hq⟩
  · have t4 := flat_ty4 hf
    obtain ⟨⟨b1, o1⟩, ⟨b2, o2⟩, ⟨b3, o3⟩⟩ := one_f (K := K) t4
    refine ⟨_, rfl, (by show 2 ≤ sizeLine; decide), fun p hp => ⟨v, p, [.ty "list", .ty "tuple"], _, [.type "list", .type "tuple"], false, rfl, upd_same, .cons (.ty _) (.cons (.ty _) .nil), flat_ty hf, any_f t4, _, rfl, iteF ?_⟩⟩
    refine ⟨_, rfl, rfl, _, rfl, ?_⟩
    refine ite2 (fun hc => ?_) (fun hc => ?_)
    · refine ⟨_, rfl, rfl, ?_⟩
      rw [hc]
      exact k _ (same_upd hp)
    · have ty : ∀ (H1 : Hp), TyX K H1 v (.type (tyF v)) := fun H1 => flat_ty hf
      have nb : (!decide (V.bl b1 = V.bl b1)) = false := by simp
      have nb2 : (!decide (V.bl b2 = V.bl b2)) = false := by simp
      have e3 : decide (V.bl b3 = V.bl b3) = true := by simp
      have ev : decide (v = v) = true := by simp
      have sc : scal v v = true := by
        cases v with
        | non => exact absurd (decide_eq_true rfl) hc
        | bl _ => rfl
        | int _ => rfl
        | str _ => rfl
        | _ => cases hf
      refine ⟨_, rfl, v, _, _, _, b1, rfl, .ty _, ty _, o1, _, rfl, v, _, _, _, b1, rfl, .ty _, ty _, o1, rfl, _, rfl, ?_⟩
      rw [nb]
      refine iteF ⟨_, rfl, v, _, _, _, b2, rfl, .ty _, ty _, o2, _, rfl, v, _, _, _, b2, rfl, .ty _, ty _, o2, rfl, _, rfl, ?_⟩
      rw [nb2]
      refine iteF ⟨_, rfl, v, _, _, _, b3, rfl, .ty _, ty _, o3, _, rfl, v, _, _, _, b3, rfl, .ty _, ty _, o3, rfl, _, rfl, ?_⟩
      rw [e3]
      refine iteT ⟨_, rfl, _, rfl, sc, ?_⟩
      rw [ev]
      exact k _ (same_upd hp)
  · have key : ∃ (t : String) (bl : Bool), PySem.W.kitOne K (.type t) (.type "list") = some bl ∧ PySem.W.kitAny K (.type t) [.type "list", .type "tuple"] = some true ∧ (∀ H1, Same H H1 → TyX K H1 (.ref a) (.type t) ∧ TyX K H1 (.ref b) (.type t)) := by
      rcases hh with ⟨ha, hb⟩ | ⟨ha, hb⟩
      · exact ⟨"list", true, kit_ty (by decide +kernel), any_lt, fun H1 s1 => ⟨tyL (s1.seq ha), tyL (s1.seq hb)⟩⟩
      · exact ⟨"tuple", false, kit_ty (by decide +kernel), any_tt, fun H1 s1 => ⟨tyT (sameT s1 ha), tyT (sameT s1 hb)⟩⟩
    obtain ⟨t, bl, o1, o2, ty⟩ := key
    have sq : ∀ H1, Same H H1 → (SqL K H1 a xs ∨ SqT K H1 a xs) ∧ (SqL K H1 b ys ∨ SqT K H1 b ys) := fun H1 s1 => by
      rcases hh with ⟨ha, hb⟩ | ⟨ha, hb⟩
      · exact ⟨.inl (s1.seq ha), .inl (s1.seq hb)⟩
      · exact ⟨.inr (sameT s1 ha), .inr (sameT s1 hb)⟩
    refine ⟨_, rfl, (by show 2 ≤ sizeLine; decide), fun p hp => ⟨.ref b, p, [.ty "list", .ty "tuple"], _, [.type "list", .type "tuple"], true, rfl, upd_same, .cons (.ty _) (.cons (.ty _) .nil), (ty _ (same_upd hp)).2, o2, _, rfl, iteT ?_⟩⟩
    have s1 : Same H (L2.upd H p (.tup [.ty "list", .ty "tuple"])) := same_upd hp
    refine ⟨_, rfl, .ref a, _, _, _, bl, rfl, .ty _, (ty _ s1).1, o1, _, rfl, .ref b, _, _, _, bl, rfl, .ty _, (ty _ s1).2, o1, rfl, _, rfl, ?_⟩
    rw [show (!decide (V.bl bl = V.bl bl)) = false from by simp]
    refine iteF ⟨_, rfl, (by show 2 ≤ sizeLine; decide), fun p2 hp2 => ⟨.ref a, p2, [.ty "list", .ty "tuple"], _, [.type "list", .type "tuple"], true, rfl, upd_same, .cons (.ty _) (.cons (.ty _) .nil), (ty _ (s1.trans (same_upd hp2))).1, o2, _, rfl, iteF ?_⟩⟩
    have s2 := s1.trans (same_upd (o := .tup [.ty "list", .ty "tuple"]) hp2)
    refine ⟨_, rfl, a, xs, rfl, (sq _ s2).1, _, rfl, b, ys, rfl, (sq _ s2).2, rfl, _, rfl, ?_⟩
    rw [hl, show decide (V.int (ys.length : Int) = V.int (ys.length : Int)) = true from decide_eq_true rfl]
    refine iteT ?_
    have core : ∀ (J : It) (G : Hp → Prop), Walk J xs.length G (YPair (fun i => xs[i]?) (fun i => ys[i]?)) → (∀ H1, Same H H1 → G H1) → ∀ D, (L2.upd (L2.upd H p (.tup [.ty "list", .ty "tuple"])) p2 (.tup [.ty "list", .ty "tuple"])) D = none → _ := fun J G w hG D hD =>
      lc_it w (vs := [2, 3]) (σ := [some (.ref a), some (.ref b), none, none]) (g := gTup K 2 (gCons (gName 2) (gCons (gName 3) gNil))) (tt := fun _ H Q => Q true H) (te := tCall (spS K n) [] E0 (tCons (tVar 2) (tCons (tVar 3) tNil))) (Qd := fun H1 => rAll K [.ref D] H1 Q)
        (fun i H1 => Same H H1 ∧ H D = none ∧ H1 D = some (.lst ((List.replicate i true).map V.bl)) ∧ i ≤ xs.length) ⟨s2.trans (same_upd hD), s2.free hD, upd_same, Nat.zero_le _⟩ (fun i H1 _ h => hG H1 h.1)
        (fun i v H1 H2 hi ⟨q1, q2, q3, q4⟩ ⟨Tp, x, y, e1, e2, e3, hx, hy⟩ => by
          subst e1 e3
          have q1' := q1.trans (same_upd (o := .tup [x, y]) e2)
          refine ⟨Tp, _, rfl, SqT.of upd_same, rfl, x, _, rfl, y, _, rfl, rfl, rfl, iteT ⟨_, rfl, _, rfl, hq _ q1' i x y _ _ hx hy fun H3 q5 => ?_⟩⟩
          have hD3 : H3 D = some (.lst ((List.replicate i true).map V.bl)) := q5 _ _ (by rw [upd_ne (ne_of_none q3 e2)]; exact q3)
          refine ⟨_, hD3, ?_, fun c o h => ?_, q2, ?_, hi⟩
          · rw [List.length_map, List.length_replicate]
            exact small1000 (by omega)
          · rw [upd_ne (ne_of_none h q2)]
            exact q5 _ _ (q1' _ _ h)
          · rw [upd_same, List.replicate_succ', List.map_append]
            rfl)
        (fun H1 ⟨q1, q2, q3, q4⟩ => ⟨D, List.replicate xs.length true, rfl, SqL.of q3, by rw [show (List.replicate xs.length true).all id = true from by simp]; exact k H1 q1⟩)
    rcases hh with ⟨ha, hb⟩ | ⟨ha, hb⟩
    · exact ⟨_, rfl, _, rfl, a, b, xs, ys, rfl, .inl ⟨s2.seq ha, s2.seq hb, core _ _ (walk_zip (by omega)) (fun H1 s => ⟨s.seq ha, s.seq hb⟩)⟩⟩
    · exact ⟨_, rfl, _, rfl, a, b, xs, ys, rfl, .inr ⟨sameT s2 ha, sameT s2 hb, core _ _ (walk_zipT hl) (fun H1 s => ⟨sameT s ha, sameT s hb⟩)⟩⟩
end
end Xk
end
section
set_option Elab.async false
set_option linter.all false
set_option maxRecDepth 100000
set_option maxHeartbeats 4000000
namespace Xk
open PySem PySem.Spec PyProof.Rows L2 Xh LamX NdefX
/-- N to the power e by P -/
def rpow (N : Nat) (e : Int) (P : Nat) : Nat := if N = 0 then (if e = 0 then 1 else 0) else N ^ (e.fmod ((P : Int) - 1)).toNat % P
def spRPow : Sp := fun vs H Q _ => ∃ (N P : Nat) (e : Int), vs = [.int N, .int e, .int P] ∧ 2 ≤ P ∧ P ≤ 1000 ∧ N < P ∧ Q (.int (rpow N e P)) H
theorem fmodN (a b : Nat) : (a : Int).fmod (b : Int) = ((a % b : Nat) : Int) := by
  rw [Int.fmod_eq_emod_of_nonneg _ (Int.natCast_nonneg b), Int.natCast_emod]
def slotN (i : Nat) (σ : L2.St) : Nat := match σ[i]? with
  | some (some (.int s)) => s.toNat
  | _ => 0
/-! ### powers by any multiplication -/
/-- c multiplies: Rel i x: x is the i-th power; what power_by promises by that -/
def TTpow : Addr → Sp → Sp := fun f c vs H Q E => ∃ (u o : V) (e : Nat) (Rel : Nat → V → Hp → Prop) (T : List (Addr × Str)), vs = [.ref f, u, o, .int e] ∧ Tabs T H ∧ Rel 0 u H ∧ Rel 1 o H ∧ (∀ i x H1 H2, Gr T H1 H2 → Rel i x H1 → Rel i x H2) ∧
  (∀ i j x y H1, Gr T H H1 → Rel i x H1 → Rel j y H1 → ∀ Q', (∀ z H2, Gr T H1 H2 → Rel (i + j) z H2 → Q' z H2) → c [x, y] H1 Q' E) ∧ ∀ z H1, Gr T H H1 → Rel e z H1 → Q z H1
/-- the lambda in a row `return g(lambda .., ..)` -/
def lamP (s : Stmt) : Arguments × Expr × Scope := match s with
  | .Return (some (.Call _ (.Lambda p b c _ :: _) _ _)) _ => (p, b, c)
  | s => (defArgs s, .Name "x" ⟨0, 0, 0, 0⟩, defScope s)
/-- of rests -/
def spMulP : List (Option V) → Sp := fun ws vs H Q _ => ∃ a b M : Nat, ws = [some (.int M)] ∧ vs = [.int a, .int b] ∧ a < M ∧ b < M ∧ 2 ≤ M ∧ M ≤ 1000 ∧ Q (.int ((a * b % M : Nat) : Int)) H
def rpQ : Str := (envOfC "rest_power" ⟨.function, [], false, false, []⟩ 0 0 .none).qual ++ "<lambda>"
def spRPowT (T : List (Addr × Str)) : Sp := fun vs H Q _ => ∃ (N P : Nat) (e : Int), vs = [.int N, .int e, .int P] ∧ 2 ≤ P ∧ P ≤ 1000 ∧ N < P ∧ Tabs T H ∧ ∀ H', Gr T H H' → Q (.int (rpow N e P)) H'
section
variable {P : Program} {w : World} {K : PySem.W.Frag} {mg : Str → Option Value} {base : Heap}

end
end Xk
end
section
set_option Elab.async false
set_option linter.all false
set_option maxRecDepth 100000
set_option maxHeartbeats 4000000
namespace Xk
open PySem PySem.Spec PyProof.Rows L2 Xh LamX NdefX
/-! ### rests -/
/-- what is wanted of a refusal: an own exception of the class at C, its word alone -/
def Ex (H : Hp) (E : XK) (C : Addr) (nm : Str) : Prop := ∀ (d : Addr) (H' : Hp), Same H H' → H' d = some (.xd [("word", .str nm)]) → H d = none → E (.ref C) (some d) H'
theorem Ex.imp {H : Hp} {E E' : XK} {C : Addr} {nm : Str} (x : Ex H E C nm) (h : ∀ c d H', E c d H' → E' c d H') : Ex H E' C nm := fun d H' a b c => h _ _ _ (x d H' a b c)
def spIsPrime : Sp := fun vs H Q _ => ∃ p : Int, vs = [.int p] ∧ Q (.bl (decide (p ∈ primes))) H
def spIsNum : Sp := fun vs H Q _ => ∃ n : Int, vs = [.int n] ∧ Q (.bl true) H
def spIsRest : Sp := fun vs H Q _ => ∃ n p : Int, vs = [.int n, .int p] ∧ Q (.bl (decide (0 ≤ n ∧ n < p))) H
def spRefP (C : Addr) : Sp := fun vs H Q E => ∃ p : Int, vs = [.int p] ∧ (p ∈ primes → Q .non H) ∧ (p ∉ primes → Ex H E C "BadPrime")
theorem inV_ints (p : Int) : ∀ ns : List Int, inV (.int p) (ns.map V.int) = decide (p ∈ ns)
  | [] => rfl
  | n :: ns => by
    have ih := inV_ints p ns
    unfold inV at ih ⊢
    rw [List.map_cons, List.any_cons, ih]
    show ((n == p) || decide (p ∈ ns)) = decide (p ∈ n :: ns)
    by_cases h : n = p
    · subst h
      simp
    · have h' : p ≠ n := fun z => h z.symm
      simp [h, h']
theorem all_flat (ns : List Int) : (ns.map V.int).all flatV = true := by
  rw [List.all_eq_true]
  intro x hx
  obtain ⟨n, _, rfl⟩ := List.mem_map.mp hx
  rfl
section
variable {P : Program} {w : World} {K : PySem.W.Frag} {mg : Str → Option Value} {base : Heap}
theorem sc_is_prime : FnScope (["number"] : List Str) ["number"] (defScope s_is_prime) := ⟨rfl, rfl, rfl, by decide +kernel, rfl, by decide +kernel, by decide +kernel⟩
theorem ok_is_prime {f : Addr} {fd : FuncData} {cP : Addr} (F : FunD K "is_prime" "is_prime" (defArgs s_is_prime) (defBody s_is_prime) (defScope s_is_prime) [] [] f fd) (mP : mg "PRIMES" = some (.ref cP)) (hP : ∀ H, SqT K H cP (primes.map V.int)) : FnOk P w K mg base CX0 1 f fd ["number"] spIsPrime := by
  refine F.ok sc_is_prime (fun vs H Q E h => ?_) (fun cdv A outer s H vs Q E hr h => ?_)
  · obtain ⟨p, rfl, _⟩ := h
    rfl
  · obtain ⟨p, rfl, k⟩ := h
    refine ⟨_, PSs.nox (pss_one (ps_ret (pe_cmpR op_in_seq (pv 0) (pe_glob (v := .ref cP) rfl mP rfl) (by rfl)))) , ?_⟩
    refine ⟨_, rfl, cP, _, rfl, .inr (hP H), rfl, all_flat _, ?_⟩
    rw [if_neg (by decide), inV_ints]
    exact k
theorem sc_is_number : FnScope (["told"] : List Str) ["told"] (defScope s_is_number) := ⟨rfl, rfl, rfl, by decide +kernel, rfl, by decide +kernel, by decide +kernel⟩
theorem ok_is_number {f : Addr} {fd : FuncData} (F : FunD K "is_number" "is_number" (defArgs s_is_number) (defBody s_is_number) (defScope s_is_number) [] [] f fd) (T : Fre mg) : FnOk P w K mg base CX0 1 f fd ["told"] spIsNum := by
  refine F.ok sc_is_number (fun vs H Q E h => ?_) (fun cdv A outer s H vs Q E hr h => ?_)
  · obtain ⟨p, rfl, _⟩ := h
    rfl
  · obtain ⟨n, rfl, k⟩ := h
    refine ⟨_, PSs.nox (pss_one (ps_ret (pe_and (pe_callB call_isi (by rfl) T.f_isinstance PyProof.Rows.boot_isinstance (pa_cons (pv 0) (pa_cons (pe_bltn (v := .ty "int") rfl T.f_int boot_int rfl) pa_nil))) (pe_one (pe_not (pe_callB call_isi (by rfl) T.f_isinstance PyProof.Rows.boot_isinstance (pa_cons (pv 0) (pa_cons (pe_bltn (v := .ty "bool") rfl T.f_bool boot_bool rfl) pa_nil)))))))) , ?_⟩
    exact ⟨_, rfl, .int n, _, _, _, true, rfl, .ty _, .base (.int n), kit_ty (by decide +kernel), _, rfl, iteT ⟨_, rfl, .int n, _, _, _, false, rfl, .ty _, .base (.int n), kit_ty (by decide +kernel), _, rfl, k⟩⟩
theorem sc_is_rest : FnScope (["told", "prime"] : List Str) ["told", "prime"] (defScope s_is_rest) := ⟨rfl, rfl, rfl, by decide +kernel, rfl, by decide +kernel, by decide +kernel⟩
theorem ok_is_rest {f : Addr} {fd : FuncData} (F : FunD K "is_rest" "is_rest" (defArgs s_is_rest) (defBody s_is_rest) (defScope s_is_rest) [] [] f fd) (o_is_number : Own P w K mg base CX0 1 "is_number" ["told"] [] spIsNum) : FnOk P w K mg base CX0 2 f fd ["told", "prime"] spIsRest := by
  refine F.ok sc_is_rest (fun vs H Q E h => ?_) (fun cdv A outer s H vs Q E hr h => ?_)
  · obtain ⟨n, p, rfl, _⟩ := h
    rfl
  · obtain ⟨n, p, rfl, k⟩ := h
    refine ⟨_, PSs.nox (pss_one (ps_ret (pe_and (pe_own o_is_number (hr.mono (by decide)) rfl pass0 (pa_cons (pv 0) pa_nil)) (pe_one (pe_chain op_le op_lt pe_int (pv 0) (pv 1)))))) , ?_⟩
    refine ⟨_, rfl, n, rfl, _, rfl, iteT ⟨_, rfl, _, _, rfl, rfl, _, rfl, ?_⟩⟩
    by_cases h0 : 0 ≤ n
    · rw [decide_eq_true h0]
      refine iteT ⟨_, rfl, _, _, rfl, rfl, ?_⟩
      show Q (.bl (decide (n < p))) H
      rw [show decide (n < p) = decide (0 ≤ n ∧ n < p) from by simp [h0]]
      exact k
    · rw [decide_eq_false h0]
      refine iteF ?_
      rw [show decide (0 ≤ n ∧ n < p) = false from decide_eq_false fun z => h0 z.1] at k
      exact k
theorem sc_refuse_prime : FnScope (["prime"] : List Str) ["prime"] (defScope s_refuse_prime) := ⟨rfl, rfl, rfl, by decide +kernel, rfl, by decide +kernel, by decide +kernel⟩
theorem ok_refuse_prime {f C fI : Addr} {fd : FuncData} (F : FunD K "refuse_prime" "refuse_prime" (defArgs s_refuse_prime) (defBody s_refuse_prime) (defScope s_refuse_prime) [] [] f fd) (o_is_prime : Own P w K mg base CX0 1 "is_prime" ["number"] [] spIsPrime) (xP : RX K mg C fI "BadPrime") (o_init : FnR P w K mg base (L2.CX P w) 1 fI (spRI1 K)) : FnOk P w K mg base (L2.CX P w) 3 f fd ["prime"] (spRefP C) := by
  refine F.ok sc_refuse_prime (fun vs H Q E h => ?_) (fun cdv A outer s H vs Q E hr h => ?_)
  · obtain ⟨p, rfl, _⟩ := h
    rfl
  · obtain ⟨p, rfl, h1, h2⟩ := h
    refine ⟨_, (pss_one (ps_if (pt_not (pt_val (pe_own o_is_prime (hr.mono (by decide)) rfl pass0 (pa_cons (pv 0) pa_nil)))) (pss_one (ps_raise rfl (takes_of rfl rfl rfl rfl) (pmk_rung xP o_init hr rfl))) pss_nil)) , ?_⟩
    refine ⟨_, rfl, p, rfl, _, rfl, ?_⟩
    by_cases hp : p ∈ primes
    · rw [decide_eq_true hp]
      exact iteF (h1 hp)
    · rw [decide_eq_false hp]
      exact iteT fun d H' a b c => h2 hp d H' a b c
end
end Xk
end
section
set_option Elab.async false
set_option linter.all false
set_option maxRecDepth 100000
set_option maxHeartbeats 4000000
namespace Xk
open PySem PySem.Spec PyProof.Rows L2 Xh LamX NdefX
/-! ### polynomials: rests without a nought at their end -/
def trim : List Int → List Int
  | [] => []
  | x :: xs => if trim xs = [] ∧ x = 0 then [] else x :: trim xs
theorem trim_nil : ∀ {a : List Int}, (∀ i, a.getD i 0 = 0) → trim a = []
  | [], _ => rfl
  | x :: xs, h => by
    have h0 : x = 0 := h 0
    have h1 : trim xs = [] := trim_nil fun i => h (i + 1)
    unfold trim
    rw [if_pos ⟨h1, h0⟩]
theorem trim_congr : ∀ (a b : List Int), (∀ i, a.getD i 0 = b.getD i 0) → trim a = trim b
  | [], b, h => (trim_nil fun i => (h i).symm).symm
  | a, [], h => trim_nil fun i => h i
  | x :: xs, y :: ys, h => by
    have h0 : x = y := h 0
    have h1 : trim xs = trim ys := trim_congr xs ys fun i => h (i + 1)
    unfold trim
    rw [h0, h1]
theorem trim_getD : ∀ (a : List Int) (i : Nat), (trim a).getD i 0 = a.getD i 0
  | [], i => rfl
  | x :: xs, i => by
    unfold trim
    by_cases h : trim xs = [] ∧ x = 0
    · rw [if_pos h, h.2]
      cases i with
      | zero => rfl
      | succ i =>
        have z := trim_getD xs i
        rw [h.1] at z
        exact z
    · rw [if_neg h]
      cases i with
      | zero => rfl
      | succ i => exact trim_getD xs i
theorem trim_trim (a : List Int) : trim (trim a) = trim a := trim_congr _ _ fun i => trim_getD a i
theorem trim_length : ∀ a : List Int, (trim a).length ≤ a.length
  | [] => Nat.le_refl _
  | x :: xs => by
    unfold trim
    split
    · exact Nat.zero_le _
    · exact Nat.succ_le_succ (trim_length xs)
theorem trim_mem : ∀ {a : List Int} {x : Int}, x ∈ trim a → x ∈ a
  | y :: ys, x, h => by
    unfold trim at h
    split at h
    · cases h
    · rcases List.mem_cons.mp h with h | h
      · exact List.mem_cons.mpr (.inl h)
      · exact List.mem_cons.mpr (.inr (trim_mem h))
theorem trim_last : ∀ (a : List Int) (n : Nat), n + 1 = a.length → a.getD n 0 ≠ 0 → trim a = a
  | x :: xs, n, hn, hz => by
    have hn' : n = xs.length := Nat.succ.inj hn
    unfold trim
    cases n with
    | zero =>
      have : xs = [] := List.length_eq_zero_iff.mp hn'.symm
      subst this
      rw [if_neg (fun z => hz z.2)]
      rfl
    | succ n =>
      have ih := trim_last xs n hn' hz
      rw [if_neg (fun z => by rw [ih] at z; rw [z.1] at hn'; cases hn'), ih]
theorem trim_ne (a : List Int) (h : a ≠ []) (ht : trim a = a) : a.getD (a.length - 1) 0 ≠ 0 := by
  induction a with
  | nil => exact absurd rfl h
  | cons x xs ih =>
    unfold trim at ht
    split at ht
    · cases ht
    · rename_i hc
      have hx : trim xs = xs := (List.cons.inj ht).2
      cases xs with
      | nil => exact fun z => hc ⟨rfl, z⟩
      | cons y ys => exact ih (by intro z; cases z) hx
theorem take_getD (a : List Int) (n i : Nat) : (a.take n).getD i 0 = if i < n then a.getD i 0 else 0 := by
  rw [List.getD_eq_getElem?_getD, List.getD_eq_getElem?_getD, List.getElem?_take]
  split <;> rfl
/-- what the count from the end leaves -/
theorem take_trim {a : List Int} {n : Nat} (hn : n ≤ a.length) (hz : ∀ i, n ≤ i → a.getD i 0 = 0) (hl : n = 0 ∨ a.getD (n - 1) 0 ≠ 0) : a.take n = trim a := by
  have e : trim (a.take n) = trim a := trim_congr _ _ fun i => by
    rw [take_getD]
    split
    · rfl
    · rw [hz i (by omega)]
  rw [← e]
  rcases hl with rfl | hl
  · rfl
  · cases n with
    | zero => rfl
    | succ n => exact (trim_last _ n (by rw [List.length_take]; omega) (by rw [take_getD, if_pos (Nat.lt_succ_self n)]; exact hl)).symm
theorem cutV_take (ns : List Int) (n : Nat) : cutV (ns.map V.int) none (some (n : Int)) = (ns.take n).map V.int := by
  unfold cutV
  rw [HT.sIx_none, HT.sIx_nat, Nat.sub_zero, List.drop_zero, ← List.map_take]
  congr 1
  rw [List.length_map]
  by_cases h : n ≤ ns.length
  · rw [Nat.min_eq_left h]
  · rw [Nat.min_eq_right (by omega), List.take_length, List.take_of_length_le (by omega)]
theorem map_at (ns : List Int) (i : Nat) (h : i < ns.length) : (ns.map V.int)[i]? = some (.int (ns.getD i 0)) := by
  rw [List.getElem?_map, List.getD_eq_getElem?_getD, List.getElem?_eq_getElem h]
  rfl
/-- a new tuple of these -/
def NewT (H : Hp) (ms : List Int) (Q : VK) : Prop := ∀ (p : Addr) (H' : Hp), Same H H' → H p = none → H' p = some (.tup (ms.map V.int)) → Q (.ref p) H'
theorem out_take {H : Hp} {ns : List Int} {n : Nat} {Q : VK} (e : ns.take n = trim ns) (k : NewT H (trim ns) Q) {p l : Addr} (hp : H p = none) (hl : L2.upd H p (.lst (cutV (ns.map V.int) none (some (n : Int)))) l = none) :
    Q (.ref l) (L2.upd (L2.upd H p (.lst (cutV (ns.map V.int) none (some (n : Int))))) l (.tup (cutV (ns.map V.int) none (some (n : Int))))) := by
  refine k l _ ((same_upd hp).trans (same_upd hl)) ((same_upd hp).free hl) ?_
  rw [upd_same, cutV_take, e]
def spTrim (K : PySem.W.Frag) : Sp := fun vs H Q _ => ∃ (a : Addr) (ns : List Int), vs = [.ref a] ∧ SqL K H a (ns.map V.int) ∧ ns.length ≤ 1000 ∧ NewT H (trim ns) Q
section
variable {P : Program} {w : World} {K : PySem.W.Frag} {mg : Str → Option Value} {base : Heap}
theorem sc_trimmed : FnScope (["rests", "count"] : List Str) ["rests"] (defScope s_trimmed) := ⟨rfl, rfl, rfl, by decide +kernel, rfl, by decide +kernel, by decide +kernel⟩
theorem ok_trimmed {f : Addr} {fd : FuncData} (F : FunD K "trimmed" "trimmed" (defArgs s_trimmed) (defBody s_trimmed) (defScope s_trimmed) [] [] f fd) (T : Fre mg) : FnOk P w K mg base CX0 1 f fd ["rests"] (spTrim K) := by
  refine F.ok sc_trimmed (fun vs H Q E h => ?_) (fun cdv A outer s H vs Q E hr h => ?_)
  · obtain ⟨a, ns, rfl, _⟩ := h
    rfl
  · obtain ⟨a, ns, rfl, hS, hl, k⟩ := h
    refine ⟨_, PSs.nox (pss_cons (ps_set (i := 1) sc_trimmed.nd rfl (Or.inl rfl) (pe_callB call_len_seq (by rfl) T.f_len PySem.boot_len (pa_cons (pv 0) pa_nil)))
      (pss_cons (ps_while PassesOwn.never (PW.pt (pw_and (pt_cmpR op_gt (pv 1) pe_int (nomark _)) (pw_and1 (pt_cmpR op_eq (pe_ix ix_list (pv 0) (pe_op op_sub (pv 1) pe_int) (fun _ _ => rfl)) pe_int (nomark _))))) (pss_one (ps_aug (i := 1) sc_trimmed.nd rfl (Or.inl rfl) pe_int ip_sub)))
      (pss_one (ps_ret (pe_callTy call_tuple_of (by rfl) T.f_tuple (by decide +kernel) (pa_cons (pe_slice sl_list (pv 0) po_none (po_some (pv 1))) pa_nil)))))) , ?_⟩
    refine ⟨_, rfl, _, _, rfl, .inl hS, ?_⟩
    refine while_by (fun σ' H' => ∃ n : Nat, σ' = [some (.ref a), some (.int n)] ∧ H' = H ∧ n ≤ ns.length ∧ ∀ i, n ≤ i → ns.getD i 0 = 0) (fun σ' _ => slotN 1 σ') ⟨ns.length, by rw [List.length_map]; rfl, rfl, Nat.le_refl _, fun i hi => by rw [List.getD_eq_getElem?_getD, List.getElem?_eq_none hi]; rfl⟩ ?_ ?_
    · rintro σ' H' ⟨n, rfl, rfl, hn, hz⟩
      have fin : n = 0 ∨ ns.getD (n - 1) 0 ≠ 0 → ns.take n = trim ns := take_trim hn hz
      refine ⟨_, rfl, _, _, rfl, rfl, _, rfl, ite2 (fun hc => ?_) (fun hc => ?_)⟩
      · have h0 : 0 < n := by
          have z := of_decide_eq_true hc
          omega
        refine ⟨_, rfl, _, rfl, _, _, rfl, rfl, a, _, _, .int (ns.getD (n - 1) 0), rfl, rfl, hS, ?_, ?_⟩
        · rw [show (n : Int) - 1 = ((n - 1 : Nat) : Int) by omega]
          exact atI_nat (map_at ns (n - 1) (by omega))
        · refine ⟨rfl, _, rfl, ite2 (fun hb => ?_) (fun hb => ?_)⟩
          · have z := V.int.inj (of_decide_eq_true hb)
            refine ⟨_, rfl, _, _, rfl, rfl, ⟨n - 1, by rw [show ((n - 1 : Nat) : Int) = (n : Int) - 1 by omega]; rfl, rfl, by omega, fun i hi => ?_⟩, ?_⟩
            · by_cases hi2 : i = n - 1
              · rw [hi2]; exact z
              · exact hz i (by omega)
            · show ((n : Int) - 1).toNat < (n : Int).toNat
              omega
          · exact ⟨_, rfl, _, rfl, n, rfl, a, _, rfl, hS, fun p hp => ⟨p, _, rfl, .inl ⟨SqL.of upd_same, fun l hl => out_take (fin (.inr fun z => hb (decide_eq_true (by rw [z])))) k hp hl⟩⟩⟩
      · have h0 : n = 0 := by
          by_cases z : n = 0
          · exact z
          · exact absurd (decide_eq_true (show (0 : Int) < (n : Int) by omega)) hc
        exact ⟨_, rfl, _, rfl, n, rfl, a, _, rfl, hS, fun p hp => ⟨p, _, rfl, .inl ⟨SqL.of upd_same, fun l hl => out_take (fin (.inl h0)) k hp hl⟩⟩⟩
    · rintro σ H Q Q' m ⟨v, h1, i, j, h2, h3, b, h4, q⟩
      refine ⟨v, h1, i, j, h2, h3, b, h4, ?_⟩
      cases b with
      | true =>
        obtain ⟨x, e1, y, e2, i2, j2, e3, e4, p1, p2, p3, p4, e5, e6, e7, e8, e9, b2, e10, q⟩ := q
        exact ⟨x, e1, y, e2, i2, j2, e3, e4, p1, p2, p3, p4, e5, e6, e7, e8, e9, b2, e10, m _ _ q⟩
      | false => exact m _ _ q
end
end Xk
end
section
set_option Elab.async false
set_option linter.all false
set_option maxRecDepth 100000
set_option maxHeartbeats 4000000
namespace Xk
open PySem PySem.Spec PyProof.Rows L2 Xh LamX NdefX
/-- the coefficients of ms, without a nought at the end, at most n of them -/
structure Is (f : Nat → Int) (n : Nat) (ms : List Int) : Prop where
  at_ : ∀ j, ms.getD j 0 = f j
  tr : trim ms = ms
  len : ms.length ≤ n
theorem Is.uniq {f g : Nat → Int} {n m : Nat} {a b : List Int} (x : Is f n a) (y : Is g m b) (h : ∀ j, f j = g j) : a = b := by
  rw [← x.tr, ← y.tr]
  exact trim_congr _ _ fun i => by rw [x.at_, y.at_, h]
def NewP (H : Hp) (f : Nat → Int) (n : Nat) (Q : VK) : Prop := ∀ ms, Is f n ms → NewT H ms Q
theorem is_trim {f : Nat → Int} {n : Nat} {ms : List Int} (h : ∀ j, ms.getD j 0 = f j) (l : ms.length ≤ n) : Is f n (trim ms) := ⟨fun j => by rw [trim_getD, h], trim_trim _, Nat.le_trans (trim_length _) l⟩
theorem NewT.same {H H' : Hp} {ms : List Int} {Q : VK} (k : NewT H ms Q) (s : Same H H') : NewT H' ms Q := fun p H2 a b c => k p H2 (s.trans a) (s.free b) c
theorem NewP.same {H H' : Hp} {f : Nat → Int} {n : Nat} {Q : VK} (k : NewP H f n Q) (s : Same H H') : NewP H' f n Q := fun ms h => (k ms h).same s
/-- rests by p -/
def Rs (p : Int) (ms : List Int) : Prop := ∀ j, 0 ≤ ms.getD j 0 ∧ ms.getD j 0 < p
structure Pm (p : Int) : Prop where
  lo : 2 ≤ p
  hi : p ≤ 1000
theorem Pm.pos {p : Int} (h : Pm p) : 0 < p := by have := h.lo; omega
theorem fm_rs {p : Int} (h : Pm p) {ms : List Int} {f : Nat → Int} (e : ∀ j, ms.getD j 0 = (f j).fmod p) : Rs p ms := fun j => by
  rw [e]
  exact ⟨Int.fmod_nonneg_of_pos _ h.pos, Int.fmod_lt_of_pos _ h.pos⟩
theorem fm_id {x p : Int} (h0 : 0 ≤ x) (h1 : x < p) : x.fmod p = x := by rw [Int.fmod_eq_emod_of_nonneg _ (by omega), Int.emod_eq_of_lt h0 h1]
theorem getD_over {a : List Int} {i : Nat} (h : a.length ≤ i) : a.getD i 0 = 0 := by
  rw [List.getD_eq_getElem?_getD, List.getElem?_eq_none h]
  rfl
theorem getD_map {a : List Int} {i : Nat} {g : Int → Int} (h : g 0 = 0) : (a.map g).getD i 0 = g (a.getD i 0) := by
  rw [List.getD_eq_getElem?_getD, List.getD_eq_getElem?_getD, List.getElem?_map]
  cases a[i]? with
  | none => exact h.symm
  | some x => rfl
theorem lcs {H H2 : Hp} {D : Addr} {o : HO} (hD : H D = none) (s : Same H H2) : Same H (L2.upd H2 D o) := fun b o h => by
  rw [upd_ne (ne_of_none h hD)]
  exact s b o h
theorem take_map {ns : List Int} {i : Nat} (g : Int → Int) (hi : i < ns.length) : ((ns.take i).map g).map V.int ++ [V.int (g (ns.getD i 0))] = ((ns.take (i + 1)).map g).map V.int := by
  rw [List.take_succ, List.getD_eq_getElem?_getD, List.getElem?_eq_getElem hi, List.map_append, List.map_append]
  rfl
theorem take_len (ns : List Int) (g : Int → Int) (i : Nat) : (((ns.take i).map g).map V.int).length ≤ ns.length := by
  rw [List.length_map, List.length_map, List.length_take]
  omega
theorem ixN_nat {n i : Nat} (h : i < n) : ixN n (i : Int) = some i := by
  unfold ixN
  rw [if_pos (by omega), if_pos (by omega), Int.toNat_natCast]
theorem getD_set {a : List Int} {i j : Nat} {v : Int} (h : i < a.length) : (a.set i v).getD j 0 = if j = i then v else a.getD j 0 := by
  rw [List.getD_eq_getElem?_getD, List.getD_eq_getElem?_getD, List.getElem?_set]
  by_cases e : j = i
  · rw [if_pos e, if_pos e.symm, if_pos h]
    rfl
  · rw [if_neg e, if_neg (fun z => e z.symm)]
def spScale (K : PySem.W.Frag) : Sp := fun vs H Q _ => ∃ (a : Addr) (ns : List Int) (r p : Int), vs = [.ref a, .int r, .int p] ∧ SqT K H a (ns.map V.int) ∧ ns.length ≤ 100 ∧ Rs p ns ∧ Pm p ∧ NewP H (fun j => (ns.getD j 0 * r).fmod p) ns.length Q
def spPlus (K : PySem.W.Frag) : Sp := fun vs H Q _ => ∃ (a b : Addr) (xs ys : List Int) (p : Int), vs = [.ref a, .ref b, .int p] ∧ SqT K H a (xs.map V.int) ∧ SqT K H b (ys.map V.int) ∧ xs.length ≤ 100 ∧ ys.length ≤ 100 ∧ Rs p xs ∧ Rs p ys ∧ Pm p ∧
  NewP H (fun j => (xs.getD j 0 + ys.getD j 0).fmod p) (max xs.length ys.length) Q
def spMinus (K : PySem.W.Frag) : Sp := fun vs H Q _ => ∃ (a b : Addr) (xs ys : List Int) (p : Int), vs = [.ref a, .ref b, .int p] ∧ SqT K H a (xs.map V.int) ∧ SqT K H b (ys.map V.int) ∧ xs.length ≤ 100 ∧ ys.length ≤ 100 ∧ Rs p xs ∧ Rs p ys ∧ Pm p ∧
  NewP H (fun j => (xs.getD j 0 + (p - 1) * ys.getD j 0).fmod p) 100 Q
section
variable {P : Program} {w : World} {K : PySem.W.Frag} {mg : Str → Option Value} {base : Heap}
theorem sc_law_trim : FnScope (["_law_numbers", "_law_many", "_law_k"] : List Str) ["_law_numbers"] (defScope s_law_trim) := ⟨rfl, rfl, rfl, by decide +kernel, rfl, by decide +kernel, by decide +kernel⟩
theorem ok_law_trim {f : Addr} {fd : FuncData} (F : FunD K "_law_trim" "_law_trim" (defArgs s_law_trim) (defBody s_law_trim) (defScope s_law_trim) [] [] f fd) (T : Fre mg) : FnOk P w K mg base CX0 1 f fd ["_law_numbers"] (spTrim K) := by
  refine F.ok sc_law_trim (fun vs H Q E h => ?_) (fun cdv A outer s H vs Q E hr h => ?_)
  · obtain ⟨a, ns, rfl, _⟩ := h
    rfl
  · obtain ⟨a, ns, rfl, hS, hl, k⟩ := h
    refine ⟨_, PSs.nox (pss_cons (ps_set (i := 1) sc_law_trim.nd rfl (Or.inl rfl) (pe_callB call_len_seq (by rfl) T.f_len PySem.boot_len (pa_cons (pv 0) pa_nil)))
      (pss_cons (ps_for PassesOwn.never rfl (pi_range1 (by rfl) T.f_range (pa_cons (pe_callB call_len_seq (by rfl) T.f_len PySem.boot_len (pa_cons (pv 0) pa_nil)) pa_nil)) (pg_name (i := 2) sc_law_trim.nd rfl (Or.inl rfl)) (pss_one (ps_if (PW.pt (pw_and (pt_cmpR op_gt (pv 1) pe_int (nomark _)) (pw_and1 (pt_cmpR op_eq (pe_ix ix_list (pv 0) (pe_op op_sub (pv 1) pe_int) (fun _ _ => rfl)) pe_int (nomark _))))) (pss_one (ps_set (i := 1) sc_law_trim.nd rfl (Or.inl rfl) (pe_op op_sub (pv 1) pe_int))) pss_nil)))
      (pss_one (ps_ret (pe_callTy call_tuple_of (by rfl) T.f_tuple (by decide +kernel) (pa_cons (pe_slice sl_list (pv 0) po_none (po_some (pv 1))) pa_nil)))))) , ?_⟩
    refine ⟨_, rfl, _, _, rfl, .inl hS, ?_⟩
    refine ⟨_, rfl, _, _, rfl, .inl hS, (ns.length : Int), by rw [List.length_map], by omega, by omega, ?_⟩
    rw [Int.toNat_natCast]
    refine for_range (lo := 0) (n := ns.length) (fun i σ' H' => ∃ (n : Nat) (x : Option V), σ' = [some (.ref a), some (.int n), x] ∧ H' = H ∧ n ≤ ns.length ∧ (∀ j, n ≤ j → ns.getD j 0 = 0) ∧ (n + i ≤ ns.length ∨ n = 0 ∨ ns.getD (n - 1) 0 ≠ 0)) ⟨ns.length, none, by rw [List.length_map]; rfl, rfl, Nat.le_refl _, fun j hj => getD_over hj, .inl (Nat.le_refl _)⟩ ?_ ?_
    · rintro i σ' H' hi ⟨n, x, rfl, rfl, hn, hz, hq⟩
      refine ⟨_, rfl, _, _, rfl, rfl, _, rfl, ite2 (fun hc => ?_) (fun hc => ?_)⟩
      · have h0 : 0 < n := by
          have z := of_decide_eq_true hc
          omega
        refine ⟨_, rfl, _, rfl, _, _, rfl, rfl, a, _, _, .int (ns.getD (n - 1) 0), rfl, rfl, hS, ?_, ?_⟩
        · rw [show (n : Int) - 1 = ((n - 1 : Nat) : Int) by omega]
          exact atI_nat (map_at ns (n - 1) (by omega))
        · refine ⟨rfl, _, rfl, ite2 (fun hb => ?_) (fun hb => ?_)⟩
          · have z := V.int.inj (of_decide_eq_true hb)
            refine ⟨_, rfl, _, _, rfl, rfl, n - 1, _, by rw [show ((n - 1 : Nat) : Int) = (n : Int) - 1 by omega]; rfl, rfl, by omega, fun j hj => ?_, ?_⟩
            · by_cases hj2 : j = n - 1
              · rw [hj2]; exact z
              · exact hz j (by omega)
            · rcases hq with q | q | q
              · exact .inl (by omega)
              · omega
              · exact absurd z q
          · exact ⟨n, _, rfl, rfl, hn, hz, .inr (.inr fun z => hb (decide_eq_true (by rw [z])))⟩
      · have h0 : n = 0 := by
          by_cases z : n = 0
          · exact z
          · exact absurd (decide_eq_true (show (0 : Int) < (n : Int) by omega)) hc
        exact ⟨n, _, rfl, rfl, hn, hz, .inr (.inl h0)⟩
    · rintro σ' H' ⟨n, x, rfl, rfl, hn, hz, hq⟩
      have hq' : n = 0 ∨ ns.getD (n - 1) 0 ≠ 0 := by
        rcases hq with q | q
        · exact .inl (by omega)
        · exact q
      exact ⟨_, rfl, _, rfl, n, rfl, a, _, rfl, hS, fun p hp => ⟨p, _, rfl, .inl ⟨SqL.of upd_same, fun l hl => out_take (take_trim hn hz hq') k hp hl⟩⟩⟩
end
end Xk
end
section
set_option Elab.async false
set_option linter.all false
set_option maxRecDepth 100000
set_option maxHeartbeats 4000000
namespace Xk
open PySem PySem.Spec PyProof.Rows L2 Xh LamX NdefX
theorem Is.imp {f g : Nat → Int} {n m : Nat} {ms : List Int} (x : Is f n ms) (h : ∀ j, f j = g j) (l : n ≤ m) : Is g m ms := ⟨fun j => (x.at_ j).trans (h j), x.tr, Nat.le_trans x.len l⟩
theorem NewP.imp {H : Hp} {f g : Nat → Int} {n m : Nat} {Q : VK} (k : NewP H g m Q) (h : ∀ j, f j = g j) (l : n ≤ m) : NewP H f n Q := fun ms x => k ms (x.imp h l)
theorem fm_add {a b p : Int} (h : 0 < p) : (a + b.fmod p).fmod p = (a + b).fmod p := by
  rw [Int.fmod_eq_emod_of_nonneg _ (by omega), Int.fmod_eq_emod_of_nonneg _ (by omega), Int.fmod_eq_emod_of_nonneg _ (by omega), Int.add_emod_emod]
theorem fm_add2 {a b p : Int} (h : 0 < p) : (a.fmod p + b).fmod p = (a + b).fmod p := by rw [Int.add_comm, fm_add h, Int.add_comm]
/-- one row of a product -/
def In (g : Nat → Int) (i : Nat) (x : Int) (ys : List Int) : Nat → Nat → Int
  | 0 => g
  | j + 1 => fun k => if k = i + j then In g i x ys j k + x * ys.getD j 0 else In g i x ys j k
/-- a product's coefficients, i rows of it -/
def Ou (xs ys : List Int) : Nat → Nat → Int
  | 0 => fun _ => 0
  | i + 1 => In (Ou xs ys i) i (xs.getD i 0) ys ys.length
def cvf (xs ys : List Int) : Nat → Int := Ou xs ys xs.length
theorem In_over {g : Nat → Int} {i n : Nat} {x : Int} {ys : List Int} (h : ∀ k, n ≤ k → g k = 0) (hn : i + ys.length ≤ n) : ∀ j, j ≤ ys.length → ∀ k, n ≤ k → In g i x ys j k = 0
  | 0, _, k, hk => h k hk
  | j + 1, hj, k, hk => by
    unfold In
    rw [if_neg (by omega)]
    exact In_over h hn j (by omega) k hk
theorem Ou_nil (xs : List Int) : ∀ i k, Ou xs [] i k = 0
  | 0, _ => rfl
  | i + 1, k => Ou_nil xs i k
theorem rep_zero (n : Nat) : (List.replicate n [V.int 0]).flatten = (List.replicate n (0 : Int)).map V.int := by
  induction n with
  | zero => rfl
  | succ n ih => rw [List.replicate_succ, List.replicate_succ, List.flatten_cons, ih]; rfl
theorem getD_rep (n j : Nat) : (List.replicate n (0 : Int)).getD j 0 = 0 := by
  rw [List.getD_eq_getElem?_getD, List.getElem?_replicate]
  split <;> rfl
def spTimes (K : PySem.W.Frag) : Sp := fun vs H Q _ => ∃ (a b : Addr) (xs ys : List Int) (p : Int), vs = [.ref a, .ref b, .int p] ∧ SqT K H a (xs.map V.int) ∧ SqT K H b (ys.map V.int) ∧ xs.length ≤ 50 ∧ ys.length ≤ 50 ∧ Rs p xs ∧ Rs p ys ∧ Pm p ∧
  NewP H (fun j => (cvf xs ys j).fmod p) 100 Q
section
variable {P : Program} {w : World} {K : PySem.W.Frag} {mg : Str → Option Value} {base : Heap}

end
end Xk
end
section
set_option Elab.async false
set_option linter.all false
set_option maxRecDepth 100000
set_option maxHeartbeats 4000000
namespace Xk
open PySem PySem.Spec PyProof.Rows L2 Xh LamX NdefX
def spIsPoly (K : PySem.W.Frag) : Sp := fun vs H Q _ => ∃ (a : Addr) (ns : List Int) (p : Int), vs = [.ref a, .int p] ∧ SqT K H a (ns.map V.int) ∧ ns.length ≤ 25 ∧ Rs p ns ∧ trim ns = ns ∧ ∀ H', Same H H' → Q (.bl true) H'
theorem atI_back (n : Int) (ns : List Int) : atI ((n :: ns).map V.int) (-1) = some (.int ((n :: ns).getD ns.length 0)) := by
  unfold atI ixN
  rw [List.length_map, List.length_cons, if_neg (by decide), if_pos (by omega)]
  show ((n :: ns).map V.int)[((-1 : Int) + ((ns.length + 1 : Nat) : Int)).toNat]? = _
  rw [show ((-1 : Int) + ((ns.length + 1 : Nat) : Int)).toNat = ns.length by omega]
  exact map_at (n :: ns) ns.length (by rw [List.length_cons]; omega)
theorem dp_ints {K : PySem.W.Frag} {H : Hp} : ∀ ns : List Int, DpAll K H (ns.map V.int) (ns.map PyData.int)
  | [] => .nil
  | n :: ns => .cons (.int n) (dp_ints ns)
theorem dp_tup {K : PySem.W.Frag} {H : Hp} {a : Addr} {ns : List Int} (h : SqT K H a (ns.map V.int)) : Dp K H (.ref a) (.tuple (ns.map PyData.int)) := .tup h (dp_ints ns)
section
variable {P : Program} {w : World} {K : PySem.W.Frag} {mg : Str → Option Value} {base : Heap}
theorem sc_is_poly : FnScope (["told", "prime", "rest"] : List Str) ["told", "prime"] (defScope s_is_poly) := ⟨rfl, rfl, rfl, by decide +kernel, rfl, by decide +kernel, by decide +kernel⟩
theorem ok_is_poly {f : Addr} {fd : FuncData} (F : FunD K "is_poly" "is_poly" (defArgs s_is_poly) (defBody s_is_poly) (defScope s_is_poly) [] [] f fd) (T : Fre mg) (mM : ∃ t, mg "MOST_RESTS" = some (.int 25 t)) (o_is_rest : Own P w K mg base CX0 2 "is_rest" ["told", "prime"] [] spIsRest) : FnOk P w K mg base CX0 3 f fd ["told", "prime"] (spIsPoly K) := by
  obtain ⟨tM, mM⟩ := mM
  refine F.ok sc_is_poly (fun vs H Q E h => ?_) (fun cdv A outer s H vs Q E hr h => ?_)
  · obtain ⟨a, ns, p, rfl, _⟩ := h
    rfl
  · obtain ⟨a, ns, p, rfl, hS, hl, hR, htr, k⟩ := h
    refine ⟨_, PSs.nox (pss_cons (ps_if (PW.pt (pw_or (pt_not (pt_val (pe_callB call_isi (by rfl) T.f_isinstance PyProof.Rows.boot_isinstance (pa_cons (pv 0) (pa_cons (pe_bltn (v := .ty "tuple") rfl T.f_tuple boot_tuple rfl) pa_nil))))) (pw_or1 (pt_cmpR op_gt (pe_callB call_len_seq (by rfl) T.f_len PySem.boot_len (pa_cons (pv 0) pa_nil)) (pe_glob (v := .int 25) rfl mM ⟨_, rfl⟩) (nomark _))))) (pss_one (ps_ret pe_bl)) pss_nil)
      (pss_cons (ps_if (pt_not (pt_val (pe_callB (cr_all rfl) (by rfl) T.f_all (by decide +kernel) (pa_cons (pe_lc (own := [("rest", 2)]) rfl sc_is_poly.nd (pi_tup (pv 0)) (blkOk_by (own := [("rest", 2)]) (N := ["told", "prime", "rest"]) (sc := defScope s_is_poly) (by decide +kernel)) (fun _ _ _ _ _ => pg_name (i := 2) sc_is_poly.nd rfl (Or.inl rfl) (Or.inr rfl)) (fun _ _ _ _ _ => pts_nil) (fun _ _ _ _ _ => (pe_own o_is_rest (hr.mono (by decide)) rfl pass0 (pa_cons (pv 2) (pa_cons (pv 1) pa_nil))))) pa_nil)))) (pss_one (ps_ret pe_bl)) pss_nil)
      (pss_one (ps_ret (pe_or (pe_cmpR (op_eqD hr.units) (pv 0) (pe_tup pa_nil) (nomark _)) (pe_one (pe_cmpR op_ne (pe_ix ix_tup (pv 0) (pe_un un_neg pe_int) (fun _ _ => rfl)) pe_int (nomark _)))))))) , ?_⟩
    refine ⟨_, rfl, .ref a, _, _, _, true, rfl, .ty _, tyT hS, kit_ty (by decide +kernel), _, rfl, iteF ?_⟩
    refine ⟨_, rfl, _, _, rfl, .inr hS, _, _, rfl, rfl, _, rfl, ?_⟩
    rw [show decide ((25 : Int) < ((ns.map V.int).length : Int)) = false from decide_eq_false (by rw [List.length_map]; omega)]
    refine iteF ?_
    refine ⟨_, rfl, a, rfl, ⟨_, hS⟩, fun D hD => ?_⟩
    refine lc_it (walk_tup (xs := ns.map V.int)) (fun i H1 => Same H H1 ∧ H1 D = some (.lst ((List.replicate i true).map V.bl)) ∧ i ≤ ns.length) ⟨same_upd hD, upd_same, Nat.zero_le _⟩ (fun i H1 _ h => sameT h.1 hS) ?_ ?_
    · rintro i x H1 H2 hi ⟨s1, e1, _⟩ ⟨rfl, hx⟩
      rw [List.length_map] at hi
      have e3 := (map_at ns i hi).symm.trans hx
      cases e3
      refine ⟨rfl, _, rfl, _, rfl, _, _, rfl, ?_⟩
      rw [decide_eq_true (hR i)]
      refine ⟨_, e1, ?_, lcs hD s1, ?_, hi⟩
      · rw [List.length_map, List.length_replicate]
        exact small1000 (by omega)
      · rw [upd_same, List.replicate_succ', List.map_append]
        rfl
    · rintro H1 ⟨s1, e1, _⟩
      refine ⟨D, List.replicate (ns.map V.int).length true, rfl, SqL.of e1, _, rfl, ?_⟩
      rw [show (List.replicate (ns.map V.int).length true).all id = true from by simp]
      refine iteF ⟨_, rfl, (by show 0 ≤ sizeLine; decide), fun t ht => ⟨_, _, dp_tup (sameT (s1.trans (same_upd ht)) hS), dp_tup (ns := []) (.inl (.inl upd_same)), ?_, rfl, ?_⟩⟩
      · simp [SeqAt.shaped, PyData.canLay0, PyData.depth, PySem.W.ke_canLayAll0, PySem.W.ke_depthAll]
      · cases ns with
        | nil => exact ⟨_, rfl, iteT (k _ (s1.trans (same_upd ht)))⟩
        | cons n ns =>
          refine ⟨_, rfl, iteF ⟨_, rfl, _, rfl, a, _, _, .int ((n :: ns).getD ns.length 0), rfl, rfl, sameT (s1.trans (same_upd ht)) hS, ?_, ?_⟩⟩
          · exact atI_back n ns
          · have z := trim_ne _ (by intro z; cases z) htr
            refine ⟨rfl, ?_⟩
            rw [show (!decide (V.int ((n :: ns).getD ns.length 0) = V.int 0)) = true from by simpa using z]
            exact k _ (s1.trans (same_upd ht))
end
end Xk
end
section
set_option Elab.async false
set_option linter.all false
set_option maxRecDepth 100000
set_option maxHeartbeats 4000000
namespace Xk
open PySem PySem.Spec PyProof.Rows L2 Xh LamX NdefX
theorem pm_all : ∀ p ∈ primes, 2 ≤ p ∧ p ≤ 1000 := by decide
theorem pm_of {p : Int} (h : p ∈ primes) : Pm p := ⟨(pm_all p h).1, (pm_all p h).2⟩
structure Pol (K : PySem.W.Frag) (H : Hp) (a : Addr) (p : Int) (ns : List Int) : Prop where
  at_ : SqT K H a (ns.map V.int)
  len : ns.length ≤ 25
  rs : Rs p ns
  tr : trim ns = ns
theorem Pol.same {H H' : Hp} {K : PySem.W.Frag} {a : Addr} {p : Int} {ns : List Int} (x : Pol K H a p ns) (s : Same H H') : Pol K H' a p ns := ⟨sameT s x.at_, x.len, x.rs, x.tr⟩
theorem two_of {H : Hp} {K : PySem.W.Frag} {a b : Addr} {p : Int} {xs ys : List Int} (x : Pol K H a p xs) (y : Pol K H b p ys) : ∀ r ∈ [V.ref a, V.ref b], ∃ a ns, r = .ref a ∧ Pol K H a p ns := fun r hr => by
  rcases List.mem_cons.mp hr with rfl | hr
  · exact ⟨_, _, rfl, x⟩
  · rw [List.mem_singleton.mp hr]
    exact ⟨_, _, rfl, y⟩
def spRefPs (K : PySem.W.Frag) : Sp := fun vs H Q _ => ∃ (c : Addr) (rs : List V) (p : Int), vs = [.ref c, .int p] ∧ p ∈ primes ∧ SqT K H c rs ∧ (∀ r ∈ rs, ∃ a ns, r = .ref a ∧ Pol K H a p ns) ∧ ∀ H', Same H H' → Q .non H'
def spPoly (K : PySem.W.Frag) (g : Int → List Int → List Int → Nat → Int) : Sp := fun vs H Q _ => ∃ (a b : Addr) (xs ys : List Int) (p : Int), vs = [.ref a, .ref b, .int p] ∧ p ∈ primes ∧ Pol K H a p xs ∧ Pol K H b p ys ∧ NewP H (g p xs ys) 100 Q
def gPlus : Int → List Int → List Int → Nat → Int := fun p xs ys j => (xs.getD j 0 + ys.getD j 0).fmod p
def gMinus : Int → List Int → List Int → Nat → Int := fun p xs ys j => (xs.getD j 0 + (p - 1) * ys.getD j 0).fmod p
def gTimes : Int → List Int → List Int → Nat → Int := fun p xs ys j => (cvf xs ys j).fmod p
section
variable {P : Program} {w : World} {K : PySem.W.Frag} {mg : Str → Option Value} {base : Heap}
theorem sc_refuse_polys : FnScope (["polys", "prime", "poly"] : List Str) ["polys", "prime"] (defScope s_refuse_polys) := ⟨rfl, rfl, rfl, by decide +kernel, rfl, by decide +kernel, by decide +kernel⟩
theorem ok_refuse_polys {f fI : Addr} {C : Fin 14 → Addr} {fd : FuncData} (F : FunD K "refuse_polys" "refuse_polys" (defArgs s_refuse_polys) (defBody s_refuse_polys) (defScope s_refuse_polys) [] [] f fd) (o_refuse_prime : Own P w K mg base (L2.CX P w) 3 "refuse_prime" ["prime"] [] (spRefP (C 0)))
    (o_is_poly : Own P w K mg base CX0 3 "is_poly" ["told", "prime"] [] (spIsPoly K)) (xP : RX K mg (C 1) fI "BadPoly") (o_init : FnR P w K mg base (L2.CX P w) 1 fI (spRI1 K)) : FnOk P w K mg base (L2.CX P w) 4 f fd ["polys", "prime"] (spRefPs K) := by
  refine F.ok sc_refuse_polys (fun vs H Q E h => ?_) (fun cdv A outer s H vs Q E hr h => ?_)
  · obtain ⟨c, rs, p, rfl, _⟩ := h
    rfl
  · obtain ⟨c, rs, p, rfl, hp, hS, hP, k⟩ := h
    refine ⟨_, (pss_cons (ps_expr (pe_own o_refuse_prime (hr.mono (by decide)) rfl (passes_call (takes_of rfl rfl rfl rfl) (fun _ _ _ _ h => h)) (pa_cons (pv 1) pa_nil)))
      (pss_one (ps_for (passes_of rfl) rfl (pi_tup (pv 0)) (pg_name (i := 2) sc_refuse_polys.nd rfl (Or.inl rfl)) (pss_one (ps_if (pt_not (pt_val (pe_own o_is_poly (hr.mono (by decide)) rfl pass0 (pa_cons (pv 2) (pa_cons (pv 1) pa_nil))))) (pss_one (ps_raise rfl (takes_of rfl rfl rfl rfl) (pmk_rung xP o_init (hr.mono (by decide)) rfl))) pss_nil))))) , ?_⟩
    refine ⟨_, rfl, p, rfl, fun _ => ?_, fun z => absurd hp z⟩
    refine ⟨_, rfl, c, rfl, ⟨_, hS⟩, ?_⟩
    refine for_it (walk_tup (xs := rs)) (fun i σ' H2 => ∃ x : Option V, σ' = [some (.ref c), some (.int p), x] ∧ Same H H2) ⟨none, rfl, fun _ _ h => h⟩ (fun i σ' H2 _ ⟨_, _, s2⟩ => sameT s2 hS) ?_ ?_
    · rintro i x σ' H2 H3 hi ⟨x0, rfl, s2⟩ ⟨rfl, hx⟩
      obtain ⟨a, ns, rfl, Pa⟩ := hP x (List.mem_of_getElem? hx)
      have Pb := Pa.same s2
      exact ⟨_, rfl, _, rfl, a, ns, p, rfl, Pb.at_, Pb.len, Pb.rs, Pb.tr, fun H4 s4 => ⟨_, rfl, iteF ⟨_, rfl, s2.trans s4⟩⟩⟩
    · rintro σ' H2 ⟨x, rfl, s2⟩
      exact k _ s2
end
end Xk
end
section
set_option Elab.async false
set_option linter.all false
set_option maxRecDepth 100000
set_option maxHeartbeats 4000000
namespace Xk
open PySem PySem.Spec PyProof.Rows L2 Xh LamX NdefX
theorem Draw.updL {H : Hp} {d p : Addr} {ms : List Int} (D : Draw H d) (h : p ≠ d) : Draw (L2.upd H p (.lst (ms.map V.int))) d := by
  obtain ⟨c, ns, i, r, g, h1, h2, h3⟩ := D
  by_cases hc : c = p
  · exact ⟨c, ms, i, r, g, by rw [upd_ne (Ne.symm h)]; exact h1, by rw [hc, upd_same], h3⟩
  · exact ⟨c, ns, i, r, g, by rw [upd_ne (Ne.symm h)]; exact h1, by rw [upd_ne hc]; exact h2, h3⟩
theorem But.lcs {H H2 : Hp} {d D : Addr} {o : HO} (hD : H D = none) (b : But d H H2) : But d H (L2.upd H2 D o) := ⟨fun c u h e => by
  rw [upd_ne (ne_of_none e hD)]
  exact b.f c u h e, fun c r e => by
  obtain ⟨r', e'⟩ := b.c c r e
  exact ⟨r', by rw [upd_ne (ne_of_none e hD)]; exact e'⟩⟩
theorem Rs.nil (p : Int) (h : 0 < p) : Rs p [] := fun j => ⟨Int.le_refl _, h⟩
theorem Rs.add {p x : Int} {ms : List Int} (r : Rs p ms) (h0 : 0 ≤ x) (h1 : x < p) : Rs p (ms ++ [x]) := fun j => by
  rw [List.getD_eq_getElem?_getD, List.getElem?_append]
  split
  · have z := r j
    rw [List.getD_eq_getElem?_getD] at z
    exact z
  · cases e : j - ms.length with
    | zero => exact ⟨h0, h1⟩
    | succ n => exact ⟨Int.le_refl _, show (0 : Int) < p by omega⟩
/-- a new list of rests, drawn -/
def NewL (H : Hp) (d : Addr) (p : Int) (n : Nat) (Q : VK) : Prop := ∀ (ms : List Int) (a : Addr) (H' : Hp), ms.length = n → Rs p ms → Draw H' d → But d H H' → H' a = some (.lst (ms.map V.int)) → a ≠ d → H a = none → Q (.ref a) H'
def spRestsD : Sp := fun vs H Q _ => ∃ (d : Addr) (n : Nat) (p : Int), vs = [.ref d, .int n, .int p] ∧ Draw H d ∧ n ≤ 100 ∧ Pm p ∧ NewL H d p n Q
def spPolyD (K : PySem.W.Frag) : Sp := fun vs H Q _ => ∃ (d : Addr) (n : Nat) (p : Int), vs = [.ref d, .int n, .int p] ∧ Draw H d ∧ n ≤ 25 ∧ Pm p ∧ ∀ (ms : List Int) (a : Addr) (H' : Hp), Draw H' d → But d H H' → Pol K H' a p ms → ms.length ≤ n → a ≠ d → H a = none → H' a = some (.tup (ms.map V.int)) → Q (.ref a) H'
theorem natAbs_small {p : Int} (h : Pm p) : p.natAbs < 2 ^ 200 := big (by have := h.lo; have := h.hi; omega)
section
variable {P : Program} {w : World} {K : PySem.W.Frag} {mg : Str → Option Value} {base : Heap}
theorem sc_law_rests : FnScope (["_law_draw", "_law_many", "_law_p", "_law_k"] : List Str) ["_law_draw", "_law_many", "_law_p"] (defScope s_law_rests) := ⟨rfl, rfl, rfl, by decide +kernel, rfl, by decide +kernel, by decide +kernel⟩
theorem ok_law_rests {f : Addr} {fd : FuncData} (F : FunD K "_law_rests" "_law_rests" (defArgs s_law_rests) (defBody s_law_rests) (defScope s_law_rests) [] [] f fd) (T : Fre mg) (o_law_take : Own P w K mg base CX0 1 "_law_take" ["_law_draw", "_law_sides"] [] spTake) : FnOk P w K mg base CX0 2 f fd ["_law_draw", "_law_many", "_law_p"] spRestsD := by
  refine F.ok sc_law_rests (fun vs H Q E h => ?_) (fun cdv A outer s H vs Q E hr h => ?_)
  · obtain ⟨d, n, p, rfl, _⟩ := h
    rfl
  · obtain ⟨d, n, p, rfl, Dr, hn, hp, k⟩ := h
    refine ⟨_, PSs.nox (pss_one (ps_ret (pe_lc (own := [("_law_k", 3)]) rfl sc_law_rests.nd (pi_range1 (by rfl) T.f_range (pa_cons (pv 1) pa_nil)) (blkOk_by (own := [("_law_k", 3)]) (N := ["_law_draw", "_law_many", "_law_p", "_law_k"]) (sc := defScope s_law_rests) (by decide +kernel)) (fun _ _ _ _ _ => pg_name (i := 3) sc_law_rests.nd rfl (Or.inl rfl) (Or.inr rfl)) (fun _ _ _ _ _ => pts_nil) (fun _ _ _ _ _ => (pe_own o_law_take (hr.mono (by decide)) rfl pass0 (pa_cons (pv 0) (pa_cons (pv 2) pa_nil))))))) , ?_⟩
    refine ⟨_, rfl, (n : Int), rfl, by omega, by omega, fun D hD => ?_⟩
    rw [Int.toNat_natCast]
    have hDd : D ≠ d := Dr.ne hD
    refine lc_range (lo := 0) (n := n) (fun i H1 => ∃ ms : List Int, H1 D = some (.lst (ms.map V.int)) ∧ ms.length = i ∧ Rs p ms ∧ Draw H1 d ∧ But d H H1) ⟨[], upd_same, rfl, Rs.nil p hp.pos, Dr.same (same_upd hD), But.updN hD⟩ ?_ ?_
    · rintro i H1 hi ⟨ms, e1, l1, r1, D1, B1⟩
      have lo := hp.lo
      refine ⟨rfl, _, rfl, _, rfl, d, p, rfl, D1, by omega, natAbs_small hp, fun m H2 m0 m1 D2 B2 => ⟨_, B2 _ _ hDd e1, ?_, ms ++ [m], ?_, ?_, r1.add m0 m1, ?_, But.lcs hD (B1.trans B2)⟩⟩
      · rw [List.length_map]
        exact small1000 (by omega)
      · rw [upd_same, List.map_append]
        rfl
      · rw [List.length_append, l1]
        rfl
      · have z := D2.updL (p := D) (ms := ms ++ [m]) hDd
        rw [List.map_append] at z
        exact z
    · rintro H1 ⟨ms, e1, l1, r1, D1, B1⟩
      exact k ms D H1 (by omega) r1 D1 B1 e1 hDd hD
theorem sc_law_poly : FnScope (["_law_draw", "_law_most", "_law_p", "_law_found", "_law_number"] : List Str) ["_law_draw", "_law_most", "_law_p"] (defScope s_law_poly) := ⟨rfl, rfl, rfl, by decide +kernel, rfl, by decide +kernel, by decide +kernel⟩
theorem ok_law_poly {f : Addr} {fd : FuncData} (F : FunD K "_law_poly" "_law_poly" (defArgs s_law_poly) (defBody s_law_poly) (defScope s_law_poly) [] [] f fd) (T : Fre mg) (o_law_take : Own P w K mg base CX0 1 "_law_take" ["_law_draw", "_law_sides"] [] spTake) (o_law_rests : Own P w K mg base CX0 2 "_law_rests" ["_law_draw", "_law_many", "_law_p"] [] spRestsD) (o_law_trim : Own P w K mg base CX0 1 "_law_trim" ["_law_numbers"] [] (spTrim K)) : FnOk P w K mg base CX0 3 f fd ["_law_draw", "_law_most", "_law_p"] (spPolyD K) := by
  refine F.ok sc_law_poly (fun vs H Q E h => ?_) (fun cdv A outer s H vs Q E hr h => ?_)
  · obtain ⟨d, n, p, rfl, _⟩ := h
    rfl
  · obtain ⟨d, n, p, rfl, Dr, hn, hp, k⟩ := h
    have lo := hp.lo
    have hi := hp.hi
    refine ⟨_, PSs.nox (pss_cons (ps_set (i := 3) sc_law_poly.nd rfl (Or.inl rfl) (pe_own o_law_rests (hr.mono (by decide)) rfl pass0 (pa_cons (pv 0) (pa_cons (pe_own o_law_take (hr.mono (by decide)) rfl pass0 (pa_cons (pv 0) (pa_cons (pe_op op_add (pv 1) pe_int) pa_nil))) (pa_cons (pv 2) pa_nil)))))
      (C8.pss_cut (ps_if (pt_cmpR op_eq (pe_own o_law_take (hr.mono (by decide)) rfl pass0 (pa_cons (pv 0) (pa_cons pe_int pa_nil))) pe_int (nomark _)) (pss_one (ps_setLc (i := 3) (own := [("_law_number", 4)]) rfl sc_law_poly.nd rfl rfl (sw_true rfl rfl rfl (by decide +kernel)) (pi_list (pv 3)) (blkOk_by (own := [("_law_number", 4)]) (N := ["_law_draw", "_law_most", "_law_p", "_law_found", "_law_number"]) (sc := defScope s_law_poly) (by decide +kernel)) (fun _ _ _ _ _ => pg_name (i := 4) sc_law_poly.nd rfl (Or.inl rfl) (Or.inr rfl)) (fun _ _ _ _ _ => pts_nil) (fun _ _ _ _ _ => (pe_op op_mul (pv 4) (pe_callTy call_int1 (by rfl) T.f_int (by decide +kernel) (pa_cons (pe_cmpR op_eq (pe_own o_law_take (hr.mono (by decide)) rfl pass0 (pa_cons (pv 0) (pa_cons pe_int pa_nil))) pe_int (nomark _)) pa_nil)))))) pss_nil)
      (pss_one (ps_ret (pe_own o_law_trim (hr.mono (by decide)) rfl pass0 (pa_cons (pv 3) pa_nil)))))) , ?_⟩
    refine ⟨_, rfl, _, rfl, _, rfl, _, _, rfl, rfl, d, (n : Int) + 1, rfl, Dr, by omega, big (by omega), fun m H1 m0 m1 D1 B1 => ?_⟩
    obtain ⟨j, rfl⟩ := Int.eq_ofNat_of_zero_le m0
    refine ⟨_, rfl, d, j, p, rfl, D1, by omega, hp, fun ms b H2 lm rm D2 B2 e2 hbd nb => ?_⟩
    refine ⟨fun σ' H' => ∃ (ms : List Int) (b : Addr), σ' = [some (.ref d), some (.int n), some (.int p), some (.ref b), none] ∧ ms.length ≤ n ∧ Rs p ms ∧ Draw H' d ∧ But d H H' ∧ H' b = some (.lst (ms.map V.int)) ∧ b ≠ d ∧ H b = none, ?_, ?_⟩
    · refine ⟨_, rfl, d, 4, rfl, D2, by decide, by decide, fun m2 H3 _ _ D3 B3 => ?_⟩
      have e3 := B3 _ _ hbd e2
      have nb0 : H b = none := B1.free nb hbd
      refine ⟨rfl, _, rfl, ite2 (fun hc => ?_) (fun hc => ?_)⟩
      · refine ⟨_, rfl, b, rfl, ⟨_, SqL.of e3⟩, fun D hD => ?_⟩
        have hDd : D ≠ d := D3.ne hD
        have B0 : But d H H3 := (B1.trans B2).trans B3
        refine lc_it (walk_list (xs := ms.map V.int)) (fun i H4 => ∃ ws : List Int, H4 D = some (.lst (ws.map V.int)) ∧ ws.length = i ∧ Rs p ws ∧ Draw H4 d ∧ But d H3 H4) ⟨[], upd_same, rfl, Rs.nil p hp.pos, D3.same (same_upd hD), But.updN hD⟩ (fun i H4 _ ⟨_, _, _, _, _, B4⟩ => SqL.of (B4 _ _ hbd e3)) ?_ ?_
        · rintro i x H4 H5 hi2 ⟨ws, e4, l4, r4, D4, B4⟩ ⟨rfl, hx⟩
          rw [List.length_map] at hi2
          have e5 := (map_at ms i hi2).symm.trans hx
          cases e5
          obtain ⟨x0, x1⟩ := rm i
          refine ⟨rfl, _, rfl, _, rfl, d, 3, rfl, D4, by decide, by decide, fun m3 H6 _ _ D6 B6 => ⟨rfl, .inr ⟨_, rfl, _, _, rfl, rfl, ?_, _, B6 _ _ hDd e4, ?_, ws ++ [ms.getD i 0 * (if decide (V.int m3 = V.int 0) = true then 1 else 0)], ?_, ?_, r4.add ?_ ?_, ?_, But.lcs hD (B4.trans B6)⟩⟩⟩
          · exact .inl ⟨by omega, by omega⟩
          · rw [List.length_map]
            exact small1000 (by omega)
          · rw [upd_same, List.map_append]
            rfl
          · rw [List.length_append, l4]
            rfl
          · split <;> omega
          · split <;> omega
          · have z := D6.updL (p := D) (ms := ws ++ [ms.getD i 0 * (if decide (V.int m3 = V.int 0) = true then 1 else 0)]) hDd
            rw [List.map_append] at z
            exact z
        · rintro H4 ⟨ws, e4, l4, r4, D4, B4⟩
          rw [List.length_map] at l4
          exact ⟨ws, D, rfl, by omega, r4, D4, B0.trans B4, e4, hDd, B0.free hD hDd⟩
      · exact ⟨ms, b, rfl, by omega, rm, D3, (B1.trans B2).trans B3, e3, hbd, nb0⟩
    · rintro σ' H3 ⟨ms, b, rfl, lm, rm, D3, B3, e3, hbd, nb⟩
      refine ⟨_, rfl, b, ms, rfl, SqL.of e3, by omega, fun t H4 s4 ht e4 => ?_⟩
      exact k (trim ms) t H4 (D3.same s4) (B3.trans (But.same s4)) ⟨.inl (.inl e4), Nat.le_trans (Nat.le_trans (trim_length _) lm) hn, fun j => by rw [trim_getD]; exact rm j, trim_trim _⟩ (Nat.le_trans (trim_length _) lm) (D3.ne ht) (B3.free ht (D3.ne ht)) e4
end
end Xk
end
section
set_option Elab.async false
set_option linter.all false
set_option maxRecDepth 100000
set_option maxHeartbeats 4000000
namespace Xk
open PySem PySem.Spec PyProof.Rows L2 Xh LamX NdefX
def spBlend (K : PySem.W.Frag) : Sp := fun vs H Q _ => ∃ (a b : Addr) (xs ys : List Int) (w p : Int), vs = [.ref a, .ref b, .int w, .int p] ∧ SqT K H a (xs.map V.int) ∧ SqT K H b (ys.map V.int) ∧ xs.length ≤ 100 ∧ ys.length ≤ 100 ∧ 0 ≤ w ∧ w ≤ 1000 ∧ Pm p ∧
  NewP H (fun j => (xs.getD j 0 + w * ys.getD j 0).fmod p) (max xs.length ys.length) Q
def pad (n : Nat) (xs : List Int) : List Int := xs ++ List.replicate (n - xs.length) 0
theorem pad_len {n : Nat} {xs : List Int} (h : xs.length ≤ n) : (pad n xs).length = n := by
  unfold pad
  rw [List.length_append, List.length_replicate]
  omega
theorem pad_getD (n : Nat) (xs : List Int) (j : Nat) : (pad n xs).getD j 0 = xs.getD j 0 := by
  unfold pad
  rw [List.getD_eq_getElem?_getD, List.getElem?_append]
  split
  · rw [List.getD_eq_getElem?_getD]
  · rename_i h
    rw [getD_over (by omega), ← List.getD_eq_getElem?_getD, getD_rep]
theorem getD_app (a : List Int) (x : Int) (j : Nat) : (a ++ [x]).getD j 0 = if j < a.length then a.getD j 0 else if j = a.length then x else 0 := by
  rw [List.getD_eq_getElem?_getD, List.getElem?_append]
  split
  · rw [List.getD_eq_getElem?_getD]
  · rename_i h
    by_cases e : j = a.length
    · rw [if_pos e, e, Nat.sub_self]
      rfl
    · rw [if_neg e]
      cases e2 : j - a.length with
      | zero => omega
      | succ n => rfl
section
variable {P : Program} {w : World} {K : PySem.W.Frag} {mg : Str → Option Value} {base : Heap}

end
end Xk
end
section
set_option Elab.async false
set_option linter.all false
set_option maxRecDepth 100000
set_option maxHeartbeats 4000000
namespace Xk
open PySem PySem.Spec PyProof.Rows L2 Xh LamX NdefX
def bks (N P i : Nat) : List Nat := (List.range i).filter fun j => (j + 1) * N % P == 1
def bk (N P : Nat) : Nat := (bks N P (P - 1)).headD 0 + 1
def spBack : Sp := fun vs H Q _ => ∃ N P : Nat, vs = [.int N, .int P] ∧ 2 ≤ P ∧ P ≤ 1000 ∧ bks N P (P - 1) ≠ [] ∧ ∀ H', Same H H' → Q (.int (bk N P)) H'
theorem undo_facts : ∀ M ∈ primes, ∀ N < M.toNat, N ≠ 0 → bks N M.toNat (M.toNat - 1) ≠ [] ∧ bk N M.toNat < M.toNat ∧ bk N M.toNat * N % M.toNat = 1 ∧ N ^ (M.toNat - 1) % M.toNat = 1 ∧ rpow N (-1) M.toNat = bk N M.toNat := by decide +kernel
section
variable {P : Program} {w : World} {K : PySem.W.Frag} {mg : Str → Option Value} {base : Heap}

end
end Xk
end
section
set_option Elab.async false
set_option linter.all false
set_option maxRecDepth 100000
set_option maxHeartbeats 4000000
/-! texts of polynomials, as lists of signs: written, read back -/
namespace Xp
open PySem
/-- a term: r times x to the a -/
def termL (r a : Nat) : List Nat := if a = 0 then TL.numL r else (if r = 1 then [] else TL.numL r) ++ 120 :: (if a = 1 then [] else 94 :: TL.numL a)
/-- the places that aren't nought, with what stands there -/
def pairsF : Nat → List Int → List (Nat × Int)
  | _, [] => []
  | k, r :: F => if r = 0 then pairsF (k + 1) F else (k, r) :: pairsF (k + 1) F
/-- the words of a polynomial -/
def wordsL (F : List Int) : List (List Nat) := (pairsF 0 F).map fun q => termL q.2.toNat q.1
def sepL : List Nat := [32, 43, 32]
def textL (F : List Int) : List Nat := if pairsF 0 F = [] then [48] else TL.joinL sepL (wordsL F)
theorem termL_free {r a s : Nat} (h1 : s < 48 ∨ 57 < s) (h2 : s ≠ 120) (h3 : s ≠ 94) : s ∉ termL r a := by
  unfold termL
  have f1 := TL.numL_free (n := r) h1
  have f2 := TL.numL_free (n := a) h1
  by_cases ha : a = 0
  · rw [if_pos ha]
    exact f1
  · rw [if_neg ha]
    intro h
    rcases List.mem_append.mp h with h | h
    · by_cases hr : r = 1
      · rw [if_pos hr] at h
        cases h
      · rw [if_neg hr] at h
        exact f1 h
    · rcases List.mem_cons.mp h with h | h
      · exact h2 h
      · by_cases h1 : a = 1
        · rw [if_pos h1] at h
          cases h
        · rw [if_neg h1] at h
          rcases List.mem_cons.mp h with h | h
          · exact h3 h
          · exact f2 h
theorem spl_text {F : List Int} (h : pairsF 0 F ≠ []) : TL.spl sepL 0 [] (textL F) = wordsL F := by
  unfold textL
  rw [if_neg h]
  refine TL.spl_join (fun e => h (List.map_eq_nil_iff.mp e)) fun p hp => ?_
  obtain ⟨q, _, rfl⟩ := List.mem_map.mp hp
  exact termL_free (by omega) (by decide) (by decide)
/-- the figures of a word, at most two -/
def figL (w : List Nat) : Option Nat := if w.length ≤ 2 ∧ w ≠ [] ∧ w.all (fun c => 48 ≤ c && c ≤ 57) then some (NumText.digitsVal w) else none
theorem all_digits {w : List Nat} : w.all (fun c => 48 ≤ c && c ≤ 57) = true ↔ NumText.AllDigits w := by
  rw [List.all_eq_true]
  exact ⟨fun h c hc => by simpa using h c hc, fun h c hc => by simpa using h c hc⟩
theorem fig_num {n : Nat} (h : n < 100) : figL (TL.numL n) = some n := by
  unfold figL
  rw [if_pos ⟨TL.numL_len (k := 2) (by decide) (by omega), TL.numL_ne n, all_digits.mpr (TL.numL_digits n)⟩, TL.numL_val]
/-- without ^ at its head -/
def capL (w : List Nat) : List Nat := match w with
  | 94 :: r => r
  | w => w
/-- what a word is read as: how often, to which power -/
def readL (w : List Nat) : Option Nat × Option Nat := match TL.par [120] [] w with
  | none => (figL w, some 0)
  | some (a, b) => (if a = [] then some 1 else figL a, if b = [] then some 1 else figL (capL b))
theorem read_term {r a : Nat} (h1 : 1 ≤ r) (hr : r < 100) (ha : a < 100) : readL (termL r a) = (some r, some a) := by
  unfold termL
  by_cases a0 : a = 0
  · rw [if_pos a0, a0]
    unfold readL
    rw [TL.par_none1 (TL.numL_free (by omega))]
    show (figL (TL.numL r), some 0) = _
    rw [fig_num hr]
  · rw [if_neg a0]
    unfold readL
    have hx : (120 : Nat) ∉ (if r = 1 then [] else TL.numL r) := by
      by_cases e : r = 1
      · rw [if_pos e]
        exact fun h => nomatch h
      · rw [if_neg e]
        exact TL.numL_free (by omega)
    have pp := TL.par_part1 (acc := []) (S := []) (rest := if a = 1 then [] else 94 :: TL.numL a) hx
    rw [show (if r = 1 then [] else TL.numL r) ++ 120 :: (if a = 1 then [] else 94 :: TL.numL a) = (if r = 1 then [] else TL.numL r) ++ ([120] ++ (if a = 1 then [] else 94 :: TL.numL a)) from rfl, pp, List.nil_append]
    show (if (if r = 1 then [] else TL.numL r) = [] then some 1 else figL (if r = 1 then [] else TL.numL r), if (if a = 1 then [] else 94 :: TL.numL a) = [] then some 1 else figL (capL (if a = 1 then [] else 94 :: TL.numL a))) = _
    have e1 : (if (if r = 1 then [] else TL.numL r) = [] then some 1 else figL (if r = 1 then [] else TL.numL r)) = some r := by
      by_cases e : r = 1
      · rw [if_pos e, if_pos rfl, e]
      · rw [if_neg e, if_neg (TL.numL_ne r), fig_num hr]
    have e2 : (if (if a = 1 then [] else 94 :: TL.numL a) = [] then some 1 else figL (capL (if a = 1 then [] else 94 :: TL.numL a))) = some a := by
      by_cases e : a = 1
      · rw [if_pos e, if_pos rfl, e]
      · rw [if_neg e, if_neg (by simp)]
        exact fig_num ha
    rw [e1, e2]
theorem term_inj {r a r' a' : Nat} (h1 : 1 ≤ r) (hr : r < 100) (ha : a < 100) (h1' : 1 ≤ r') (hr' : r' < 100) (ha' : a' < 100) (h : termL r a = termL r' a') : r = r' ∧ a = a' := by
  have e := read_term h1 hr ha
  rw [h, read_term h1' hr' ha'] at e
  injection e with e1 e2
  exact ⟨(Option.some.inj e1).symm, (Option.some.inj e2).symm⟩
/-- places set one after another -/
def setA (ps : List (Nat × Int)) (L : List Int) : List Int := ps.foldl (fun L q => L.set q.1 q.2) L
theorem setA_pairs : ∀ (F P : List Int) (m : Nat), F.length ≤ m → setA (pairsF P.length F) (P ++ List.replicate m 0) = P ++ F ++ List.replicate (m - F.length) 0
  | [], P, m, _ => by simp [setA, pairsF]
  | r :: F, P, m, h => by
    obtain ⟨m, rfl⟩ : ∃ m', m = m' + 1 := ⟨m - 1, by rw [List.length_cons] at h; omega⟩
    rw [List.length_cons] at h ⊢
    have ih := setA_pairs F (P ++ [r]) m (by omega)
    rw [List.length_append, List.length_singleton] at ih
    have e : m + 1 - (F.length + 1) = m - F.length := by omega
    rw [e, show P ++ r :: F = P ++ [r] ++ F by simp, ← ih]
    by_cases hr : r = 0
    · rw [show pairsF P.length (r :: F) = pairsF (P.length + 1) F from if_pos hr, hr]
      congr 1
      rw [List.replicate_succ]
      simp
    · rw [show pairsF P.length (r :: F) = (P.length, r) :: pairsF (P.length + 1) F from if_neg hr]
      show setA (pairsF (P.length + 1) F) ((P ++ List.replicate (m + 1) 0).set P.length r) = _
      congr 1
      rw [List.set_append_right _ _ (Nat.le_refl _), Nat.sub_self, List.replicate_succ]
      simp
theorem setA_all {F : List Int} {m : Nat} (h : F.length ≤ m) : setA (pairsF 0 F) (List.replicate m 0) = F ++ List.replicate (m - F.length) 0 := by
  have := setA_pairs F [] m h
  simpa using this
theorem pairs_mem : ∀ (F : List Int) (k : Nat) (q : Nat × Int), q ∈ pairsF k F → k ≤ q.1 ∧ q.1 < k + F.length ∧ q.2 ≠ 0 ∧ F[q.1 - k]? = some q.2
  | [], _, _, h => nomatch h
  | r :: F, k, q, h => by
    have step : ∀ q, q ∈ pairsF (k + 1) F → k ≤ q.1 ∧ q.1 < k + (r :: F).length ∧ q.2 ≠ 0 ∧ (r :: F)[q.1 - k]? = some q.2 := fun q h => by
      obtain ⟨h1, h2, h3, h4⟩ := pairs_mem F (k + 1) q h
      refine ⟨by omega, by rw [List.length_cons]; omega, h3, ?_⟩
      rw [show q.1 - k = (q.1 - (k + 1)) + 1 by omega, List.getElem?_cons_succ]
      exact h4
    by_cases hr : r = 0
    · rw [show pairsF k (r :: F) = pairsF (k + 1) F from if_pos hr] at h
      exact step q h
    · rw [show pairsF k (r :: F) = (k, r) :: pairsF (k + 1) F from if_neg hr] at h
      rcases List.mem_cons.mp h with rfl | h
      · exact ⟨Nat.le_refl _, by rw [List.length_cons]; omega, hr, by rw [Nat.sub_self]; rfl⟩
      · exact step q h
theorem pairsF_snoc (r : Int) : ∀ (F : List Int) (k : Nat), pairsF k (F ++ [r]) = pairsF k F ++ (if r = 0 then [] else [(k + F.length, r)])
  | [], k => by
    show (if r = 0 then pairsF (k + 1) [] else (k, r) :: pairsF (k + 1) []) = _
    by_cases h : r = 0
    · rw [if_pos h, if_pos h]
      rfl
    · rw [if_neg h, if_neg h]
      rfl
  | a :: F, k => by
    have ih := pairsF_snoc r F (k + 1)
    have e : k + 1 + F.length = k + (a :: F).length := by rw [List.length_cons]; omega
    rw [e] at ih
    show (if a = 0 then pairsF (k + 1) (F ++ [r]) else (k, a) :: pairsF (k + 1) (F ++ [r])) = (if a = 0 then pairsF (k + 1) F else (k, a) :: pairsF (k + 1) F) ++ _
    by_cases h : a = 0
    · rw [if_pos h, if_pos h, ih]
    · rw [if_neg h, if_neg h, ih, List.cons_append]
theorem pairsF_nil : ∀ (F : List Int) (k : Nat), pairsF k F = [] → ∀ r ∈ F, r = 0
  | [], _, _, _, hr => nomatch hr
  | a :: F, k, h, r, hr => by
    by_cases ha : a = 0
    · rw [show pairsF k (a :: F) = pairsF (k + 1) F from if_pos ha] at h
      rcases List.mem_cons.mp hr with rfl | hr
      · exact ha
      · exact pairsF_nil F (k + 1) h r hr
    · rw [show pairsF k (a :: F) = (k, a) :: pairsF (k + 1) F from if_neg ha] at h
      cases h
theorem pairsF_len : ∀ (F : List Int) (k : Nat), (pairsF k F).length ≤ F.length
  | [], _ => Nat.le_refl _
  | a :: F, k => by
    have := pairsF_len F (k + 1)
    by_cases ha : a = 0
    · rw [show pairsF k (a :: F) = pairsF (k + 1) F from if_pos ha, List.length_cons]
      omega
    · rw [show pairsF k (a :: F) = (k, a) :: pairsF (k + 1) F from if_neg ha, List.length_cons, List.length_cons]
      omega
end Xp
end
section
set_option Elab.async false
set_option linter.all false
set_option maxRecDepth 100000
set_option maxHeartbeats 4000000
namespace Xk
open PySem PySem.Spec PyProof.Rows L2 Xh LamX NdefX
/-! ### terms and texts -/
theorem log_small {n : Nat} (h : n < 1000) : ((n : Nat) : Int).natAbs.log2 < 1920 := by
  rw [Int.natAbs_natCast]
  by_cases e : n = 0
  · rw [e]
    decide
  · exact (Nat.log2_lt e).mpr (Nat.lt_of_lt_of_le h (by decide))
theorem num_len {n : Nat} (h : n < 1000) : (TL.numL n).length ≤ 3 := TL.numL_len (by decide) (by omega)
theorem term_len {r a : Nat} (h : r < 1000) (h' : a < 1000) : (Xp.termL r a).length ≤ 8 := by
  unfold Xp.termL
  have h1 := num_len h
  have h2 := num_len h'
  by_cases ha : a = 0
  · rw [if_pos ha]
    omega
  · rw [if_neg ha, List.length_append, List.length_cons]
    have e1 : (if r = 1 then [] else TL.numL r).length ≤ 3 := by
      by_cases e : r = 1
      · rw [if_pos e]; exact Nat.zero_le _
      · rw [if_neg e]; exact h1
    have e2 : (if a = 1 then [] else 94 :: TL.numL a).length ≤ 4 := by
      by_cases e : a = 1
      · rw [if_pos e]; exact Nat.zero_le _
      · rw [if_neg e, List.length_cons]; omega
    omega
theorem int_eqN {a : Nat} {c : Nat} : decide (V.int (a : Int) = V.int (c : Int)) = decide (a = c) := by
  by_cases h : a = c
  · rw [decide_eq_true h, decide_eq_true (by rw [h])]
  · rw [decide_eq_false h, decide_eq_false (fun z => h (by
      have := V.int.inj z
      omega))]
theorem line8 {n : Nat} (h : n ≤ 10000) : n ≤ sizeLine := Nat.le_trans h (by decide)
section
variable {P : Program} {w : World} {K : PySem.W.Frag} {mg : Str → Option Value} {base : Heap}
open TL
def spWTerm : Sp := fun vs H Q _ => ∃ r a : Nat, vs = [.int r, .int a] ∧ r < 1000 ∧ a < 1000 ∧ ∀ y : Str, tl y = Xp.termL r a → Q (.str y) H
theorem sc_written_term : FnScope (["rest", "power", "ahead", "behind"] : List Str) ["rest", "power"] (defScope s_written_term) := ⟨rfl, rfl, rfl, by decide +kernel, rfl, by decide +kernel, by decide +kernel⟩
theorem ok_written_term {f : Addr} {fd : FuncData} (F : FunD K "written_term" "written_term" (defArgs s_written_term) (defBody s_written_term) (defScope s_written_term) [] [] f fd) (T : Fre mg) : FnOk P w K mg base CX0 1 f fd ["rest", "power"] spWTerm := by
  refine F.ok sc_written_term (fun vs H Q E h => ?_) (fun cdv A outer s H vs Q E hr h => ?_)
  · obtain ⟨r, a, rfl, _⟩ := h
    rfl
  · obtain ⟨r, a, rfl, hr1, ha1, k⟩ := h
    refine ⟨_, PSs.nox (pss_cons (ps_if (pt_cmpR op_eq (pv 1) pe_int (nomark _)) (pss_one (ps_ret (pe_callTy call_str_int (by rfl) T.f_str (by decide +kernel) (pa_cons (pv 0) pa_nil)))) pss_nil)
      (C8.pss_cut (ps_set (i := 2) sc_written_term.nd rfl (Or.inl rfl) (pe_ifExp (pt_cmpR op_eq (pv 0) pe_int (nomark _)) pe_str (pe_callTy call_str_int (by rfl) T.f_str (by decide +kernel) (pa_cons (pv 0) pa_nil))))
      (C8.pss_cut (ps_set (i := 3) sc_written_term.nd rfl (Or.inl rfl) (pe_ifExp (pt_cmpR op_eq (pv 1) pe_int (nomark _)) pe_str (pe_joined (.cons pe_str (.cons (pe_fmt (pv 1)) .nil)))))
      (pss_one (ps_ret (pe_joined (.cons (pe_fmt (pv 2)) (.cons pe_str (.cons (pe_fmt (pv 3)) .nil))))))))) , ?_⟩
    refine ⟨_, rfl, rfl, _, rfl, ?_⟩
    rw [show (0 : Int) = ((0 : Nat) : Int) from rfl, int_eqN]
    by_cases a0 : a = 0
    · rw [decide_eq_true a0]
      refine iteT ⟨_, rfl, _, rfl, log_small hr1, k _ ?_⟩
      rw [TL.tl_num]
      unfold Xp.termL
      rw [if_pos a0]
    · rw [decide_eq_false a0]
      refine iteF ?_
      refine ⟨fun σ' H' => ∃ y : Str, σ' = [some (.int r), some (.int a), some (.str y), none] ∧ TL.tl y = (if r = 1 then [] else TL.numL r) ∧ H' = H, ?_, ?_⟩
      · refine ⟨_, rfl, rfl, _, rfl, ?_⟩
        rw [show (1 : Int) = ((1 : Nat) : Int) from rfl, int_eqN]
        by_cases r1 : r = 1
        · rw [decide_eq_true r1, if_pos r1]
          exact iteT ⟨_, rfl, rfl, rfl⟩
        · rw [decide_eq_false r1, if_neg r1]
          exact iteF ⟨_, rfl, _, rfl, log_small hr1, _, rfl, TL.tl_num r, rfl⟩
      rintro σ' H' ⟨y, rfl, ey, rfl⟩
      refine ⟨fun σ' H2 => ∃ z : Str, σ' = [some (.int r), some (.int a), some (.str y), some (.str z)] ∧ TL.tl z = (if a = 1 then [] else 94 :: TL.numL a) ∧ H2 = H', ?_, ?_⟩
      · refine ⟨_, rfl, rfl, _, rfl, ?_⟩
        rw [show (1 : Int) = ((1 : Nat) : Int) from rfl, int_eqN]
        by_cases a1 : a = 1
        · rw [decide_eq_true a1, if_pos a1]
          exact iteT ⟨_, rfl, rfl, rfl⟩
        · rw [decide_eq_false a1, if_neg a1]
          refine iteF ⟨_, rfl, by decide, _, rfl, .inr ⟨_, rfl, log_small ha1, _, rfl, ?_, _, rfl, ?_, rfl⟩⟩
          · rw [TL.len_tl, TL.tl_append, TL.tl_num, List.length_append]
            have := num_len ha1
            exact line8 (by show 1 + _ ≤ 10000; omega)
          · rw [TL.tl_append, TL.tl_num]
            rfl
      rintro σ' H2 ⟨z, rfl, ez, rfl⟩
      have ly : (TL.tl y).length ≤ 3 := by
        rw [ey]
        by_cases e : r = 1
        · rw [if_pos e]; exact Nat.zero_le _
        · rw [if_neg e]; exact num_len hr1
      have lz : (TL.tl z).length ≤ 4 := by
        rw [ez]
        by_cases e : a = 1
        · rw [if_pos e]; exact Nat.zero_le _
        · rw [if_neg e, List.length_cons]; have := num_len ha1; omega
      refine ⟨_, rfl, .inl ⟨y, rfl, line8 (by rw [TL.len_tl]; omega), y, rfl, ?_, _, rfl, ?_, _, rfl, .inl ⟨z, rfl, line8 (by rw [TL.len_tl]; omega), z, rfl, ?_, k _ ?_⟩⟩⟩
      · rw [TL.len_tl, TL.tl_append, List.length_append]
        exact line8 (by show 0 + _ ≤ 10000; omega)
      · rw [TL.len_tl, TL.tl_append, TL.tl_append, List.length_append, List.length_append]
        exact line8 (by show 0 + _ + 1 ≤ 10000; omega)
      · rw [TL.len_tl, TL.tl_append, TL.tl_append, TL.tl_append, List.length_append, List.length_append, List.length_append]
        exact line8 (by show 0 + _ + 1 + _ ≤ 10000; omega)
      · rw [TL.tl_append, TL.tl_append, TL.tl_append, ey, ez]
        unfold Xp.termL
        rw [if_neg a0]
        show ([] ++ _ ++ [120]) ++ _ = _
        rw [List.nil_append, List.append_assoc]
        rfl
end
end Xk
end
section
set_option Elab.async false
set_option linter.all false
set_option maxRecDepth 100000
set_option maxHeartbeats 4000000
namespace Xk
open PySem PySem.Spec PyProof.Rows L2 Xh LamX NdefX
/-! ### a polynomial written -/
theorem sh_ints (ns : List Int) : SeqAt.shaped (PyData.tuple (ns.map PyData.int)) = true := by
  simp [SeqAt.shaped, PyData.canLay0, PyData.depth, PySem.W.ke_canLayAll0, PySem.W.ke_depthAll]
theorem eqvAll_dec : ∀ a b : List Int, PyData.eqvAll (a.map PyData.int) (b.map PyData.int) = decide (a = b)
  | [], [] => rfl
  | [], b :: bs => rfl
  | a :: as, [] => rfl
  | a :: as, b :: bs => by
    have ih := eqvAll_dec as bs
    by_cases h : a = b
    · simp [PyData.eqvAll, PyData.eqv, ih, h]
    · simp [PyData.eqvAll, PyData.eqv, ih, h]
theorem eqv_dec (a b : List Int) : PyData.eqv (.tuple (a.map PyData.int)) (.tuple (b.map PyData.int)) = decide (a = b) := by
  have z := eqvAll_dec a b
  simp [PyData.eqv, z]
theorem tr_pairs {F : List Int} (h : trim F = F) (ne : F ≠ []) : Xp.pairsF 0 F ≠ [] := fun z => by
  have a := Xp.pairsF_nil F 0 z
  have t : trim F = [] := trim_nil fun i => by
    rw [List.getD_eq_getElem?_getD]
    cases e : F[i]? with
    | none => rfl
    | some r => exact a r (List.mem_of_getElem? e)
  exact ne (h.symm.trans t)
theorem sum_len : ∀ (ys : List Str) (m : Nat), (∀ y ∈ ys, y.length ≤ m) → (ys.map (·.length)).sum ≤ m * ys.length
  | [], _, _ => Nat.zero_le _
  | y :: ys, m, h => by
    have ih := sum_len ys m fun z hz => h z (List.mem_cons_of_mem _ hz)
    have h1 := h y List.mem_cons_self
    rw [List.map_cons, List.sum_cons, List.length_cons, Nat.mul_succ]
    omega
theorem words_len {F : List Int} (hb : ∀ r ∈ F, 0 ≤ r ∧ r < 1000) (l : F.length ≤ 25) : ∀ p ∈ Xp.wordsL F, p.length ≤ 8 := fun p hp => by
  obtain ⟨q, hq, rfl⟩ := List.mem_map.mp hp
  obtain ⟨h1, h2, h3, h4⟩ := Xp.pairs_mem F 0 q hq
  have := hb q.2 (List.mem_of_getElem? h4)
  exact term_len (by omega) (by omega)
def spWrt (K : PySem.W.Frag) : Sp := fun vs H Q _ => ∃ (a : Addr) (F : List Int), vs = [.ref a] ∧ SqT K H a (F.map V.int) ∧ F.length ≤ 25 ∧ (∀ r ∈ F, 0 ≤ r ∧ r < 1000) ∧ trim F = F ∧ ∀ (y : Str) (H' : Hp), Same H H' → TL.tl y = Xp.textL F → Q (.str y) H'
section
variable {P : Program} {w : World} {K : PySem.W.Frag} {mg : Str → Option Value} {base : Heap}
theorem sc_written : FnScope (["poly", "power", "rest"] : List Str) ["poly"] (defScope s_written) := ⟨rfl, rfl, rfl, by decide +kernel, rfl, by decide +kernel, by decide +kernel⟩
theorem ok_written {f : Addr} {fd : FuncData} (F : FunD K "written" "written" (defArgs s_written) (defBody s_written) (defScope s_written) [] [] f fd) (T : Fre mg) (o_written_term : Own P w K mg base CX0 1 "written_term" ["rest", "power"] [] spWTerm) : FnOk P w K mg base CX0 2 f fd ["poly"] (spWrt K) := by
  refine F.ok sc_written (fun vs H Q E h => ?_) (fun cdv A outer s H vs Q E hr h => ?_)
  · obtain ⟨a, F, rfl, _⟩ := h
    rfl
  · obtain ⟨a, F, rfl, hS, l25, hb, tr, k⟩ := h
    refine ⟨_, PSs.nox (pss_cons (ps_if (pt_cmpR (op_eqD hr.units) (pv 0) (pe_tup pa_nil) (nomark _)) (pss_one (ps_ret pe_str)) pss_nil)
      (pss_one (ps_ret (pe_join pe_str (pe_lc (own := [("power", 1), ("rest", 2)]) (g := (gTup K 2 (gCons (gName 1) (gCons (gName 2) gNil)))) rfl sc_written.nd (pi_enT (by rfl) T.f_enumerate (pa_cons (pv 0) pa_nil)) (blkOk_by (own := [("power", 1), ("rest", 2)]) (N := ["poly", "power", "rest"]) (sc := defScope s_written) (by decide +kernel)) (fun _ _ _ _ _ => pg_tup rfl (pgs_cons (pg_name (i := 1) sc_written.nd rfl (Or.inl rfl) (Or.inr rfl)) (pgs_cons (pg_name (i := 2) sc_written.nd rfl (Or.inl rfl) (Or.inr rfl)) pgs_nil))) (fun _ _ _ _ _ => (pts_one (pt_cmpR op_ne (pv 2) pe_int (nomark _)))) (fun _ _ _ _ _ => (pe_own o_written_term (hr.mono (by decide)) rfl pass0 (pa_cons (pv 2) (pa_cons (pv 1) pa_nil))))))))) , ?_⟩
    refine ⟨_, rfl, (by show 0 ≤ sizeLine; decide), fun e he => ?_⟩
    have se := same_upd (o := .tup []) he
    refine ⟨_, _, dp_tup (ns := F) (sameT se hS), dp_tup (ns := []) (SqT.of upd_same), sh_ints _, sh_ints _, _, rfl, ?_⟩
    rw [eqv_dec]
    by_cases f0 : F = []
    · rw [decide_eq_true f0]
      refine iteT (k _ _ se ?_)
      rw [f0]
      rfl
    · rw [decide_eq_false f0]
      refine iteF ⟨⟨_, rfl⟩, _, rfl, a, _, rfl, sameT se hS, fun L hL => ?_⟩
      have hS1 := sameT se hS
      generalize hH1 : L2.upd H e (.tup []) = H1 at *
      refine lc_it (walk_enT (xs := F.map V.int)) (fun i H' => ∃ ys : List Str, Same H1 H' ∧ H' L = some (.lst (ys.map V.str)) ∧ ys.map TL.tl = (Xp.pairsF 0 (F.take i)).map fun q => Xp.termL q.2.toNat q.1) ⟨[], same_upd hL, upd_same, rfl⟩ (fun i H' _ ⟨_, s, _⟩ => sameT s hS1) ?_ ?_
      · rintro i x H2 H3 hi ⟨ys, s2, e2, et⟩ ⟨Tq, u, v, rfl, hTq, rfl, e1, e4⟩
        cases e1
        rw [List.length_map] at hi
        have e4 : (F.map V.int)[i]? = some v := e4
        rw [List.getElem?_map, List.getElem?_eq_getElem hi] at e4
        cases e4
        have hr2 := hb F[i] (List.getElem_mem hi)
        obtain ⟨r, er⟩ := Int.eq_ofNat_of_zero_le hr2.1
        have sT := same_upd (o := .tup [.int (i : Nat), .int F[i]]) hTq
        have lp := congrArg List.length et
        rw [List.length_map, List.length_map] at lp
        have lq := Xp.pairsF_len (F.take i) 0
        rw [List.length_take] at lq
        have etk : F.take (i + 1) = F.take i ++ [F[i]] := by rw [List.take_succ, List.getElem?_eq_getElem hi]; rfl
        have ltk : (F.take i).length = i := by rw [List.length_take]; omega
        refine ⟨Tq, _, rfl, .inl (.inl upd_same), rfl, _, _, rfl, _, _, rfl, rfl, rfl, ?_⟩
        have e3 := sT _ _ e2
        refine ⟨_, rfl, rfl, _, rfl, ?_⟩
        rw [er] at sT e3 ⊢
        rw [show (0 : Int) = ((0 : Nat) : Int) from rfl, int_eqN]
        by_cases r0 : r = 0
        · rw [decide_eq_true r0]
          refine iteF ⟨ys, s2.trans sT, e3, ?_⟩
          rw [etk, Xp.pairsF_snoc, if_pos (by rw [er, r0]; rfl), List.append_nil]
          exact et
        · rw [decide_eq_false r0]
          refine iteT ⟨_, rfl, _, rfl, r, i, rfl, by omega, by omega, fun y ey => ⟨_, e3, ?_, ys ++ [y], lcs hL (s2.trans sT), ?_, ?_⟩⟩
          · rw [List.length_map]
            exact small1000 (by omega)
          · rw [upd_same, List.map_append]
            rfl
          · rw [etk, Xp.pairsF_snoc, if_neg (by rw [er]; omega), List.map_append, List.map_append, et, ltk, er, Nat.zero_add]
            show _ ++ [TL.tl y] = _ ++ [Xp.termL r i]
            rw [ey]
      · rintro H2 ⟨ys, s2, e2, et⟩
        rw [List.length_map, List.take_length] at et
        have et : ys.map TL.tl = Xp.wordsL F := et
        have ly : ys.length ≤ 25 := by
          have := congrArg List.length et
          rw [List.length_map] at this
          rw [this]
          unfold Xp.wordsL
          rw [List.length_map]
          have := Xp.pairsF_len F 0
          omega
        have l8 : ∀ y ∈ ys, y.length ≤ 8 := fun y hy => by
          rw [TL.len_tl]
          exact words_len hb l25 _ (by rw [← et]; exact List.mem_map.mpr ⟨y, hy, rfl⟩)
        have sl := sum_len ys 8 l8
        refine ⟨_, L, ys, rfl, rfl, .inl (SqL.of e2), ?_, k _ _ (se.trans s2) ?_⟩
        · show _ + ys.length * 3 ≤ 16777216
          omega
        · rw [TL.join_eq, TL.tl_join, et]
          unfold Xp.textL
          rw [if_neg (tr_pairs tr f0)]
          rfl
end
end Xk
end
section
set_option Elab.async false
set_option linter.all false
set_option maxRecDepth 100000
set_option maxHeartbeats 4000000
namespace Xk
open PySem PySem.Spec PyProof.Rows L2 Xh LamX NdefX
/-! ### a word read -/
theorem digit_of : ∀ c : Nat, c < 128 → Unicode.isDigit c = (decide (48 ≤ c) && decide (c ≤ 57)) := by decide +kernel
theorem fig_tests (y : Str) : (Txt.isascii y && Txt.isdigit y) = (decide (TL.tl y ≠ []) && (TL.tl y).all fun c => 48 ≤ c && c ≤ 57) := by
  have e1 : Txt.isascii y = (TL.tl y).all (· < 128) := by
    unfold Txt.isascii
    exact (Array.all_toList (p := fun c => decide (c < 128)) (as := y.cps)).symm
  have e2 : Txt.isdigit y = (decide (TL.tl y ≠ []) && (TL.tl y).all Unicode.isDigit) := by
    unfold Txt.isdigit
    rw [← Array.all_toList]
    congr 1
    rw [TL.len_tl]
    cases TL.tl y with
    | nil => rfl
    | cons c r => simp
  rw [e1, e2]
  by_cases h : (TL.tl y).all (· < 128) = true
  · rw [h, Bool.true_and]
    congr 1
    have hx := List.all_eq_true.mp h
    rw [Bool.eq_iff_iff, List.all_eq_true, List.all_eq_true]
    exact ⟨fun z c hc => (digit_of c (by simpa using hx c hc)).symm.trans (z c hc), fun z c hc => (digit_of c (by simpa using hx c hc)).trans (z c hc)⟩
  · rw [Bool.not_eq_true] at h
    rw [h, Bool.false_and]
    symm
    rw [Bool.and_eq_false_iff]
    right
    obtain ⟨c, hc, hn⟩ := List.all_eq_false.mp h
    refine List.all_eq_false.mpr ⟨c, hc, fun z => hn ?_⟩
    simp at z ⊢
    omega
theorem str_nil (a : Str) : decide (V.str a = V.str "") = decide (TL.tl a = []) := by
  by_cases h : TL.tl a = []
  · have : a = Str.ofString "" := TL.ext_tl (by rw [h]; rfl)
    rw [decide_eq_true h, this]
    exact decide_eq_true rfl
  · rw [decide_eq_false h, decide_eq_false (fun z => h (by rw [V.str.inj z]; rfl))]
theorem tl_cap (z : Str) : TL.tl (Txt.removeprefix z "^") = Xp.capL (TL.tl z) := by
  have e := PySem.StrLaws.removeprefix_eq z "^"
  have ha := TL.at_iff (x := z) (y := "^") (fun h => nomatch h) 0
  rw [List.drop_zero] at ha
  by_cases g : (decide (0 + (Str.ofString "^").length ≤ z.length) && Builtin.Str.subAt z "^" 0) = true
  · rw [if_pos g] at e
    have g2 : TL.pre (TL.tl "^") (TL.tl z) = true := ha.mp (by
      rw [Bool.and_eq_true] at g
      exact ⟨of_decide_eq_true g.1, g.2⟩)
    rw [e]
    show ((z.cps.toList.drop 1).take (z.length - 1)) = _
    rw [TL.len_tl, show z.cps.toList = TL.tl z from rfl]
    revert g2
    cases TL.tl z with
    | nil => intro g2; cases g2
    | cons c r =>
      intro g2
      have : c = 94 := by
        have := eq_of_beq (show (List.take 1 (c :: r) == [94]) = true from g2)
        exact (List.cons.inj this).1
      subst this
      show (r.take (r.length + 1 - 1)) = r
      rw [Nat.add_sub_cancel, List.take_length]
  · rw [if_neg g] at e
    rw [e]
    have g2 : ¬ TL.pre (TL.tl "^") (TL.tl z) = true := fun h => g (by
      have := ha.mpr h
      rw [Bool.and_eq_true]
      exact ⟨decide_eq_true this.1, this.2⟩)
    revert g2
    cases TL.tl z with
    | nil => intro _; rfl
    | cons c r =>
      intro g2
      have : c ≠ 94 := fun h => g2 (by rw [h]; rfl)
      unfold Xp.capL
      split
      · rename_i r' e2
        cases e2
        exact absurd rfl this
      · rfl
theorem par_len (S : List Nat) : ∀ (l acc : List Nat) (a b : List Nat), TL.par S acc l = some (a, b) → a.length + b.length ≤ acc.length + l.length
  | [], _, _, _, h => nomatch h
  | c :: r, acc, a, b, h => by
    by_cases g : TL.pre S (c :: r) = true
    · rw [TL.par_hit g] at h
      cases h
      rw [List.length_drop]
      omega
    · rw [Bool.not_eq_true] at g
      rw [TL.par_miss g] at h
      have := par_len S r _ a b h
      rw [List.length_append, List.length_singleton] at this
      rw [List.length_cons]
      omega
theorem par_x (y : Str) : Txt.partition y "x" = (match TL.par [120] [] (TL.tl y) with | some (a, b) => (⟨a.toArray⟩, "x", ⟨b.toArray⟩) | none => (y, Str.empty, Str.empty)) :=
  TL.partition_par y "x" (fun z => nomatch z)
theorem cap_len (w : List Nat) : (Xp.capL w).length ≤ w.length := by
  unfold Xp.capL
  split
  · rw [List.length_cons]; omega
  · exact Nat.le_refl _
/-- a number, or none -/
def oV : Option Nat → V
  | some n => .int n
  | none => .non
def spFig : Sp := fun vs H Q _ => ∃ y : Str, vs = [.str y] ∧ y.length ≤ 5000 ∧ Q (oV (Xp.figL (TL.tl y))) H
def spRTerm : Sp := fun vs H Q _ => ∃ y : Str, vs = [.str y] ∧ y.length ≤ 5000 ∧ ∀ (t : Addr) (H' : Hp), Same H H' → H' t = some (.tup [oV (Xp.readL (TL.tl y)).1, oV (Xp.readL (TL.tl y)).2]) → Q (.ref t) H'
section
variable {P : Program} {w : World} {K : PySem.W.Frag} {mg : Str → Option Value} {base : Heap}
theorem sc_read_figures : FnScope (["word"] : List Str) ["word"] (defScope s_read_figures) := ⟨rfl, rfl, rfl, by decide +kernel, rfl, by decide +kernel, by decide +kernel⟩
theorem ok_read_figures {f : Addr} {fd : FuncData} (F : FunD K "read_figures" "read_figures" (defArgs s_read_figures) (defBody s_read_figures) (defScope s_read_figures) [] [] f fd) (T : Fre mg) : FnOk P w K mg base CX0 1 f fd ["word"] spFig := by
  refine F.ok sc_read_figures (fun vs H Q E h => ?_) (fun cdv A outer s H vs Q E hr h => ?_)
  · obtain ⟨y, rfl, _⟩ := h
    rfl
  · obtain ⟨y, rfl, ly, k⟩ := h
    refine ⟨_, PSs.nox (pss_cons (ps_if (PW.pt (pw_and (pt_cmpR op_le (pe_callB call_len_str (by rfl) T.f_len PySem.boot_len (pa_cons (pv 0) pa_nil)) pe_int (nomark _)) (pw_and (pt_val (pe_m0 PySem.F.slot_str_isascii PySem.F.type_str_isascii mt_isascii (pv 0))) (pw_and1 (pt_val (pe_m0 PySem.F.slot_str_isdigit PySem.F.type_str_isdigit mt_isdigit (pv 0))))))) (pss_one (ps_ret (pe_callTy call_int_str (by rfl) T.f_int (by decide +kernel) (pa_cons (pv 0) pa_nil)))) pss_nil)
      (pss_one (ps_ret pe_non))) , ?_⟩
    have ft := fig_tests y
    refine ⟨_, rfl, y, rfl, line8 (by omega), _, _, rfl, rfl, _, rfl, ?_⟩
    have lt : y.length = (TL.tl y).length := TL.len_tl y
    by_cases l2 : y.length ≤ 2
    · rw [decide_eq_true (show (y.length : Int) ≤ 2 by omega)]
      refine iteT ⟨_, rfl, ⟨y, rfl⟩, y, rfl, rfl, trivial, _, rfl, ?_⟩
      by_cases ga : Txt.isascii y = true
      · rw [ga] at ft ⊢
        refine iteT ⟨_, rfl, ⟨y, rfl⟩, y, rfl, rfl, trivial, _, rfl, ?_⟩
        by_cases gd : Txt.isdigit y = true
        · rw [gd] at ft ⊢
          have ft : true = (decide (TL.tl y ≠ []) && (TL.tl y).all fun c => 48 ≤ c && c ≤ 57) := ft
          have f2 := Bool.and_eq_true_iff.mp ft.symm
          have dg := Xp.all_digits.mp f2.2
          have nn := of_decide_eq_true f2.1
          unfold Xp.figL at k
          rw [if_pos ⟨by omega, nn, f2.2⟩] at k
          exact iteT ⟨_, rfl, y, _, rfl, PySem.intText_digits dg nn (by omega), by omega, k⟩
        · rw [Bool.not_eq_true] at gd
          rw [gd] at ft ⊢
          unfold Xp.figL at k
          rw [if_neg (fun z => by
            have : false = true := ft.trans (Bool.and_eq_true_iff.mpr ⟨decide_eq_true z.2.1, z.2.2⟩)
            cases this)] at k
          exact iteF k
      · rw [Bool.not_eq_true] at ga
        rw [ga] at ft ⊢
        unfold Xp.figL at k
        rw [if_neg (fun z => by
          have : false = true := ft.trans (Bool.and_eq_true_iff.mpr ⟨decide_eq_true z.2.1, z.2.2⟩)
          cases this)] at k
        exact iteF k
    · rw [decide_eq_false (show ¬ (y.length : Int) ≤ 2 by omega)]
      unfold Xp.figL at k
      rw [if_neg (fun z => l2 (by have := z.1; omega))] at k
      exact iteF k
theorem sc_read_term : FnScope (["word", "ahead", "mark", "behind", "rest", "power"] : List Str) ["word"] (defScope s_read_term) := ⟨rfl, rfl, rfl, by decide +kernel, rfl, by decide +kernel, by decide +kernel⟩
theorem ok_read_term {f : Addr} {fd : FuncData} (F : FunD K "read_term" "read_term" (defArgs s_read_term) (defBody s_read_term) (defScope s_read_term) [] [] f fd) (T : Fre mg) (o_read_figures : Own P w K mg base CX0 1 "read_figures" ["word"] [] spFig) : FnOk P w K mg base CX0 2 f fd ["word"] spRTerm := by
  refine F.ok sc_read_term (fun vs H Q E h => ?_) (fun cdv A outer s H vs Q E hr h => ?_)
  · obtain ⟨y, rfl, _⟩ := h
    rfl
  · obtain ⟨y, rfl, ly, k⟩ := h
    refine ⟨_, PSs.nox (pss_cons (ps_asg (pe_partition (pv 0) pe_str) (pg_tup rfl (pgs_cons (pg_name (i := 1) sc_read_term.nd rfl (Or.inl rfl)) (pgs_cons (pg_name (i := 2) sc_read_term.nd rfl (Or.inl rfl)) (pgs_cons (pg_name (i := 3) sc_read_term.nd rfl (Or.inl rfl)) pgs_nil)))))
      (pss_cons (ps_if (pt_cmpR op_eq (pv 2) pe_str (nomark _)) (pss_one (ps_ret (pe_tup (pa_cons (pe_own o_read_figures (hr.mono (by decide)) rfl pass0 (pa_cons (pv 1) pa_nil)) (pa_cons pe_int pa_nil))))) pss_nil)
      (C8.pss_cut (ps_set (i := 4) sc_read_term.nd rfl (Or.inl rfl) (pe_ifExp (pt_cmpR op_eq (pv 1) pe_str (nomark _)) pe_int (pe_own o_read_figures (hr.mono (by decide)) rfl pass0 (pa_cons (pv 1) pa_nil))))
      (C8.pss_cut (ps_set (i := 5) sc_read_term.nd rfl (Or.inl rfl) (pe_ifExp (pt_cmpR op_eq (pv 3) pe_str (nomark _)) pe_int (pe_own o_read_figures (hr.mono (by decide)) rfl pass0 (pa_cons (pe_m1 PySem.F.slot_str_removeprefix PySem.F.type_str_removeprefix mt_removeprefix (pv 3) pe_str) pa_nil))))
      (pss_one (ps_ret (pe_tup (pa_cons (pv 4) (pa_cons (pv 5) pa_nil))))))))) , ?_⟩
    have px := par_x y
    obtain ⟨A, M, B, eP⟩ : ∃ A M B, Txt.partition y "x" = (A, M, B) := ⟨_, _, _, rfl⟩
    rw [eP] at px
    refine ⟨_, rfl, ⟨y, rfl⟩, y, _, rfl, rfl, by decide, line8 (by omega), fun p hp => ?_⟩
    rw [eP]
    dsimp only
    have sp := same_upd (o := .tup [.str A, .str M, .str B]) hp
    refine ⟨p, _, rfl, .inl (.inl upd_same), rfl, _, _, rfl, _, _, rfl, _, _, rfl, rfl, ?_⟩
    generalize hH1 : L2.upd H p (.tup [.str A, .str M, .str B]) = H1 at *
    refine ⟨_, rfl, rfl, _, rfl, ?_⟩
    rw [str_nil]
    unfold Xp.readL at k
    have lt : y.length = (TL.tl y).length := TL.len_tl y
    cases hpar : TL.par [120] [] (TL.tl y) with
    | none =>
      rw [hpar] at px k
      cases px
      rw [decide_eq_true (show TL.tl Str.empty = [] from rfl)]
      refine iteT ⟨_, rfl, y, rfl, ly, (by show 2 ≤ sizeLine; decide), fun t ht => k t _ (sp.trans (same_upd ht)) upd_same⟩
    | some ab =>
      obtain ⟨a, b⟩ := ab
      rw [hpar] at px k
      have la := par_len _ _ _ _ _ hpar
      have px : (A, M, B) = ((⟨a.toArray⟩ : Str), (Str.ofString "x"), (⟨b.toArray⟩ : Str)) := px
      injection px with p1 p2
      injection p2 with p2 p3
      subst p2
      rw [decide_eq_false (show ¬ TL.tl (Str.ofString "x") = [] from fun z => nomatch z)]
      refine iteF ?_
      have eA : TL.tl A = a := by rw [p1]
      have eB : TL.tl B = b := by rw [p3]
      have lA : A.length ≤ 5000 := by rw [TL.len_tl, eA]; have : ([] : List Nat).length = 0 := rfl; omega
      have lB : B.length ≤ 5000 := by rw [TL.len_tl, eB]; have : ([] : List Nat).length = 0 := rfl; omega
      refine ⟨fun σ' H' => σ' = [some (.str y), some (.str A), some (.str "x"), some (.str B), some (oV (if a = [] then some 1 else Xp.figL a)), none] ∧ H' = H1, ?_, ?_⟩
      · refine ⟨_, rfl, rfl, _, rfl, ?_⟩
        rw [str_nil, eA]
        by_cases e : a = []
        · rw [decide_eq_true e, if_pos e]
          exact iteT ⟨rfl, rfl⟩
        · rw [decide_eq_false e, if_neg e]
          refine iteF ⟨_, rfl, A, rfl, lA, ?_⟩
          rw [eA]
          exact ⟨rfl, rfl⟩
      rintro σ' H' ⟨rfl, rfl⟩
      refine ⟨fun σ' H2 => σ' = [some (.str y), some (.str A), some (.str "x"), some (.str B), some (oV (if a = [] then some 1 else Xp.figL a)), some (oV (if b = [] then some 1 else Xp.figL (Xp.capL b)))] ∧ H2 = H', ?_, ?_⟩
      · refine ⟨_, rfl, rfl, _, rfl, ?_⟩
        rw [str_nil, eB]
        by_cases e : b = []
        · rw [decide_eq_true e, if_pos e]
          exact iteT ⟨rfl, rfl⟩
        · rw [decide_eq_false e, if_neg e]
          have lc : (Txt.removeprefix B "^").length ≤ 5000 := by
            rw [TL.len_tl, tl_cap, eB]
            refine Nat.le_trans (cap_len b) ?_
            rw [← eB, ← TL.len_tl]
            exact lB
          refine iteF ⟨_, rfl, ⟨B, rfl⟩, B, _, rfl, rfl, line8 (by omega), _, rfl, lc, ?_⟩
          rw [tl_cap, eB]
          exact ⟨rfl, rfl⟩
      rintro σ' H2 ⟨rfl, rfl⟩
      exact ⟨_, rfl, _, rfl, (by show 2 ≤ sizeLine; decide), fun t ht => k t _ (sp.trans (same_upd ht)) upd_same⟩
end
end Xk
end
section
set_option Elab.async false
set_option linter.all false
set_option maxRecDepth 100000
set_option maxHeartbeats 4000000
namespace Xk
open PySem PySem.Spec PyProof.Rows L2 Xh LamX NdefX
/-! ### a text read -/
def ExF (H : Hp) (E : XK) (C : Addr) (nm f : Str) (y : V) : Prop := ∀ (d : Addr) (H' : Hp), Same H H' → H' d = some (.xd [(f, y), ("word", .str nm)]) → H d = none → E (.ref C) (some d) H'
theorem ExF.same {H H1 : Hp} {E : XK} {C : Addr} {nm f : Str} {y : V} (x : ExF H E C nm f y) (s : Same H H1) : ExF H1 E C nm f y := fun d H' a b c => x d H' (s.trans a) b (s.free c)
def spOr (a b : Sp) : Sp := fun vs H Q E => a vs H Q E ∨ b vs H Q E
theorem fn_join {P : Program} {w : World} {K : PySem.W.Frag} {mg : Str → Option Value} {base : Heap} {CX : CXT} {k : Nat} {f : Addr} {fd : FuncData} {ps : List Str} {sp sp' : Sp} (F : FnOk P w K mg base CX k f fd ps sp) (G : FnOk P w K mg base CX k f fd ps sp') : FnOk P w K mg base CX k f fd ps (spOr sp sp') :=
  ⟨fun vs H Q E h => h.elim (F.len vs H Q E) (G.len vs H Q E), fun A outer s H args us vs Q E hr he hb hv hs => hs.elim (F.run A outer s H args us vs Q E hr he hb hv) (G.run A outer s H args us vs Q E hr he hb hv)⟩
def spIsNumN : Sp := fun vs H Q _ => vs = [.non] ∧ Q (.bl false) H
def spIsRestN : Sp := fun vs H Q _ => ∃ p : Int, vs = [.non, .int p] ∧ Q (.bl false) H
/-- the words set one after another; none where one is no term -/
def readWs (p : Nat) : List (List Nat) → List Int → Option (List Int)
  | [], L => some L
  | w :: ws, L => match Xp.readL w with
    | (some r, some a) => if r < p ∧ a < 25 then readWs p ws (L.set a r) else none
    | _ => none
def readP (p : Nat) (t : List Nat) : Option (List Int) := match readWs p (TL.spl Xp.sepL 0 [] t) (List.replicate 25 0) with
  | some L => if Xp.textL (trim L) = t then some (trim L) else none
  | none => none
theorem readWs_pairs {p : Nat} (hp : p ≤ 100) : ∀ (ps : List (Nat × Int)) (L : List Int), (∀ q ∈ ps, q.1 < 25 ∧ 1 ≤ q.2 ∧ q.2 < p) → readWs p (ps.map fun q => Xp.termL q.2.toNat q.1) L = some (Xp.setA ps L)
  | [], L, _ => rfl
  | q :: ps, L, h => by
    obtain ⟨h1, h2, h3⟩ := h q List.mem_cons_self
    have ih := readWs_pairs hp ps (L.set q.1 q.2) fun z hz => h z (List.mem_cons_of_mem _ hz)
    have e := Xp.read_term (r := q.2.toNat) (a := q.1) (by omega) (by omega) (by omega)
    have e2 : ((q.2.toNat : Nat) : Int) = q.2 := Int.toNat_of_nonneg (by omega)
    show readWs p (Xp.termL q.2.toNat q.1 :: _) L = _
    unfold readWs
    rw [e]
    show (if q.2.toNat < p ∧ q.1 < 25 then readWs p _ (L.set q.1 (q.2.toNat : Int)) else none) = _
    rw [if_pos ⟨by omega, h1⟩, e2, ih]
    rfl
/-- a polynomial by p -/
structure Can (p : Nat) (F : List Int) : Prop where
  b : ∀ r ∈ F, 0 ≤ r ∧ r < p
  l : F.length ≤ 25
  t : trim F = F
theorem trim_pad (F : List Int) (m : Nat) : trim (F ++ List.replicate m 0) = trim F := trim_congr _ _ fun i => by
  rw [List.getD_eq_getElem?_getD, List.getD_eq_getElem?_getD]
  rcases Nat.lt_or_ge i F.length with g | g
  · rw [List.getElem?_append_left g]
  · rw [List.getElem?_append_right g, List.getElem?_eq_none g]
    cases e : (List.replicate m (0 : Int))[i - F.length]? with
    | none => rfl
    | some r =>
      rw [(List.mem_replicate.mp (List.mem_of_getElem? e)).2]
      rfl
theorem can_pairs {p : Nat} {F : List Int} (h : Can p F) : ∀ q ∈ Xp.pairsF 0 F, q.1 < 25 ∧ 1 ≤ q.2 ∧ q.2 < p := fun q hq => by
  obtain ⟨h1, h2, h3, h4⟩ := Xp.pairs_mem F 0 q hq
  have := h.b q.2 (List.mem_of_getElem? h4)
  have := h.l
  omega
theorem readP_of {p : Nat} (p0 : 2 ≤ p) (hp : p ≤ 100) {F : List Int} (h : Can p F) : readP p (Xp.textL F) = some F := by
  by_cases e : F = []
  · subst e
    have h1 : TL.spl Xp.sepL 0 [] (Xp.textL []) = [[48]] := by decide
    have h2 : Xp.readL [48] = (some 0, some 0) := by decide
    unfold readP
    rw [h1]
    show (match readWs p [[48]] (List.replicate 25 0) with | some L => _ | none => _) = _
    unfold readWs
    rw [h2]
    show (match (if 0 < p ∧ 0 < 25 then readWs p [] ((List.replicate 25 (0 : Int)).set 0 ((0 : Nat) : Int)) else none) with | some L => _ | none => _) = _
    rw [if_pos ⟨by omega, by omega⟩]
    have h3 : trim ((List.replicate 25 (0 : Int)).set 0 ((0 : Nat) : Int)) = [] := by decide
    show (if Xp.textL (trim ((List.replicate 25 (0 : Int)).set 0 ((0 : Nat) : Int))) = Xp.textL [] then some (trim ((List.replicate 25 (0 : Int)).set 0 ((0 : Nat) : Int))) else none) = some []
    rw [h3, if_pos rfl]
  · have np := tr_pairs h.t e
    have rw' := readWs_pairs hp (Xp.pairsF 0 F) (List.replicate 25 0) (can_pairs h)
    rw [Xp.setA_all h.l] at rw'
    unfold readP
    rw [Xp.spl_text np]
    show (match readWs p ((Xp.pairsF 0 F).map fun q => Xp.termL q.2.toNat q.1) (List.replicate 25 0) with | some L => _ | none => _) = _
    rw [rw']
    show (if Xp.textL (trim (F ++ List.replicate (25 - F.length) 0)) = Xp.textL F then some (trim (F ++ List.replicate (25 - F.length) 0)) else none) = some F
    rw [trim_pad, h.t, if_pos rfl]
theorem readWs_sound {p : Nat} : ∀ (ws : List (List Nat)) (L L' : List Int), readWs p ws L = some L' → (∀ r ∈ L, 0 ≤ r ∧ r < (p : Int)) → L'.length = L.length ∧ ∀ r ∈ L', 0 ≤ r ∧ r < (p : Int)
  | [], L, L', h, hb => by
    cases h
    exact ⟨rfl, hb⟩
  | w :: ws, L, L', h, hb => by
    unfold readWs at h
    split at h
    · rename_i r a e
      by_cases g : r < p ∧ a < 25
      · rw [if_pos g] at h
        obtain ⟨h1, h2⟩ := readWs_sound ws _ L' h (fun z hz => by
          rcases List.mem_or_eq_of_mem_set hz with hz | rfl
          · exact hb z hz
          · omega)
        exact ⟨by rw [h1, List.length_set], h2⟩
      · rw [if_neg g] at h
        cases h
    · cases h
theorem readP_can {p : Nat} (p0 : 2 ≤ p) {t : List Nat} {F : List Int} (h : readP p t = some F) : Can p F ∧ Xp.textL F = t := by
  unfold readP at h
  split at h
  · rename_i L e
    obtain ⟨h1, h2⟩ := readWs_sound _ _ L e (fun r hr => by rw [(List.mem_replicate.mp hr).2]; omega)
    by_cases g : Xp.textL (trim L) = t
    · rw [if_pos g] at h
      cases h
      refine ⟨⟨fun r hr => h2 r (trim_mem hr), ?_, trim_trim L⟩, g⟩
      have := trim_length L
      rw [List.length_replicate] at h1
      omega
    · rw [if_neg g] at h
      cases h
  · cases h
theorem spl_len (S : List Nat) : ∀ (l : List Nat) (k : Nat) (acc : List Nat), ∀ w ∈ TL.spl S k acc l, w.length ≤ acc.length + l.length
  | [], k, acc, w, h => by
    rw [TL.spl_nil] at h
    rw [List.mem_singleton.mp h]
    exact Nat.le_refl _
  | c :: r, 0, acc, w, h => by
    by_cases g : TL.pre S (c :: r) = true
    · rw [TL.spl_hit g] at h
      rcases List.mem_cons.mp h with rfl | h
      · omega
      · have := spl_len S r _ _ w h
        rw [List.length_nil] at this
        rw [List.length_cons]
        omega
    · rw [Bool.not_eq_true] at g
      rw [TL.spl_miss g] at h
      have := spl_len S r _ _ w h
      rw [List.length_append, List.length_singleton] at this
      rw [List.length_cons]
      omega
  | c :: r, k + 1, acc, w, h => by
    have := spl_len S r k acc w h
    rw [List.length_cons]
    omega
theorem spl_cnt (S : List Nat) : ∀ (l : List Nat) (k : Nat) (acc : List Nat), (TL.spl S k acc l).length ≤ l.length + 1
  | [], k, acc => by
    rw [TL.spl_nil]
    exact Nat.le_refl _
  | c :: r, 0, acc => by
    by_cases g : TL.pre S (c :: r) = true
    · rw [TL.spl_hit g]
      have := spl_cnt S r (S.length - 1) []
      rw [List.length_cons, List.length_cons]
      omega
    · rw [Bool.not_eq_true] at g
      rw [TL.spl_miss g]
      have := spl_cnt S r 0 (acc ++ [c])
      rw [List.length_cons]
      omega
  | c :: r, k + 1, acc => by
    have := spl_cnt S r k acc
    show (TL.spl S k acc r).length ≤ _
    rw [List.length_cons]
    omega
theorem split_sep (y : Str) : (Txt.split y " + ").map TL.tl = TL.spl Xp.sepL 0 [] (TL.tl y) := TL.split_spl y " + " (fun z => nomatch z) (TL.kind_ok (by decide +kernel))
def spReadP (CB : Addr) : Sp := fun vs H Q E => ∃ (y : Str) (p : Nat), vs = [.str y, .int p] ∧ (p : Int) ∈ primes ∧ y.length ≤ 5000 ∧ (∀ F, readP p (TL.tl y) = some F → ∀ (v : Addr) (H' : Hp), Same H H' → H' v = some (.tup (F.map V.int)) → Q (.ref v) H') ∧ (readP p (TL.tl y) = none → ExF H E CB "BadText" "at" (.int 0))
def spPText (K : PySem.W.Frag) : Sp := fun vs H Q _ => ∃ (a : Addr) (F : List Int) (p : Int), vs = [.ref a, .int p] ∧ p ∈ primes ∧ Pol K H a p F ∧ ∀ (y : Str) (H' : Hp), Same H H' → TL.tl y = Xp.textL F → Q (.str y) H'
section
variable {P : Program} {w : World} {K : PySem.W.Frag} {mg : Str → Option Value} {base : Heap}
theorem n_is_number {f : Addr} {fd : FuncData} (F : FunD K "is_number" "is_number" (defArgs s_is_number) (defBody s_is_number) (defScope s_is_number) [] [] f fd) (T : Fre mg) : FnOk P w K mg base CX0 1 f fd ["told"] spIsNumN := by
  refine F.ok sc_is_number (fun vs H Q E h => ?_) (fun cdv A outer s H vs Q E hr h => ?_)
  · obtain ⟨rfl, _⟩ := h
    rfl
  · obtain ⟨rfl, k⟩ := h
    refine ⟨_, PSs.nox (pss_one (ps_ret (pe_and (pe_callB call_isi (by rfl) T.f_isinstance PyProof.Rows.boot_isinstance (pa_cons (pv 0) (pa_cons (pe_bltn (v := .ty "int") rfl T.f_int boot_int rfl) pa_nil))) (pe_one (pe_not (pe_callB call_isi (by rfl) T.f_isinstance PyProof.Rows.boot_isinstance (pa_cons (pv 0) (pa_cons (pe_bltn (v := .ty "bool") rfl T.f_bool boot_bool rfl) pa_nil)))))))) , ?_⟩
    exact ⟨_, rfl, .non, _, _, _, false, rfl, .ty _, .base .non, kit_ty (by decide +kernel), _, rfl, iteF k⟩
theorem a_is_rest {f : Addr} {fd : FuncData} (F : FunD K "is_rest" "is_rest" (defArgs s_is_rest) (defBody s_is_rest) (defScope s_is_rest) [] [] f fd) (o_is_number : Own P w K mg base CX0 1 "is_number" ["told"] [] spIsNum) (o_n_is_number : Own P w K mg base CX0 1 "is_number" ["told"] [] spIsNumN) : FnOk P w K mg base CX0 2 f fd ["told", "prime"] (spOr spIsRest spIsRestN) := by
  refine fn_join (ok_is_rest F o_is_number) (F.ok sc_is_rest (fun vs H Q E h => ?_) (fun cdv A outer s H vs Q E hr h => ?_))
  · obtain ⟨p, rfl, _⟩ := h
    rfl
  · obtain ⟨p, rfl, k⟩ := h
    refine ⟨_, PSs.nox (pss_one (ps_ret (pe_and (pe_own o_n_is_number (hr.mono (by decide)) rfl pass0 (pa_cons (pv 0) pa_nil)) (pe_one (pe_chain op_le op_lt pe_int (pv 0) (pv 1)))))) , ?_⟩
    exact ⟨_, rfl, rfl, _, rfl, iteF k⟩
end
end Xk
end
section
set_option Elab.async false
set_option linter.all false
set_option maxRecDepth 100000
set_option maxHeartbeats 4000000
namespace Xk
open PySem PySem.Spec PyProof.Rows L2 Xh LamX NdefX
/-! ### the doors of texts -/
theorem readWs_cons (p : Nat) (w : List Nat) (ws : List (List Nat)) (L : List Int) : readWs p (w :: ws) L = (match Xp.readL w with
    | (some r, some a) => if r < p ∧ a < 25 then readWs p ws (L.set a r) else none
    | _ => none) := by
  rw [readWs] <;> rfl
section
variable {P : Program} {w : World} {K : PySem.W.Frag} {mg : Str → Option Value} {base : Heap}
theorem sc_poly_text : FnScope (["one", "prime"] : List Str) ["one", "prime"] (defScope s_poly_text) := ⟨rfl, rfl, rfl, by decide +kernel, rfl, by decide +kernel, by decide +kernel⟩
theorem ok_poly_text {f : Addr} {fd : FuncData} {kws : List (Str × V)} {C : Fin 14 → Addr} (F : FunD K "poly_text" "poly_text" (defArgs s_poly_text) (defBody s_poly_text) (defScope s_poly_text) [] kws f fd) (o_refuse_polys : Own P w K mg base (L2.CX P w) 4 "refuse_polys" ["polys", "prime"] [] (spRefPs K)) (o_written : Own P w K mg base CX0 2 "written" ["poly"] [] (spWrt K)) : FnOk P w K mg base (L2.CX P w) 5 f fd ["one", "prime"] (spPText K) := by
  refine F.ok sc_poly_text (fun vs H Q E h => ?_) (fun cdv A outer s H vs Q E hr h => ?_)
  · obtain ⟨a, F, p, rfl, _⟩ := h
    rfl
  · obtain ⟨a, F, p, rfl, hp, hP, k⟩ := h
    refine ⟨_, (pss_cons (ps_expr (pe_own o_refuse_polys (hr.mono (by decide)) rfl (passes_call (takes_of rfl rfl rfl rfl) (fun _ _ _ _ h => h)) (pa_cons (pe_tup (pa_cons (pv 0) pa_nil)) (pa_cons (pv 1) pa_nil))))
      (pss_one (ps_ret (pe_own o_written (hr.mono (by decide)) rfl pass0 (pa_cons (pv 0) pa_nil))))) , ?_⟩
    have hpm := pm_of hp
    refine ⟨_, rfl, (by show 1 ≤ sizeLine; decide), fun c hc => ?_⟩
    have sc := same_upd (o := .tup [.ref a]) hc
    refine ⟨_, rfl, c, [.ref a], p, rfl, hp, SqT.of upd_same, fun r hr => ?_, fun H1 s1 => ?_⟩
    · rw [List.mem_singleton.mp hr]
      exact ⟨a, F, rfl, hP.same sc⟩
    have P1 := (hP.same sc).same s1
    exact ⟨_, rfl, a, F, rfl, P1.at_, P1.len, fun r hr => by
      obtain ⟨j, hj⟩ := List.mem_iff_getElem?.mp hr
      have := P1.rs j
      rw [List.getD_eq_getElem?_getD, hj] at this
      have h2 : 0 ≤ r ∧ r < p := this
      have := hpm.hi
      omega, P1.tr, fun y H2 s2 e => k y H2 ((sc.trans s1).trans s2) e⟩
theorem sc_read_poly : FnScope (["text", "prime", "rests", "word", "rest", "power", "poly"] : List Str) ["text", "prime"] (defScope s_read_poly) := ⟨rfl, rfl, rfl, by decide +kernel, rfl, by decide +kernel, by decide +kernel⟩
theorem ok_read_poly {f fT : Addr} {fd fdT : FuncData} {kws : List (Str × V)} {C : Fin 14 → Addr} (F : FunD K "read_poly" "read_poly" (defArgs s_read_poly) (defBody s_read_poly) (defScope s_read_poly) [] kws f fd) (mM : ∃ t, mg "MOST_RESTS" = some (.int 25 t)) (o_refuse_prime : Own P w K mg base (L2.CX P w) 3 "refuse_prime" ["prime"] [] (spRefP (C 0))) (o_read_term : Own P w K mg base CX0 2 "read_term" ["word"] [] spRTerm) (o_a_is_rest : Own P w K mg base CX0 2 "is_rest" ["told", "prime"] [] (spOr spIsRest spIsRestN)) (o_trimmed : Own P w K mg base CX0 1 "trimmed" ["rests"] [] (spTrim K)) (o_written : Own P w K mg base CX0 2 "written" ["poly"] [] (spWrt K))
    (xT : RXF K mg (C 2) fT "BadText" "at") (fI_BadText : FnOk P w K mg base (L2.CX P w) 2 fT fdT ["self", "at"] (spFI K "at")) (bI_BadText : Binds K fdT ["self", "at"] []) : FnOk P w K mg base (L2.CX P w) 4 f fd ["text", "prime"] (spReadP (C 2)) := by
  refine F.ok sc_read_poly (fun vs H Q E h => ?_) (fun cdv A outer s H vs Q E hr h => ?_)
  · obtain ⟨y, p, rfl, _⟩ := h
    rfl
  · obtain ⟨y, p, rfl, hp, ly, kg, kb⟩ := h
    obtain ⟨tM, mM⟩ := mM
    refine ⟨_, (pss_cons (ps_expr (pe_own o_refuse_prime (hr.mono (by decide)) rfl (passes_call (takes_of rfl rfl rfl rfl) (fun _ _ _ _ h => h)) (pa_cons (pv 1) pa_nil)))
      (pss_cons (ps_set (i := 2) sc_read_poly.nd rfl (Or.inl rfl) (pe_op op_rep (pe_lst (pa_cons pe_int pa_nil)) (pe_glob (v := .int 25) rfl mM ⟨_, rfl⟩)))
      (pss_cons (ps_for (passes_of rfl) rfl (pi_list (pe_split (pv 0) pe_str)) (pg_name (i := 3) sc_read_poly.nd rfl (Or.inl rfl)) (pss_cons (ps_asg (pe_own o_read_term (hr.mono (by decide)) rfl pass0 (pa_cons (pv 3) pa_nil)) (pg_tup rfl (pgs_cons (pg_name (i := 4) sc_read_poly.nd rfl (Or.inl rfl)) (pgs_cons (pg_name (i := 5) sc_read_poly.nd rfl (Or.inl rfl)) pgs_nil))))
      (pss_cons (ps_if (PW.pt (pw_or (pt_not (pt_val (pe_own o_a_is_rest (hr.mono (by decide)) rfl pass0 (pa_cons (pv 4) (pa_cons (pv 1) pa_nil))))) (pw_or (pt_cmpR op_isN (pv 5) pe_non (nomark _)) (pw_or1 (pt_cmpR op_ge (pv 5) (pe_glob (v := .int 25) rfl mM ⟨_, rfl⟩) (nomark _)))))) (pss_one (ps_raise rfl (takes_of rfl rfl rfl rfl) (pmk_field xT fI_BadText (hr.mono (by decide)) bI_BadText rfl (pa_cons pe_int pa_nil)))) pss_nil)
      (pss_one (ps_asg (pv 4) (pg_sub (pv 2) (pv 5) set_list))))))
      (pss_cons (ps_set (i := 6) sc_read_poly.nd rfl (Or.inl rfl) (pe_own o_trimmed (hr.mono (by decide)) rfl pass0 (pa_cons (pv 2) pa_nil)))
      (pss_cons (ps_if (pt_cmpR op_ne (pe_own o_written (hr.mono (by decide)) rfl pass0 (pa_cons (pv 6) pa_nil)) (pv 0) (nomark _)) (pss_one (ps_raise rfl (takes_of rfl rfl rfl rfl) (pmk_field xT fI_BadText (hr.mono (by decide)) bI_BadText rfl (pa_cons pe_int pa_nil)))) pss_nil)
      (pss_one (ps_ret (pv 6)))))))) , ?_⟩
    have hpm := pm_of hp
    have lo := hpm.lo
    have hi1000 := hpm.hi
    have wl : (Txt.split y " + ").map TL.tl = TL.spl Xp.sepL 0 [] (TL.tl y) := split_sep y
    have wc := spl_cnt Xp.sepL (TL.tl y) 0 []
    have wb := spl_len Xp.sepL (TL.tl y) 0 []
    rw [← wl] at wc wb
    rw [List.length_map] at wc
    have lty : y.length = (TL.tl y).length := TL.len_tl y
    unfold readP at kg kb
    rw [← wl] at kg kb
    refine ⟨_, rfl, (p : Int), rfl, fun _ => ?_, fun z => absurd hp z⟩
    refine ⟨(by show 1 ≤ sizeLine; decide), fun Z hZ => ⟨Z, 25, [.int 0], rfl, rfl, upd_same, by decide, by decide, (by show 1 * 25 ≤ sizeLine; decide), fun RL hRL => ?_⟩⟩
    have sZ := same_upd (o := .lst [.int 0]) hZ
    generalize L2.upd H Z (.lst [.int 0]) = H1 at *
    have hRL0 : H RL = none := sZ.free hRL
    have eRL : L2.upd H1 RL (.lst (List.replicate (25 : Int).toNat [V.int 0]).flatten) RL = some (.lst ((List.replicate 25 (0 : Int)).map V.int)) := by rw [upd_same]; rfl
    have sR := sZ.trans (same_upd (o := .lst (List.replicate (25 : Int).toNat [V.int 0]).flatten) hRL)
    generalize L2.upd H1 RL (.lst (List.replicate (25 : Int).toNat [V.int 0]).flatten) = H2 at *
    refine ⟨_, rfl, ⟨y, rfl⟩, y, _, rfl, rfl, by decide, line8 (by omega), fun W hW => ⟨W, rfl, ⟨_, SqL.of upd_same⟩, ?_⟩⟩
    have sW := same_upd (o := .lst ((Txt.split y " + ").map V.str)) hW
    have nRW : RL ≠ W := fun z => by
      rw [← z, eRL] at hW
      cases hW
    generalize hws : Txt.split y " + " = ws at *
    refine for_it (walk_list (xs := ws.map V.str)) (fun i σ' H' => ∃ (L : List Int) (x3 x4 x5 : Option V), σ' = [some (.str y), some (.int p), some (.ref RL), x3, x4, x5, none] ∧ Same H H' ∧ H' W = some (.lst (ws.map V.str)) ∧ H' RL = some (.lst (L.map V.int)) ∧ L.length = 25 ∧ (∀ r ∈ L, 0 ≤ r ∧ r < (p : Int)) ∧ readWs p (ws.map TL.tl) (List.replicate 25 0) = readWs p ((ws.drop i).map TL.tl) L)
      ⟨List.replicate 25 0, none, none, none, rfl, sR.trans sW, upd_same, sW _ _ eRL, List.length_replicate, fun r hr => by rw [(List.mem_replicate.mp hr).2]; omega, rfl⟩ (fun i σ' H' _ ⟨_, _, _, _, _, _, e, _⟩ => SqL.of e) ?_ ?_
    · rintro i x σ' H3 H4 hi ⟨L, x3, x4, x5, rfl, s3, eW, eL, lL, bL, rd⟩ ⟨rfl, hx⟩
      rw [List.length_map] at hi
      rw [List.getElem?_map, List.getElem?_eq_getElem hi] at hx
      cases hx
      have hdrop : ws.drop i = ws[i] :: ws.drop (i + 1) := List.drop_eq_getElem_cons hi
      rw [hdrop, List.map_cons] at rd
      have lw : (ws[i]).length ≤ 5000 := by
        have := wb (TL.tl ws[i]) (List.mem_map.mpr ⟨_, List.getElem_mem hi, rfl⟩)
        rw [TL.len_tl]
        rw [List.length_nil] at this
        omega
      generalize ws[i] = wd at *
      refine ⟨_, rfl, wd, rfl, lw, fun t H4 s4 et => ⟨t, _, rfl, .inl (.inl et), rfl, _, _, rfl, _, _, rfl, rfl, ?_⟩⟩
      rw [readWs_cons] at rd
      have s34 := s3.trans s4
      have kbad : readWs p (ws.map TL.tl) (List.replicate 25 0) = none → ExF H E (C 2) "BadText" "at" (.int 0) := fun z => kb (by rw [z])
      cases hr1 : (Xp.readL (TL.tl wd)).1 with
      | none =>
        have e0 : Xp.readL (TL.tl wd) = (none, (Xp.readL (TL.tl wd)).2) := by rw [← hr1]
        rw [e0] at rd
        refine ⟨_, rfl, _, rfl, .inr ⟨p, rfl, _, rfl, iteT (iteT (mkF xT fun d H' a b c => ((kbad rd).same s34) d H' a b c))⟩⟩
      | some r =>
        refine ⟨_, rfl, _, rfl, .inl ⟨(r : Int), p, rfl, _, rfl, ?_⟩⟩
        by_cases hrp : r < p
        · rw [decide_eq_true (show 0 ≤ (r : Int) ∧ (r : Int) < p by omega)]
          refine iteF ⟨_, rfl, rfl, _, rfl, ?_⟩
          cases hr2 : (Xp.readL (TL.tl wd)).2 with
          | none =>
            have e0 : Xp.readL (TL.tl wd) = (some r, none) := by rw [← hr1, ← hr2]
            rw [e0] at rd
            rw [decide_eq_true (show oV none = V.non from rfl)]
            exact iteT (iteT (mkF xT fun d H' a b c => ((kbad rd).same s34) d H' a b c))
          | some a =>
            have e0 : Xp.readL (TL.tl wd) = (some r, some a) := by rw [← hr1, ← hr2]
            rw [e0] at rd
            have rd : readWs p (ws.map TL.tl) (List.replicate 25 0) = if r < p ∧ a < 25 then readWs p ((ws.drop (i + 1)).map TL.tl) (L.set a r) else none := rd
            rw [decide_eq_false (show ¬ oV (some a) = V.non from fun z => nomatch z)]
            refine iteF ⟨_, rfl, (a : Int), 25, rfl, rfl, _, rfl, ?_⟩
            by_cases ha : a < 25
            · rw [decide_eq_false (show ¬ (25 : Int) ≤ (a : Int) by omega)]
              rw [if_pos ⟨hrp, ha⟩] at rd
              have eL4 := s4 _ _ eL
              refine iteF ⟨_, rfl, _, rfl, _, rfl, RL, _, _, a, rfl, rfl, eL4, ixN_nat (by rw [List.length_map]; omega), ?_⟩
              refine ⟨L.set a r, _, _, _, rfl, lcs hRL0 s34, ?_, ?_, ?_, ?_, rd⟩
              · rw [upd_ne (Ne.symm nRW)]
                exact s4 _ _ eW
              · rw [upd_same]
                exact congrArg (fun z => some (HO.lst z)) (List.map_set ..).symm
              · rw [List.length_set, lL]
              · intro z hz
                rcases List.mem_or_eq_of_mem_set hz with hz | rfl
                · exact bL z hz
                · omega
            · rw [decide_eq_true (show (25 : Int) ≤ (a : Int) by omega)]
              rw [if_neg (fun z => ha z.2)] at rd
              refine iteT ?_
              exact mkF xT fun d H' a b c => ((kbad rd).same s34) d H' a b c
        · rw [decide_eq_false (show ¬ (0 ≤ (r : Int) ∧ (r : Int) < p) by omega)]
          have rd2 : readWs p (ws.map TL.tl) (List.replicate 25 0) = none := by
            rw [rd]
            have e0 : Xp.readL (TL.tl wd) = (some r, (Xp.readL (TL.tl wd)).2) := by rw [← hr1]
            rw [e0]
            cases (Xp.readL (TL.tl wd)).2 with
            | none => rfl
            | some a => exact if_neg fun z => hrp z.1
          refine iteT ?_
          refine iteT ?_
          exact mkF xT fun d H' a b c => ((kbad rd2).same s34) d H' a b c
    · rintro σ' H3 ⟨L, x3, x4, x5, rfl, s3, eW, eL, lL, bL, rd⟩
      rw [List.length_map, List.drop_length] at rd
      have rd : readWs p (ws.map TL.tl) (List.replicate 25 0) = some L := rd
      rw [rd] at kg kb
      have kg : ∀ F, (if Xp.textL (trim L) = TL.tl y then some (trim L) else none) = some F → ∀ (v : Addr) (H' : Hp), Same H H' → H' v = some (.tup (F.map V.int)) → Q (.ref v) H' := kg
      have kb : (if Xp.textL (trim L) = TL.tl y then some (trim L) else none) = none → ExF H E (C 2) "BadText" "at" (.int 0) := kb
      refine ⟨_, rfl, RL, L, rfl, SqL.of eL, by omega, fun v H4 s4 nv ev => ?_⟩
      have s34 := s3.trans s4
      have ltl := trim_length L
      refine ⟨_, rfl, v, trim L, rfl, SqT.of ev, by omega, fun r hr => ?_, trim_trim L, fun t H5 s5 et => ⟨_, rfl, rfl, _, rfl, ?_⟩⟩
      · have := bL r (trim_mem hr)
        omega
      · by_cases g : t = y
        · rw [decide_eq_true (by rw [g])]
          have g2 : Xp.textL (trim L) = TL.tl y := by rw [← et, g]
          rw [if_pos g2] at kg
          exact iteF ⟨_, rfl, kg _ rfl v H5 (s34.trans s5) (s5 _ _ ev)⟩
        · rw [decide_eq_false (fun z => g (V.str.inj z))]
          have g2 : ¬ Xp.textL (trim L) = TL.tl y := fun z => g (TL.ext_tl (et.trans z))
          rw [if_neg g2] at kb
          exact iteT (mkF xT fun d H' a b c => ((kb rfl).same (s34.trans s5)) d H' a b c)
end
end Xk
end
section
set_option Elab.async false
set_option linter.all false
set_option maxRecDepth 100000
set_option maxHeartbeats 4000000
namespace Xk
open PySem PySem.Spec PyProof.Rows L2 Xh LamX NdefX
/-! ### the law's own texts -/
theorem dp_strs : ∀ {K : PySem.W.Frag} {H : Hp} (ys : List Str), DpAll K H (ys.map V.str) (ys.map PyData.str)
  | _, _, [] => .nil
  | _, _, _ :: ys => .cons (.str _) (dp_strs ys)
theorem strOk_of {y : Str} (h : ∀ c ∈ TL.tl y, c < 128) : PyData.strOk y = true := by
  unfold PyData.strOk
  rw [← Array.all_toList]
  exact List.all_eq_true.mpr fun c hc => decide_eq_true (Nat.lt_of_lt_of_le (h c hc) (by decide))
theorem sh_strs {ys : List Str} (h : ∀ y ∈ ys, ∀ c ∈ TL.tl y, c < 128) : SeqAt.shaped (PyData.list (ys.map PyData.str)) = true := by
  have h1 : PyData.canLayAll0 (ys.map PyData.str) = true := by
    induction ys with
    | nil => rfl
    | cons y ys ih =>
      have i2 := ih fun z hz => h z (List.mem_cons_of_mem _ hz)
      have i3 := strOk_of (h y List.mem_cons_self)
      simp [PyData.canLayAll0, PyData.canLay0, PySem.W.ke_canLayAll0, i2, i3]
  have h2 : PyData.depthAll (ys.map PyData.str) = 0 := by
    clear h h1
    induction ys with
    | nil => rfl
    | cons y ys ih => simp [PyData.depthAll, PyData.depth, PySem.W.ke_depthAll, ih]
  unfold SeqAt.shaped
  rw [Bool.and_eq_true]
  refine ⟨?_, decide_eq_true ?_⟩
  · simpa [PyData.canLay0] using h1
  · simp only [PyData.depth, h2]
    omega
theorem term_ascii {r a c : Nat} (h : c ∈ Xp.termL r a) : c < 128 := by
  unfold Xp.termL at h
  have dg : ∀ n, c ∈ TL.numL n → c < 128 := fun n hn => by
    have := TL.numL_digits n c hn
    omega
  by_cases ha : a = 0
  · rw [if_pos ha] at h
    exact dg _ h
  · rw [if_neg ha] at h
    rcases List.mem_append.mp h with h | h
    · by_cases e : r = 1
      · rw [if_pos e] at h
        cases h
      · rw [if_neg e] at h
        exact dg _ h
    · rcases List.mem_cons.mp h with rfl | h
      · decide
      · by_cases e : a = 1
        · rw [if_pos e] at h
          cases h
        · rw [if_neg e] at h
          rcases List.mem_cons.mp h with rfl | h
          · decide
          · exact dg _ h
theorem eqv_nilS (ys : List Str) : PyData.eqv (.list (ys.map PyData.str)) (.list []) = decide (ys = []) := by
  cases ys with
  | nil => rfl
  | cons y ys => simp [PyData.eqv, PyData.eqvAll]
theorem joinL_len (S : List Nat) (m : Nat) : ∀ ps : List (List Nat), (∀ p ∈ ps, p.length ≤ m) → (TL.joinL S ps).length ≤ (m + S.length) * ps.length
  | [], _ => Nat.zero_le _
  | [p], h => by
    have := h p List.mem_cons_self
    show p.length ≤ (m + S.length) * 1
    omega
  | p :: q :: r, h => by
    have ih := joinL_len S m (q :: r) fun z hz => h z (List.mem_cons_of_mem _ hz)
    have h1 := h p List.mem_cons_self
    show (p ++ (S ++ TL.joinL S (q :: r))).length ≤ (m + S.length) * ((q :: r).length + 1)
    rw [List.length_append, List.length_append, Nat.mul_succ]
    omega
def spLText (K : PySem.W.Frag) : Sp := fun vs H Q _ => ∃ (a : Addr) (F : List Int), vs = [.ref a] ∧ SqT K H a (F.map V.int) ∧ F.length ≤ 26 ∧ (∀ r ∈ F, 0 ≤ r ∧ r < 1000) ∧ ∀ (y : Str) (H' : Hp), Same H H' → TL.tl y = Xp.textL F → y.length ≤ 11 * F.length + 1 → Q (.str y) H'
section
variable {P : Program} {w : World} {K : PySem.W.Frag} {mg : Str → Option Value} {base : Heap}
theorem sc_law_poly_text : FnScope (["_law_one", "_law_found", "_law_at", "_law_rest", "_law_word"] : List Str) ["_law_one"] (defScope s_law_poly_text) := ⟨rfl, rfl, rfl, by decide +kernel, rfl, by decide +kernel, by decide +kernel⟩
theorem ok_law_poly_text {f : Addr} {fd : FuncData} (F : FunD K "_law_poly_text" "_law_poly_text" (defArgs s_law_poly_text) (defBody s_law_poly_text) (defScope s_law_poly_text) [] [] f fd) (T : Fre mg) : FnOk P w K mg base CX0 1 f fd ["_law_one"] (spLText K) := by
  refine F.ok sc_law_poly_text (fun vs H Q E h => ?_) (fun cdv A outer s H vs Q E hr h => ?_)
  · obtain ⟨a, F, rfl, _⟩ := h
    rfl
  · obtain ⟨a, F, rfl, hS, l25, hb, k⟩ := h
    refine ⟨_, PSs.nox (pss_cons (ps_set (i := 1) sc_law_poly_text.nd rfl (Or.inl rfl) (pe_lst pa_nil))
      (pss_cons (ps_for PassesOwn.never rfl (pi_enT (by rfl) T.f_enumerate (pa_cons (pv 0) pa_nil)) (pg_tup rfl (pgs_cons (pg_name (i := 2) sc_law_poly_text.nd rfl (Or.inl rfl)) (pgs_cons (pg_name (i := 3) sc_law_poly_text.nd rfl (Or.inl rfl)) pgs_nil))) (C8.pss_cut (ps_set (i := 4) sc_law_poly_text.nd rfl (Or.inl rfl) (pe_ifExp (pt_cmpR op_eq (pv 2) pe_int (nomark _)) pe_str (pe_ifExp (pt_cmpR op_eq (pv 2) pe_int (nomark _)) pe_str (pe_op op_add_str pe_str (pe_callTy call_str_int (by rfl) T.f_str (by decide +kernel) (pa_cons (pv 2) pa_nil))))))
      (pss_one (ps_if (pt_cmpR op_ne (pv 3) pe_int (nomark _)) (pss_one (ps_expr (pe_bm PySem.F.plainAttrs_list PySem.F.slot_list_append PySem.F.type_list_append mt_append (pv 1) (pa_cons (pe_ifExp (PW.pt (pw_and (pt_cmpR op_eq (pv 3) pe_int (nomark _)) (pw_and1 (pt_cmpR op_gt (pv 2) pe_int (nomark _))))) (pv 4) (pe_op op_add_str (pe_callTy call_str_int (by rfl) T.f_str (by decide +kernel) (pa_cons (pv 3) pa_nil)) (pv 4))) pa_nil)))) pss_nil))))
      (pss_one (ps_ret (pe_ifExp (pt_cmpR (op_neD hr.units) (pv 1) (pe_lst pa_nil) (nomark _)) (pe_join pe_str (pv 1)) pe_str))))) , ?_⟩
    refine ⟨(by show 0 ≤ sizeLine; decide), fun L hL => ?_⟩
    refine ⟨_, rfl, a, _, rfl, sameT (same_upd hL) hS, ?_⟩
    refine for_it (walk_enT (xs := F.map V.int)) (fun i σ' H' => ∃ (ys : List Str) (x2 x3 x4 : Option V), σ' = [some (.ref a), some (.ref L), x2, x3, x4] ∧ Same H H' ∧ H' L = some (.lst (ys.map V.str)) ∧ ys.map TL.tl = (Xp.pairsF 0 (F.take i)).map fun q => Xp.termL q.2.toNat q.1) ⟨[], none, none, none, rfl, same_upd hL, upd_same, rfl⟩ (fun i σ' H' _ ⟨_, _, _, _, _, s, _⟩ => sameT s hS) ?_ ?_
    · rintro i x σ' H2 H3 hi ⟨ys, x2, x3, x4, rfl, s2, e2, et⟩ ⟨Tq, u, v, rfl, hTq, rfl, e1, e4⟩
      cases e1
      rw [List.length_map] at hi
      have e4 : (F.map V.int)[i]? = some v := e4
      rw [List.getElem?_map, List.getElem?_eq_getElem hi] at e4
      cases e4
      have hr2 := hb F[i] (List.getElem_mem hi)
      obtain ⟨r, er⟩ := Int.eq_ofNat_of_zero_le hr2.1
      have sT := same_upd (o := .tup [.int (i : Nat), .int F[i]]) hTq
      have lp := congrArg List.length et
      rw [List.length_map, List.length_map] at lp
      have lq := Xp.pairsF_len (F.take i) 0
      rw [List.length_take] at lq
      have etk : F.take (i + 1) = F.take i ++ [F[i]] := by rw [List.take_succ, List.getElem?_eq_getElem hi]; rfl
      have ltk : (F.take i).length = i := by rw [List.length_take]; omega
      have e3 := sT _ _ e2
      refine ⟨Tq, _, rfl, .inl (.inl upd_same), rfl, _, _, rfl, _, _, rfl, rfl, ?_⟩
      rw [er] at sT e3 ⊢
      refine ⟨fun σ' H' => ∃ wd : Str, σ' = [some (.ref a), some (.ref L), some (.int (i : Nat)), some (.int (r : Nat)), some (.str wd)] ∧ TL.tl wd = (if i = 0 then [] else 120 :: (if i = 1 then [] else 94 :: TL.numL i)) ∧ H' = L2.upd H2 Tq (.tup [.int (i : Nat), .int (r : Nat)]), ?_, ?_⟩
      · refine ⟨_, rfl, rfl, _, rfl, ?_⟩
        rw [show (0 : Int) = ((0 : Nat) : Int) from rfl, int_eqN]
        by_cases i0 : i = 0
        · rw [decide_eq_true i0, if_pos i0]
          exact iteT ⟨_, rfl, rfl, rfl⟩
        · rw [decide_eq_false i0, if_neg i0]
          refine iteF ⟨_, rfl, rfl, _, rfl, ?_⟩
          rw [show (1 : Int) = ((1 : Nat) : Int) from rfl, int_eqN]
          by_cases i1 : i = 1
          · rw [decide_eq_true i1, if_pos i1]
            exact iteT ⟨_, rfl, rfl, rfl⟩
          · rw [decide_eq_false i1, if_neg i1]
            have li := num_len (n := i) (by omega)
            refine iteF ⟨_, rfl, _, rfl, log_small (by omega), _, _, rfl, rfl, line8 (by
              show 2 + _ ≤ 10000
              rw [TL.len_tl, TL.tl_num]
              omega), _, rfl, ?_, rfl⟩
            rw [TL.tl_append, TL.tl_num]
            rfl
      rintro σ' H' ⟨wd, rfl, ewd, rfl⟩
      have lwd : wd.length ≤ 5 := by
        rw [TL.len_tl, ewd]
        by_cases i0 : i = 0
        · rw [if_pos i0]; exact Nat.zero_le _
        · rw [if_neg i0, List.length_cons]
          by_cases i1 : i = 1
          · rw [if_pos i1]; exact Nat.le_of_lt (by decide)
          · rw [if_neg i1, List.length_cons]
            have := num_len (n := i) (by omega)
            omega
      refine ⟨_, rfl, rfl, _, rfl, ?_⟩
      rw [show (0 : Int) = ((0 : Nat) : Int) from rfl, int_eqN]
      by_cases r0 : r = 0
      · rw [decide_eq_true r0]
        refine iteF ⟨ys, _, _, _, rfl, s2.trans sT, e3, ?_⟩
        rw [etk, Xp.pairsF_snoc, if_pos (by rw [er, r0]; rfl), List.append_nil]
        exact et
      · rw [decide_eq_false r0]
        have fin : ∀ z : Str, TL.tl z = Xp.termL r i → ((ys ++ [z]).map TL.tl = (Xp.pairsF 0 (F.take (i + 1))).map fun q => Xp.termL q.2.toNat q.1) := fun z ez => by
          rw [etk, Xp.pairsF_snoc, if_neg (by rw [er]; omega), List.map_append, List.map_append, et, ltk, er, Nat.zero_add]
          show _ ++ [TL.tl z] = _ ++ [Xp.termL r i]
          rw [ez]
        have lyy : (ys.map V.str).length < sizeLine := by
          rw [List.length_map]
          exact small1000 (by omega)
        refine iteT ⟨_, rfl, .inl ⟨rfl, _, SqL.of e3⟩, _, rfl, rfl, _, rfl, ?_⟩
        rw [show (1 : Int) = ((1 : Nat) : Int) from rfl, int_eqN]
        have lsum : (Str.ofString (toString ((r : Nat) : Int))).length + wd.length ≤ sizeLine := line8 (by
          rw [TL.len_tl, TL.tl_num]
          have := num_len (n := r) (by omega)
          omega)
        have tz : ∀ (h : ¬ (r = 1 ∧ i ≠ 0)), TL.tl (Str.ofString (toString ((r : Nat) : Int)) ++ wd) = Xp.termL r i := fun h => by
          rw [TL.tl_append, TL.tl_num, ewd]
          unfold Xp.termL
          by_cases i0 : i = 0
          · rw [if_pos i0, if_pos i0, List.append_nil]
          · rw [if_neg i0, if_neg i0, if_neg (fun z => h ⟨z, i0⟩)]
        by_cases r1 : r = 1
        · rw [decide_eq_true r1]
          refine iteT ⟨_, rfl, (i : Int), 0, rfl, rfl, _, rfl, ?_⟩
          by_cases i0 : i = 0
          · rw [decide_eq_false (show ¬ (0 : Int) < (i : Int) by omega)]
            exact iteF ⟨_, rfl, _, rfl, log_small (by omega), _, rfl, _, _, rfl, rfl, lsum, L, _, _, rfl, rfl, e3, lyy, ys ++ [_], _, _, _, rfl, lcs hL (s2.trans sT), by rw [upd_same, List.map_append]; rfl, fin _ (tz fun z => z.2 i0)⟩
          · rw [decide_eq_true (show (0 : Int) < (i : Int) by omega)]
            have tw : TL.tl wd = Xp.termL r i := by
              rw [ewd]
              unfold Xp.termL
              rw [if_neg i0, if_neg i0, if_pos r1]
              rfl
            exact iteT ⟨_, rfl, L, _, _, rfl, rfl, e3, lyy, ys ++ [wd], _, _, _, rfl, lcs hL (s2.trans sT), by rw [upd_same, List.map_append]; rfl, fin wd tw⟩
        · rw [decide_eq_false r1]
          refine iteF ?_
          exact iteF ⟨_, rfl, _, rfl, log_small (by omega), _, rfl, _, _, rfl, rfl, lsum, L, _, _, rfl, rfl, e3, lyy, ys ++ [_], _, _, _, rfl, lcs hL (s2.trans sT), by rw [upd_same, List.map_append]; rfl, fin _ (tz fun z => r1 z.1)⟩
    · rintro σ' H2 ⟨ys, x2, x3, x4, rfl, s2, e2, et⟩
      rw [List.length_map, List.take_length] at et
      have et : ys.map TL.tl = Xp.wordsL F := et
      have lyl : ys.length = (Xp.pairsF 0 F).length := by
        have := congrArg List.length et
        rw [List.length_map] at this
        rw [this]
        unfold Xp.wordsL
        rw [List.length_map]
      have ly : ys.length ≤ 26 := by
        have := Xp.pairsF_len F 0
        omega
      have lw8 : ∀ p ∈ Xp.wordsL F, p.length ≤ 8 := fun p hp => by
        obtain ⟨q, hq, rfl⟩ := List.mem_map.mp hp
        obtain ⟨h1, h2, h3, h4⟩ := Xp.pairs_mem F 0 q hq
        have := hb q.2 (List.mem_of_getElem? h4)
        exact term_len (by omega) (by omega)
      have l8 : ∀ y ∈ ys, y.length ≤ 8 := fun y hy => by
        rw [TL.len_tl]
        exact lw8 _ (by rw [← et]; exact List.mem_map.mpr ⟨y, hy, rfl⟩)
      have asc : ∀ y ∈ ys, ∀ c ∈ TL.tl y, c < 128 := fun y hy c hc => by
        have : TL.tl y ∈ Xp.wordsL F := by rw [← et]; exact List.mem_map.mpr ⟨y, hy, rfl⟩
        obtain ⟨q, _, e⟩ := List.mem_map.mp this
        exact term_ascii (e ▸ hc)
      have sl := sum_len ys 8 l8
      refine ⟨_, rfl, (by show 0 ≤ sizeLine; decide), fun Z hZ => ?_⟩
      have sZ := same_upd (o := .lst []) hZ
      refine ⟨_, _, .lst (SqL.of (sZ _ _ e2)) (dp_strs ys), .lst (SqL.of (xs := []) upd_same) .nil, sh_strs asc, by decide +kernel, _, rfl, ?_⟩
      rw [eqv_nilS]
      by_cases y0 : ys = []
      · rw [decide_eq_true y0]
        refine iteF (k _ _ (s2.trans sZ) ?_ (by show 1 ≤ 11 * F.length + 1; omega))
        unfold Xp.textL
        rw [if_pos (by
          rw [y0] at lyl
          exact List.length_eq_zero_iff.mp lyl.symm)]
        rfl
      · rw [decide_eq_false y0]
        have tj : TL.tl (Txt.join " + " ys) = Xp.textL F := by
          rw [TL.join_eq, TL.tl_join, et]
          unfold Xp.textL
          rw [if_neg (fun z => y0 (List.length_eq_zero_iff.mp (by rw [lyl, z]; rfl)))]
          rfl
        refine iteT ⟨⟨_, rfl⟩, _, rfl, _, L, ys, rfl, rfl, .inl (SqL.of (sZ _ _ e2)), ?_, k _ _ (s2.trans sZ) tj ?_⟩
        · show _ + ys.length * 3 ≤ 16777216
          omega
        · rw [TL.len_tl, tj]
          unfold Xp.textL
          have hn : Xp.pairsF 0 F ≠ [] := fun z => y0 (List.length_eq_zero_iff.mp (by rw [lyl, z]; rfl))
          rw [if_neg hn]
          have := joinL_len Xp.sepL 8 (Xp.wordsL F) lw8
          have h3 : Xp.sepL.length = 3 := rfl
          have h4 : (Xp.wordsL F).length = ys.length := by rw [← et, List.length_map]
          rw [h3, h4, lyl] at this
          have h5 := Xp.pairsF_len F 0
          omega
end
end Xk
end
section
set_option Elab.async false
set_option linter.all false
set_option maxRecDepth 100000
set_option maxHeartbeats 4000000
namespace Xk
open PySem PySem.Spec PyProof.Rows L2 Xh LamX NdefX
/-! ### pairs and terms -/
theorem kpL {H : Hp} {X : Addr} {o : HO} {us : List V} (e : H X = some (.lst us)) : ∀ a ts, H a = some (.tup ts) → L2.upd H X o a = some (.tup ts) := fun a ts h => by
  rw [upd_ne (fun z => by
    rw [z, e] at h
    cases h)]
  exact h
/-- rows of numbers at the heap -/
def Rws (H : Hp) : List Addr → List (List Int) → Prop
  | [], [] => True
  | l :: ls, r :: rs => H l = some (.tup (r.map V.int)) ∧ Rws H ls rs
  | _, _ => False
theorem Rws.len {H : Hp} : ∀ {ls : List Addr} {rs : List (List Int)}, Rws H ls rs → ls.length = rs.length
  | [], [], _ => rfl
  | _ :: _, _ :: _, h => by rw [List.length_cons, List.length_cons, Rws.len h.2]
theorem Rws.keep {H H' : Hp} (k : ∀ a xs, H a = some (.tup xs) → H' a = some (.tup xs)) : ∀ {ls : List Addr} {rs : List (List Int)}, Rws H ls rs → Rws H' ls rs
  | [], [], _ => trivial
  | _ :: _, _ :: _, h => ⟨k _ _ h.1, Rws.keep k h.2⟩
theorem Rws.snoc {H : Hp} {l : Addr} {r : List Int} (e : H l = some (.tup (r.map V.int))) : ∀ {ls : List Addr} {rs : List (List Int)}, Rws H ls rs → Rws H (ls ++ [l]) (rs ++ [r])
  | [], [], _ => ⟨e, trivial⟩
  | _ :: _, _ :: _, h => ⟨h.1, Rws.snoc e h.2⟩
theorem Rws.at {H : Hp} : ∀ {ls : List Addr} {rs : List (List Int)}, Rws H ls rs → ∀ {i : Nat} {x : V}, (ls.map V.ref)[i]? = some x → ∃ (l : Addr) (r : List Int), x = .ref l ∧ rs[i]? = some r ∧ H l = some (.tup (r.map V.int))
  | [], [], _, i, x, hx => by cases hx
  | l :: ls, r :: rs, h, 0, x, hx => by
    cases hx
    exact ⟨l, r, rfl, rfl, h.1⟩
  | l :: ls, r :: rs, h, i + 1, x, hx => by
    obtain ⟨l', r', a, b, c⟩ := Rws.at h.2 (i := i) (x := x) hx
    exact ⟨l', r', a, b, c⟩
theorem kpS {H H' : Hp} (s : Same H H') : ∀ a (xs : List V), H a = some (.tup xs) → H' a = some (.tup xs) := fun _ _ e => s _ _ e
theorem Rws.app {H : Hp} {ls' : List Addr} {rs' : List (List Int)} (g : Rws H ls' rs') : ∀ {ls : List Addr} {rs : List (List Int)}, Rws H ls rs → Rws H (ls ++ ls') (rs ++ rs')
  | [], [], _ => g
  | _ :: _, _ :: _, h => ⟨h.1, Rws.app g h.2⟩
  | [], _ :: _, h => h.elim
  | _ :: _, [], h => h.elim
theorem rep_any (c : Int) : ∀ k : Nat, (List.replicate k [V.int c]).flatten = (List.replicate k c).map V.int
  | 0 => rfl
  | k + 1 => by
    rw [List.replicate_succ, List.flatten_cons, rep_any c k, List.replicate_succ]
    rfl
theorem repC {K : PySem.W.Frag} {H : Hp} {Z : Addr} {c k : Int} {Q : VK} (hZ : H Z = some (.tup [.int c])) (h1 : -1000 ≤ k) (h2 : k ≤ 1000) (f : ∀ (r : Addr) (H' : Hp), Same H H' → H' r = some (.tup ((List.replicate k.toNat c).map V.int)) → Q (.ref r) H') : rRepZ K (.ref Z) (.int k) H Q :=
  ⟨Z, k, [.int c], rfl, rfl, SqT.of hZ, by simp, h1, h2, (by show 1 ≤ 1000; decide), fun e => f Z H (fun _ _ z => z) (by subst e; exact hZ), fun _ p hp => f p _ (same_upd hp) (by rw [upd_same, rep_any])⟩
theorem catR {K : PySem.W.Frag} {H : Hp} {a b : Addr} {xs ys : List V} {Q : VK} (ha : H a = some (.tup xs)) (hb : H b = some (.tup ys)) (l : xs.length + ys.length ≤ 200) (k : ∀ r H', Same H H' → H' r = some (.tup (xs ++ ys)) → Q (.ref r) H') : rCatA K (.ref a) (.ref b) H Q := by
  refine ⟨a, b, _, _, rfl, rfl, SqT.of ha, SqT.of hb, Nat.le_trans l (by decide), fun e => ?_, fun _ e => ?_, fun _ _ p hp => k p _ (same_upd hp) upd_same⟩
  · subst e
    exact k b H (fun _ _ z => z) hb
  · subst e
    refine k a H (fun _ _ z => z) ?_
    rw [List.append_nil]
    exact ha

theorem sameL {K : PySem.W.Frag} {H H' : Hp} {a : Addr} {xs : List V} (e : Same H H') (h : SqL K H a xs) : SqL K H' a xs := by
  rcases h with (h | ⟨o, h⟩) | h
  · exact .inl (.inl (e _ _ h))
  · exact .inl (.inr ⟨o, e _ _ h⟩)
  · exact .inr h
def pairsR (rows : List Int) (m : Nat) : List (List Int) := rows.flatMap fun r => (List.range m).map fun a : Nat => [r, (a : Int)]
theorem pairsR_snoc (rows : List Int) (m : Nat) (r : Int) : pairsR (rows ++ [r]) m = pairsR rows m ++ (List.range m).map fun a : Nat => [r, (a : Int)] := by
  unfold pairsR
  rw [List.flatMap_append]
  simp
theorem pairsR_len (rows : List Int) (m : Nat) : (pairsR rows m).length = rows.length * m := by
  unfold pairsR
  induction rows with
  | nil => simp
  | cons r rows ih =>
    rw [List.flatMap_cons, List.length_append, ih, List.length_map, List.length_range, List.length_cons, Nat.succ_mul]
    omega
theorem pairsR_mem {rows : List Int} {m : Nat} {q : List Int} : q ∈ pairsR rows m ↔ ∃ r ∈ rows, ∃ a : Nat, a < m ∧ q = [r, (a : Int)] := by
  unfold pairsR
  rw [List.mem_flatMap]
  constructor
  · rintro ⟨r, hr, h⟩
    obtain ⟨a, ha, rfl⟩ := List.mem_map.mp h
    exact ⟨r, hr, a, List.mem_range.mp ha, rfl⟩
  · rintro ⟨r, hr, a, ha, rfl⟩
    exact ⟨r, hr, List.mem_map.mpr ⟨a, List.mem_range.mpr ha, rfl⟩⟩
theorem line4 {n : Nat} (h : n ≤ 10000) : n < sizeLine := Nat.lt_of_le_of_lt h (by decide)
def spPairs (K : PySem.W.Frag) : Sp := fun vs H Q _ => ∃ (a : Addr) (rows : List Int) (m : Nat), vs = [.ref a, .int m] ∧ SqL K H a (rows.map V.int) ∧ rows.length ≤ 100 ∧ m ≤ 25 ∧ ∀ (D : Addr) (la : List Addr) (H' : Hp), Same H H' → H' D = some (.lst (la.map V.ref)) → Rws H' la (pairsR rows m) → Q (.ref D) H'
def spLTerm : Sp := fun vs H Q _ => ∃ r a : Nat, vs = [.int r, .int a] ∧ 1 ≤ r ∧ r < 1000 ∧ a ≤ 25 ∧ ∀ (y : Str) (H' : Hp), Same H H' → TL.tl y = Xp.termL r a → Q (.str y) H'
theorem text_term {r a : Nat} (h : 1 ≤ r) : Xp.textL (List.replicate a 0 ++ [(r : Int)]) = Xp.termL r a := by
  have e : ∀ a, Xp.pairsF 0 (List.replicate a (0 : Int)) = [] := fun a => by
    cases e : Xp.pairsF 0 (List.replicate a (0 : Int)) with
    | nil => rfl
    | cons q l =>
      obtain ⟨h1, h2, h3, h4⟩ := Xp.pairs_mem (List.replicate a 0) 0 q (by rw [e]; exact List.mem_cons_self)
      exact absurd (List.mem_replicate.mp (List.mem_of_getElem? h4)).2 h3
  have e2 : Xp.pairsF 0 (List.replicate a 0 ++ [(r : Int)]) = [(a, (r : Int))] := by
    rw [Xp.pairsF_snoc, e, if_neg (by omega), List.length_replicate, Nat.zero_add]
    rfl
  unfold Xp.textL Xp.wordsL
  rw [e2]
  rfl
section
variable {P : Program} {w : World} {K : PySem.W.Frag} {mg : Str → Option Value} {base : Heap}
theorem sc_law_pairs : FnScope (["_law_rows", "_law_p", "_law_found", "_law_row", "_law_rest"] : List Str) ["_law_rows", "_law_p"] (defScope s_law_pairs) := ⟨rfl, rfl, rfl, by decide +kernel, rfl, by decide +kernel, by decide +kernel⟩
theorem ok_law_pairs {f : Addr} {fd : FuncData} (F : FunD K "_law_pairs" "_law_pairs" (defArgs s_law_pairs) (defBody s_law_pairs) (defScope s_law_pairs) [] [] f fd) (T : Fre mg) : FnOk P w K mg base CX0 1 f fd ["_law_rows", "_law_p"] (spPairs K) := by
  refine F.ok sc_law_pairs (fun vs H Q E h => ?_) (fun cdv A outer s H vs Q E hr h => ?_)
  · obtain ⟨a, rows, m, rfl, _⟩ := h
    rfl
  · obtain ⟨a, rows, m, rfl, hS, l100, m25, k⟩ := h
    refine ⟨_, PSs.nox (pss_cons (ps_set (i := 2) sc_law_pairs.nd rfl (Or.inl rfl) (pe_lst pa_nil))
      (pss_cons (ps_for PassesOwn.never rfl (pi_list (pv 0)) (pg_name (i := 3) sc_law_pairs.nd rfl (Or.inr rfl)) (pss_one (ps_set (i := 2) sc_law_pairs.nd rfl (Or.inl rfl) (pe_op op_cat (pv 2) (pe_lc (own := [("_law_rest", 4)]) rfl sc_law_pairs.nd (pi_range1 (by rfl) T.f_range (pa_cons (pv 1) pa_nil)) (blkOk_by (own := [("_law_rest", 4)]) (N := ["_law_rows", "_law_p", "_law_found", "_law_row", "_law_rest"]) (sc := defScope s_law_pairs) (by decide +kernel)) (fun _ _ _ _ _ => pg_name (i := 4) sc_law_pairs.nd rfl (Or.inl rfl) (Or.inr rfl)) (fun _ _ _ _ _ => pts_nil) (fun _ _ _ _ _ => (pe_tup (pa_cons (pv 3) (pa_cons (pv 4) pa_nil)))))))))
      (pss_one (ps_ret (pv 2))))) , ?_⟩
    refine ⟨(by show 0 ≤ sizeLine; decide), fun L hL => ?_⟩
    have sL := same_upd (o := .lst []) hL
    refine ⟨_, rfl, a, rfl, ⟨_, sameL sL hS⟩, ?_⟩
    refine for_it (walk_list (xs := rows.map V.int)) (fun i σ' H' => ∃ (fa : Addr) (la : List Addr) (x3 x4 : Option V), σ' = [some (.ref a), some (.int m), some (.ref fa), x3, x4] ∧ Same H H' ∧ H' fa = some (.lst (la.map V.ref)) ∧ Rws H' la (pairsR (rows.take i) m)) ⟨L, [], none, none, rfl, sL, upd_same, trivial⟩ (fun i σ' H' _ ⟨_, _, _, _, _, s, _⟩ => sameL s hS) ?_ ?_
    · rintro i x σ' H2 H3 hi ⟨fa, la, x3, x4, rfl, s2, e2, r2⟩ ⟨rfl, hx⟩
      rw [List.length_map] at hi
      rw [List.getElem?_map, List.getElem?_eq_getElem hi] at hx
      cases hx
      have etk : rows.take (i + 1) = rows.take i ++ [rows[i]] := by rw [List.take_succ, List.getElem?_eq_getElem hi]; rfl
      refine ⟨_, rfl, _, rfl, (m : Int), rfl, by omega, by omega, fun FL hFL => ?_⟩
      rw [Int.toNat_natCast]
      refine lc_range (lo := 0) (n := m) (fun j H' => ∃ lb : List Addr, Same H3 H' ∧ H' FL = some (.lst (lb.map V.ref)) ∧ Rws H' lb ((List.range j).map fun a : Nat => [rows[i], (a : Int)])) ⟨[], same_upd hFL, upd_same, trivial⟩ ?_ ?_
      · rintro j H4 hj ⟨lb, s4, e4, r4⟩
        have lbl := r4.len
        rw [List.length_map, List.length_range] at lbl
        refine ⟨rfl, _, rfl, _, rfl, (by show 2 ≤ sizeLine; decide), fun t ht => ?_⟩
        have st := same_upd (o := .tup [.int rows[i], .int (0 + (j : Int))]) ht
        have e5 := st _ _ e4
        refine ⟨_, e5, ?_, lb ++ [t], lcs hFL (s4.trans st), by rw [upd_same, List.map_append]; rfl, ?_⟩
        · rw [List.length_map]
          exact line4 (by omega)
        · rw [List.range_succ, List.map_append]
          refine (Rws.snoc (r := [rows[i], (j : Int)]) ?_ (r4.keep (kpS st))).keep (kpL e5)
          rw [upd_same, Int.zero_add]
          rfl
      · rintro H4 ⟨lb, s4, e4, r4⟩
        have lla := r2.len
        have llb := r4.len
        rw [pairsR_len] at lla
        rw [List.length_map, List.length_range] at llb
        have ltk : (rows.take i).length ≤ 100 := by rw [List.length_take]; omega
        have lm : (rows.take i).length * m ≤ 100 * 25 := Nat.mul_le_mul ltk m25
        refine ⟨fa, FL, _, _, rfl, rfl, s4 _ _ e2, e4, (by rw [List.length_map, List.length_map]; exact Nat.le_of_lt (line4 (by omega))), fun p hp => ?_⟩
        have sp := same_upd (o := .lst (la.map V.ref ++ lb.map V.ref)) hp
        have sE := s4.trans sp
        refine ⟨p, la ++ lb, _, _, rfl, s2.trans sE, by rw [upd_same, List.map_append], ?_⟩
        rw [etk, pairsR_snoc]
        exact Rws.app (r4.keep (kpS sp)) (r2.keep (kpS sE))
    · rintro σ' H2 ⟨fa, la, x3, x4, rfl, s2, e2, r2⟩
      rw [List.length_map, List.take_length] at r2
      exact ⟨_, rfl, k fa la H2 s2 e2 r2⟩
theorem sc_law_term : FnScope (["_law_rest", "_law_at"] : List Str) ["_law_rest", "_law_at"] (defScope s_law_term) := ⟨rfl, rfl, rfl, by decide +kernel, rfl, by decide +kernel, by decide +kernel⟩
theorem ok_law_term {f : Addr} {fd : FuncData} (F : FunD K "_law_term" "_law_term" (defArgs s_law_term) (defBody s_law_term) (defScope s_law_term) [] [] f fd) (o_law_poly_text : Own P w K mg base CX0 1 "_law_poly_text" ["_law_one"] [] (spLText K)) : FnOk P w K mg base CX0 2 f fd ["_law_rest", "_law_at"] spLTerm := by
  refine F.ok sc_law_term (fun vs H Q E h => ?_) (fun cdv A outer s H vs Q E hr h => ?_)
  · obtain ⟨r, a, rfl, _⟩ := h
    rfl
  · obtain ⟨r, a, rfl, h1, h2, h3, k⟩ := h
    refine ⟨_, PSs.nox (pss_one (ps_ret (pe_own o_law_poly_text (hr.mono (by decide)) rfl pass0 (pa_cons (pe_op op_catA (pe_op op_repZ (pe_tup (pa_cons pe_int pa_nil)) (pv 1)) (pe_tup (pa_cons (pv 0) pa_nil))) pa_nil)))) , ?_⟩
    refine ⟨(by show 1 ≤ sizeLine; decide), fun Z hZ => ⟨_, rfl, repC upd_same (by omega) (by omega) fun u H2 s2 e2 => ⟨_, rfl, (by show 1 ≤ sizeLine; decide), fun W hW => ?_⟩⟩⟩
    rw [Int.toNat_natCast] at e2
    have sZ := same_upd (o := .tup [.int 0]) hZ
    have sW := same_upd (o := .tup [.int (r : Int)]) hW
    refine catR (sW _ _ e2) upd_same (by rw [List.length_map, List.length_replicate, List.length_singleton]; omega) fun t H3 s3 e3 => ?_
    refine ⟨t, List.replicate a 0 ++ [(r : Int)], rfl, SqT.of (by rw [e3, List.map_append]; rfl), by rw [List.length_append, List.length_replicate, List.length_singleton]; omega, fun z hz => ?_, fun y H4 s4 ey _ => k y H4 (((sZ.trans s2).trans sW).trans (s3.trans s4)) (ey.trans (text_term h1))⟩
    rcases List.mem_append.mp hz with hz | hz
    · rw [(List.mem_replicate.mp hz).2]
      omega
    · rw [List.mem_singleton.mp hz]
      omega
end
end Xk
end
section
set_option Elab.async false
set_option linter.all false
set_option maxRecDepth 100000
set_option maxHeartbeats 4000000
namespace Xk
open PySem PySem.Spec PyProof.Rows L2 Xh LamX NdefX
/-! ### the law reads a text -/
theorem dp_rws {K : PySem.W.Frag} {H : Hp} : ∀ {la : List Addr} {rs : List (List Int)}, Rws H la rs → DpAll K H (la.map V.ref) (rs.map fun r => .tuple (r.map PyData.int))
  | [], [], _ => .nil
  | l :: la, r :: rs, h => .cons (dp_tup (SqT.of h.1)) (dp_rws (la := la) (rs := rs) h.2)
  | [], _ :: _, h => h.elim
  | _ :: _, [], h => h.elim
theorem tab_lay : ∀ rs : List (List Int), PyData.canLayAll0 (rs.map fun r => .tuple (r.map PyData.int)) = true
  | [] => rfl
  | r :: rs => by simp [PyData.canLayAll0, PyData.canLay0, PySem.W.ke_canLayAll0, tab_lay rs]
theorem tab_deep : ∀ rs : List (List Int), PyData.depthAll (rs.map fun r => .tuple (r.map PyData.int)) ≤ 1
  | [] => Nat.zero_le _
  | r :: rs => by
    have := tab_deep rs
    simp only [List.map_cons, PyData.depthAll, PyData.depth, PySem.W.ke_depthAll]
    omega
theorem sh_list (rs : List (List Int)) : SeqAt.shaped (.list (rs.map fun r => .tuple (r.map PyData.int))) = true := by
  have := tab_deep rs
  simp [SeqAt.shaped, PyData.canLay0, PyData.depth, tab_lay]
  omega

theorem eqv_nilT (rs : List (List Int)) : PyData.eqv (.list (rs.map fun r => .tuple (r.map PyData.int))) (.list []) = decide (rs = []) := by
  cases rs with
  | nil => rfl
  | cons r rs => simp [PyData.eqv, PyData.eqvAll]
/-- a word as the law knows it -/
def isT (p : Nat) (w : List Nat) : Option (Nat × Nat) := match Xp.readL w with
  | (some r, some a) => if 1 ≤ r ∧ r < p ∧ a < 25 ∧ Xp.termL r a = w then some (r, a) else none
  | _ => none
theorem isT_of {p r a : Nat} (hp : p ≤ 100) (h1 : 1 ≤ r) (h2 : r < p) (h3 : a < 25) : isT p (Xp.termL r a) = some (r, a) := by
  unfold isT
  rw [Xp.read_term h1 (by omega) (by omega)]
  exact if_pos ⟨h1, h2, h3, rfl⟩
theorem isT_some {p : Nat} {w : List Nat} {r a : Nat} (h : isT p w = some (r, a)) : Xp.readL w = (some r, some a) ∧ 1 ≤ r ∧ r < p ∧ a < 25 ∧ Xp.termL r a = w := by
  unfold isT at h
  split at h
  · rename_i r' a' e
    by_cases g : 1 ≤ r' ∧ r' < p ∧ a' < 25 ∧ Xp.termL r' a' = w
    · rw [if_pos g] at h
      cases h
      exact ⟨e, g⟩
    · rw [if_neg g] at h
      cases h
  · cases h
def lawWs (p : Nat) : List (List Nat) → List Int → Option (List Int)
  | [], L => some L
  | w :: ws, L => match isT p w with
    | some (r, a) => lawWs p ws (L.set a r)
    | none => none
theorem lawWs_cons (p : Nat) (w : List Nat) (ws : List (List Nat)) (L : List Int) : lawWs p (w :: ws) L = (match isT p w with
    | some (r, a) => lawWs p ws (L.set a r)
    | none => none) := by
  rw [lawWs]
def lawP (p : Nat) (t : List Nat) : Option (List Int) := match lawWs p (TL.spl Xp.sepL 0 [] t) (List.replicate 25 0) with
  | some L => if Xp.textL (trim L) = t then some (trim L) else none
  | none => none
theorem lawWs_read {p : Nat} : ∀ (ws : List (List Nat)) (L L' : List Int), lawWs p ws L = some L' → readWs p ws L = some L'
  | [], L, L', h => h
  | w :: ws, L, L', h => by
    rw [lawWs_cons] at h
    rw [readWs_cons]
    cases e : isT p w with
    | none =>
      rw [e] at h
      cases h
    | some q =>
      obtain ⟨r, a⟩ := q
      rw [e] at h
      obtain ⟨e1, e2, e3, e4, _⟩ := isT_some e
      rw [e1]
      show (if r < p ∧ a < 25 then readWs p ws (L.set a r) else none) = _
      rw [if_pos ⟨e3, e4⟩]
      exact lawWs_read ws _ L' h
theorem lawWs_pairs {p : Nat} (hp : p ≤ 100) : ∀ (ps : List (Nat × Int)) (L : List Int), (∀ q ∈ ps, q.1 < 25 ∧ 1 ≤ q.2 ∧ q.2 < p) → lawWs p (ps.map fun q => Xp.termL q.2.toNat q.1) L = some (Xp.setA ps L)
  | [], L, _ => rfl
  | q :: ps, L, h => by
    obtain ⟨h1, h2, h3⟩ := h q List.mem_cons_self
    have ih := lawWs_pairs hp ps (L.set q.1 q.2) fun z hz => h z (List.mem_cons_of_mem _ hz)
    have e2 : ((q.2.toNat : Nat) : Int) = q.2 := Int.toNat_of_nonneg (by omega)
    rw [List.map_cons, lawWs_cons, isT_of hp (by omega) (by omega) h1]
    show lawWs p _ (L.set q.1 (q.2.toNat : Int)) = _
    rw [e2, ih]
    rfl
/-- but for 0 the law reads as the program does -/
theorem lawP_eq {p : Nat} (p0 : 2 ≤ p) (hp : p ≤ 100) {t : List Nat} (ht : t ≠ [48]) : lawP p t = readP p t := by
  cases e : readP p t with
  | some F =>
    obtain ⟨c, et⟩ := readP_can p0 e
    have hF : F ≠ [] := fun z => ht (by rw [← et, z]; rfl)
    have np := tr_pairs c.t hF
    have h := lawWs_pairs hp (Xp.pairsF 0 F) (List.replicate 25 0) (can_pairs c)
    rw [Xp.setA_all c.l] at h
    have h : lawWs p (Xp.wordsL F) (List.replicate 25 0) = some (F ++ List.replicate (25 - F.length) 0) := h
    unfold lawP
    rw [← et, Xp.spl_text np, h]
    show (if Xp.textL (trim (F ++ List.replicate (25 - F.length) 0)) = Xp.textL F then some (trim (F ++ List.replicate (25 - F.length) 0)) else none) = some F
    rw [trim_pad, c.t, if_pos rfl]
  | none =>
    unfold lawP
    cases e2 : lawWs p (TL.spl Xp.sepL 0 [] t) (List.replicate 25 0) with
    | none => rfl
    | some L =>
      have e3 := lawWs_read _ _ _ e2
      unfold readP at e
      rw [e3] at e
      exact e
def spLRead : Sp := fun vs H Q _ => ∃ (y : Str) (p : Nat), vs = [.str y, .int p] ∧ (p : Int) ∈ primes ∧ y.length ≤ 5000 ∧ (∀ F, lawP p (TL.tl y) = some F → ∀ (v : Addr) (H' : Hp), Same H H' → H' v = some (.tup (F.map V.int)) → Q (.ref v) H') ∧ (lawP p (TL.tl y) = none → ∀ H', Same H H' → Q .non H')
theorem prime_hi : ∀ p : Nat, (p : Int) ∈ primes → p ≤ 97 := fun p hp => by
  have h : ∀ q ∈ primes, q ≤ 97 := by decide
  have := h _ hp
  omega
def rowsR (p : Nat) : List Int := (List.range (p - 1)).map fun i : Nat => ((i + 1 : Nat) : Int)
theorem rgV_rows {p : Nat} (h : 1 ≤ p) : rgV 1 (p : Int) = (rowsR p).map V.int := by
  unfold rgV rowsR
  rw [List.map_map, show ((p : Int) - 1).toNat = p - 1 by omega]
  refine List.map_congr_left fun i _ => ?_
  show V.int (1 + (i : Int)) = V.int ((i + 1 : Nat) : Int)
  congr 1
  omega
section
variable {P : Program} {w : World} {K : PySem.W.Frag} {mg : Str → Option Value} {base : Heap}
theorem sc_law_read : FnScope (["_law_text", "_law_p", "_law_numbers", "_law_word", "_law_good", "_law_found", "_law_rest", "_law_at"] : List Str) ["_law_text", "_law_p"] (defScope s_law_read) := ⟨rfl, rfl, rfl, by decide +kernel, rfl, by decide +kernel, by decide +kernel⟩
theorem ok_law_read {f : Addr} {fd : FuncData} (F : FunD K "_law_read" "_law_read" (defArgs s_law_read) (defBody s_law_read) (defScope s_law_read) [] [] f fd) (T : Fre mg) (o_law_pairs : Own P w K mg base CX0 1 "_law_pairs" ["_law_rows", "_law_p"] [] (spPairs K)) (o_law_term : Own P w K mg base CX0 2 "_law_term" ["_law_rest", "_law_at"] [] spLTerm) (o_law_trim : Own P w K mg base CX0 1 "_law_trim" ["_law_numbers"] [] (spTrim K)) (o_law_poly_text : Own P w K mg base CX0 1 "_law_poly_text" ["_law_one"] [] (spLText K)) : FnOk P w K mg base CX0 3 f fd ["_law_text", "_law_p"] spLRead := by
  refine F.ok sc_law_read (fun vs H Q E h => ?_) (fun cdv A outer s H vs Q E hr h => ?_)
  · obtain ⟨y, p, rfl, _⟩ := h
    rfl
  · obtain ⟨y, p, rfl, hp, ly, kg, kn⟩ := h
    refine ⟨_, PSs.nox (pss_cons (ps_set (i := 2) sc_law_read.nd rfl (Or.inl rfl) (pe_op op_rep (pe_lst (pa_cons pe_int pa_nil)) pe_int))
      (pss_cons (ps_for PassesOwn.never rfl (pi_list (pe_split (pv 0) pe_str)) (pg_name (i := 3) sc_law_read.nd rfl (Or.inr rfl)) (pss_cons (ps_setLc (i := 4) (own := [("_law_rest", 6), ("_law_at", 7)]) (g := (gTup K 2 (gCons (gName 6) (gCons (gName 7) gNil)))) rfl sc_law_read.nd rfl rfl (sw_true rfl rfl rfl (by decide +kernel)) (pi_list (pe_own o_law_pairs (hr.mono (by decide)) rfl pass0 (pa_cons (pe_listRg (by rfl) (by rfl) T.f_list (prg_2 (by rfl) T.f_range pe_int (pv 1))) (pa_cons pe_int pa_nil)))) (blkOk_by (own := [("_law_rest", 6), ("_law_at", 7)]) (N := ["_law_text", "_law_p", "_law_numbers", "_law_word", "_law_good", "_law_found", "_law_rest", "_law_at"]) (sc := defScope s_law_read) (by decide +kernel)) (fun _ _ _ _ _ => pg_tup rfl (pgs_cons (pg_name (i := 6) sc_law_read.nd rfl (Or.inl rfl) (Or.inr rfl)) (pgs_cons (pg_name (i := 7) sc_law_read.nd rfl (Or.inl rfl) (Or.inr rfl)) pgs_nil))) (fun _ _ _ _ _ => (pts_one (pt_cmpR op_eq (pv 3) (pe_own o_law_term (hr.mono (by decide)) rfl pass0 (pa_cons (pv 6) (pa_cons (pv 7) pa_nil))) (nomark _)))) (fun _ _ _ _ _ => (pe_tup (pa_cons (pv 6) (pa_cons (pv 7) pa_nil)))))
      (pss_cons (ps_if (pt_cmpR (op_eqD hr.units) (pv 4) (pe_lst pa_nil) (nomark _)) (pss_one (ps_ret pe_non)) pss_nil)
      (pss_one (ps_asg (pe_ix ix_tup (pe_ix ix_list (pv 4) pe_int (fun _ _ => rfl)) pe_int (fun _ _ => rfl)) (pg_sub (pv 2) (pe_ix ix_tup (pe_ix ix_list (pv 4) pe_int (fun _ _ => rfl)) pe_int (fun _ _ => rfl)) set_list))))))
      (pss_cons (ps_set (i := 5) sc_law_read.nd rfl (Or.inl rfl) (pe_own o_law_trim (hr.mono (by decide)) rfl pass0 (pa_cons (pv 2) pa_nil)))
      (pss_one (ps_ret (pe_ifExp (pt_cmpR op_eq (pe_own o_law_poly_text (hr.mono (by decide)) rfl pass0 (pa_cons (pv 5) pa_nil)) (pv 0) (nomark _)) (pv 5) pe_non)))))) , ?_⟩
    have hpm := pm_of hp
    have lo := hpm.lo
    have hi100 : p ≤ 100 := by
      have h := (prime_hi p) hp
      omega
    have wl : (Txt.split y " + ").map TL.tl = TL.spl Xp.sepL 0 [] (TL.tl y) := split_sep y
    have lty : y.length = (TL.tl y).length := TL.len_tl y
    unfold lawP at kg kn
    rw [← wl] at kg kn
    refine ⟨(by show 1 ≤ sizeLine; decide), fun Z hZ => ⟨Z, 25, [.int 0], rfl, rfl, upd_same, by decide, by decide, (by show 1 * 25 ≤ sizeLine; decide), fun RL hRL => ?_⟩⟩
    have sZ := same_upd (o := .lst [.int 0]) hZ
    generalize L2.upd H Z (.lst [.int 0]) = H1 at *
    have hRL0 : H RL = none := sZ.free hRL
    have eRL : L2.upd H1 RL (.lst (List.replicate (25 : Int).toNat [V.int 0]).flatten) RL = some (.lst ((List.replicate 25 (0 : Int)).map V.int)) := by rw [upd_same]; rfl
    have sR := sZ.trans (same_upd (o := .lst (List.replicate (25 : Int).toNat [V.int 0]).flatten) hRL)
    generalize L2.upd H1 RL (.lst (List.replicate (25 : Int).toNat [V.int 0]).flatten) = H2 at *
    refine ⟨_, rfl, ⟨y, rfl⟩, y, _, rfl, rfl, by decide, line8 (by omega), fun W hW => ⟨W, rfl, ⟨_, SqL.of upd_same⟩, ?_⟩⟩
    have sW := same_upd (o := .lst ((Txt.split y " + ").map V.str)) hW
    have nRW : RL ≠ W := fun z => by
      rw [← z, eRL] at hW
      cases hW
    generalize hws : Txt.split y " + " = ws at *
    refine for_it (walk_list (xs := ws.map V.str)) (fun i σ' H' => ∃ (L : List Int) (x3 x4 : Option V), σ' = [some (.str y), some (.int p), some (.ref RL), x3, x4, none, none, none] ∧ Same H H' ∧ H' W = some (.lst (ws.map V.str)) ∧ H' RL = some (.lst (L.map V.int)) ∧ L.length = 25 ∧ (∀ r ∈ L, 0 ≤ r ∧ r < (p : Int)) ∧ lawWs p (ws.map TL.tl) (List.replicate 25 0) = lawWs p ((ws.drop i).map TL.tl) L)
      ⟨List.replicate 25 0, none, none, rfl, sR.trans sW, upd_same, sW _ _ eRL, List.length_replicate, fun r hr => by rw [(List.mem_replicate.mp hr).2]; omega, rfl⟩ (fun i σ' H' _ ⟨_, _, _, _, _, e, _⟩ => SqL.of e) ?_ ?_
    · rintro i x σ' H3 H4 hi ⟨L, x3, x4, rfl, s3, eW, eL, lL, bL, rd⟩ ⟨rfl, hx⟩
      rw [List.length_map] at hi
      rw [List.getElem?_map, List.getElem?_eq_getElem hi] at hx
      cases hx
      have hdrop : ws.drop i = ws[i] :: ws.drop (i + 1) := List.drop_eq_getElem_cons hi
      rw [hdrop, List.map_cons, lawWs_cons] at rd
      generalize ws[i] = wd at *
      refine ⟨_, rfl, _, _, rfl, rfl, RgOk.of_le (by decide) (by omega) (by decide) (by omega), fun rg hrg => ?_⟩
      have srg := same_upd (o := .lst (rgV 1 (p : Int))) hrg
      have lrw : (rowsR p).length = p - 1 := by unfold rowsR; rw [List.length_map, List.length_range]
      refine ⟨rg, rowsR p, 25, rfl, SqL.of (by rw [upd_same, rgV_rows (by omega)]), by omega, by decide, fun D la H5 s5 eD rD => ⟨D, rfl, ⟨_, SqL.of eD⟩, fun G hG => ?_⟩⟩
      have s15 := srg.trans s5
      have lla := rD.len
      rw [pairsR_len] at lla
      have l2500 : la.length ≤ 2500 := by
        rw [lla, lrw]
        have : (p - 1) * 25 ≤ 100 * 25 := Nat.mul_le_mul_right 25 (by omega)
        omega
      have sG0 := same_upd (o := .lst []) hG
      refine lc_it (walk_list (xs := la.map V.ref)) (fun j H' => ∃ (lg : List Addr) (gs : List (List Int)), Same H5 H' ∧ H' G = some (.lst (lg.map V.ref)) ∧ Rws H' lg gs ∧ gs.length ≤ j ∧ (∀ g ∈ gs, ∃ r a : Nat, g = [(r : Int), (a : Int)] ∧ isT p (TL.tl wd) = some (r, a)) ∧ (gs = [] → ∀ (k' : Nat) (q : List Int) (r a : Nat), k' < j → (pairsR (rowsR p) 25)[k']? = some q → q = [(r : Int), (a : Int)] → Xp.termL r a ≠ TL.tl wd))
        ⟨[], [], sG0, upd_same, trivial, Nat.zero_le _, (fun g hg => nomatch hg), fun _ k' q r a hk => absurd hk (Nat.not_lt_zero _)⟩ (fun j H' _ ⟨_, _, s, _⟩ => SqL.of (s _ _ eD)) ?_ ?_
      · rintro j x H6 H7 hj ⟨lg, gs, s6, e6, r6, lg6, pg, ng⟩ ⟨rfl, hx⟩
        rw [List.length_map] at hj
        obtain ⟨b, q, rfl, hq, eb⟩ := rD.at hx
        obtain ⟨r0, hr0, a, ha, rfl⟩ := pairsR_mem.mp (List.mem_of_getElem? hq)
        obtain ⟨i0, hi0, rfl⟩ := List.mem_map.mp hr0
        have hi0 := List.mem_range.mp hi0
        have eb6 := s6 _ _ eb
        have lgl := r6.len
        refine ⟨b, _, rfl, .inl (.inl eb6), rfl, _, _, rfl, _, _, rfl, rfl, rfl, _, rfl, _, rfl, _, rfl, i0 + 1, a, rfl, by omega, by omega, by omega, fun t H8 s8 et => ⟨rfl, _, rfl, ?_⟩⟩
        have s68 := s6.trans s8
        by_cases hw : wd = t
        · rw [decide_eq_true (by rw [hw])]
          have hit : isT p (TL.tl wd) = some (i0 + 1, a) := by
            rw [hw, et]
            exact isT_of hi100 (by omega) (by omega) ha
          refine iteT ⟨_, rfl, _, rfl, (by show 2 ≤ sizeLine; decide), fun u hu => ?_⟩
          have su := same_upd (o := .tup [.int ((i0 + 1 : Nat) : Int), .int (a : Int)]) hu
          have e8 := (s8.trans su) _ _ e6
          refine ⟨_, e8, ?_, lg ++ [u], gs ++ [[((i0 + 1 : Nat) : Int), (a : Int)]], lcs hG (s68.trans su), by rw [upd_same, List.map_append]; rfl, (Rws.snoc (r := [((i0 + 1 : Nat) : Int), (a : Int)]) (by rw [upd_same]; rfl) (r6.keep (kpS (s8.trans su)))).keep (kpL e8), by rw [List.length_append, List.length_singleton]; omega, fun g hg => ?_, fun z => absurd z (by simp)⟩
          · rw [List.length_map]
            exact line4 (by omega)
          · rcases List.mem_append.mp hg with hg | hg
            · exact pg g hg
            · exact ⟨i0 + 1, a, List.mem_singleton.mp hg, hit⟩
        · rw [decide_eq_false (fun z => hw (V.str.inj z))]
          refine iteF ⟨lg, gs, s68, s8 _ _ e6, r6.keep (kpS s8), by omega, pg, fun z k' q r a' hk hq' e' => ?_⟩
          rcases Nat.lt_or_ge k' j with g | g
          · exact ng z k' q r a' g hq' e'
          · have : k' = j := by omega
            subst this
            rw [hq] at hq'
            cases hq'
            injection e' with e1 e2
            injection e2 with e2 e3
            have h1 : r = i0 + 1 := by omega
            have h2 : a' = a := by omega
            subst h1 h2
            exact fun z => hw (TL.ext_tl (by rw [et, z]))
      · rintro H6 ⟨lg, gs, s6, e6, r6, lg6, pg, ng⟩
        rw [List.length_map] at ng lg6
        have s46 := s15.trans s6
        have s06 := s3.trans s46
        refine ⟨_, rfl, (by show 0 ≤ sizeLine; decide), fun Y hY => ?_⟩
        have sY := same_upd (o := .lst []) hY
        refine ⟨_, _, .lst (SqL.of (sY _ _ e6)) (dp_rws (r6.keep (kpS sY))), .lst (SqL.of (xs := []) upd_same) .nil, sh_list _, by decide +kernel, _, rfl, ?_⟩
        rw [eqv_nilT]
        by_cases g0 : gs = []
        · rw [decide_eq_true g0]
          have nT : isT p (TL.tl wd) = none := by
            cases e : isT p (TL.tl wd) with
            | none => rfl
            | some q =>
              obtain ⟨r, a⟩ := q
              obtain ⟨_, h1, h2, h3, h4⟩ := isT_some e
              have hm : [(r : Int), (a : Int)] ∈ pairsR (rowsR p) 25 := pairsR_mem.mpr ⟨(r : Int), List.mem_map.mpr ⟨r - 1, List.mem_range.mpr (by omega), by rw [show r - 1 + 1 = r by omega]⟩, a, h3, rfl⟩
              obtain ⟨k', hk'⟩ := List.mem_iff_getElem?.mp hm
              have lk : k' < la.length := by
                rw [lla, ← pairsR_len]
                exact (List.getElem?_eq_some_iff.mp hk').1
              exact absurd h4 (ng g0 k' _ r a lk hk' rfl)
          rw [nT] at rd
          rw [rd] at kn
          exact iteT (kn rfl _ (s06.trans sY))
        · rw [decide_eq_false g0]
          obtain ⟨g1, gr, rfl⟩ : ∃ g1 gr, gs = g1 :: gr := by
            cases gs with
            | nil => exact absurd rfl g0
            | cons g1 gr => exact ⟨g1, gr, rfl⟩
          obtain ⟨l1, lr, rfl⟩ : ∃ l1 lr, lg = l1 :: lr := by
            cases lg with
            | nil => exact r6.elim
            | cons l1 lr => exact ⟨l1, lr, rfl⟩
          obtain ⟨r, a, rfl, hit⟩ := pg g1 List.mem_cons_self
          obtain ⟨_, h1, h2, h3, _⟩ := isT_some hit
          rw [hit] at rd
          have rd : lawWs p (ws.map TL.tl) (List.replicate 25 0) = lawWs p ((ws.drop (i + 1)).map TL.tl) (L.set a r) := rd
          have e1 := sY _ _ r6.1
          have eG := sY _ _ e6
          have eL6 := (s46.trans sY) _ _ eL
          have at0 : atI ((l1 :: lr).map V.ref) 0 = some (.ref l1) := atI_nat (j := 0) (xs := (l1 :: lr).map V.ref) rfl
          refine iteF ⟨_, rfl, G, _, 0, .ref l1, rfl, rfl, SqL.of eG, at0, l1, _, 0, .int (r : Int), rfl, rfl, SqT.of e1, rfl, _, rfl, _, rfl, G, _, 0, .ref l1, rfl, rfl, SqL.of eG, at0, l1, _, 1, .int (a : Int), rfl, rfl, SqT.of e1, rfl, RL, _, _, a, rfl, rfl, eL6, ixN_nat (by rw [List.length_map]; omega), ?_⟩
          refine ⟨L.set a r, _, _, rfl, lcs hRL0 (s06.trans sY), ?_, ?_, ?_, ?_, rd⟩
          · rw [upd_ne (Ne.symm nRW)]
            exact (s46.trans sY) _ _ eW
          · rw [upd_same]
            exact congrArg (fun z => some (HO.lst z)) (List.map_set ..).symm
          · rw [List.length_set, lL]
          · intro z hz
            rcases List.mem_or_eq_of_mem_set hz with hz | rfl
            · exact bL z hz
            · omega
    · rintro σ' H3 ⟨L, x3, x4, rfl, s3, eW, eL, lL, bL, rd⟩
      rw [List.length_map, List.drop_length] at rd
      have rd : lawWs p (ws.map TL.tl) (List.replicate 25 0) = some L := rd
      rw [rd] at kg kn
      have kg : ∀ F, (if Xp.textL (trim L) = TL.tl y then some (trim L) else none) = some F → ∀ (v : Addr) (H' : Hp), Same H H' → H' v = some (.tup (F.map V.int)) → Q (.ref v) H' := kg
      have kn : (if Xp.textL (trim L) = TL.tl y then some (trim L) else none) = none → ∀ H', Same H H' → Q .non H' := kn
      refine ⟨_, rfl, RL, L, rfl, SqL.of eL, by omega, fun v H4 s4 nv ev => ?_⟩
      have s34 := s3.trans s4
      have ltl := trim_length L
      refine ⟨_, rfl, v, trim L, rfl, SqT.of ev, by omega, fun r hr => ?_, fun t H5 s5 et _ => ⟨_, rfl, rfl, _, rfl, ?_⟩⟩
      · have := bL r (trim_mem hr)
        omega
      · by_cases g : t = y
        · rw [decide_eq_true (by rw [g])]
          have g2 : Xp.textL (trim L) = TL.tl y := by rw [← et, g]
          rw [if_pos g2] at kg
          exact iteT ⟨_, rfl, kg _ rfl v H5 (s34.trans s5) (s5 _ _ ev)⟩
        · rw [decide_eq_false (fun z => g (V.str.inj z))]
          have g2 : ¬ Xp.textL (trim L) = TL.tl y := fun z => g (TL.ext_tl (et.trans z))
          rw [if_neg g2] at kn
          exact iteF (kn rfl H5 (s34.trans s5))
end
end Xk
end
section
set_option Elab.async false
set_option linter.all false
set_option maxRecDepth 100000
set_option maxHeartbeats 4000000
namespace Xk
open PySem PySem.Spec PyProof.Rows L2 Xh LamX NdefX
/-! ### a bent text -/
def spMixed (K : PySem.W.Frag) : Sp := fun vs H Q _ => ∃ (d a : Addr) (xs : List V), vs = [.ref d, .ref a] ∧ Draw H d ∧ SqL K H a xs ∧ a ≠ d ∧ xs.length ≤ 100 ∧
  ∀ (b : Addr) (ys : List V) (H' : Hp), ys.Perm xs → Draw H' d → But d H H' → H' b = some (.lst ys) → H b = none → b ≠ d → Q (.ref b) H'
theorem ins_perm {α : Type} (xs : List α) (y : α) (i : Nat) : (xs.take i ++ [y] ++ xs.drop i).Perm (xs ++ [y]) := by
  have h1 : (xs.take i ++ [y] ++ xs.drop i).Perm (xs.take i ++ xs.drop i ++ [y]) := by
    rw [List.append_assoc, List.append_assoc]
    exact (List.perm_append_comm).append_left _
  rw [List.take_append_drop] at h1
  exact h1
theorem perm_strs {ys : List V} {zs : List Str} (h : ys.Perm (zs.map V.str)) : ∃ ws : List Str, ys = ws.map V.str ∧ ws.Perm zs := by
  generalize hx : zs.map V.str = xs at h
  induction h generalizing zs with
  | nil => exact ⟨zs, hx.symm, .refl _⟩
  | @cons x l1 l2 p ih =>
    match zs, hx with
    | z :: zs, hx =>
      injection hx with h1 h2
      obtain ⟨ws, e1, e2⟩ := ih h2
      exact ⟨z :: ws, by rw [e1, ← h1]; rfl, e2.cons z⟩
  | @swap x y l1 =>
    match zs, hx with
    | z :: z' :: zs, hx =>
      injection hx with h1 h2
      injection h2 with h2 h3
      exact ⟨z' :: z :: zs, by rw [← h1, ← h2, ← h3]; rfl, .swap _ _ _⟩
  | trans p q ih1 ih2 =>
    obtain ⟨ws, e1, e2⟩ := ih2 hx
    obtain ⟨us, e3, e4⟩ := ih1 e1.symm
    exact ⟨us, e3, e4.trans e2⟩
theorem spl_sum (S : List Nat) : ∀ (l : List Nat) (k : Nat) (acc : List Nat), ((TL.spl S k acc l).map List.length).sum ≤ acc.length + l.length
  | [], k, acc => by
    rw [TL.spl_nil]
    show acc.length + 0 ≤ _
    omega
  | c :: r, 0, acc => by
    by_cases g : TL.pre S (c :: r) = true
    · rw [TL.spl_hit g]
      have := spl_sum S r (S.length - 1) []
      rw [List.map_cons, List.sum_cons, List.length_cons]
      rw [List.length_nil] at this
      omega
    · rw [Bool.not_eq_true] at g
      rw [TL.spl_miss g]
      have := spl_sum S r 0 (acc ++ [c])
      rw [List.length_append, List.length_singleton] at this
      rw [List.length_cons]
      omega
  | c :: r, k + 1, acc => by
    have := spl_sum S r k acc
    show ((TL.spl S k acc r).map List.length).sum ≤ _
    rw [List.length_cons]
    omega
theorem joinL_sum (S : List Nat) : ∀ ps : List (List Nat), (TL.joinL S ps).length ≤ (ps.map List.length).sum + S.length * ps.length
  | [] => Nat.zero_le _
  | [p] => by
    show p.length ≤ (p.length + 0) + S.length * 1
    omega
  | p :: q :: r => by
    have ih := joinL_sum S (q :: r)
    show (p ++ (S ++ TL.joinL S (q :: r))).length ≤ (p.length + ((q :: r).map List.length).sum) + S.length * ((q :: r).length + 1)
    rw [List.length_append, List.length_append, Nat.mul_succ]
    omega
theorem sum_perm {as bs : List Nat} (h : as.Perm bs) : as.sum = bs.sum := h.sum_nat
def spBent : Sp := fun vs H Q _ => ∃ (d : Addr) (y : Str), vs = [.ref d, .str y] ∧ Draw H d ∧ y.length ≤ 60 ∧ ∀ (z : Str) (H' : Hp), z.length ≤ 5000 → Draw H' d → But d H H' → Q (.str z) H'
section
variable {P : Program} {w : World} {K : PySem.W.Frag} {mg : Str → Option Value} {base : Heap}
theorem sc_law_mixed : FnScope (["_law_draw", "_law_row", "_law_found", "_law_one"] : List Str) ["_law_draw", "_law_row"] (defScope s_law_mixed) := ⟨rfl, rfl, rfl, by decide +kernel, rfl, by decide +kernel, by decide +kernel⟩
theorem ok_law_mixed {f : Addr} {fd : FuncData} (F : FunD K "_law_mixed" "_law_mixed" (defArgs s_law_mixed) (defBody s_law_mixed) (defScope s_law_mixed) [] [] f fd) (T : Fre mg) (o_law_take : Own P w K mg base CX0 1 "_law_take" ["_law_draw", "_law_sides"] [] spTake) : FnOk P w K mg base CX0 2 f fd ["_law_draw", "_law_row"] (spMixed K) := by
  refine F.ok sc_law_mixed (fun vs H Q E h => ?_) (fun cdv A outer s H vs Q E hr h => ?_)
  · obtain ⟨d, a, xs, rfl, _⟩ := h
    rfl
  · obtain ⟨d, a, xs, rfl, Dr, hS, had, hl, k⟩ := h
    refine ⟨_, PSs.nox (pss_cons (ps_set (i := 2) sc_law_mixed.nd rfl (Or.inl rfl) (pe_lst pa_nil))
      (pss_cons (ps_for PassesOwn.never rfl (pi_list (pv 1)) (pg_name (i := 3) sc_law_mixed.nd rfl (Or.inl rfl)) (pss_one (ps_expr (pe_bm PySem.F.plainAttrs_list PySem.F.slot_list_insert PySem.F.type_list_insert mt_insert (pv 2) (pa_cons (pe_own o_law_take (hr.mono (by decide)) rfl pass0 (pa_cons (pv 0) (pa_cons (pe_op op_add (pe_callB call_len_seq (by rfl) T.f_len PySem.boot_len (pa_cons (pv 2) pa_nil)) pe_int) pa_nil))) (pa_cons (pv 3) pa_nil))))))
      (pss_one (ps_ret (pv 2))))) , ?_⟩
    refine ⟨(by show 0 ≤ sizeLine; decide), fun FL hFL => ?_⟩
    have hFd : FL ≠ d := Dr.ne hFL
    refine ⟨_, rfl, a, rfl, ⟨_, (But.updN (d := d) hFL).seq had hS⟩, ?_⟩
    refine for_it (walk_list (xs := xs)) (fun i σ' H2 => ∃ (ys : List V) (x3 : Option V), σ' = [some (.ref d), some (.ref a), some (.ref FL), x3] ∧ H2 FL = some (.lst ys) ∧ ys.Perm (xs.take i) ∧ Draw H2 d ∧ But d H H2) ⟨[], none, rfl, upd_same, .nil, Dr.same (same_upd hFL), But.updN hFL⟩ (fun i σ' H2 _ ⟨_, _, _, _, _, _, B⟩ => B.seq had hS) ?_ ?_
    · rintro i x σ' H2 H3 hi ⟨ys, x3, rfl, e2, pm, D2, B2⟩ ⟨rfl, hx⟩
      have ly : ys.length ≤ i := by
        rw [pm.length_eq, List.length_take]
        exact Nat.min_le_left _ _
      refine ⟨_, rfl, .inl ⟨rfl, _, SqL.of e2⟩, _, rfl, _, rfl, FL, _, rfl, .inl (SqL.of e2), _, _, rfl, rfl, d, _, rfl, D2, by omega, big (by omega), fun m H4 m0 m1 D4 B4 => ?_⟩
      have e4 := B4 _ _ hFd e2
      have B24 := B2.trans B4
      refine ⟨_, rfl, FL, ys, m, x, rfl, rfl, e4, small1000 (by omega), m0, by omega, ?_⟩
      refine ⟨_, _, rfl, upd_same, ?_, Draw.updR Dr hFL B24 D4 e4, But.lcs hFL B24⟩
      rw [List.take_succ, hx]
      exact (ins_perm ys x m.toNat).trans (pm.append_right _)
    · rintro σ' H2 ⟨ys, x3, rfl, e2, pm, D2, B2⟩
      rw [List.take_length] at pm
      exact ⟨_, rfl, k FL ys H2 pm D2 B2 e2 hFL hFd⟩
theorem sc_law_bent : FnScope (["_law_draw", "_law_text", "_law_at", "_law_sign", "_law_way"] : List Str) ["_law_draw", "_law_text"] (defScope s_law_bent) := ⟨rfl, rfl, rfl, by decide +kernel, rfl, by decide +kernel, by decide +kernel⟩
theorem ok_law_bent {f : Addr} {fd : FuncData} (F : FunD K "_law_bent" "_law_bent" (defArgs s_law_bent) (defBody s_law_bent) (defScope s_law_bent) [] [] f fd) (T : Fre mg) (o_law_take : Own P w K mg base CX0 1 "_law_take" ["_law_draw", "_law_sides"] [] spTake) (o_law_of : Own P w K mg base CX0 2 "_law_of" ["_law_draw", "_law_row"] [] (spOf K)) (o_law_mixed : Own P w K mg base CX0 2 "_law_mixed" ["_law_draw", "_law_row"] [] (spMixed K)) : FnOk P w K mg base CX0 3 f fd ["_law_draw", "_law_text"] spBent := by
  refine F.ok sc_law_bent (fun vs H Q E h => ?_) (fun cdv A outer s H vs Q E hr h => ?_)
  · obtain ⟨d, y, rfl, _⟩ := h
    rfl
  · obtain ⟨d, y, rfl, Dr, ly, k⟩ := h
    refine ⟨_, PSs.nox (pss_cons (ps_set (i := 2) sc_law_bent.nd rfl (Or.inl rfl) (pe_own o_law_take (hr.mono (by decide)) rfl pass0 (pa_cons (pv 0) (pa_cons (pe_op op_add (pe_callB call_len_str (by rfl) T.f_len PySem.boot_len (pa_cons (pv 1) pa_nil)) pe_int) pa_nil))))
      (pss_cons (ps_set (i := 3) sc_law_bent.nd rfl (Or.inl rfl) (pe_own o_law_of (hr.mono (by decide)) rfl pass0 (pa_cons (pv 0) (pa_cons (pe_callTy (call_listS (by rfl)) (by rfl) T.f_list (by decide +kernel) (pa_cons pe_str pa_nil)) pa_nil))))
      (pss_cons (ps_set (i := 4) sc_law_bent.nd rfl (Or.inl rfl) (pe_own o_law_take (hr.mono (by decide)) rfl pass0 (pa_cons (pv 0) (pa_cons pe_int pa_nil))))
      (pss_cons (ps_if (pt_cmpR op_eq (pv 4) pe_int (nomark _)) (pss_one (ps_ret (pe_slice sl_str (pv 1) po_none (po_some (pv 2))))) pss_nil)
      (pss_cons (ps_if (pt_cmpR op_eq (pv 4) pe_int (nomark _)) (pss_one (ps_ret (pe_join pe_str (pe_own o_law_mixed (hr.mono (by decide)) rfl pass0 (pa_cons (pv 0) (pa_cons (pe_split (pv 1) pe_str) pa_nil)))))) pss_nil)
      (pss_cons (ps_if (pt_cmpR op_eq (pv 4) pe_int (nomark _)) (pss_one (ps_ret (pe_op op_add_str (pe_op op_add_str (pv 1) pe_str) (pv 1)))) pss_nil)
      (pss_one (ps_ret (pe_op op_add_str (pe_op op_add_str (pe_slice sl_str (pv 1) po_none (po_some (pv 2))) (pe_op op_mulS (pv 3) (pe_callTy call_int1 (by rfl) T.f_int (by decide +kernel) (pa_cons (pe_cmpR op_lt (pv 4) pe_int (nomark _)) pa_nil)))) (pe_slice sl_str (pv 1) (po_some (pe_op op_add (pv 2) (pe_callTy call_int1 (by rfl) T.f_int (by decide +kernel) (pa_cons (pe_cmpR op_gt (pv 4) pe_int (nomark _)) pa_nil)))) po_none)))))))))) , ?_⟩
    refine ⟨_, rfl, _, rfl, y, rfl, line8 (by omega), _, _, rfl, rfl, d, _, rfl, Dr, by omega, big (by omega), fun m H1 m0 m1 D1 B1 => ?_⟩
    refine ⟨_, rfl, _, rfl, by decide, fun l hl => ?_⟩
    have sl := same_upd (o := .lst ((PyProof.Rows.signs "0123456789x^+ -*X").map V.str)) hl
    refine ⟨d, l, _, rfl, D1.same sl, SqL.of upd_same, D1.ne hl, by decide, by decide, fun x H2 hx D2 B2 => ?_⟩
    obtain ⟨c, hc, rfl⟩ := List.mem_map.mp hx
    have lc : c.length = 1 := by
      unfold PyProof.Rows.signs at hc
      obtain ⟨n, _, rfl⟩ := List.mem_map.mp hc
      rfl
    have B12 : But d H H2 := (B1.trans (But.same sl)).trans B2
    refine ⟨_, rfl, d, 6, rfl, D2, by decide, by decide, fun wy H3 w0 w1 D3 B3 => ?_⟩
    have B13 := B12.trans B3
    refine ⟨_, rfl, rfl, _, rfl, ?_⟩
    have ce : ∀ (a b : Int), a ≠ b → decide (V.int a = V.int b) = false := fun a b h => decide_eq_false fun z => h (V.int.inj z)
    by_cases h0 : wy = 0
    · subst h0
      exact iteT ⟨_, rfl, _, rfl, m, rfl, y, rfl, line8 (by omega), k _ _ (by have := cutS_length y none (some m); omega) D3 B13⟩
    rw [ce _ _ h0]
    refine iteF ⟨_, rfl, rfl, _, rfl, ?_⟩
    by_cases h1 : wy = 1
    · subst h1
      refine iteT ⟨⟨_, rfl⟩, _, rfl, _, rfl, ⟨y, rfl⟩, y, _, rfl, rfl, by decide, line8 (by omega), fun W hW => ?_⟩
      have sW := same_upd (o := .lst ((Txt.split y " + ").map V.str)) hW
      have cnt := spl_cnt Xp.sepL (TL.tl y) 0 []
      have sm := spl_sum Xp.sepL (TL.tl y) 0 []
      rw [← split_sep y] at cnt sm
      rw [List.length_map] at cnt
      have lty := TL.len_tl y
      refine ⟨d, W, _, rfl, D3.same sW, SqL.of upd_same, D3.ne hW, ?_, fun b ys H4 pm D4 B4 eb _ _ => ?_⟩
      · rw [List.length_map]
        omega
      obtain ⟨ws, rfl, pw⟩ := perm_strs pm
      have lw := pw.length_eq
      have sw : (ws.map (·.length)).sum = ((Txt.split y " + ").map (·.length)).sum := sum_perm (pw.map _)
      have s2 : ((Txt.split y " + ").map (·.length)) = ((Txt.split y " + ").map TL.tl).map List.length := by
        rw [List.map_map]
        exact List.map_congr_left fun z _ => TL.len_tl z
      rw [← s2, ← sw] at sm
      rw [List.length_nil] at sm
      refine ⟨_, b, ws, rfl, rfl, .inl (SqL.of eb), ?_, k _ _ ?_ D4 ((B13.trans (But.same sW)).trans B4)⟩
      · show _ + ws.length * 3 ≤ 16777216
        omega
      · rw [TL.len_tl, TL.join_eq, TL.tl_join]
        have := joinL_sum (TL.tl " + ") (ws.map TL.tl)
        have e3 : (TL.tl " + ").length = 3 := rfl
        rw [e3, List.length_map] at this
        have e4 : ((ws.map TL.tl).map List.length).sum = (ws.map (·.length)).sum := by
          rw [List.map_map]
          exact congrArg List.sum (List.map_congr_left fun z _ => (TL.len_tl z).symm)
        omega
    rw [ce _ _ h1]
    refine iteF ⟨_, rfl, rfl, _, rfl, ?_⟩
    by_cases h2 : wy = 2
    · subst h2
      have e3 : (Str.ofString " + ").length = 3 := rfl
      have l1 : (y ++ Str.ofString " + ").length = y.length + 3 := by rw [TL.len_tl, TL.tl_append, List.length_append, ← TL.len_tl]; rfl
      have l2 : (y ++ Str.ofString " + " ++ y).length = y.length + 3 + y.length := by rw [TL.len_tl, TL.tl_append, List.length_append, ← TL.len_tl, ← TL.len_tl, l1]
      exact iteT ⟨_, rfl, _, _, rfl, rfl, line8 (by rw [e3]; omega), _, rfl, _, _, rfl, rfl, line8 (by rw [l1]; omega), k _ _ (by rw [l2]; omega) D3 B13⟩
    rw [ce _ _ h2]
    refine iteF ?_
    have cut1 := cutS_length y none (some m)
    -- a sign put in, or in the place of another
    have b5 : ∃ k5 : Int, (k5 = 0 ∨ k5 = 1) ∧ (if decide (wy < 5) = true then (1 : Int) else 0) = k5 := by
      by_cases g : wy < 5
      · exact ⟨1, .inr rfl, by rw [decide_eq_true g]; rfl⟩
      · exact ⟨0, .inl rfl, by rw [decide_eq_false g]; rfl⟩
    obtain ⟨k5, hk5, e5⟩ := b5
    have l5 : (if k5 = 0 then Str.empty else c).length ≤ 1 := by
      by_cases g : k5 = 0
      · rw [if_pos g]; decide
      · rw [if_neg g]; omega
    have la : (cutS y none (some m) ++ (if k5 = 0 then Str.empty else c)).length ≤ 61 := by
      rw [TL.len_tl, TL.tl_append, List.length_append, ← TL.len_tl, ← TL.len_tl]
      omega
    generalize hA : cutS y none (some m) ++ (if k5 = 0 then Str.empty else c) = A at *
    have fin : ∀ z : Str, z.length ≤ y.length → (A ++ z).length ≤ 5000 := fun z hz => by
      rw [TL.len_tl, TL.tl_append, List.length_append, ← TL.len_tl, ← TL.len_tl]
      omega
    refine ⟨_, rfl, _, rfl, m, rfl, y, rfl, line8 (by omega), _, rfl, _, rfl, _, _, rfl, rfl, .inr ⟨_, rfl, ?_⟩⟩
    rw [e5]
    refine ⟨_, _, rfl, rfl, by omega, by omega, _, _, rfl, rfl, line8 (by omega), ?_⟩
    rw [hA]
    refine ⟨_, rfl, _, rfl, _, rfl, _, _, rfl, rfl, .inr ⟨_, rfl, _, _, rfl, rfl, _, rfl, y, rfl, line8 (by omega), _, _, rfl, rfl, line8 (by have := cutS_length y (some (m + if decide (3 < wy) = true then 1 else 0)) none; omega), k _ _ (fin _ (cutS_length y _ _)) D3 B13⟩⟩
end
end Xk
end
section
set_option Elab.async false
set_option linter.all false
set_option maxRecDepth 100000
set_option maxHeartbeats 4000000
namespace Xk
open PySem PySem.Spec PyProof.Rows L2 Xh LamX NdefX
/-! ### the law's own state -/
/-- the draws stand at d, the tables stand, and what qs tells stands -/
structure Wd (d : Addr) (T : List (Addr × Str)) (qs : List (Addr × HO)) (H : Hp) : Prop where
  D : Draw H d
  T : Tabs T H
  q : ∀ p ∈ qs, p.1 ≠ d ∧ H p.1 = some p.2 ∧ ∀ ps, p.2 ≠ .tbl ps
section
variable {d : Addr} {T : List (Addr × Str)} {qs : List (Addr × HO)} {H H' : Hp}
theorem Draw.ext (D : Draw H d) (x : ExtN H H') : Draw H' d := by
  obtain ⟨c, ns, i, r, g, h1, h2, h3⟩ := D
  exact ⟨c, ns, i, r, g, x _ _ h1 (fun _ z => by cases z), x _ _ h2 (fun _ z => by cases z), h3⟩
theorem Wd.ext (w : Wd d T qs H) (x : ExtN H H') (t : Tabs T H') : Wd d T qs H' := ⟨w.D.ext x, t, fun p hp => ⟨(w.q p hp).1, x _ _ (w.q p hp).2.1 (w.q p hp).2.2, (w.q p hp).2.2⟩⟩
theorem Wd.gr (w : Wd d T qs H) (g : Gr T H H') : Wd d T qs H' := w.ext g.x g.t
theorem Wd.same (w : Wd d T qs H) (s : Same H H') : Wd d T qs H' := ⟨w.D.same s, w.T.ext s, fun p hp => ⟨(w.q p hp).1, s _ _ (w.q p hp).2.1, (w.q p hp).2.2⟩⟩
theorem Tabs.but (t : Tabs T H) (D : Draw H d) (b : But d H H') : Tabs T H' := fun p hp => by
  obtain ⟨ps, h1, h2, h3⟩ := t p hp
  obtain ⟨c, ns, i, r, g, e, _⟩ := D
  refine ⟨ps, b _ _ (fun z => ?_) h1, h2, fun pos cv hc => ?_⟩
  · rw [z, e] at h1
    cases h1
  · obtain ⟨c', e1, e2⟩ := h3 pos cv hc
    refine ⟨c', e1, b _ _ (fun z => ?_) e2⟩
    rw [z, e] at e2
    unfold CodeO at e2
    cases e2
theorem Wd.but (w : Wd d T qs H) (b : But d H H') (D' : Draw H' d) : Wd d T qs H' := ⟨D', Tabs.but w.T w.D b, fun p hp => ⟨(w.q p hp).1, b _ _ (w.q p hp).1 (w.q p hp).2.1, (w.q p hp).2.2⟩⟩
theorem Wd.add (w : Wd d T qs H) {p : Addr} {o : HO} (hp : H p = none) (ho : ∀ ps, o ≠ .tbl ps) : Wd d T ((p, o) :: qs) (L2.upd H p o) := by
  have w' := w.same (same_upd (o := o) hp)
  refine ⟨w'.D, w'.T, fun r hr => ?_⟩
  rcases List.mem_cons.mp hr with rfl | hr
  · exact ⟨w.D.ne hp, upd_same, ho⟩
  · exact w'.q r hr
theorem Wd.sub {rs : List (Addr × HO)} (w : Wd d T qs H) (h : ∀ p ∈ rs, p ∈ qs) : Wd d T rs H := ⟨w.D, w.T, fun p hp => w.q p (h p hp)⟩
theorem Wd.at {p : Addr} {o : HO} (w : Wd d T qs H) (h : (p, o) ∈ qs) : H p = some o := (w.q _ h).2.1
end
theorem same_tup {K : PySem.W.Frag} {H : Hp} {p q : Addr} {xs : List V} (hp : H p = some (.tup xs)) (hq : H q = some (.tup xs)) (hf : xs.all flatV = true) (hl : xs.length ≤ 1000) : SameAt K H 1 (.ref p) (.ref q) :=
  .inr ⟨p, q, xs, xs, rfl, rfl, .inr ⟨SqT.of hp, SqT.of hq⟩, rfl, hl, fun i x y hx hy => by
    rw [hx] at hy
    cases hy
    exact ⟨List.all_eq_true.mp hf _ (List.mem_of_getElem? hx), rfl⟩⟩

end Xk
end
section
set_option Elab.async false
set_option linter.all false
set_option maxRecDepth 100000
set_option maxHeartbeats 4000000
namespace Xk
open PySem PySem.Spec PyProof.Rows L2 Xh LamX NdefX
/-! ### what is told, what is refused -/
/-- e.f of the exception that the suite holds: any own class that lets its fields be read -/
def tXfA (K : PySem.W.Frag) (a : Addr) (cls : Value) (d : Option Addr) (f : Str) (te : TE) : TE := fun σ H Q => te σ H fun x H1 => x = .ref a ∧ ∃ (C dd : Addr) (fs : List (Str × V)) (v : V), cls = .ref C ∧ XfC K C ∧ PySem.W.findIn K (.ref C) f = some none ∧ d = some dd ∧ H1 dd = some (.xd fs) ∧ fs.lookup f = some v ∧ Q v H1
theorem pe_xfA {X : Cx} {a : Addr} {oe : Obj} {cls : Value} {d : Option Addr} {pn : List (Addr × Obj)} {e : Expr} {te : TE} {pos : Pos} {n : Str}
    (hz : Zc cls d oe) (hf : ∃ vs, oe.data = .fields vs) (he : PE (X.suite a ((a, oe) :: pn)) e te) (hb : attributeBase e n X.env (eval e X.env) = eval e X.env := by rfl) :
    PE (X.suite a ((a, oe) :: pn)) (.Attribute e n pos) (tXfA X.K a cls d n te) := by
  refine ⟨fun pins s σ H Q I h => ?_⟩
  refine attr_of hb (thn (he.run pins s σ H _ I h) fun u s1 hh => ?_)
  obtain ⟨x, H1, I1, rx, ex, C, dd, fs, v, ec, T, hno, ed, ea, l, q⟩ := hh
  subst ex
  obtain rfl : u = Value.ref a := rx
  subst ec
  subst ed
  obtain ⟨ha, _⟩ := I1.pin (a, oe) (List.mem_append_left _ List.mem_cons_self)
  obtain ⟨vs, hd⟩ := hf
  have hx : ObjOk X.prog X.w H1 s1.heap dd (.xd fs) := I1.hok dd _ ea
  obtain ⟨mA, hns, hr⟩ := hx
  obtain ⟨od, ho, hl⟩ := lookIn_ns hns
  obtain ⟨u, hu, ru⟩ := RelO.some_of (v := v) (o := mA n) (by rw [← l]; exact hr n)
  have J : PySem.W.InstAt s1.heap a oe C (some od) := ⟨ha, hz.1, by unfold PySem.W.notCls; rw [hd] <;> rfl, by rw [hz.2]; exact ho⟩
  exact HandSPX.exc_get I1.kIn J T.ga T.gg T.exC (PySem.W.findObj_own T.hdC hno rfl (by rw [hl, hu])) (handed_of ru) ⟨v, H1, I1.tok _, ru, q⟩
/-- the clauses' classes -/
structure Cls8 (mg : Str → Option Value) (c : Fin 14 → Addr) : Prop where
  c0 : mg "NotWhole" = some (.ref (c 0))
  c1 : mg "TooTall" = some (.ref (c 1))
  c2 : mg "BadTable" = some (.ref (c 2))
  c3 : mg "BadText" = some (.ref (c 3))
  c4 : mg "BadPage" = some (.ref (c 4))
  c5 : mg "Stopped" = some (.ref (c 5))
  c6 : mg "Used" = some (.ref (c 6))
  c7 : mg "Held" = some (.ref (c 7))
  c8 : mg "NoGuest" = some (.ref (c 8))
  c9 : mg "NoName" = some (.ref (c 9))
  c10 : mg "RungError" = some (.ref (c 10))
  c11 : mg "RungMissing" = some (.ref (c 11))
/-- what is wanted of an exception: one without more is told by its word, one with a field by its word and that -/
def wfs : List (Nat × Str) := [(0, "part"), (1, "tall"), (2, "at"), (3, "row"), (5, "by"), (6, "name")]
def wWhy (K : PySem.W.Frag) (c : Fin 14 → Addr) (Q : VK) : XK := fun cls d H' => ∃ (C dd : Addr) (fs : List (Str × V)) (nm : Str), cls = .ref C ∧ d = some dd ∧ H' dd = some (.xd fs) ∧ PySem.W.findIn K (.ref C) "word" = some none ∧ fs.lookup ("word" : Str) = some (V.str nm) ∧
  ((Catch K c C 7 ∧ ∀ p, H' p = none → Q (.ref p) (L2.upd H' p (.tup [.str nm, .non]))) ∨ ∃ (j : Nat) (f : Str) (y : V), (j, f) ∈ wfs ∧ Catch K c C j ∧ PySem.W.findIn K (.ref C) f = some none ∧ fs.lookup f = some y ∧ ∀ p, H' p = none → Q (.ref p) (L2.upd H' p (.tup [.str nm, y])))
def TTwhy (K : PySem.W.Frag) (c : Fin 14 → Addr) : (XK → Hp → VK → Prop) → Hp → VK → Prop := fun tl H Q => tl (wWhy K c Q) H fun v H1 => [V.str "told", v].length ≤ sizeLine ∧ ∀ p, H1 p = none → Q (.ref p) (L2.upd H1 p (.tup [.str "told", v]))
theorem takes_len {X : Cx} {W : WX} (t : Takes X W) : Takes X fun cls d σ H => σ.length = X.N.length → W cls d σ H := fun u s' x => by
  obtain ⟨a, B, sI, pins, σ, H, cls, d, e, I, nb, up, sky, na, os, ag, w⟩ := x
  exact t u s' ⟨a, B, sI, pins, σ, H, cls, d, e, I, nb, up, sky, na, os, ag, w I.len⟩
theorem wskip {K : PySem.W.Frag} {Wout : WX} {D : Ends} {cs : List Value} {n : Option Nat} {ts : Addr → Value → Option Addr → TS} {r : List Cl} {cls : Value} {d : Option Addr} {σ : L2.St} {H : Hp} (h : PySem.W.exmAny K cls cs = some false) (k : wClauses K Wout D r cls d σ H) : wClauses K Wout D ((cs, n, ts) :: r) cls d σ H :=
  ⟨false, h, fun z => absurd z (by decide), fun _ => k⟩
theorem wtake {K : PySem.W.Frag} {Wout : WX} {D : Ends} {cs : List Value} {n : Option Nat} {ts : Addr → Value → Option Addr → TS} {r : List Cl} {cls : Value} {d : Option Addr} {σ : L2.St} {H : Hp} (h : PySem.W.exmAny K cls cs = some true) (k : ∀ a, H a = none → ts a cls d (outOf D n) (intoS σ a n) H) : wClauses K Wout D ((cs, n, ts) :: r) cls d σ H :=
  ⟨true, h, fun _ => k, fun z => absurd z (by decide)⟩
theorem set_at {σ : L2.St} {i : Nat} {x : Option V} (h : i < σ.length) : (σ.set i x)[i]? = some x := by
  rw [List.getElem?_set_self h]
section
variable {P : Program} {w : World} {K : PySem.W.Frag} {mg : Str → Option Value} {base : Heap}
theorem sc_law_why : FnScope (["_law_ask", "e"] : List Str) ["_law_ask"] (defScope s_law_why) := ⟨rfl, rfl, rfl, by decide +kernel, rfl, by decide +kernel, by decide +kernel⟩
theorem ok_why {g : Addr} {fd : FuncData} {kl : Nat} {c : Fin 14 → Addr} (F : FunD K "_law_why" "_law_why" (defArgs s_law_why) (defBody s_law_why) (defScope s_law_why) [] [] g fd) (m : mg "_law_why" = some (.ref g)) (M : Cls8 mg c) : Gives P w K mg base (kl + 2) kl "_law_why" g (TTwhy K c) := by
  refine gives_of (Ng := ["_law_ask", "e"]) (a := "_law_ask") F m sc_law_why (fun _ _ _ _ _ _ us hl => match us, hl with | [_], _ => rfl) fun q cdg A outer f c' s H Q tl hr act hfo hfs hc hT => ?_
  refine ⟨_, pss_one (ps_try_cls (Wout := fun _ _ _ _ => False)
      (tb := fun W D σ H => ∃ Ech : XK, (∀ cls d σ' H', Ech cls d H' → σ'.length = 2 → W cls d σ' H') ∧ σ[0]? = some (some (.ref f)) ∧ H c' = some (CodeO c' q) ∧ tl Ech H fun v H1 => [V.str "told", v].length ≤ sizeLine ∧ ∀ p, H1 p = none → D.rt (.ref p) (L2.upd H1 p (.tup [.str "told", v])))
      rfl rfl sc_law_why.nd L2.takes0 (fun W pn xe tk _ => ?body)
      (.as (testName ⟨rfl, by decide, .inl M.c0⟩) (i := 1) rfl rfl (fun a oe cls d pn hz hf => pss_one (ps_ret (pe_tup (pa_cons (pe_xfA hz hf (pv 1)) (pa_cons (pe_xfA hz hf (pv 1)) pa_nil)))))
      (.as (testName ⟨rfl, by decide, .inl M.c1⟩) (i := 1) rfl rfl (fun a oe cls d pn hz hf => pss_one (ps_ret (pe_tup (pa_cons (pe_xfA hz hf (pv 1)) (pa_cons (pe_xfA hz hf (pv 1)) pa_nil)))))
      (.as (testTup2 rfl M.c2 rfl M.c3) (i := 1) rfl rfl (fun a oe cls d pn hz hf => pss_one (ps_ret (pe_tup (pa_cons (pe_xfA hz hf (pv 1)) (pa_cons (pe_xfA hz hf (pv 1)) pa_nil)))))
      (.as (testName ⟨rfl, by decide, .inl M.c4⟩) (i := 1) rfl rfl (fun a oe cls d pn hz hf => pss_one (ps_ret (pe_tup (pa_cons (pe_xfA hz hf (pv 1)) (pa_cons (pe_xfA hz hf (pv 1)) pa_nil)))))
      (.as (testName ⟨rfl, by decide, .inl M.c5⟩) (i := 1) rfl rfl (fun a oe cls d pn hz hf => pss_one (ps_ret (pe_tup (pa_cons (pe_xfA hz hf (pv 1)) (pa_cons (pe_tup (pa_cons (pe_xfA hz hf (pv 1)) (pa_cons (pe_xfA hz hf (pv 1)) pa_nil))) pa_nil)))))
      (.as (testTup2 rfl M.c6 rfl M.c7) (i := 1) rfl rfl (fun a oe cls d pn hz hf => pss_one (ps_ret (pe_tup (pa_cons (pe_xfA hz hf (pv 1)) (pa_cons (pe_xfA hz hf (pv 1)) pa_nil)))))
      (.as (testTup2 rfl M.c8 rfl M.c9) (i := 1) rfl rfl (fun a oe cls d pn hz hf => pss_one (ps_ret (pe_tup (pa_cons (pe_xfA hz hf (pv 1)) (pa_cons (pe_xfA hz hf (pv 1)) pa_nil)))))
      (.as (testTup2 rfl M.c10 rfl M.c11) (i := 1) rfl rfl (fun a oe cls d pn hz hf => pss_one (ps_ret (pe_tup (pa_cons (pe_xfA hz hf (pv 1)) (pa_cons pe_non pa_nil)))))
      .nil))))))))), ?_⟩
  case body =>
    refine ⟨fun pins s' σ H' D I h' => ?_⟩
    obtain ⟨Ech, hW, h1, h2, h3⟩ := h'
    have hp := fun p1 p2 => act (frs outer) CX0 ["_law_ask", "e"] "_law_why" (defScope s_law_why) g cdg A outer s H E0 Un.refl hfo (fun _ hb => hb) hr 0 "_law_ask" _ pn xe Ech p1 p2 rfl (Or.inl rfl) (by decide) (by decide) (takes_len tk) hW
    exact (pss_one (ps_ret (pe_tup (pa_cons pe_str (pa_cons (hp _ _) pa_nil))))).run pins s' σ H' D I ⟨h1, h2, h3⟩
  · refine ⟨wWhy K c Q, fun cls d σ' H' h hlen => ?_, rfl, hc, hT⟩
    obtain ⟨C, dd, fs, nm, rfl, rfl, hx, hw, hl, alt⟩ := h
    rcases alt with ⟨⟨T, hf, ht⟩, k⟩ | ⟨j, f, y, hj, ⟨T, hf, ht⟩, hfw, hly, k⟩
    · refine wskip (hf 0 (by decide) _ rfl) (wskip (hf 1 (by decide) _ rfl) (wskip (hf 2 (by decide) _ rfl) (wskip (hf 3 (by decide) _ rfl) (wskip (hf 4 (by decide) _ rfl) (wskip (hf 5 (by decide) _ rfl) (wskip (hf 6 (by decide) _ rfl) (wtake (ht _ rfl) fun a ha => ?_)))))))
      exact ⟨.ref a, set_at (by omega), rfl, C, dd, fs, .str nm, rfl, T, hw, rfl, hx, hl, (by show 2 ≤ sizeLine; decide), fun p hp => k p hp⟩
    · have go : ∀ a : Addr, σ'.length = 2 → ((intoS σ' a (some 1))[1]? = some (some (.ref a))) := fun a h => set_at (by omega)
      unfold wfs at hj
      simp only [List.mem_cons, Prod.mk.injEq, List.not_mem_nil, or_false] at hj
      rcases hj with ⟨rfl, rfl⟩ | ⟨rfl, rfl⟩ | ⟨rfl, rfl⟩ | ⟨rfl, rfl⟩ | ⟨rfl, rfl⟩ | ⟨rfl, rfl⟩
      · refine wtake (ht _ rfl) fun a ha => ?_
        exact ⟨.ref a, set_at (by omega), rfl, C, dd, fs, .str nm, rfl, T, hw, rfl, hx, hl, .ref a, set_at (by omega), rfl, C, dd, fs, y, rfl, T, hfw, rfl, hx, hly, (by show 2 ≤ sizeLine; decide), fun p hp => k p hp⟩
      · refine wskip (hf 0 (by decide) _ rfl) (wtake (ht _ rfl) fun a ha => ?_)
        exact ⟨.ref a, set_at (by omega), rfl, C, dd, fs, .str nm, rfl, T, hw, rfl, hx, hl, .ref a, set_at (by omega), rfl, C, dd, fs, y, rfl, T, hfw, rfl, hx, hly, (by show 2 ≤ sizeLine; decide), fun p hp => k p hp⟩
      · refine wskip (hf 0 (by decide) _ rfl) (wskip (hf 1 (by decide) _ rfl) (wtake (ht _ rfl) fun a ha => ?_))
        exact ⟨.ref a, set_at (by omega), rfl, C, dd, fs, .str nm, rfl, T, hw, rfl, hx, hl, .ref a, set_at (by omega), rfl, C, dd, fs, y, rfl, T, hfw, rfl, hx, hly, (by show 2 ≤ sizeLine; decide), fun p hp => k p hp⟩
      · refine wskip (hf 0 (by decide) _ rfl) (wskip (hf 1 (by decide) _ rfl) (wskip (hf 2 (by decide) _ rfl) (wtake (ht _ rfl) fun a ha => ?_)))
        exact ⟨.ref a, set_at (by omega), rfl, C, dd, fs, .str nm, rfl, T, hw, rfl, hx, hl, .ref a, set_at (by omega), rfl, C, dd, fs, y, rfl, T, hfw, rfl, hx, hly, (by show 2 ≤ sizeLine; decide), fun p hp => k p hp⟩
      · refine wskip (hf 0 (by decide) _ rfl) (wskip (hf 1 (by decide) _ rfl) (wskip (hf 2 (by decide) _ rfl) (wskip (hf 3 (by decide) _ rfl) (wskip (hf 4 (by decide) _ rfl) (wtake (ht _ rfl) fun a ha => ?_)))))
        exact ⟨.ref a, set_at (by omega), rfl, C, dd, fs, .str nm, rfl, T, hw, rfl, hx, hl, .ref a, set_at (by omega), rfl, C, dd, fs, y, rfl, T, hfw, rfl, hx, hly, (by show 2 ≤ sizeLine; decide), fun p hp => k p hp⟩
      · refine wskip (hf 0 (by decide) _ rfl) (wskip (hf 1 (by decide) _ rfl) (wskip (hf 2 (by decide) _ rfl) (wskip (hf 3 (by decide) _ rfl) (wskip (hf 4 (by decide) _ rfl) (wskip (hf 5 (by decide) _ rfl) (wtake (ht _ rfl) fun a ha => ?_))))))
        exact ⟨.ref a, set_at (by omega), rfl, C, dd, fs, .str nm, rfl, T, hw, rfl, hx, hl, .ref a, set_at (by omega), rfl, C, dd, fs, y, rfl, T, hfw, rfl, hx, hly, (by show 2 ≤ sizeLine; decide), fun p hp => k p hp⟩
/-- the word alone -/
def TTword (K : PySem.W.Frag) (c : Fin 14 → Addr) : (XK → Hp → VK → Prop) → Hp → VK → Prop := fun tl H Q => TTwhy K c tl H fun x H1 => rIxT K x (.int 0) H1 Q
end
end Xk
end
section
set_option Elab.async false
set_option linter.all false
set_option maxRecDepth 100000
set_option maxHeartbeats 4000000
namespace Xk
open PySem PySem.Spec PyProof.Rows L2 Xh LamX NdefX
open NdefX
theorem Wd.put {d : Addr} {T : List (Addr × Str)} {qs : List (Addr × HO)} {H : Hp} (w : Wd d T qs H) {p : Addr} {o : HO} (e : H p = some o) (hp : p ≠ d) (ho : ∀ ps, o ≠ .tbl ps) : Wd d T ((p, o) :: qs) H := by
  refine ⟨w.D, w.T, fun r hr => ?_⟩
  rcases List.mem_cons.mp hr with rfl | hr
  · exact ⟨hp, e, ho⟩
  · exact w.q r hr
theorem Wd.putT {d : Addr} {T : List (Addr × Str)} {qs : List (Addr × HO)} {H : Hp} (w : Wd d T qs H) {p : Addr} {xs : List V} (e : H p = some (.tup xs)) : Wd d T ((p, .tup xs) :: qs) H := by
  refine w.put e (fun z => ?_) (fun _ z => by cases z)
  obtain ⟨c, ns, i, r, g, e2, _⟩ := w.D
  rw [z, e2] at e
  cases e
theorem Wd.a0 {d p : Addr} {o : HO} {T : List (Addr × Str)} {qs : List (Addr × HO)} {H : Hp} (w : Wd d T ((p, o) :: qs) H) : H p = some o := w.at List.mem_cons_self
theorem Wd.tl {d : Addr} {q : Addr × HO} {T : List (Addr × Str)} {qs : List (Addr × HO)} {H : Hp} (w : Wd d T (q :: qs) H) : Wd d T qs H := w.sub fun _ h => List.mem_cons_of_mem _ h
theorem Wd.a1 {d p : Addr} {o : HO} {q : Addr × HO} {T : List (Addr × Str)} {qs : List (Addr × HO)} {H : Hp} (w : Wd d T (q :: (p, o) :: qs) H) : H p = some o := w.tl.a0
theorem Wd.a2 {d p : Addr} {o : HO} {q q2 : Addr × HO} {T : List (Addr × Str)} {qs : List (Addr × HO)} {H : Hp} (w : Wd d T (q :: q2 :: (p, o) :: qs) H) : H p = some o := w.tl.tl.a0
theorem Wd.a3 {d p : Addr} {o : HO} {q q2 q3 : Addr × HO} {T : List (Addr × Str)} {qs : List (Addr × HO)} {H : Hp} (w : Wd d T (q :: q2 :: q3 :: (p, o) :: qs) H) : H p = some o := w.tl.tl.tl.a0
theorem Wd.a4 {d p : Addr} {o : HO} {q q2 q3 q4 : Addr × HO} {T : List (Addr × Str)} {qs : List (Addr × HO)} {H : Hp} (w : Wd d T (q :: q2 :: q3 :: q4 :: (p, o) :: qs) H) : H p = some o := w.tl.tl.tl.tl.a0
theorem Wd.a5 {d p : Addr} {o : HO} {q q2 q3 q4 q5 : Addr × HO} {T : List (Addr × Str)} {qs : List (Addr × HO)} {H : Hp} (w : Wd d T (q :: q2 :: q3 :: q4 :: q5 :: (p, o) :: qs) H) : H p = some o := w.tl.tl.tl.tl.tl.a0
theorem sqD {K : PySem.W.Frag} {H : Hp} {a : Addr} {xs : List V} (e : H a = some (.tup xs)) : SqT K H a xs := .inl (.inl e)
/-! ### the law of texts -/
theorem exf_why {K : PySem.W.Frag} {c : Fin 14 → Addr} {C : Addr} {nm f : Str} {y : V} {H : Hp} {Q : VK} {j : Nat} (hj : (j, f) ∈ wfs) (hf : (("word" : Str) == f) = false) (hc : Catch K c C j) (hw : PySem.W.findIn K (.ref C) "word" = some none) (hwf : PySem.W.findIn K (.ref C) f = some none) (k : ∀ (H' : Hp) (p : Addr), Same H H' → H' p = none → Q (.ref p) (L2.upd H' p (.tup [.str nm, y]))) : ExF H (wWhy K c Q) C nm f y :=
  fun d H' s hx _ => ⟨C, d, _, nm, rfl, rfl, hx, hw, by simp [List.lookup, hf], .inr ⟨j, f, y, hj, hc, hwf, by simp [List.lookup], fun p hp => k H' p s hp⟩⟩
theorem shaped_lay {d : PyData} (h : SeqAt.shaped d = true) : d.canLay0 = true := by
  unfold SeqAt.shaped at h
  exact (Bool.and_eq_true _ _ ▸ h).1
theorem word_ne {K : PySem.W.Frag} {H : Hp} {q t : Addr} {nm : Str} {y : V} {d : PyData} {Q : VK} (hn : PyData.strOk nm = true) (hy : Dp K H y d) (hd : d = .none ∨ ∃ i, d = .int i)
    (e : H q = some (.tup [.str nm, y])) (e2 : H t = some (.tup [.str nm, y])) (k : Q (.bl false) H) : rNeD K (.ref q) (.ref t) H Q := by
  have sh : SeqAt.shaped (.tuple [.str nm, d]) = true := by
    rcases hd with rfl | ⟨i, rfl⟩
    · simp [SeqAt.shaped, PyData.canLay0, PyData.depth, PySem.W.ke_canLayAll0, PyData.canLayAll0, PyData.depthAll, List.replicate, hn]
    · simp [SeqAt.shaped, PyData.canLay0, PyData.depth, PySem.W.ke_canLayAll0, PyData.canLayAll0, PyData.depthAll, List.replicate, hn]
  refine ⟨_, _, .tup (sqD e) (.cons (.str nm) (.cons hy .nil)), .tup (sqD e2) (.cons (.str nm) (.cons hy .nil)), sh, sh, ?_⟩
  rw [SeqAt.eqv_refl _ (shaped_lay sh)]
  exact k
theorem lay_word {nm : Str} (hn : PyData.strOk nm = true) (i : Int) : SeqAt.shaped (.tuple [.str nm, .int i]) = true := by
  simp [SeqAt.shaped, PyData.canLay0, PyData.depth, PySem.W.ke_canLayAll0, PyData.canLayAll0, PyData.depthAll, List.replicate, hn]
def lawQ : Str := (envOfC "law" ⟨.function, [], false, false, []⟩ 0 0 .none).qual ++ "<lambda>"
abbrev TL1 (PL : Addr) : List (Addr × Str) := [(PL, lawQ)]
def spLaw (K : PySem.W.Frag) (PL : Addr) : Sp := fun vs H Q _ => ∃ (a : Addr) (ns : List Int), vs = [.ref a] ∧ SqL K H a (ns.map V.int) ∧ Tabs (TL1 PL) H ∧ ∀ H', Q (.bl true) H'
theorem slHead {K : PySem.W.Frag} {H : Hp} {v : Addr} {ms : List Int} {n : Nat} {Q : VK} (ev : H v = some (.tup (ms.map V.int))) (k : ∀ a H', Same H H' → H' a = some (.tup ((ms.take n).map V.int)) → Q (.ref a) H') : rSlA K (.ref v) none (some ((n : Nat) : Int)) H Q := by
  refine ⟨v, _, rfl, SqT.of ev, fun h => k v H (fun _ _ z => z) ?_, fun _ p hp => k p _ (same_upd hp) ?_⟩
  · have e := h.2
    rw [HT.sIx_nat, List.length_map] at e
    rw [List.take_of_length_le (by omega)]
    exact ev
  · rw [upd_same, cutV_take]
theorem same_ints {K : PySem.W.Frag} {H : Hp} {a b : Addr} {F : List Int} {n : Nat} (ea : H a = some (.tup (F.map V.int))) (eb : H b = some (.tup (F.map V.int))) (l : F.length ≤ 1000) : SameAt K H (n + 1) (.ref a) (.ref b) :=
  .inr ⟨a, b, _, _, rfl, rfl, .inr ⟨SqT.of ea, SqT.of eb⟩, rfl, by rw [List.length_map]; exact l, fun i x y hx hy => by
    rw [hx] at hy
    cases hy
    obtain ⟨z, _, rfl⟩ := List.mem_map.mp (List.mem_of_getElem? hx)
    cases n with
    | zero => exact ⟨rfl, rfl⟩
    | succ n => exact .inl ⟨rfl, rfl⟩⟩
theorem two_at {P : V → V → Prop} {a b a' b' : V} (h1 : P a a') (h2 : P b b') : ∀ (i : Nat) (x y : V), [a, b][i]? = some x → [a', b'][i]? = some y → P x y
  | 0, x, y, hx, hy => by cases hx; cases hy; exact h1
  | 1, x, y, hx, hy => by cases hx; cases hy; exact h2
  | i + 2, x, y, hx, hy => by cases hx
def Due (H : Hp) (p : Nat) (t : List Nat) (D : V) : Prop := (readP p t = none ∧ D = .non) ∨ ∃ (F : List Int) (v : Addr), readP p t = some F ∧ D = .ref v ∧ H v = some (.tup (F.map V.int))
def Fnd (H : Hp) (p : Nat) (t : List Nat) (q : Addr) : Prop := (readP p t = none ∧ H q = some (.tup [.str "BadText", .int 0])) ∨ ∃ (F : List Int) (v : Addr), readP p t = some F ∧ H q = some (.tup [.str "told", .ref v]) ∧ H v = some (.tup (F.map V.int))
theorem Due.keep {H H' : Hp} {p : Nat} {t : List Nat} {D : V} (h : Due H p t D) (k : ∀ a xs, H a = some (.tup xs) → H' a = some (.tup xs)) : Due H' p t D := by
  rcases h with h | ⟨F, v, h1, h2, h3⟩
  · exact .inl h
  · exact .inr ⟨F, v, h1, h2, k _ _ h3⟩
def badTexts : List Str := ["", " ", "1x", "0x", "x^1", "x^0", "01", "x + 1", "1 + 1", "1 +x", "x^25", "x\n", "x^02", "2"]
theorem bad_none : ∀ y ∈ badTexts, readP 2 (TL.tl y) = none := by decide +kernel
section
variable {P : Program} {w : World} {K : PySem.W.Frag} {mg : Str → Option Value} {base : Heap}
theorem sc_law : FnScope (["_law_script", "_law_draw", "_law_turn", "_law_p", "_law_one", "_law_text", "_law_bent_here", "_law_due", "_law_found"] : List Str) ["_law_script"] (defScope s_law) := ⟨rfl, rfl, rfl, by decide +kernel, rfl, by decide +kernel, by decide +kernel⟩
theorem ok_law {f cL PL gwhy : Addr} {c C : Fin 14 → Addr} {fd : FuncData} (F : FunD K "law" "law" (defArgs s_law) (defBody s_law) (defScope s_law) [] [] f fd) (hcd : fd.code = .ref cL) (TB : TabB base mg cL PL) (hmT : (PL, lawQ) ∈ TL1 PL) (hu : ∀ p ∈ TL1 PL, p.1 = PL → p.2 = lawQ) (T : Fre mg) (hC : Catch K c (C 2) 2) (hw : PySem.W.findIn K (.ref (C 2)) "word" = some none) (hwf : PySem.W.findIn K (.ref (C 2)) "at" = some none)
    (o_law_begin : Own P w K mg base CX0 1 "_law_begin" ["_law_script"] [] (spBegin K)) (o_law_of : Own P w K mg base CX0 2 "_law_of" ["_law_draw", "_law_row"] [] (spOf K)) (o_law_poly : Own P w K mg base CX0 3 "_law_poly" ["_law_draw", "_law_most", "_law_p"] [] (spPolyD K)) (o_law_poly_text : Own P w K mg base CX0 1 "_law_poly_text" ["_law_one"] [] (spLText K)) (o_law_bent : Own P w K mg base CX0 3 "_law_bent" ["_law_draw", "_law_text"] [] spBent) (o_law_read : Own P w K mg base CX0 3 "_law_read" ["_law_text", "_law_p"] [] spLRead) (o_law_same : Own P w K mg base CX0 3 "_law_same" ["_law_found", "_law_due"] [] (spS K 3))
    (G_law_why : Gives P w K mg base 7 5 "_law_why" gwhy (TTwhy K c))
    (k_poly_text : OwnK P w K mg base (L2.CX P w) 5 1 "poly_text" ["one", "prime"] ["prime"] (spPText K)) (o_poly_text : Own P w K mg base (L2.CX P w) 5 "poly_text" ["one", "prime"] [.int 2] (spPText K)) (k_read_poly : OwnK P w K mg base (L2.CX P w) 4 1 "read_poly" ["text", "prime"] ["prime"] (spReadP (C 2))) (o_read_poly : Own P w K mg base (L2.CX P w) 4 "read_poly" ["text", "prime"] [.int 2] (spReadP (C 2))) : FnOk P w K mg base CX0 9 f fd ["_law_script"] (spLaw K PL) := by
  refine FunD_okC F hcd sc_law (fun vs H Q E h => ?_) (fun A outer s H vs Q E hr h => ?_)
  · obtain ⟨a, ns, rfl, _⟩ := h
    rfl
  · obtain ⟨a0, ns, rfl, hS, hT, k⟩ := h
    refine ⟨_, PSs.nox (pss_cons (ps_set (i := 1) sc_law.nd rfl (Or.inl rfl) (pe_own o_law_begin (hr.mono (by decide)) rfl pass0 (pa_cons (pv 0) pa_nil)))
      (pss_cons (ps_for PassesOwn.never rfl (pi_range1 (by rfl) T.f_range (pa_cons pe_int pa_nil)) (pg_name (i := 2) sc_law.nd rfl (Or.inl rfl)) (pss_cons (ps_set (i := 3) sc_law.nd rfl (Or.inr rfl) (pe_own o_law_of (hr.mono (by decide)) rfl pass0 (pa_cons (pv 1) (pa_cons (pe_lst (pa_cons pe_int (pa_cons pe_int (pa_cons pe_int (pa_cons pe_int (pa_cons pe_int pa_nil)))))) pa_nil))))
      (pss_cons (ps_set (i := 4) sc_law.nd rfl (Or.inl rfl) (pe_own o_law_poly (hr.mono (by decide)) rfl pass0 (pa_cons (pv 1) (pa_cons (pe_own o_law_of (hr.mono (by decide)) rfl pass0 (pa_cons (pv 1) (pa_cons (pe_lst (pa_cons pe_int (pa_cons pe_int (pa_cons pe_int pa_nil)))) pa_nil))) (pa_cons (pv 3) pa_nil)))))
      (pss_cons (ps_set (i := 5) sc_law.nd rfl (Or.inr rfl) (pe_own o_law_poly_text (hr.mono (by decide)) rfl pass0 (pa_cons (pv 4) pa_nil)))
      (pss_cons (ps_if (pt_not (pt_val (pe_own o_law_same (hr.mono (by decide)) rfl pass0 (pa_cons (pe_lst (pa_cons (pe_ownK k_poly_text (hr.mono (by decide)) rfl passL (pa_cons (pv 4) pa_nil) (pk_cons (pv 3) pk_nil)) (pa_cons (pe_ownK k_read_poly (hr.mono (by decide)) rfl passL (pa_cons (pv 5) pa_nil) (pk_cons (pv 3) pk_nil)) pa_nil))) (pa_cons (pe_lst (pa_cons (pv 5) (pa_cons (pv 4) pa_nil))) pa_nil))))) (pss_one (ps_ret pe_bl)) pss_nil)
      (pss_cons (ps_set (i := 6) sc_law.nd rfl (Or.inr rfl) (pe_own o_law_bent (hr.mono (by decide)) rfl pass0 (pa_cons (pv 1) (pa_cons (pe_own o_law_poly_text (hr.mono (by decide)) rfl pass0 (pa_cons (pe_slice sl_tupA (pv 4) po_none (po_some pe_int)) pa_nil)) pa_nil))))
      (C8.pss_cut (ps_set (i := 7) sc_law.nd rfl (Or.inl rfl) (pe_ifExp (pt_cmpR op_eq (pv 6) pe_str (nomark _)) (pe_tup pa_nil) (pe_own o_law_read (hr.mono (by decide)) rfl pass0 (pa_cons (pv 6) (pa_cons (pv 3) pa_nil)))))
      (C8.pss_cut (ps_set (i := 8) sc_law.nd rfl (Or.inl rfl) (pe_lam (T := TL1 PL) (kl := 5) G_law_why rfl TB rfl hmT hu (hr.mono (by decide)) (lamS_by (sc := defScope s_law) (by decide +kernel)) rfl (fun _ _ _ _ _ => rfl) (fun A outer s H E f c' hr2 => (pe_ownK k_read_poly (hr2.mono (by decide)) rfl (passes_call (takes_of rfl rfl rfl rfl) (fun _ _ _ _ h => h)) (pa_cons (pv 6) pa_nil) (pk_cons (pv 3) pk_nil)))))
      (pss_one (ps_if (pt_not (pt_val (pe_own o_law_same (hr.mono (by decide)) rfl pass0 (pa_cons (pv 8) (pa_cons (pe_ifExp (pt_cmpR op_isN (pv 7) pe_non (nomark _)) (pe_tup (pa_cons pe_str (pa_cons pe_int pa_nil))) (pe_tup (pa_cons pe_str (pa_cons (pv 7) pa_nil)))) pa_nil))))) (pss_one (ps_ret pe_bl)) pss_nil))))))))))
      (pss_cons (ps_for PassesOwn.never rfl (pi_tup (pe_tup (pa_cons pe_str (pa_cons pe_str (pa_cons pe_str (pa_cons pe_str (pa_cons pe_str (pa_cons pe_str (pa_cons pe_str (pa_cons pe_str (pa_cons pe_str (pa_cons pe_str (pa_cons pe_str (pa_cons pe_str (pa_cons pe_str (pa_cons pe_str pa_nil)))))))))))))))) (pg_name (i := 5) sc_law.nd rfl (Or.inr rfl)) (pss_one (ps_if (pt_cmpR (op_neD hr.units) (pe_lam (T := TL1 PL) (kl := 5) G_law_why rfl TB rfl hmT hu (hr.mono (by decide)) (lamS_by (sc := defScope s_law) (by decide +kernel)) rfl (fun _ _ _ _ _ => rfl) (fun A outer s H E f c' hr2 => (pe_own o_read_poly (hr2.mono (by decide)) rfl (passes_call (takes_of rfl rfl rfl rfl) (fun _ _ _ _ h => h)) (pa_cons (pv 5) pa_nil)))) (pe_tup (pa_cons pe_str (pa_cons pe_int pa_nil))) (nomark _)) (pss_one (ps_ret pe_bl)) pss_nil)))
      (pss_one (ps_ret (pe_and (pe_cmpR (op_eqD hr.units) (pe_own o_read_poly (hr.mono (by decide)) rfl passL (pa_cons pe_str pa_nil)) (pe_op op_catA (pe_op op_repZ (pe_tup (pa_cons pe_int pa_nil)) pe_int) (pe_tup (pa_cons pe_int pa_nil))) (nomark _)) (pe_one (pe_cmpR op_eq (pe_own o_poly_text (hr.mono (by decide)) rfl passL (pa_cons (pe_tup pa_nil) pa_nil)) pe_str (nomark _))))))))) , ?_⟩
    refine ⟨_, rfl, a0, ns, rfl, hS, fun d H1 s1 nd D1 => ?_⟩
    have W1 : Wd d (TL1 PL) [] H1 := ⟨D1, hT.ext s1, fun p hp => nomatch hp⟩
    refine ⟨4, rfl, by decide, by decide, ?_⟩
    refine for_range (lo := 0) (n := 4) (fun i σ' H' => ∃ x2 x3 x4 x5 x6 x7 x8, σ' = [some (.ref a0), some (.ref d), x2, x3, x4, x5, x6, x7, x8] ∧ Wd d (TL1 PL) [] H') ⟨none, none, none, none, none, none, none, rfl, W1⟩ ?_ ?_
    · rintro i σ' H2 hi ⟨x2, x3, x4, x5, x6, x7, x8, rfl, W2⟩
      refine ⟨_, rfl, (by show 5 ≤ sizeLine; decide), fun l1 hl1 => ?_⟩
      have sl1 := same_upd (o := .lst [.int 2, .int 3, .int 5, .int 11, .int 97]) hl1
      have W3 := W2.same sl1
      refine ⟨d, l1, _, rfl, W3.D, SqL.of upd_same, W2.D.ne hl1, (by show 0 < 5; decide), (by show 5 ≤ 1000; decide), fun x H3 hx D3 B3 => ?_⟩
      have W4 := W3.but B3 D3
      obtain ⟨p, rfl, hp⟩ : ∃ p : Nat, x = .int (p : Int) ∧ (p : Int) ∈ primes := by
        simp only [List.mem_cons, List.not_mem_nil, or_false] at hx
        rcases hx with rfl | rfl | rfl | rfl | rfl
        · exact ⟨2, rfl, by decide⟩
        · exact ⟨3, rfl, by decide⟩
        · exact ⟨5, rfl, by decide⟩
        · exact ⟨11, rfl, by decide⟩
        · exact ⟨97, rfl, by decide⟩
      have hpm := pm_of hp
      have lo := hpm.lo
      have hi97 := prime_hi p hp
      refine ⟨_, rfl, _, rfl, (by show 3 ≤ sizeLine; decide), fun l2 hl2 => ?_⟩
      have sl2 := same_upd (o := .lst [.int 3, .int 12, .int 25]) hl2
      have W5 := W4.same sl2
      refine ⟨d, l2, _, rfl, W5.D, SqL.of upd_same, W4.D.ne hl2, (by show 0 < 3; decide), (by show 3 ≤ 1000; decide), fun x H4 hx D4 B4 => ?_⟩
      have W6 := W5.but B4 D4
      obtain ⟨m, rfl, hm⟩ : ∃ m : Nat, x = .int (m : Int) ∧ m ≤ 25 := by
        simp only [List.mem_cons, List.not_mem_nil, or_false] at hx
        rcases hx with rfl | rfl | rfl
        · exact ⟨3, rfl, by decide⟩
        · exact ⟨12, rfl, by decide⟩
        · exact ⟨25, rfl, by decide⟩
      refine ⟨_, rfl, d, m, (p : Int), rfl, W6.D, hm, hpm, fun ms a H5 D5 B5 hP lms _ _ ea => ?_⟩
      have W7 := W6.but B5 D5
      have lms25 := hP.len
      have hbm : ∀ r ∈ ms, 0 ≤ r ∧ r < (p : Int) := fun r hr => by
        obtain ⟨j, hj⟩ := List.mem_iff_getElem?.mp hr
        have := hP.rs j
        rw [List.getD_eq_getElem?_getD, hj] at this
        exact this
      have can : Can p ms := ⟨hbm, lms25, hP.tr⟩
      refine ⟨_, rfl, a, ms, rfl, SqT.of ea, by omega, fun r hr => by have := hbm r hr; omega, fun y H6 s6 ey ly => ?_⟩
      have W8 := W7.same s6
      refine ⟨_, rfl, _, rfl, rfl, rfl, a, ms, (p : Int), rfl, hp, hP.same s6, fun y1 H7 s7 ey1 => ?_⟩
      obtain rfl : y1 = y := TL.ext_tl (ey1.trans ey.symm)
      refine ⟨_, rfl, _, rfl, rfl, rfl, y1, p, rfl, hp, by omega, fun F' hF v H8 s8 ev => ?_, fun z => ?_⟩
      rotate_left
      · rw [ey, readP_of (by omega) (by omega) can] at z
        cases z
      rw [ey, readP_of (by omega) (by omega) can] at hF
      cases hF
      refine ⟨(by show 2 ≤ sizeLine; decide), fun l3 hl3 => ⟨_, rfl, _, rfl, (by show 2 ≤ sizeLine; decide), fun l4 hl4 => ?_⟩⟩
      have sl3 := same_upd (o := .lst [.str y1, .ref v]) hl3
      have sl4 := same_upd (o := .lst [.str y1, .ref a]) hl4
      have s68 := s7.trans s8
      have s64 := (s68.trans sl3).trans sl4
      have ea6 := s6 _ _ ea
      refine ⟨.ref l3, .ref l4, rfl, .inr ⟨l3, l4, _, _, rfl, rfl, .inl ⟨SqL.of (sl4 _ _ upd_same), SqL.of upd_same⟩, rfl, (by show 2 ≤ 1000; decide), two_at (.inl ⟨rfl, rfl⟩) (same_ints ((sl3.trans sl4) _ _ ev) (s64 _ _ ea6) (by omega))⟩, fun H9 s9 => ⟨_, rfl, iteF ?_⟩⟩
      have s69 := s64.trans s9
      have W9 := W8.same s69
      have ea9 := s69 _ _ ea6
      -- bent
      refine ⟨_, rfl, _, rfl, 4, rfl, ?_⟩
      refine slHead (ms := ms) (n := 4) ea9 fun a4 H10 s10 e4 => ?_
      refine ⟨a4, ms.take 4, rfl, SqT.of e4, by rw [List.length_take]; omega, fun r hr => by have := hbm r (List.mem_of_mem_take hr); omega, fun yb H11 s11 _ lyb => ?_⟩
      have W11 := (W9.same s10).same s11
      refine ⟨d, yb, rfl, W11.D, by rw [List.length_take] at lyb; omega, fun z H12 lz D12 B12 => ?_⟩
      have W12 := W11.but B12 D12
      refine ⟨fun σ' H' => ∃ D x2 x8, σ' = [some (.ref a0), some (.ref d), x2, some (.int p), some (.ref a), some (.str y1), some (.str z), some D, x8] ∧ Wd d (TL1 PL) [] H' ∧ Due H' p (TL.tl z) D, ?_, ?_⟩
      · refine ⟨_, rfl, rfl, _, rfl, ?_⟩
        by_cases g : z = Str.ofString "0"
        · rw [decide_eq_true (by rw [g])]
          refine iteT ⟨(by show 0 ≤ sizeLine; decide), fun v0 hv0 => ⟨.ref v0, _, _, rfl, W12.same (same_upd hv0), .inr ⟨[], v0, ?_, rfl, upd_same⟩⟩⟩
          rw [g, show TL.tl (Str.ofString "0") = Xp.textL [] from rfl]
          exact readP_of (by omega) (by omega) ⟨(fun r hr => nomatch hr), Nat.zero_le _, rfl⟩
        · rw [decide_eq_false (fun h => g (V.str.inj h))]
          have ne48 : TL.tl z ≠ [48] := fun h => g (TL.ext_tl h)
          have eqP := lawP_eq (p := p) (by omega) (by omega) ne48
          exact iteF ⟨_, rfl, _, rfl, z, p, rfl, hp, lz, fun F' hF' v' H' s' ev' => ⟨.ref v', _, _, rfl, W12.same s', .inr ⟨F', v', by rw [← eqP]; exact hF', rfl, ev'⟩⟩, fun hn H' s' => ⟨.non, _, _, rfl, W12.same s', .inl ⟨by rw [← eqP]; exact hn, rfl⟩⟩⟩
      rintro σ1 H13 ⟨D, x2, x8, rfl, W13, due⟩
      refine ⟨fun σ' H' => ∃ x2 q, σ' = [some (.ref a0), some (.ref d), x2, some (.int p), some (.ref a), some (.str y1), some (.str z), some D, some (.ref q)] ∧ Wd d (TL1 PL) [] H' ∧ Due H' p (TL.tl z) D ∧ Fnd H' p (TL.tl z) q, ?_, ?_⟩
      · refine ⟨W13.T, fun H14 x14 T14 => ?_⟩
        have W14 := W13.ext x14 T14
        have due14 := due.keep fun a xs e => x14 _ _ e (fun _ z => by cases z)
        refine ⟨_, rfl, _, rfl, rfl, rfl, z, p, rfl, hp, lz, fun F' hF' v' H' s' ev' => ⟨(by show 2 ≤ sizeLine; decide), fun q hq => ?_⟩, fun hn => exf_why (j := 2) (by unfold wfs; decide) (by decide) hC hw hwf fun H' q s' hq => ?_⟩
        · have sq := same_upd (o := .tup [.str "told", .ref v']) hq
          exact ⟨_, q, rfl, (W14.same s').same sq, due14.keep fun a xs e => (s'.trans sq) _ _ e, .inr ⟨F', v', hF', upd_same, sq _ _ ev'⟩⟩
        · have sq := same_upd (o := .tup [.str "BadText", .int 0]) hq
          exact ⟨_, q, rfl, (W14.same s').same sq, due14.keep fun a xs e => (s'.trans sq) _ _ e, .inl ⟨hn, upd_same⟩⟩
      rintro σ2 H15 ⟨x2, q, rfl, W15, due, fnd⟩
      refine ⟨_, rfl, _, rfl, rfl, _, rfl, ?_⟩
      rcases due with ⟨hn, rfl⟩ | ⟨F', v', hs, rfl, ev'⟩
      · rw [decide_eq_true (rfl : V.non = V.non)]
        refine iteT ⟨(by show 2 ≤ sizeLine; decide), fun q2 hq2 => ?_⟩
        have sq := same_upd (o := .tup [.str "BadText", .int 0]) hq2
        rcases fnd with ⟨_, eq⟩ | ⟨F', _, hs, _⟩
        · refine ⟨.ref q, .ref q2, rfl, .inr ⟨q, q2, _, _, rfl, rfl, .inr ⟨SqT.of (sq _ _ eq), SqT.of upd_same⟩, rfl, (by show 2 ≤ 1000; decide), two_at (.inl ⟨rfl, rfl⟩) (.inl ⟨rfl, rfl⟩)⟩, fun H9 s9 => ⟨_, rfl, iteF ⟨_, _, _, _, _, _, _, rfl, (W15.same sq).same s9⟩⟩⟩
        · rw [hn] at hs
          cases hs
      · rw [decide_eq_false (fun h => nomatch h)]
        refine iteF ⟨_, rfl, (by show 2 ≤ sizeLine; decide), fun q2 hq2 => ?_⟩
        have sq := same_upd (o := .tup [.str "told", .ref v']) hq2
        rcases fnd with ⟨hn, _⟩ | ⟨F2, v2, hs2, eq, ev2⟩
        · rw [hn] at hs
          cases hs
        · rw [hs] at hs2
          cases hs2
          have lF := (readP_can (by omega) hs).1.l
          refine ⟨.ref q, .ref q2, rfl, .inr ⟨q, q2, _, _, rfl, rfl, .inr ⟨SqT.of (sq _ _ eq), SqT.of upd_same⟩, rfl, (by show 2 ≤ 1000; decide), two_at (.inl ⟨rfl, rfl⟩) (same_ints (sq _ _ ev2) (sq _ _ ev') (by omega))⟩, fun H9 s9 => ⟨_, rfl, iteF ⟨_, _, _, _, _, _, _, rfl, (W15.same sq).same s9⟩⟩⟩
    · rintro σ' H2 ⟨x2, x3, x4, x5, x6, x7, x8, rfl, W2⟩
      refine ⟨(by show 14 ≤ sizeLine; decide), fun BT hBT => ⟨BT, rfl, ⟨_, SqT.of upd_same⟩, ?_⟩⟩
      have sBT := same_upd (o := .tup (badTexts.map V.str)) hBT
      have W3 := (W2.same sBT).putT upd_same
      refine for_it (walk_tup (xs := badTexts.map V.str)) (fun i σ' H' => ∃ x2 x3 x4 x5 x6 x7 x8, σ' = [some (.ref a0), some (.ref d), x2, x3, x4, x5, x6, x7, x8] ∧ Wd d (TL1 PL) [(BT, .tup (badTexts.map V.str))] H') ⟨_, _, _, _, _, _, _, rfl, W3⟩ (fun i σ' H' _ ⟨_, _, _, _, _, _, _, _, w⟩ => SqT.of w.a0) ?_ ?_
      · rintro i x σ' H4 H5 hi ⟨x2, x3, x4, x5, x6, x7, x8, rfl, W4⟩ ⟨rfl, hx⟩
        obtain ⟨y, hy, rfl⟩ := List.mem_map.mp (List.mem_of_getElem? hx)
        have hn := bad_none y hy
        have ly : y.length ≤ 10 := (show ∀ y ∈ badTexts, y.length ≤ 10 by decide +kernel) y hy
        refine ⟨W4.T, fun H6 x6' T6 => ?_⟩
        have W6 := W4.ext x6' T6
        refine ⟨_, rfl, y, 2, rfl, by decide, by omega, fun F' hF' => ?_, fun _ => exf_why (j := 2) (by unfold wfs; decide) (by decide) hC hw hwf fun H' q s' hq => ?_⟩
        · rw [hn] at hF'
          cases hF'
        have sq := same_upd (o := .tup [.str "BadText", .int 0]) hq
        refine ⟨(by show 2 ≤ sizeLine; decide), fun q2 hq2 => ?_⟩
        have sq2 := same_upd (o := .tup [.str "BadText", .int 0]) hq2
        exact word_ne (by decide +kernel) (.int 0) (.inr ⟨_, rfl⟩) (sq2 _ _ upd_same) upd_same ⟨_, rfl, iteF ⟨_, _, _, _, _, _, _, rfl, ((W6.same s').same sq).same sq2⟩⟩
      · rintro σ' H4 ⟨x2, x3, x4, x5, x6, x7, x8, rfl, W4⟩
        have canX : Can 2 (List.replicate 24 0 ++ [1]) := ⟨by decide, by decide, by decide⟩
        have rx := readP_of (p := 2) (by decide) (by decide) canX
        have tx : Xp.textL (List.replicate 24 0 ++ [1]) = TL.tl (Str.ofString "x^24") := by decide +kernel
        rw [tx] at rx
        refine ⟨Str.ofString "x^24", 2, rfl, by decide, by decide, fun F' hF v H5 s5 ev => ?_, fun z => ?_⟩
        rotate_left
        · rw [rx] at z
          cases z
        rw [rx] at hF
        cases hF
        refine ⟨(by show 1 ≤ sizeLine; decide), fun Z hZ => ?_⟩
        refine ⟨Z, 24, [.int 0], rfl, rfl, SqT.of upd_same, by simp, by decide, by decide, (by show 1 ≤ 1000; decide), fun e => absurd e (by decide), fun _ u hu => ?_⟩
        have e6 := (upd_same : L2.upd (L2.upd H5 Z (.tup [.int 0])) u (.tup (List.replicate (24 : Int).toNat [V.int 0]).flatten) u = _)
        have s6 := same_upd (o := .tup (List.replicate (24 : Int).toNat [V.int 0]).flatten) hu
        refine ⟨(by show 1 ≤ sizeLine; decide), fun Y hY => ?_⟩
        have sZ := same_upd (o := .tup [.int 0]) hZ
        have sY := same_upd (o := .tup [.int 1]) hY
        refine catR (sY _ _ e6) upd_same (by decide) fun r H7 s7 er => ?_
        have er2 : H7 r = some (.tup ((List.replicate 24 0 ++ [1] : List Int).map V.int)) := er
        refine ⟨_, _, dp_tup (SqT.of (s7 _ _ (sY _ _ (s6 _ _ (sZ _ _ ev))))), dp_tup (SqT.of er2), sh_ints _, sh_ints _, _, rfl, ?_⟩
        rw [eqv_dec, decide_eq_true (rfl : (List.replicate 24 0 ++ [1] : List Int) = List.replicate 24 0 ++ [1])]
        refine iteT ⟨(by show 0 ≤ sizeLine; decide), fun t0 ht0 => ⟨t0, [], 2, rfl, by decide, ⟨.inl (.inl upd_same), Nat.zero_le _, fun j => (by simp : 0 ≤ ([] : List Int).getD j 0 ∧ ([] : List Int).getD j 0 < 2), rfl⟩, fun y H8 s8 ey => ⟨rfl, ?_⟩⟩⟩
        obtain rfl : y = Str.ofString "0" := TL.ext_tl ey
        rw [decide_eq_true rfl]
        exact k _
end
end Xk
end
section
set_option Elab.async false
set_option linter.all false
set_option maxRecDepth 100000
set_option maxHeartbeats 4000000
namespace Xk
open PySem PySem.Spec PyProof.Rows L2 Xh LamX He NdefX
section
variable {P : Program} {w : World} {K : PySem.W.Frag} {mg : Str → Option Value} {base : Heap}
theorem o_init0 {f : Addr} {fd : FuncData} (F : FunD K "__init__" "RungError.__init__" (defArgs s_RungError___init) (defBody s_RungError___init) (defScope s_RungError___init) [] [] f fd) : FnR P w K mg base (L2.CX P w) 1 f (spRI1 K) :=
  ok_rinit (st := s_RungError___init) F sc_RungError___init (fun kV doc pm an cdv ct => StX.bind_star1 (p1 := "self") (pv := "told") (B := fun vs => bindArgs (PySem.W.fnOf "__init__" "RungError.__init__" (defArgs s_RungError___init) (defBody s_RungError___init) (defScope s_RungError___init) .none kV doc pm an cdv ct) ⟨vs, []⟩) (fun a => rfl) (fun a r rs => rfl))
    (fun X hK hN hs => by
      subst hK
      have hN0 : X.N[0]? = some ("self" : Str) := by rw [hN]; rfl
      have hv0 : Vis X.env.scope ("self" : Str) := by rw [hs]; first | exact Or.inl rfl | exact Or.inr (Or.inl rfl) | exact Or.inr (Or.inr rfl)
      exact pss_one (ps_ost (pv 0 hN0 hv0) (pe_clsnm (pv 0 hN0 hv0))))
theorem f_init_BadText {f R g : Addr} {fd : FuncData} (F : FunD K "__init__" "BadText.__init__" (defArgs s_BadText___init) (defBody s_BadText___init) (defScope s_BadText___init) [] [] f fd) (hm : mg "RungError" = some (.ref R)) (c : CDef K R g "__init__") (o : FnR P w K mg base (L2.CX P w) 1 g (spRI1 K)) : FnOk P w K mg base (L2.CX P w) 2 f fd ["self", "at"] (spFI K "at") :=
  ok_finit (st := s_BadText___init) (fI := f) (R := R) F sc_BadText___init (fun X hK hP hw hmg hb hN hs hr hx => by
    subst hK hP hw hmg hb
    have hN0 : X.N[0]? = some ("self" : Str) := by rw [hN]; rfl
    have hN1 : X.N[1]? = some ("at" : Str) := by rw [hN]; rfl
    have v0 : Vis X.env.scope ("self" : Str) := by rw [hs]; first | exact Or.inl rfl | exact Or.inr (Or.inl rfl) | exact Or.inr (Or.inr rfl)
    have v1 : Vis X.env.scope ("at" : Str) := by rw [hs]; first | exact Or.inl rfl | exact Or.inr (Or.inl rfl) | exact Or.inr (Or.inr rfl)
    have gl : Gl X ("RungError" : Str) := by
      show X.env.scope.names.lookup ("RungError" : Str) = some NameKind.globalImplicit
      rw [hs]
      rfl
    exact pss_cons (ps_expr (pe_cdef gl hm c o hr hx (pa_cons (pv 0 hN0 v0) pa_nil))) (pss_one (ps_ost (pv 0 hN0 v0) (pv 1 hN1 v1))))
theorem code_of {x q : Str} {params : Arguments} {body : List Stmt} {scope : Scope} {dvs : List V} {kws : List (Str × V)} {p : Defn} {fd : FuncData} (F : FunD K x q params body scope dvs kws (fAd K p) fd) : fd.code = .ref (cT K p).1 := by
  obtain ⟨oc, od, dV, kV, doc, pm, an, cdv, ct, osl, rfl, lk, hcd, hD, _⟩ := F.ex
  obtain ⟨c, rfl⟩ := codeIn_ref hcd
  show Value.ref c = .ref (codeOf K p)
  rw [codeOf_eq lk rfl]
theorem lit_tup (H : Hp) (h : tupB K "PRIMES" (primes.map Dv.int) = true) : SqT K H (ga K "PRIMES") (primes.map V.int) := by
  have z := tupB_ok h H
  rw [List.map_map] at z
  exact z
def kOf (K : PySem.W.Frag) (i : Fin 14) : Addr := ga K (((["BadPrime", "BadPoly", "BadText"] : List Str)).getD i.val "BadPrime")
theorem facts {h : Heap} {f : Addr} (X : K.In h) (G : h.Ns mainGlobals mg) (hfa : mg ("law" : Str) = some (.ref f)) (c : SaysX faL fnL [] [("law", none)] exL w h K) :
    ∃ fd : FuncData, (∀ (s : Shared) (v : Value), BindsTo s fd ⟨[v], []⟩ [("_law_script", v)]) ∧ ∀ base : Heap, TabB base mg (cT K ("law", none)).1 (cT K ("law", none)).2 → FnOk P w K mg base CX0 9 f fd ["_law_script"] (spLaw K (cT K ("law", none)).2) := by
  obtain ⟨e0, e⟩ := ba c.more
  obtain ⟨e1, e⟩ := ba e
  obtain ⟨e2, e⟩ := ba e
  obtain ⟨e3, e⟩ := ba e
  obtain ⟨e4, e⟩ := ba e
  obtain ⟨e5, e⟩ := ba e
  have e6 := e
  obtain ⟨r_BadPrime, w_BadPrime, i_BadPrime, t_BadPrime⟩ := clsB_ok e1
  obtain ⟨r_BadPoly, w_BadPoly, i_BadPoly, t_BadPoly⟩ := clsB_ok e2
  obtain ⟨r_BadText, w_BadText, i_BadText, t_BadText⟩ := clsB_ok e3
  have v_BadText := eqO_ok e4
  have hC_BadText := catchB_ok e6
  obtain ⟨fdRungError___init, FRungError___init⟩ := c.t.d.def_ 0 (d := fnL[0]) rfl
  obtain ⟨fdBadText___init, FBadText___init⟩ := c.t.d.def_ 1 (d := fnL[1]) rfl
  obtain ⟨fdis_prime, Fis_prime⟩ := c.t.d.def_ 2 (d := fnL[2]) rfl
  obtain ⟨fdis_number, Fis_number⟩ := c.t.d.def_ 3 (d := fnL[3]) rfl
  obtain ⟨fdis_rest, Fis_rest⟩ := c.t.d.def_ 4 (d := fnL[4]) rfl
  obtain ⟨fdrefuse_prime, Frefuse_prime⟩ := c.t.d.def_ 5 (d := fnL[5]) rfl
  obtain ⟨fdtrimmed, Ftrimmed⟩ := c.t.d.def_ 6 (d := fnL[6]) rfl
  obtain ⟨fdis_poly, Fis_poly⟩ := c.t.d.def_ 7 (d := fnL[7]) rfl
  obtain ⟨fdrefuse_polys, Frefuse_polys⟩ := c.t.d.def_ 8 (d := fnL[8]) rfl
  obtain ⟨fdpoly_text, Fpoly_text⟩ := c.t.d.def_ 9 (d := fnL[9]) rfl
  obtain ⟨fdread_poly, Fread_poly⟩ := c.t.d.def_ 10 (d := fnL[10]) rfl
  obtain ⟨fdwritten, Fwritten⟩ := c.t.d.def_ 11 (d := fnL[11]) rfl
  obtain ⟨fdwritten_term, Fwritten_term⟩ := c.t.d.def_ 12 (d := fnL[12]) rfl
  obtain ⟨fdread_term, Fread_term⟩ := c.t.d.def_ 13 (d := fnL[13]) rfl
  obtain ⟨fdread_figures, Fread_figures⟩ := c.t.d.def_ 14 (d := fnL[14]) rfl
  obtain ⟨fdlaw_begin, Flaw_begin⟩ := c.t.d.def_ 15 (d := fnL[15]) rfl
  obtain ⟨fdlaw_take, Flaw_take⟩ := c.t.d.def_ 16 (d := fnL[16]) rfl
  obtain ⟨fdlaw_of, Flaw_of⟩ := c.t.d.def_ 17 (d := fnL[17]) rfl
  obtain ⟨fdlaw_mixed, Flaw_mixed⟩ := c.t.d.def_ 18 (d := fnL[18]) rfl
  obtain ⟨fdlaw_same, Flaw_same⟩ := c.t.d.def_ 19 (d := fnL[19]) rfl
  obtain ⟨fdlaw_why, Flaw_why⟩ := c.t.d.def_ 20 (d := fnL[20]) rfl
  obtain ⟨fdlaw_trim, Flaw_trim⟩ := c.t.d.def_ 21 (d := fnL[21]) rfl
  obtain ⟨fdlaw_rests, Flaw_rests⟩ := c.t.d.def_ 22 (d := fnL[22]) rfl
  obtain ⟨fdlaw_poly, Flaw_poly⟩ := c.t.d.def_ 23 (d := fnL[23]) rfl
  obtain ⟨fdlaw_pairs, Flaw_pairs⟩ := c.t.d.def_ 24 (d := fnL[24]) rfl
  obtain ⟨fdlaw_poly_text, Flaw_poly_text⟩ := c.t.d.def_ 25 (d := fnL[25]) rfl
  obtain ⟨fdlaw_read, Flaw_read⟩ := c.t.d.def_ 26 (d := fnL[26]) rfl
  obtain ⟨fdlaw_term, Flaw_term⟩ := c.t.d.def_ 27 (d := fnL[27]) rfl
  obtain ⟨fdlaw_bent, Flaw_bent⟩ := c.t.d.def_ 28 (d := fnL[28]) rfl
  obtain ⟨fdlaw, Flaw⟩ := c.t.d.def_ 29 (d := fnL[29]) rfl
  have e := hfa.symm.trans (glo_ok X G (c.t.d.fact 42 (f := .glo "law") rfl))
  cases e
  have b := FunD.bindsA (ps := ["_law_script"]) Flaw fun _ _ _ _ _ _ us hl => match us, hl with | [_], _ => rfl
  have T : Fre mg := ⟨free_ok X G (c.t.d.fact 44 (f := .free "len") rfl), free_ok X G (c.t.d.fact 45 (f := .free "abs") rfl), free_ok X G (c.t.d.fact 46 (f := .free "list") rfl), free_ok X G (c.t.d.fact 47 (f := .free "tuple") rfl), free_ok X G (c.t.d.fact 48 (f := .free "int") rfl), free_ok X G (c.t.d.fact 49 (f := .free "bool") rfl), free_ok X G (c.t.d.fact 50 (f := .free "str") rfl), free_ok X G (c.t.d.fact 51 (f := .free "isinstance") rfl), free_ok X G (c.t.d.fact 52 (f := .free "range") rfl), free_ok X G (c.t.d.fact 53 (f := .free "all") rfl), free_ok X G (c.t.d.fact 54 (f := .free "zip") rfl), free_ok X G (c.t.d.fact 55 (f := .free "enumerate") rfl), free_ok X G (c.t.d.fact 56 (f := .free "max") rfl), free_ok X G (c.t.d.fact 57 (f := .free "reversed") rfl), free_ok X G (c.t.d.fact 58 (f := .free "any") rfl), free_ok X G (c.t.d.fact 59 (f := .free "sorted") rfl), free_ok X G (c.t.d.fact 60 (f := .free "set") rfl), free_ok X G (c.t.d.fact 61 (f := .free "sum") rfl)⟩
  have M8 : Cls8 mg (cOf K) := ⟨glo_ok X G (c.t.d.fact 0 (f := .glo "NotWhole") rfl), glo_ok X G (c.t.d.fact 1 (f := .glo "TooTall") rfl), glo_ok X G (c.t.d.fact 2 (f := .glo "BadTable") rfl), glo_ok X G (c.t.d.fact 3 (f := .glo "BadText") rfl), glo_ok X G (c.t.d.fact 4 (f := .glo "BadPage") rfl), glo_ok X G (c.t.d.fact 5 (f := .glo "Stopped") rfl), glo_ok X G (c.t.d.fact 6 (f := .glo "Used") rfl), glo_ok X G (c.t.d.fact 7 (f := .glo "Held") rfl), glo_ok X G (c.t.d.fact 8 (f := .glo "NoGuest") rfl), glo_ok X G (c.t.d.fact 9 (f := .glo "NoName") rfl), glo_ok X G (c.t.d.fact 10 (f := .glo "RungError") rfl), glo_ok X G (c.t.d.fact 11 (f := .glo "RungMissing") rfl)⟩
  have x_BadPrime : RX K mg (ga K "BadPrime") (ma K (ga K "RungError") "__init__") "BadPrime" := ⟨r_BadPrime, w_BadPrime, i_BadPrime, t_BadPrime, glo_ok X G (c.t.d.fact 12 (f := .glo "BadPrime") rfl)⟩
  have x_BadPoly : RX K mg (ga K "BadPoly") (ma K (ga K "RungError") "__init__") "BadPoly" := ⟨r_BadPoly, w_BadPoly, i_BadPoly, t_BadPoly, glo_ok X G (c.t.d.fact 13 (f := .glo "BadPoly") rfl)⟩
  have x_BadText : RXF K mg (ga K "BadText") (ma K (ga K "BadText") "__init__") "BadText" "at" := ⟨r_BadText, w_BadText, v_BadText, i_BadText, t_BadText, glo_ok X G (c.t.d.fact 3 (f := .glo "BadText") rfl)⟩
  have bI_BadText := FunD.bindsN (ps := ["self", "at"]) FBadText___init fun _ _ _ _ _ _ us hl => match us, hl with | [_, _], _ => rfl
  have cI := cdefB_ok e5 FRungError___init.kp
  have mP : mg "PRIMES" = some (.ref (ga K "PRIMES")) := glo_ok X G (c.t.d.fact 14 (f := .glo "PRIMES") rfl)
  have hP : ∀ H, SqT K H (ga K "PRIMES") (primes.map V.int) := fun H => lit_tup H e0
  have mI_MOST_RESTS : ∃ t, mg "MOST_RESTS" = some (.int 25 t) := int_ok X G (c.t.d.fact 43 (f := .int "MOST_RESTS" 25) rfl)
  refine ⟨fdlaw, fun s v => b s [v] rfl, fun base TB_law => ?_⟩
  have o_init : FnR P w K mg base (L2.CX P w) 1 (ma K (ga K "RungError") "__init__") (spRI1 K) := o_init0 FRungError___init
  have fI_BadText := f_init_BadText (P := P) (w := w) (base := base) FBadText___init (glo_ok X G (c.t.d.fact 10 (f := .glo "RungError") rfl)) cI o_init
  have hmT0 : ((cT K ("law", none)).2, lawQ) ∈ (TL1 (cT K ("law", none)).2) := List.mem_cons_self
  have hu0 : ∀ p ∈ (TL1 (cT K ("law", none)).2), p.1 = (cT K ("law", none)).2 → p.2 = lawQ := fun p hp e => by
    have hp := List.mem_singleton.mp hp
    subst hp
    exact rfl
  have o_law_begin := own_of Flaw_begin (ok_begin (P := P) (w := w) (mg := mg) (base := base)  Flaw_begin T) (glo_ok X G (c.t.d.fact 28 (f := .glo "_law_begin") rfl)) (fun _ _ _ _ _ _ us hl => match us, hl with | [_], _ => rfl)
  have o_law_take := own_of Flaw_take (ok_take (P := P) (w := w) (mg := mg) (base := base)  Flaw_take T) (glo_ok X G (c.t.d.fact 29 (f := .glo "_law_take") rfl)) (fun _ _ _ _ _ _ us hl => match us, hl with | [_, _], _ => rfl)
  have o_law_of := own_of Flaw_of (ok_of (P := P) (w := w) (mg := mg) (base := base)  Flaw_of T o_law_take) (glo_ok X G (c.t.d.fact 30 (f := .glo "_law_of") rfl)) (fun _ _ _ _ _ _ us hl => match us, hl with | [_, _], _ => rfl)
  have o_law_same := own_of Flaw_same (ok_same (P := P) (w := w) (mg := mg) (base := base)  Flaw_same T (glo_ok X G (c.t.d.fact 32 (f := .glo "_law_same") rfl)) 3) (glo_ok X G (c.t.d.fact 32 (f := .glo "_law_same") rfl)) (fun _ _ _ _ _ _ us hl => match us, hl with | [_, _], _ => rfl)
  have o_is_prime := own_of Fis_prime (ok_is_prime (P := P) (w := w) (mg := mg) (base := base)  Fis_prime mP hP) (glo_ok X G (c.t.d.fact 15 (f := .glo "is_prime") rfl)) (fun _ _ _ _ _ _ us hl => match us, hl with | [_], _ => rfl)
  have o_is_number := own_of Fis_number (ok_is_number (P := P) (w := w) (mg := mg) (base := base)  Fis_number T) (glo_ok X G (c.t.d.fact 16 (f := .glo "is_number") rfl)) (fun _ _ _ _ _ _ us hl => match us, hl with | [_], _ => rfl)
  have o_n_is_number := own_of Fis_number (n_is_number (P := P) (w := w) (mg := mg) (base := base)  Fis_number T) (glo_ok X G (c.t.d.fact 16 (f := .glo "is_number") rfl)) (fun _ _ _ _ _ _ us hl => match us, hl with | [_], _ => rfl)
  have o_is_rest := own_of Fis_rest (ok_is_rest (P := P) (w := w) (mg := mg) (base := base)  Fis_rest o_is_number) (glo_ok X G (c.t.d.fact 17 (f := .glo "is_rest") rfl)) (fun _ _ _ _ _ _ us hl => match us, hl with | [_, _], _ => rfl)
  have o_a_is_rest := own_of Fis_rest (a_is_rest (P := P) (w := w) (mg := mg) (base := base)  Fis_rest o_is_number o_n_is_number) (glo_ok X G (c.t.d.fact 17 (f := .glo "is_rest") rfl)) (fun _ _ _ _ _ _ us hl => match us, hl with | [_, _], _ => rfl)
  have o_refuse_prime := own_of Frefuse_prime (ok_refuse_prime (P := P) (w := w) (mg := mg) (base := base) (C := (kOf K 0)) Frefuse_prime o_is_prime x_BadPrime o_init) (glo_ok X G (c.t.d.fact 18 (f := .glo "refuse_prime") rfl)) (fun _ _ _ _ _ _ us hl => match us, hl with | [_], _ => rfl)
  have o_trimmed := own_of Ftrimmed (ok_trimmed (P := P) (w := w) (mg := mg) (base := base)  Ftrimmed T) (glo_ok X G (c.t.d.fact 19 (f := .glo "trimmed") rfl)) (fun _ _ _ _ _ _ us hl => match us, hl with | [_], _ => rfl)
  have o_is_poly := own_of Fis_poly (ok_is_poly (P := P) (w := w) (mg := mg) (base := base)  Fis_poly T mI_MOST_RESTS o_is_rest) (glo_ok X G (c.t.d.fact 20 (f := .glo "is_poly") rfl)) (fun _ _ _ _ _ _ us hl => match us, hl with | [_, _], _ => rfl)
  have o_refuse_polys := own_of Frefuse_polys (ok_refuse_polys (P := P) (w := w) (mg := mg) (base := base) (C := kOf K) Frefuse_polys o_refuse_prime o_is_poly x_BadPoly o_init) (glo_ok X G (c.t.d.fact 21 (f := .glo "refuse_polys") rfl)) (fun _ _ _ _ _ _ us hl => match us, hl with | [_, _], _ => rfl)
  have o_written_term := own_of Fwritten_term (ok_written_term (P := P) (w := w) (mg := mg) (base := base)  Fwritten_term T) (glo_ok X G (c.t.d.fact 25 (f := .glo "written_term") rfl)) (fun _ _ _ _ _ _ us hl => match us, hl with | [_, _], _ => rfl)
  have o_written := own_of Fwritten (ok_written (P := P) (w := w) (mg := mg) (base := base)  Fwritten T o_written_term) (glo_ok X G (c.t.d.fact 24 (f := .glo "written") rfl)) (fun _ _ _ _ _ _ us hl => match us, hl with | [_], _ => rfl)
  have o_read_figures := own_of Fread_figures (ok_read_figures (P := P) (w := w) (mg := mg) (base := base)  Fread_figures T) (glo_ok X G (c.t.d.fact 27 (f := .glo "read_figures") rfl)) (fun _ _ _ _ _ _ us hl => match us, hl with | [_], _ => rfl)
  have o_read_term := own_of Fread_term (ok_read_term (P := P) (w := w) (mg := mg) (base := base)  Fread_term T o_read_figures) (glo_ok X G (c.t.d.fact 26 (f := .glo "read_term") rfl)) (fun _ _ _ _ _ _ us hl => match us, hl with | [_], _ => rfl)
  have G_poly_text := ok_poly_text (P := P) (w := w) (mg := mg) (base := base) (C := kOf K) Fpoly_text o_refuse_polys o_written
  have k_poly_text := own_ofK (n := 1) (ks := ["prime"]) Fpoly_text G_poly_text (glo_ok X G (c.t.d.fact 22 (f := .glo "poly_text") rfl)) (fun _ _ _ _ _ _ us ws hl hk => match us, hl, ws, hk with | [_], _, [_], _ => rfl)
  have o_poly_text := own_of0 Fpoly_text G_poly_text (glo_ok X G (c.t.d.fact 22 (f := .glo "poly_text") rfl)) 1 (by intro z; cases z) rfl (fun D _ _ _ _ _ us ks hl hk => match us, hl, ks, hk with | [_], _, [_], _ => ⟨_, _, _, _, _, _, rfl, rfl, rfl⟩)
  have G_read_poly := ok_read_poly (P := P) (w := w) (mg := mg) (base := base) (C := kOf K) Fread_poly mI_MOST_RESTS o_refuse_prime o_read_term o_a_is_rest o_trimmed o_written x_BadText fI_BadText bI_BadText
  have k_read_poly := own_ofK (n := 1) (ks := ["prime"]) Fread_poly G_read_poly (glo_ok X G (c.t.d.fact 23 (f := .glo "read_poly") rfl)) (fun _ _ _ _ _ _ us ws hl hk => match us, hl, ws, hk with | [_], _, [_], _ => rfl)
  have o_read_poly := own_of0 Fread_poly G_read_poly (glo_ok X G (c.t.d.fact 23 (f := .glo "read_poly") rfl)) 1 (by intro z; cases z) rfl (fun D _ _ _ _ _ us ks hl hk => match us, hl, ks, hk with | [_], _, [_], _ => ⟨_, _, _, _, _, _, rfl, rfl, rfl⟩)
  have o_law_mixed := own_of Flaw_mixed (ok_law_mixed (P := P) (w := w) (mg := mg) (base := base)  Flaw_mixed T o_law_take) (glo_ok X G (c.t.d.fact 31 (f := .glo "_law_mixed") rfl)) (fun _ _ _ _ _ _ us hl => match us, hl with | [_, _], _ => rfl)
  have o_law_trim := own_of Flaw_trim (ok_law_trim (P := P) (w := w) (mg := mg) (base := base)  Flaw_trim T) (glo_ok X G (c.t.d.fact 34 (f := .glo "_law_trim") rfl)) (fun _ _ _ _ _ _ us hl => match us, hl with | [_], _ => rfl)
  have o_law_rests := own_of Flaw_rests (ok_law_rests (P := P) (w := w) (mg := mg) (base := base)  Flaw_rests T o_law_take) (glo_ok X G (c.t.d.fact 35 (f := .glo "_law_rests") rfl)) (fun _ _ _ _ _ _ us hl => match us, hl with | [_, _, _], _ => rfl)
  have o_law_poly := own_of Flaw_poly (ok_law_poly (P := P) (w := w) (mg := mg) (base := base)  Flaw_poly T o_law_take o_law_rests o_law_trim) (glo_ok X G (c.t.d.fact 36 (f := .glo "_law_poly") rfl)) (fun _ _ _ _ _ _ us hl => match us, hl with | [_, _, _], _ => rfl)
  have o_law_pairs := own_of Flaw_pairs (ok_law_pairs (P := P) (w := w) (mg := mg) (base := base)  Flaw_pairs T) (glo_ok X G (c.t.d.fact 37 (f := .glo "_law_pairs") rfl)) (fun _ _ _ _ _ _ us hl => match us, hl with | [_, _], _ => rfl)
  have o_law_poly_text := own_of Flaw_poly_text (ok_law_poly_text (P := P) (w := w) (mg := mg) (base := base)  Flaw_poly_text T) (glo_ok X G (c.t.d.fact 38 (f := .glo "_law_poly_text") rfl)) (fun _ _ _ _ _ _ us hl => match us, hl with | [_], _ => rfl)
  have o_law_term := own_of Flaw_term (ok_law_term (P := P) (w := w) (mg := mg) (base := base)  Flaw_term o_law_poly_text) (glo_ok X G (c.t.d.fact 40 (f := .glo "_law_term") rfl)) (fun _ _ _ _ _ _ us hl => match us, hl with | [_, _], _ => rfl)
  have o_law_read := own_of Flaw_read (ok_law_read (P := P) (w := w) (mg := mg) (base := base)  Flaw_read T o_law_pairs o_law_term o_law_trim o_law_poly_text) (glo_ok X G (c.t.d.fact 39 (f := .glo "_law_read") rfl)) (fun _ _ _ _ _ _ us hl => match us, hl with | [_, _], _ => rfl)
  have o_law_bent := own_of Flaw_bent (ok_law_bent (P := P) (w := w) (mg := mg) (base := base)  Flaw_bent T o_law_take o_law_of o_law_mixed) (glo_ok X G (c.t.d.fact 41 (f := .glo "_law_bent") rfl)) (fun _ _ _ _ _ _ us hl => match us, hl with | [_, _], _ => rfl)
  have G_law_why := ok_why (P := P) (w := w) (mg := mg) (base := base) (kl := 5) Flaw_why (glo_ok X G (c.t.d.fact 33 (f := .glo "_law_why") rfl)) M8
  exact ok_law (C := kOf K) (c := cOf K) Flaw (code_of (p := ("law", none)) Flaw) TB_law hmT0 hu0 T hC_BadText w_BadText v_BadText o_law_begin o_law_of o_law_poly o_law_poly_text o_law_bent o_law_read o_law_same G_law_why k_poly_text o_poly_text k_read_poly o_read_poly
end
end Xk
end
set_option Elab.async false
set_option linter.all false
set_option maxRecDepth 100000
set_option maxHeartbeats 0
open PySem PySem.W PySem.Calls PyProof.Rows
theorem PySem.Challenge.cw_rungfields_k06_texts_of_polynomials_holds : PySem.Challenge.rw_rungfields_k06_texts_of_polynomials.Holds := by
  w_on; o_law
  refine HandSHeadRun.head_any (r := OpenLaw.row PySem.Challenge.rw_rungfields_k06_texts_of_polynomials) (q := view (OpenLaw.row PySem.Challenge.rw_rungfields_k06_texts_of_polynomials).prog [49]) (H := Xk.hk) (ob := Xk.ob) (M := 16000) (loose := Xk.loL) (d := HandSHeadRun.topDef (OpenLaw.row PySem.Challenge.rw_rungfields_k06_texts_of_polynomials).prog 49) (kwd := []) Xk.ob_eq
    (by kernel_rfl) (fun s => by kernel_rfl) Xk.run (by kernel_rfl) (by kernel_rfl) (by kernel_rfl) (by rfl) (by first | assumption | decide +kernel) (by decide +kernel) ⟨rfl, rfl, rfl, rfl, rfl, by decide +kernel⟩ ?hw ?hc
  case hw => w_witness2
  case hc =>
    refine LamX.walk_ofTsE (l := PySem.Challenge.rw_rungfields_k06_texts_of_polynomials) (n := 63) (k := 9) (x := "_law_script") (CX := fun _ => L2.CX0) rfl (by decide) (by kernel_rfl) ⟨rfl, by decide, by decide⟩ ?F (fun _ _ _ _ _ z => z)
    intro w mg fa h Y G hmg0
    obtain ⟨K, KX, c⟩ := Y
    have hmg : mg ("law" : PySem.Str) = some (.ref fa) := by
      have e : (HandSHeadRun.topDef (OpenLaw.row PySem.Challenge.rw_rungfields_k06_texts_of_polynomials).prog 49).name = ("law" : PySem.Str) := by kernel_rfl
      rw [← e]
      exact hmg0
    obtain ⟨fd, hb, hF⟩ := Xk.facts (P := (PySem.Challenge.rw_rungfields_k06_texts_of_polynomials).prog) (w := w) KX G hmg c
    have m1 : (("law", none) : He.Defn) ∈ ([("law", none)] : List He.Defn) := List.mem_cons_self
    refine ⟨K, KX, fd, [He.cT K ("law", none)], Xk.spLaw K (He.cT K ("law", none)).2, ?_, ?_, ?_, hb, ?_, ?_⟩
    · intro p hp
      rw [List.mem_singleton.mp hp]
      exact c.empty _ m1
    · intro p hp
      rw [List.mem_singleton.mp hp]
      exact c.out _ m1
    · intro p hp
      rw [List.mem_singleton.mp hp]
      exact PySem.W.codeHd_of_K KX (c.hd _ m1)
    · intro H a ns hl _ hT hS
      refine ⟨a, ns, rfl, hS, fun p hp => ?_, fun _ => rfl⟩
      rw [List.mem_singleton.mp hp]
      exact LamX.TabS.nil (hT _ (List.mem_cons_self))
    · intro base _ _ hTB
      exact hF base (hTB _ (List.mem_cons_self))
