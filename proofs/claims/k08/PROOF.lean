import PyProof.Rows.All
import Wide.All
import OpenK.AllK
import Wide.FinOn
import KE.KTypeName
import KE.KTryMore
import HandS.ForMost
import HandS.ForExc
import HandS.ExcInit
import HandS.ExcIs
import HandS.ExcField
import HandS.Star
import HandS.Defaults
import HandS.TryMany
import HandS.Lambda
import HandS.EndTab
import HandS.IsInst
import HandS.Wide
import HandS.WideMore
import HandS.Codes
import HandS.Flow
import HandS.Zip
import HandS.Walk
import HandS.Iter
import KE.GoesEnum
import PySem.Challenge.RW_rungfields_k08_doors_of_polynomials
import HandS.Nested
import HandS.TupMul
import KE.KEqSeq
import HandS.TupAny
import HandS.Head0
import HandS.Head1
import HandS.Head2
import HandS.HeadHook1
import HandS.HeadHook2
import HandS.HeadHook3
import HandS.HeadHook4
import HandS.HeadWalk
import HandS.HeadEnd
section
set_option Elab.async false
set_option linter.all false
set_option maxRecDepth 100000
set_option maxHeartbeats 2000000
/-! An own exception in the making: `self.__class__.__name__`. -/
namespace Xh
open PySem PySem.W PySem.Calls PyProof.Rows PySem.HandSPX Builtin Builtin.ObjectAttr Builtin.Getset_descriptor
section
variable {prog : Program} {w : World} {A : Around} {E : Value → Shared → Prop} {R : Result → Shared → Prop} {s : Shared} {K : Frag} {x D : Addr} {ox : Obj}
/-- x.__class__ of an exception without a dict of its own as yet -/
theorem exc_class {expr : Bool} {Q : Value → Shared → Prop} (hga : findIn K (.ref D) "__getattribute__" = some (some (.builtin "BaseException.__getattribute__"))) (hgt : findIn K (.ref D) "__getattr__" = some none) (hsub : subIn K (.ref D) (.type "BaseException") = some true)
    (hdct : hasDictIn K D = true) (ha : findIn K (.ref D) "__class__" = some (some (.builtin "object.__class__")))
    (hn : specialIn K (.builtin "object.__class__") "__get__" = some (some (.builtin "getset_descriptor.__get__"))) (htk : takesIn K (.builtin "object.__class__") = some true) (hm : mroIn K D (.type "object") = some true)
    (X : K.In s.heap) (I : InstAt s.heap x ox D none) (h : Q (.ref D) { s with toks := s.toks + 1 }) : wpAny (model prog w) A (getAttr (.ref x) "__class__" expr) Q E s := by
  have hf : findObj K D none "__class__" = some (.bind (.builtin "getset_descriptor.__get__") (.builtin "object.__class__")) := findObj_dataN (by obtain ⟨cd, hc, _⟩ := any_some hdct; rw [hc]; rfl) ha hn htk
  obtain ⟨hp, g, d, t, os⟩ := s
  have L0 := I.type (M := model prog w)
  have L1 := looks_findIn (M := model prog w) X hga
  have L2 := looks_findIn (M := model prog w) X hgt
  have L3 := looks_find (M := model prog w) X I hf
  have sub : Looks (model prog w) hp (isInstance (.ref x) (.type "BaseException")) true := L0.andThen (looks_subIn X hsub)
  have hx0 : (expr && onTheHeap (Value.builtin "BaseException.__getattribute__")) = false := by cases expr <;> rfl
  have hx2 : (Value.builtin "BaseException.__getattribute__" == Value.builtin "object.__getattribute__") = false := by decide +kernel
  have hx1 : (onTheHeap (Value.ref D) && Value.builtin "BaseException.__getattribute__" == Value.builtin "object.__getattribute__") = false := by rw [hx2]; rfl
  unfold getAttr getAttrBy
  refine wpAny_bind (wpAny_mkText (wpAny_holding (wpAny_bind (L0.at (wpAny_bind (L1.at ?_))))))
  show wpAny _ _ (if (onTheHeap (Value.ref D) && Value.builtin "BaseException.__getattribute__" == Value.builtin "object.__getattribute__") = true then _ else _) _ _ _
  rw [hx1, if_neg Bool.false_ne_true]
  unfold getAttrByItsOwn hookBefore
  refine wpAny_bind ?_
  rw [if_pos (show onTheHeap (Value.ref D) = true from rfl)]
  refine L2.at ?_
  refine wpAny_bind (wpAny_attempt (wpAny_holding ?_))
  unfold callGetattribute
  rw [hx0, if_neg Bool.false_ne_true]
  unfold boundAndCalled
  rw [PySem.F.excAttr_ValueError.ga.bind (.ref x)]
  refine wpAny_bind (wpAny_pure ?_)
  show wpAny _ _ (call (.builtin "BaseException.__getattribute__") [.ref x, .str "__class__" t]) _ _ _
  refine wpAny_call (codeAny_call_builtin PySem.F.excAttr_ValueError.ga.plain PySem.F.entry_bexc_ga ?_)
  refine @check_slot (model prog w) _ _ ⟨hp, g, d, t + 1, os⟩ "BaseException.__getattribute__" "BaseException" "__getattribute__" (.ref x) [.str "__class__" t] [] _ (by decide +kernel) (by decide +kernel) sub (PySem.F.args_bexc_ga (.ref x) (.str "__class__" t)) ?_
  unfold Builtin.«object.__getattribute__»
  refine wpAny_bind (wpAny_of_eq (a := ((Value.ref x : Value), [Value.str "__class__" t])) (by first | rfl | (simp only [slotArgs]; rfl)) ?_)
  refine wpAny_bind (wpAny_pure (wpAny_bind (L0.at (wpAny_bind (L3.at ?_)))))
  show wpAny _ _ (holding [Value.builtin "object.__class__"] (call (.builtin "getset_descriptor.__get__") [.builtin "object.__class__", .ref x, .ref D]) >>= ret) _ _ _
  refine wpAny_bind (wpAny_holding (wpAny_call (class_get (s := ⟨hp, g, d, t + 1, os⟩) (ox := ox) (od := none) X I hm ?_)))
  refine wpAny_pure ?_
  show wpAny _ _ (handedOut (.ref D)) _ _ _
  rw [handedOut_of (v := .ref D) rfl]
  exact wpAny_pure h
/-- type.__name__ of an own class: what its third slot holds -/
theorem name_get {C : Addr} {tp : Value} {cd : ClassData} {dd : Option Addr} {sl : Array (Option Value)} {v : Value} (hC : K.lookup C = some ⟨.type "type", dd, .cls cd, sl⟩) (hs : (sl[2]?).join = some v) (X : K.In s.heap)
    (h : R (.ok (.ret v)) s) : codeAny (model prog w) A (.call (.builtin "getset_descriptor.__get__") ⟨[.builtin "type.__name__", .ref C, tp], []⟩) R s := by
  obtain ⟨hh, g, dr, t, os⟩ := s
  have hg := X _ _ hC
  have L0 : Looks (model prog w) hh (typeOf (.ref C)) (.type "type") := fun A Q E s k q => wpAny_typeOf_ref (k _ _ hg) q
  have L1 : Looks (model prog w) hh (isSubtype (.type "type") (.type "type")) true := Looks.of_pure (by rw [isSubtype_type]; kernel_rfl)
  refine codeAny_call_builtin KF.slot_gs.plain KF.entry_gs (KF.slot_gs.check _ _ _ _ _ _ _ _ ktyn_type (KF.args_gs _ _ _) ?_)
  unfold Builtin.«getset_descriptor.__get__» descrGet
  rw [dga_obj]
  refine wpAny_bind (wpAny_pure ?_)
  unfold descrGetter descrCheckInstance descrNameAndClass isInstance
  simp only [ktyn_owner]
  repeat lk
  refine ⟨Code.quiet_builtin _ (by decide +kernel), codeAny_builtin ktyn_entry ?_⟩
  unfold Builtin.«type.__name__»
  dsimp only
  unfold keptObject slotAt
  dsimp only
  refine wpAny_bind (wpAny_bind (wpAny_loadPart hg ?_))
  refine wpAny_pure ?_
  dsimp only
  rw [hs]
  dsimp only
  exact wpAny_pure h
/-- C.__name__, C an own class -/
theorem cls_name {C : Addr} {cd : ClassData} {dd : Option Addr} {sl : Array (Option Value)} {v : Value} {expr : Bool} {Q : Value → Shared → Prop} (hC : K.lookup C = some ⟨.type "type", dd, .cls cd, sl⟩) (hs : (sl[2]?).join = some v) (hv : handedIn v = true)
    (hr : readsIn K C (.type "type") = true) (e : findCls K (.ref C) (.type "type") "__name__" = some (.get (.builtin "getset_descriptor.__get__") (.builtin "type.__name__") (.ref C) (.type "type")))
    (X : K.In s.heap) (h : Q v { s with toks := s.toks + 1 }) : wpAny (model prog w) A (getAttr (.ref C) "__name__" expr) Q E s :=
  cls_bind X hr e (wpAny_call (name_get hC hs X (handed_on hv h)))
end
end Xh
namespace L2
open PySem PySem.Spec PyProof.Rows
/-- what the written part says of an own exception class C of the name nm -/
structure RC (K : PySem.W.Frag) (C : Addr) (nm : Str) : Prop where
  o : OexC K C
  x : ExcC K C
  rd : PySem.W.readsIn K C (.type "type") = true
  fn : PySem.W.findCls K (.ref C) (.type "type") "__name__" = some (.get (.builtin "getset_descriptor.__get__") (.builtin "type.__name__") (.ref C) (.type "type"))
  nm : ∃ cd dd sl t, K.lookup C = some ⟨.type "type", dd, .cls cd, sl⟩ ∧ (sl[2]?).join = some (.str nm t)
section
variable {X : Cx} {o : Expr} {to : TE} {p q : Pos}
/-- e.__class__.__name__, e an exception in the making, without a dict as yet -/
def tClsNm (K : PySem.W.Frag) (to : TE) : TE := fun σ H Q => to σ H fun x H1 => ∃ (a C : Addr) (nm : Str), x = .ref a ∧ RC K C nm ∧ H1 a = some (exo a C none) ∧ Q (.str nm) H1
theorem pe_clsnm (ho : PE X o to) (h1 : attributeBase o "__class__" X.env (eval o X.env) = eval o X.env := by rfl)
    (h2 : attributeBase (.Attribute o "__class__" p) "__name__" X.env (eval (.Attribute o "__class__" p) X.env) = eval (.Attribute o "__class__" p) X.env := by rfl) :
    PE X (.Attribute (.Attribute o "__class__" p) "__name__" q) (tClsNm X.K to) := by
  refine ⟨fun pins s σ H Q I h => ?_⟩
  refine attr_of h2 (attr_of h1 (thn (ho.run pins s σ H _ I h) fun u s1 hh => ?_))
  obtain ⟨x, H1, I1, rx, a, C, nm, ex, T, ha, q⟩ := hh
  subst ex
  obtain rfl : u = Value.ref a := rx
  obtain ⟨t1, hg⟩ := exo_at I1.hok ha
  obtain ⟨cd, dd, sl, t, hC, hs⟩ := T.nm
  have J : PySem.W.InstAt s1.heap a { cls := .ref C, dict := none, data := .fields #[.ref t1, .none, .none, .none, .bool false, .none] } C none := ⟨hg, rfl, rfl, trivial⟩
  refine Xh.exc_class T.x.hg T.x.hk T.x.hs T.x.hd T.x.ha T.x.hn T.x.ht T.x.hm I1.kIn J ?_
  have I2 := I1.tok (s1.toks + 1)
  refine Xh.cls_name hC hs rfl T.rd T.fn I2.kIn ?_
  exact ⟨.str nm, H1, I2.tok _, ⟨t, rfl⟩, q⟩
end
end L2
end
section
set_option Elab.async false
set_option linter.all false
set_option maxRecDepth 100000
set_option maxHeartbeats 2000000
namespace L2
open PySem PySem.Spec PyProof.Rows
/-! ### RungError.__init__(self, *told): self.word = self.__class__.__name__ -/
/-- C() where C's __init__ takes only what is left over -/
def tMkO0 (C : Addr) (sp : Sp) : St → Hp → XK → Prop := fun σ H Q => ∀ a, H a = none → sp [.ref a] (upd H a (exo a C none))
  (fun v H2 => v = .non ∧ ∃ (d : Addr) (fs : List (Str × V)), H2 a = some (exo a C (some d)) ∧ H2 d = some (exd d fs) ∧ H d = none ∧ Q (.ref C) (some d) (upd (del H2 a) d (.xd fs))) (fun _ _ _ => False)
section
variable {X : Cx} {p pos : Pos}
theorem pmk_oex0 {CX : CXT} {x : Str} {C fI : Addr} {k : Nat} {sp : Sp} (T : OexC X.K C) (iC : PySem.W.findIn X.K (.ref C) "__init__" = some (some (.ref fI))) (tI : PySem.W.typeIn X.K (.ref fI) = some (.type "function"))
    (F1 : FnR X.prog X.w X.K X.mg X.base CX k fI sp) (hr : Room (k + 1) X.A) (hx : Passes CX X (fun _ _ _ => False)) (hg : Gl X x) (hm : X.mg x = some (.ref C))
    (hdb : (x == ("__debug__" : Str)) = false := by decide) :
    PMk X (.Call (.Name x p) [] [] pos) (tMkO0 C sp) := by
  intro pins s σ H Q I h
  obtain ⟨nm, q, N, bs, bm, sn, sub, ab, col, dd, k0, k1, k2, k3, k5, hC, hbm⟩ := T.cls
  refine wpAny_Call_Name_kw (ld_glob I hg hm ?_ hdb)
  refine PySem.W.callWith_K0 I.kIn T.kC ?_
  show wpAny _ _ (call (.ref C) []) _ _ _
  obtain ⟨hp, g, dr, tk, os⟩ := s
  have hsz : hp.objs.size ≤ hp.objs.size + 1 := Nat.le_succ _
  have hn : H (hp.objs.size + 1) = none := I.hok.fresh hsz
  have hq := h (hp.objs.size + 1) hn
  have kk : ∀ b o, hp.get? b = some o → ((hp.push (PySem.W.kdv_tup [])).push (PySem.HandSPX.excO C hp.objs.size)).get? b = some o := fun b o e => Heap.get?_push_of_some _ (Heap.get?_push_of_some _ e)
  have hget : ((hp.push (PySem.W.kdv_tup [])).push (PySem.HandSPX.excO C hp.objs.size)).get? (hp.objs.size + 1) = some (PySem.HandSPX.excO C hp.objs.size) := by heap_get
  have I2 : Inv X pins σ (upd H (hp.objs.size + 1) (exo (hp.objs.size + 1) C none)) ⟨(hp.push (PySem.W.kdv_tup [])).push (PySem.HandSPX.excO C hp.objs.size), g, dr, tk, os⟩ :=
    I.laid (t' := tk) (a := hp.objs.size + 1) (o := exo (hp.objs.size + 1) C none) (h' := (hp.push (PySem.W.kdv_tup [])).push (PySem.HandSPX.excO C hp.objs.size)) kk hsz (exo_ok hget)
  have r2 : Vals [V.ref (hp.objs.size + 1)] [Value.ref (hp.objs.size + 1)] := .cons rfl .nil
  refine wpAny_call (PySem.HandSPX.call_own F.excBase_ValueError (fun Y => PySem.HandSPX.refsVE_contains Y bm hbm) (I.kIn _ _ hC) (PySem.W.looks_findIn I.kIn iC) (fun self => PySem.W.bind_fn I.kIn self tI) (by rw [sizeLine_eq]; exact Nat.zero_le _)
    (codeAny_mono (F1 _ X.stack _ _ [Value.ref (hp.objs.size + 1)] [V.ref (hp.objs.size + 1)] _ (fun _ _ _ => False) (hr.make C [] []) (I2.env0.make C [] []) r2 hq) fun r s' hq' => ?_))
  cases r with
  | error er => exact hx pins σ _ _ er s' I2 hq'
  | ok fl =>
    cases fl with
    | ret u =>
      obtain ⟨v, H2, os2, bare2, un2, hok2, rv, ev, d, fs, ea, ed, hd1, q2⟩ := hq'
      subst ev
      obtain ⟨h2, g2, d2, t2, os'⟩ := s'
      exact ⟨rv, mk_end (raises_own T.exC T.tyC) I hsz kk un2 hok2 os2 bare2 ea ed hd1 q2⟩
    | next => exact False.elim hq'
    | brk => exact False.elim hq'
    | cont => exact False.elim hq'
end
end L2
namespace Xh
open PySem PySem.Spec PyProof.Rows L2
/-- what RungError.__init__ promises: self an exception in the making, told a new tuple -/
def spRI (K : PySem.W.Frag) : Sp := fun vs H Q E => ∃ (a p C : Addr) (nm : Str), vs = [.ref a, .ref p] ∧ RC K C nm ∧ PySem.W.findIn K (.ref C) "word" = some none ∧ H a = some (exo a C none) ∧
  ∀ dx, H dx = none → dx ≠ a → Q .non (upd (upd H dx (exd dx [("word", .str nm)])) a (exo a C (some dx)))
/-- .. as it is called -/
def spRI1 (K : PySem.W.Frag) : Sp := fun vs H Q E => ∃ (a C : Addr) (nm : Str), vs = [.ref a] ∧ RC K C nm ∧ PySem.W.findIn K (.ref C) "word" = some none ∧ H a = some (exo a C none) ∧
  ∀ H1 dx, H dx = none → dx ≠ a → Same H H1 → H1 dx = none → Q .non (upd (upd H1 dx (exd dx [("word", .str nm)])) a (exo a C (some dx)))
section
variable {P : Program} {w : World} {K : PySem.W.Frag} {mg : Str → Option Value} {base : Heap}
theorem ok_rinit {st : Stmt} {f : Addr} {fd : FuncData} (F : FunD K "__init__" "RungError.__init__" (defArgs st) (defBody st) (defScope st) [] [] f fd) (S : FnScope (["self", "told"] : List Str) ["self", "told"] (defScope st))
    (hb : ∀ (kV doc pm : Value) (an : Option Addr) (cdv ct : Value) (us rest : List Value), us.length = ["self"].length → bindArgs (PySem.W.fnOf "__init__" "RungError.__init__" (defArgs st) (defBody st) (defScope st) .none kV doc pm an cdv ct) ⟨us ++ rest, []⟩ = (newTuple rest >>= fun t => pure ((["self"] : List Str).zip us ++ [(("told" : Str), t)])))
    (body : ∀ X : Cx, X.K = K → X.N = (["self", "told"] : List Str) → X.env.scope = defScope st → PSs X (defBody st) (tOst K "word" (tVar 0) (tClsNm K (tVar 0)))) : FnR P w K mg base (L2.CX P w) 1 f (spRI1 K) := by
  obtain ⟨oc, od, dV, kV, doc, pm, an, cdv, ct, osl, rfl, lk, hcd, hD, _⟩ := F.ex
  rcases hD with ⟨_, rfl⟩ | ⟨e, _⟩
  case inr => exact absurd rfl e
  have G := StX.fn_star (CX := L2.CX P w) (P := P) (w := w) (mg := mg) (base := base) (k := 0) (ps := ["self"]) (pv := "told") (N := ["self", "told"]) (sp := spRI K) lk hcd S StX.cxUp (hb kV doc pm an cdv ct) (fun A outer s H vs Q E hr h => ?_)
  · intro A outer s H us vs Q E hr e0 r h
    obtain ⟨a, C, nm, rfl, T, hw, ha, k⟩ := h
    refine G A outer s H us _ Q E hr e0 r ⟨[.ref a], [], rfl, rfl, by rw [sizeLine_eq]; exact Nat.zero_le _, fun p hp => ⟨a, p, C, nm, rfl, T, hw, by rw [upd_ne (ne_of_none ha hp)]; exact ha, fun dx hdx hne => ?_⟩⟩
    have hdp : dx ≠ p := fun z => by rw [z, upd_same] at hdx; cases hdx
    refine k _ dx (by rw [upd_ne hdp] at hdx; exact hdx) hne (fun b o e => by rw [upd_ne (ne_of_none e hp)]; exact e) hdx
  · obtain ⟨a, p, C, nm, rfl, T, hw, ha, k⟩ := h
    refine ⟨_, body _ rfl rfl rfl, ?_⟩
    refine ⟨_, rfl, a, C, nm, rfl, T, ha, _, rfl, a, C, rfl, T.o, hw, .inl ⟨ha, fun dx hdx hne => k dx hdx hne⟩⟩
/-- a class whose objects RungError.__init__ alone makes -/
structure RX (K : PySem.W.Frag) (mg : Str → Option Value) (C fI : Addr) (nm : Str) : Prop where
  c : RC K C nm
  w : PySem.W.findIn K (.ref C) "word" = some none
  i : PySem.W.findIn K (.ref C) "__init__" = some (some (.ref fI))
  t : PySem.W.typeIn K (.ref fI) = some (.type "function")
  g : mg nm = some (.ref C)
/-- raise C(): its word -/
def tMkR (C : Addr) (nm : Str) : L2.St → Hp → XK → Prop := fun _ H Q => ∀ (d : Addr) (H' : Hp), Same H H' → H' d = some (.xd [("word", .str nm)]) → H d = none → Q (.ref C) (some d) H'
theorem pmk_rung {X : Cx} {C fI : Addr} {nm : Str} {p pos : Pos} (T : RX X.K X.mg C fI nm) (F : FnR X.prog X.w X.K X.mg X.base (L2.CX X.prog X.w) 1 fI (spRI1 X.K)) (hr : Room 2 X.A) (hg : Gl X nm) (hdb : (nm == ("__debug__" : Str)) = false := by decide) :
    PMk X (.Call (.Name nm p) [] [] pos) (tMkR C nm) := by
  intro pins s σ H Q I h
  refine pmk_oex0 T.c.o T.i T.t F hr passL hg T.g hdb pins s σ H Q I fun a ha => ?_
  refine ⟨a, C, nm, rfl, T.c, T.w, upd_same, fun H1 dx hdx hne hs h1 => ⟨rfl, dx, _, upd_same, by rw [upd_ne hne, upd_same], by rw [upd_ne hne] at hdx; exact hdx, ?_⟩⟩
  have hdx' : H dx = none := by rw [upd_ne hne] at hdx; exact hdx
  refine h dx _ (fun b o e => ?_) upd_same hdx'
  have h2 : b ≠ a := ne_of_none e ha
  have h3 : b ≠ dx := ne_of_none e hdx'
  rw [upd_ne h3, del_ne h2, upd_ne h2, upd_ne h3]
  exact hs b o (by rw [upd_ne h2]; exact e)
end
end Xh
end
section
set_option Elab.async false
set_option linter.all false
set_option maxRecDepth 100000
set_option maxHeartbeats 2000000
/-! several except clauses, each with a class or a tuple of classes, with or without a name -/
namespace Xh
open PySem PySem.Spec PyProof.Rows L2
/-- what a clause's test tells: its classes -/
def TestE (X : Cx) (te : Expr) (cs : List Value) : Prop :=
  ∀ (a : Addr) (pn : List (Addr × Obj)) (s : Shared) (σ : L2.St) (H : Hp) (cls : Value) (b : Bool), Inv (X.suite a pn) [] σ H s → PySem.W.Looks (model X.prog X.w) s.heap (typeOf (.ref a)) cls → PySem.W.exmAny X.K cls cs = some b →
    ∀ (Q : Bool → Shared → Prop) (E : Value → Shared → Prop), (∀ (h' : Heap) (tk : Nat), (∀ c o, s.heap.get? c = some o → h'.get? c = some o) → Q b { s with heap := h', toks := tk }) →
      wpAny (model X.prog X.w) (X.A.mark (some (.ref a))) (eval te X.env) (fun c s₁ => wpAny (model X.prog X.w) (X.A.mark (some (.ref a))) (excMatches (.ref a) c) Q E s₁) E s
theorem testName {X : Cx} {x : Str} {c : Value} {np : Pos} (hc : Names X x c) : TestE X (.Name x np) [c] := by
  intro a pn s σ H cls b I LT hx Q E hq
  obtain ⟨b1, d1, h1, h2, h3⟩ := PySem.W.exmAny_cons hx
  have e2 : d1 = false := (Option.some.inj h2).symm
  subst e2
  rw [Bool.or_false] at h3
  subst h3
  have LM := PySem.W.exm_one (M := model X.prog X.w) I.kIn LT h1
  have q : Q b s := by
    obtain ⟨hp, g, d, tk, os⟩ := s
    exact hq hp tk fun _ _ e => e
  obtain ⟨hg, hdbg, hm | ⟨hm, hv, hnn⟩⟩ := hc
  · exact ld_glob (X := X.suite a pn) I hg hm (LM.here q) hdbg
  · exact ld_blt (X := X.suite a pn) I hg hm hv (LM.here q) hnn hdbg
theorem testTup2 {X : Cx} {x y : Str} {C D : Addr} {p1 p2 pos : Pos} {k} (hx : Gl X x) (hmx : X.mg x = some (.ref C)) (hy : Gl X y) (hmy : X.mg y = some (.ref D)) (hdx : (x == ("__debug__" : Str)) = false := by decide) (hdy : (y == ("__debug__" : Str)) = false := by decide) :
    TestE X (.Tuple [.Name x p1, .Name y p2] k pos) [.ref C, .ref D] := by
  intro a pn s σ H cls b I LT hb Q E hq
  obtain ⟨hp, g, d, tk, os⟩ := s
  refine wpAny_Tuple_spliced ?_
  show wpAny _ _ (spliced ((false, eval (.Name x p1) X.env) :: (false, eval (.Name y p2) X.env) :: [])) _ _ _
  refine Calls.spliced_cons (ld_glob (X := X.suite a pn) I hx hmx (Calls.spliced_cons (ld_glob (X := X.suite a pn) I hy hmy (Calls.spliced_nil ⟨by rw [sizeLine_eq]; exact (by decide : 2 ≤ 16777216), ?_⟩) hdy)) hdx)
  have kk : ∀ b o, hp.get? b = some o → (hp.push ({ cls := .type "tuple", data := .seq [Value.ref C, Value.ref D].toArray } : Obj)).get? b = some o := fun b o e => Heap.get?_push_of_some _ e
  have LM := PySem.W.exm_tup2 (M := model X.prog X.w) (K := X.K) (I.kIn.keeps kk) (LT.keeps kk) (Heap.get?_push_size _ rfl) hb
  exact LM.here (hq _ tk kk)
/-- a clause: its test, its name's slot (if any), its suite -/
abbrev Cl : Type := List Value × Option Nat × (Addr → Value → Option Addr → TS)
/-- the ends behind a suite: the clause's name is gone -/
def outOf (D : Ends) : Option Nat → Ends
  | none => D
  | some i => { nx := fun σ' H' => D.nx (σ'.set i none) H', rt := D.rt, bk := fun σ' H' => D.bk (σ'.set i none) H', ct := fun σ' H' => D.ct (σ'.set i none) H' }
def intoS (σ : L2.St) (a : Addr) : Option Nat → L2.St
  | none => σ
  | some i => σ.set i (some (.ref a))
/-- what the clauses wish of an exception of the body, one after the other -/
def wClauses (K : PySem.W.Frag) (Wout : WX) (D : Ends) : List Cl → WX
  | [] => Wout
  | (cs, n, ts) :: r => fun cls d σ H => ∃ b, PySem.W.exmAny K cls cs = some b ∧ (b = true → ∀ a, H a = none → ts a cls d (outOf D n) (intoS σ a n) H) ∧ (b = false → wClauses K Wout D r cls d σ H)
inductive ClsOk (X : Cx) : List ExceptHandler → List Cl → Prop
  | nil : ClsOk X [] []
  | cons {te : Expr} {cs : List Value} {ts : Addr → Value → Option Addr → TS} {b₀ : Stmt} {suite : List Stmt} {pos' : Pos} {hds : List ExceptHandler} {l : List Cl} (hc : TestE X te cs)
      (hsu : ∀ (a : Addr) (oe : Obj) (cls : Value) (d : Option Addr) (pn : List (Addr × Obj)), Zc cls d oe → (∃ vs, oe.data = .fields vs) → PSs (X.suite a ((a, oe) :: pn)) (b₀ :: suite) (ts a cls d)) (r : ClsOk X hds l) :
      ClsOk X (.ExceptHandler (some te) none (b₀ :: suite) pos' :: hds) ((cs, none, ts) :: l)
  | as {te : Expr} {cs : List Value} {ts : Addr → Value → Option Addr → TS} {b₀ : Stmt} {suite : List Stmt} {pos' : Pos} {hds : List ExceptHandler} {l : List Cl} {n : Str} {i : Nat} (hc : TestE X te cs) (hi : X.N[i]? = some n) (hln : X.env.kindOf n = some .local)
      (hsu : ∀ (a : Addr) (oe : Obj) (cls : Value) (d : Option Addr) (pn : List (Addr × Obj)), Zc cls d oe → (∃ vs, oe.data = .fields vs) → PSs (X.suite a ((a, oe) :: pn)) (b₀ :: suite) (ts a cls d)) (r : ClsOk X hds l) :
      ClsOk X (.ExceptHandler (some te) (some n) (b₀ :: suite) pos' :: hds) ((cs, some i, ts) :: l)
theorem flying_keeps {base h h' : Heap} {l : List Env} {e : Addr} {Z : Obj → Prop} (x : HandSPX.FlyingZ base l e Z h) (k : ∀ b o, h.get? b = some o → h'.get? b = some o) : HandSPX.FlyingZ base l e Z h' := by
  obtain ⟨f1, f2, f3, oe, vs, T, oT, ts, g1, g2, g3, g4, g5, g6, g7, g8, g9⟩ := x
  exact ⟨fun b o e => k b o (f1 b o e), f2, f3.of_keeps fun b o e _ => ⟨o, k b o e, rfl⟩, oe, vs, T, oT, ts, k _ _ g1, g2, g3, g4, g5, g6, k _ _ g7, g8, g9⟩
section
variable {X : Cx} {body : List Stmt} {h₀ : ExceptHandler} {hds : List ExceptHandler} {l : List Cl} {pos : Pos} {tb : WX → TS} {Wout : WX}
theorem ps_try_cls (hs : X.stack = X.env :: X.outer) (hf : X.env.frame = some X.env.locals) (hN : X.N.Nodup) (tk : Takes X Wout)
    (hb : ∀ (W : WX) (pn : List (Addr × Obj)) (xe : Value → Shared → Prop), Takes (X.tr pn xe) W → PassesOwn (model X.prog X.w) X.A X.env xe → PSs (X.tr pn xe) body (tb W))
    (hh : ClsOk X (h₀ :: hds) l) : PS X (.Try body (h₀ :: hds) [] [] pos) (fun D σ H => tb (wClauses X.K Wout D l) D σ H) := by
  refine ⟨fun pins s σ H D I h => ?_⟩
  have ok := I.ok
  have hfr : X.A.frames = some (X.env :: X.outer) := by rw [ok.frames, hs]
  refine wpAny_Try_except ?_
  refine wpAny_mono ((hb (wClauses X.K Wout D l) (X.pn ++ pins) (fun e s₁ => wpAny (model X.prog X.w) X.A (noteFrame e X.env) (fun _ s₂ => wpAny (model X.prog X.w) X.A (setFlight e none) (fun _ s₃ =>
    wpAny (model X.prog X.w) X.A (handleBy e X.env (h₀ :: hds)) (SP X pins D) X.xe s₃) X.xe s₂) X.xe s₁) (fun u s' xx => ?_) PassesOwn.looking).run [] s σ H D (I.toTry _) h) (fun f s1 hsp => ?_) (fun e s1 he => he)
  · -- the catch
    obtain ⟨a, B, sI, pins', σ', H', cls, d, rfl, J', nb, up, sky, na, os, ag, w⟩ := xx
    have J : Inv X pins σ' H' sI := J'.ofTry ok
    have sky' : Sky B (X.env :: X.outer) a (Zc cls d) X.env.locals s'.heap := by rw [← hs]; exact sky
    show wpAny (model X.prog X.w) X.A (noteFrame (.ref a) X.env) _ _ _
    refine Sky.land Zc.steady hfr hf sky' fun h3 fl3 up3 => ?_
    have notFr : ∀ {h : Heap} {o : Obj} {vs : Array Value}, h.FunFrames B (X.env :: X.outer) → h.get? a = some o → o.data = .fields vs → a ∉ frs (X.env :: X.outer) := fun {h o vs} ff e dd hm => by
      obtain ⟨_, o', e', hnf⟩ := ff.mem hm
      rw [e] at e'; cases e'
      exact hnf _ dd
    have go : ∀ {hds' : List ExceptHandler} {l' : List Cl}, ClsOk X hds' l' → ∀ (h3 : Heap) (t3 : Nat), HandSPX.FlyingZ B (X.env :: X.outer) a (Zc cls d) h3 → sI.heap.UpToSlots h3 → wClauses X.K Wout D l' cls d σ' H' →
        wpAny (model X.prog X.w) X.A (handleBy (.ref a) X.env hds') (SP X pins D) X.xe { s' with heap := h3, toks := t3 } := by
      intro hds' l' hk
      induction hk with
      | nil =>
        intro h3 t3 fl3 up3 w
        refine wpAny_handleBy_nil ?_
        obtain ⟨k1, k2, k3, oe, vs, T, oT, ts', he, hz, hd, h1, hr⟩ := id fl3
        unfold PySem.passOn
        refine wpAny_bind (wpAny_field he hd h1 ?_)
        rw [if_neg (show ¬ ((Value.ref T == Value.none) = true) from by simp)]
        have fin : wpAny (model X.prog X.w) X.A (setFlight (.ref a) X.env.frame) (fun _ s4 => wpAny (model X.prog X.w) X.A (throw (.ref a) : Sem Flow) (SP X pins D) X.xe s4) X.xe { s' with heap := h3, toks := t3 } := by
          rw [hf]
          refine HandSPX.setFlight_upZ fl3 fun h4 hh4 up4 => wpAny_throw (tk _ _ ?_)
          exact ⟨a, B, sI, pins, σ', H', cls, d, rfl, J, nb, up3.trans up4, .inr (.inr (by rw [hs]; exact hh4)), na, os, ag, w⟩
        first
          | exact wpAny_bind (wpAny_pure (wpAny_bind fin))
          | exact wpAny_bind fin
      | @cons te cs ts b₀ suite pos' hds2 l2 hc hsu r ih =>
        intro h3 t3 fl3 up3 w
        obtain ⟨b, hb1, hyes, hno⟩ := w
        have J3 : Inv X pins σ' H' { s' with heap := h3, toks := t3 } := J.landed nb fl3.1 up3 os ag
        obtain ⟨oe3, vs3, he3, hz3, hd3⟩ := fl3.there
        have nfr := notFr fl3.2.2.1 he3 hd3
        have nL : a ≠ X.env.locals := fun z => nfr (List.mem_filterMap.mpr ⟨X.env, List.mem_cons_self, by rw [hf, z]⟩)
        have nF : a ∉ X.fs := fun hm => by
          obtain ⟨e, he, q⟩ := List.mem_filterMap.mp hm
          exact nfr (List.mem_filterMap.mpr ⟨e, List.mem_cons_of_mem _ he, q⟩)
        have S3 := J3.suite he3 hd3 na nL nF
        refine wpAny_handleBy_cons (codeAny_handlers_test ?_) (by intro q; cases q)
        have LT : PySem.W.Looks (model X.prog X.w) h3 (typeOf (.ref a)) cls := fun A Q E s k q => wpAny_typeOf_ref (k _ _ he3) (by rw [hz3.1]; exact q)
        refine hc a _ _ _ _ cls b S3 LT hb1 _ _ fun h5 t5 k5 => ?_
        have fl5 := flying_keeps fl3 k5
        have up5 : sI.heap.UpToSlots h5 := up3.trans (Heap.UpToSlots.of_keeps k5)
        cases b with
        | true =>
          refine codeAny_handlers_suite ?_
          refine HandSPX.lands_againZ fl5 fun h4 fl4 up4 => ?_
          have J4 : Inv X pins σ' H' { s' with heap := h4, toks := t5 } := J.landed nb fl4.1 (up5.trans up4) os ag
          obtain ⟨oe4, vs4, he4, hz4, hd4⟩ := fl4.there
          have S4 := J4.suite he4 hd4 na nL nF
          refine wpAny_mono ((hsu a oe4 cls d (X.pn ++ pins) hz4 ⟨_, hd4⟩).run [] _ _ H' _ S4 (hyes rfl a na)) (fun f s6 hsp => ?_) (fun _ _ z => False.elim z)
          cases f with
          | next =>
            obtain ⟨σ6, H6, S6, q6⟩ := hsp
            exact ⟨_, _, S6.unsuite ok, q6⟩
          | brk =>
            obtain ⟨σ6, H6, S6, q6⟩ := hsp
            exact ⟨_, _, S6.unsuite ok, q6⟩
          | cont =>
            obtain ⟨σ6, H6, S6, q6⟩ := hsp
            exact ⟨_, _, S6.unsuite ok, q6⟩
          | ret u =>
            obtain ⟨v6, σ6, H6, S6, r6, q6⟩ := hsp
            exact ⟨_, _, _, S6.unsuite ok, r6, q6⟩
        | false =>
          show wpAny _ X.A (handleBy (.ref a) X.env hds2) _ _ _
          exact ih h5 t5 fl5 up5 (hno rfl)
      | @as te cs ts b₀ suite pos' hds2 l2 n i hc hi hln hsu r ih =>
        intro h3 t3 fl3 up3 w
        obtain ⟨b, hb1, hyes, hno⟩ := w
        have J3 : Inv X pins σ' H' { s' with heap := h3, toks := t3 } := J.landed nb fl3.1 up3 os ag
        obtain ⟨oe3, vs3, he3, hz3, hd3⟩ := fl3.there
        have nfr := notFr fl3.2.2.1 he3 hd3
        have nL : a ≠ X.env.locals := fun z => nfr (List.mem_filterMap.mpr ⟨X.env, List.mem_cons_self, by rw [hf, z]⟩)
        have nF : a ∉ X.fs := fun hm => by
          obtain ⟨e, he, q⟩ := List.mem_filterMap.mp hm
          exact nfr (List.mem_filterMap.mpr ⟨e, List.mem_cons_of_mem _ he, q⟩)
        have S3 := J3.suite he3 hd3 na nL nF
        refine wpAny_handleBy_cons (codeAny_handlers_test ?_) (by intro q; cases q)
        have LT : PySem.W.Looks (model X.prog X.w) h3 (typeOf (.ref a)) cls := fun A Q E s k q => wpAny_typeOf_ref (k _ _ he3) (by rw [hz3.1]; exact q)
        refine hc a _ _ _ _ cls b S3 LT hb1 _ _ fun h5 t5 k5 => ?_
        have fl5 := flying_keeps fl3 k5
        have up5 : sI.heap.UpToSlots h5 := up3.trans (Heap.UpToSlots.of_keeps k5)
        cases b with
        | true =>
          refine codeAny_handlers_suite_as ?_
          refine HandSPX.lands_againZ fl5 fun h4 fl4 up4 => ?_
          have J4 : Inv X pins σ' H' { s' with heap := h4, toks := t5 } := J.landed nb fl4.1 (up5.trans up4) os ag
          obtain ⟨oe4, vs4, he4, hz4, hd4⟩ := fl4.there
          have S4 := J4.suite he4 hd4 na nL nF
          refine store_ok (X := X.suite a ((a, oe4) :: (X.pn ++ pins))) (v := .ref a) S4 hN hi (.inl hln) rfl (fun s5 S5 => ?_) (.inr hln)
          refine wpAny_mono ((hsu a oe4 cls d (X.pn ++ pins) hz4 ⟨_, hd4⟩).run [] s5 _ H' _ S5 (hyes rfl a na)) (fun f s6 hsp => ?_) (fun _ _ z => False.elim z)
          have end_ : ∀ {σ6 : L2.St} {H6 : Hp} {Q : Shared → Prop}, Inv (X.suite a ((a, oe4) :: (X.pn ++ pins))) [] σ6 H6 s6 → (∀ s7, Inv X pins (σ6.set i none) H6 s7 → Q s7) →
              wpAny (model X.prog X.w) X.A (do bindName X.env n .none; unbindBehindTheSuite X.env n pos') (fun _ s7 => Q s7) X.xe s6 := fun {σ6 H6 Q} S6 hq => gone_ok (S6.unsuite ok) hN hi hln hq
          cases f with
          | next =>
            obtain ⟨σ6, H6, S6, q6⟩ := hsp
            exact end_ S6 fun s7 J7 => ⟨_, _, J7, q6⟩
          | brk =>
            obtain ⟨σ6, H6, S6, q6⟩ := hsp
            exact end_ S6 fun s7 J7 => ⟨_, _, J7, q6⟩
          | cont =>
            obtain ⟨σ6, H6, S6, q6⟩ := hsp
            exact end_ S6 fun s7 J7 => ⟨_, _, J7, q6⟩
          | ret u =>
            obtain ⟨v6, σ6, H6, S6, r6, q6⟩ := hsp
            exact end_ S6 fun s7 J7 => ⟨_, _, _, J7, r6, q6⟩
        | false =>
          show wpAny _ X.A (handleBy (.ref a) X.env hds2) _ _ _
          exact ih h5 t5 fl5 up5 (hno rfl)
    exact go hh h3 s'.toks fl3 (up.trans up3) w
  · cases f with
    | next =>
      obtain ⟨σ', H', J', q⟩ := hsp
      exact wpAny_execs_nil ⟨σ', H', J'.ofTry ok, q⟩
    | brk =>
      obtain ⟨σ', H', J', q⟩ := hsp
      exact ⟨σ', H', J'.ofTry ok, q⟩
    | cont =>
      obtain ⟨σ', H', J', q⟩ := hsp
      exact ⟨σ', H', J'.ofTry ok, q⟩
    | ret u =>
      obtain ⟨v, σ', H', J', r, q⟩ := hsp
      exact ⟨v, σ', H', J'.ofTry ok, r, q⟩
end
end Xh
end
section
set_option Elab.async false
set_option linter.all false
set_option maxRecDepth 100000
set_option maxHeartbeats 2000000
/-! a lambda handed on from def to def -/
namespace Xh
open PySem PySem.Spec PyProof.Rows L2 LamX
section
variable {X : Cx} {pins : List (Addr × Obj)} {σ : L2.St} {H HZ : Hp} {s s1 : Shared}
theorem lam_startG {fs : List Addr} {A : Around} {outer : List Env} {E : XK} {scope : Scope} {f c' : Addr} {h₁ : Heap} {tk : Nat} (I : Inv X pins σ H s) (L : LamS X.env.scope scope) (e0 : Env0 X.prog X.w X.K X.mg X.base A outer s1 HZ) (hd : A.handled = none)
    (un : Un fs [] H HZ s.heap s1.heap) (hns : h₁.Ns s1.heap.objs.size fun y => ([] : List (Str × Value)).reverse.lookup y) (kp : ∀ b o, s1.heap.get? b = some o → h₁.get? b = some o) :
    Inv (lamCx X A outer s1 HZ E scope f c') [] σ HZ { s1 with heap := h₁, toks := tk } := by
  have hfree := L.has I.ok
  have cm : ∀ {y c}, (cloFrom X.env.cells scope.names []).lookup y = some c → X.env.cells.lookup y = some c := fun {y c} e => by
    rcases cloFrom_mem (PySem.mem_of_lookup e) with hm | ⟨h1, h2⟩
    · cases hm
    · obtain ⟨c1, hc⟩ := hfree _ h1 rfl
      have hc : X.env.cells.lookup y = some c1 := hc
      have e2 : c = c1 := by
        rw [h2, hc] <;> rfl
      rw [e2]
      exact hc
  have look : ∀ {y}, scope.names.lookup y = some .free → ∃ c, (cloFrom X.env.cells scope.names []).lookup y = some c := fun {y} hl => by
    have hy : (y, NameKind.free) ∈ scope.names := PySem.mem_of_lookup hl
    exact mem_lookup (cloFrom_has (cells := X.env.cells) (acc := []) hy)
  have cellK : ∀ {c : Addr} {v : Option Value}, H c = none → s.heap.IsCell c v → h₁.IsCell c v := fun {c v} n ⟨o, ho, hd⟩ => by
    obtain ⟨sl, q⟩ := un.any ho n (by simp)
    exact ⟨_, kp _ _ q, hd⟩
  have noA : ∀ b : Addr, b ∉ (lamCx X A outer s1 HZ E scope f c').ex := fun b z => absurd (show b ∈ ([] : List Addr) from z) (by simp)
  refine ⟨⟨e0.mod, L.kind, rfl, rfl, Nat.le_refl _, fun y z c e1 e2 => I.ok.inj y z c (cm e1) (cm e2), fun y hy => ?_, fun y c z _ => ?_, fun _ => hd, Around.frames_deeper e0.frames, .inr ⟨rfl, rfl⟩, fun b z => absurd z (noA b), e0.bs, e0.bsz, fun b _ _ => noA b,
      fun b z => absurd z (noA b), e0.funs, e0.frf⟩,
    rfl, e0.bare, Un.kept kp, ⟨_, hns, fun i y v e1 e2 e3 => ?_⟩, fun y c e => ?_, e0.hok.fresh (Nat.le_refl _), fun y c e => ?_, fun q hq => absurd (show q ∈ ([] : List (Addr × Obj)) ++ [] from hq) (by simp), e0.hok.kept kp, I.len⟩
  · have hy : scope.names.lookup y = some .cell ∨ scope.names.lookup y = some .free := hy
    rcases hy with hy | hy
    · exact absurd rfl (L.own _ (PySem.mem_of_lookup hy)).2
    · exact look hy
  · have z : false = true := z
    cases z
  · have e3 : Vis scope y := e3
    rcases e3 with k | k | k
    · exact absurd rfl (L.own _ (PySem.mem_of_lookup k)).1
    · exact absurd rfl (L.own _ (PySem.mem_of_lookup k)).2
    · obtain ⟨m, hn, hl⟩ := I.loc
      have hvis : Vis X.env.scope y := (L.free _ (PySem.mem_of_lookup k) rfl).elim (fun k => .inr (.inl k)) (fun k => .inr (.inr k))
      obtain ⟨w', r, q⟩ := hl i y v e1 e2 hvis
      obtain ⟨c2, h2⟩ := look k
      refine ⟨w', r, .inr ⟨.inr k, c2, h2, ?_⟩⟩
      have c1 := cm h2
      rcases q with ⟨k', _⟩ | ⟨_, c3, e', z⟩
      · have k' : X.env.scope.names.lookup y = some .local := k'
        rcases L.free _ (PySem.mem_of_lookup k) rfl with k2 | k2 <;> rw [show X.env.scope.names.lookup y = _ from k2] at k' <;> cases k'
      · rw [c1] at e'
        cases e'
        exact cellK (I.freeC y _ c1) z
  · obtain ⟨w', z⟩ := I.cell y c (cm e)
    exact ⟨w', cellK (I.freeC y c (cm e)) z⟩
  · obtain ⟨v, o, ho, hd⟩ := I.cell y c (cm e)
    exact un.free c o ho (I.freeC y c (cm e)) (by simp)
end
/-- the thing at f can be called, without arguments, from whatever runs behind the state s (abstract heap H): tl tells its reading, q its code's name -/
def CanAct (P : Program) (w : World) (K : PySem.W.Frag) (mg : Str → Option Value) (base : Heap) (k : Nat) (q : Str) (f c' : Addr) (tl : XK → Hp → VK → Prop) (s : Shared) (H : Hp) : Prop :=
  ∀ (fs : List Addr) (CXg : CXT) (Ng : List Str) (qg : Str) (sg : Scope) (g : Addr) (cdg : Value) (A : Around) (outer : List Env) (sZ : Shared) (HZ0 : Hp) (Eg : XK), Un fs [] H HZ0 s.heap sZ.heap → f ∉ fs → (∀ b ∈ frs outer, b ∈ fs) → Room (k + 1) (A.deeper (envOfC qg sg sZ.heap.objs.size g cdg)) →
    ∀ (i : Nat) (a : Str) (W : WX) (pn : List (Addr × Obj)) (xe : Value → Shared → Prop) (E : XK) (p1 p2 : Pos), Ng[i]? = some a → Vis sg a → (a == ("__debug__" : Str)) = false → (a == ("__classdict__" : Str)) = false →
      Takes ((cxOf CXg P w K mg base Ng qg sg g cdg A outer sZ HZ0 Eg).tr pn xe) W → (∀ cls d σ' H', E cls d H' → W cls d σ' H') →
      PE ((cxOf CXg P w K mg base Ng qg sg g cdg A outer sZ HZ0 Eg).tr pn xe) (.Call (.Name a p1) [] [] p2) (fun σZ HZ Q => σZ[i]? = some (some (.ref f)) ∧ HZ c' = some (CodeO c' q) ∧ tl E HZ Q)
theorem CanAct.later {P : Program} {w : World} {K : PySem.W.Frag} {mg : Str → Option Value} {base : Heap} {k : Nat} {q : Str} {f c' : Addr} {tl : XK → Hp → VK → Prop} {s s1 : Shared} {H H1 : Hp} {fs0 : List Addr} (c : CanAct P w K mg base k q f c' tl s H) (un : Un fs0 [] H H1 s.heap s1.heap) (hf : f ∉ fs0) :
    CanAct P w K mg base k q f c' tl s1 H1 := fun fs CXg Ng qg sg g cdg A outer sZ HZ0 Eg un1 hf1 ho hr i a W pn xe E p1 p2 => by
  refine c (fs0 ++ fs) CXg Ng qg sg g cdg A outer sZ HZ0 Eg ((un.mono (fun b hb => List.mem_append_left _ hb) (fun _ z => z)).trans (un1.mono (fun b hb => List.mem_append_right _ hb) (fun _ z => z))) (fun z => ?_) (fun b hb => List.mem_append_right _ (ho b hb)) hr i a W pn xe E p1 p2
  rcases List.mem_append.mp z with z | z
  · exact hf z
  · exact hf1 z
section
variable {X : Cx} {pins : List (Addr × Obj)} {σ : L2.St} {H : Hp} {s : Shared}
/-- a lambda just made can be called -/
theorem canAct_of {f c' : Addr} {pm ctv : Value} {params : Arguments} {body : Expr} {scope : Scope} {k : Nat} {tb : XK → TE}
    (I : Inv X pins σ H s) (L : LamS X.env.scope scope) (hf : s.heap.get? f = some (PySem.W.kla_obj "<lambda>" (X.env.qual ++ "<lambda>") params body scope (cloFrom X.env.cells scope.names []) pm c' ctv)) (hfn : H f = none)
    (hbind : bindArgs (PySem.W.kla_fn "<lambda>" (X.env.qual ++ "<lambda>") params body scope (cloFrom X.env.cells scope.names []) pm (.ref c') ctv) ⟨[], []⟩ = pure [])
    (hbody : ∀ (A : Around) (outer : List Env) (s : Shared) (H : Hp) (E : XK), Room k (A.deeper (lamEnv X scope s.heap.objs.size f c')) → PE (lamCx X A outer s H E scope f c') body (tb E)) :
    CanAct X.prog X.w X.K X.mg X.base k (X.env.qual ++ "<lambda>") f c' (fun E H' Q => tb E σ H' Q) s H := by
  intro fs CXg Ng qg sg g cdg A outer sZ HZ0 Eg un0 hff ho hr i a W pn xe E p1 p2 hN hv hd hcd tk hW
  refine ⟨fun pinsZ s0 σZ HZ Q IZ h => ?_⟩
  obtain ⟨hs, hc, ht⟩ := h
  refine wpAny_Call_Name_kw (thn ((pe_var (pos := p1) (i := i) hN hv hd hcd).run pinsZ s0 σZ HZ (fun v H1 => v = .ref f ∧ H1 = HZ) IZ ⟨.ref f, hs, rfl, rfl⟩) fun u s1 ⟨v, H1, I1, r1, q1⟩ => ?_)
  obtain ⟨ev, eH⟩ := q1
  subst ev
  rw [eH] at I1
  obtain rfl : u = Value.ref f := r1
  have un : Un fs [] H HZ s.heap s1.heap := un0.trans (I1.base.mono ho fun _ z => z)
  have of1 : s1.heap.get? f = some (PySem.W.kla_obj "<lambda>" (X.env.qual ++ "<lambda>") params body scope (cloFrom X.env.cells scope.names []) pm c' ctv) := un.keep f _ hf hfn hff (fun z => nomatch (show f ∈ ([] : List Addr) from z))
  refine PySem.W.callWith_F0 ⟨_, _, _, _, of1⟩ ?_
  obtain ⟨⟨oc, vs, t, hoc, hdc, hvc⟩, _, _⟩ := I1.hok c' _ hc
  have rc : codeAny (model X.prog X.w) (A.deeper (envOfC qg sg sZ.heap.objs.size g cdg)) (.call (.ref f) ⟨[], []⟩) (CR (L2.CX X.prog X.w) (envOfC qg sg sZ.heap.objs.size g cdg :: outer) X.prog X.w HZ s1 Q E) s1 := by
    refine PySem.W.kla_callFunE hr.depth of1 rfl L.co L.gen rfl ⟨c', oc, vs, t, rfl, hoc, hdc, hvc⟩ ?_
    rw [hbind]
    refine wpAny_pure (wpAny_newFunctionEnv (fun y hy => (L.own y hy).2) (fun y hy => absurd hy (by simp)) (fun h₁ hns hsb => ⟨I1.nolimit.fresh _ hsb, ?_⟩) L.kind)
    show codeAny _ _ (.expr body (lamEnv X scope s1.heap.objs.size f c')) _ _
    have kp : ∀ b o, s1.heap.get? b = some o → h₁.get? b = some o := fun b o e => hsb.extBut b o (Nat.ne_of_lt (Heap.lt_size e)) (Heap.get?_push_of_some _ e)
    have J : Inv (lamCx X (A.deeper (envOfC qg sg sZ.heap.objs.size g cdg)) (envOfC qg sg sZ.heap.objs.size g cdg :: outer) s1 HZ E scope f c') [] σ HZ { s1 with heap := h₁, toks := s1.toks + ([] : List (Str × Value)).length } :=
      lam_startG I L I1.env0 hr.hd un hns kp
    refine PySem.W.kla_codeExpr (wpAny_mono ((hbody _ _ s1 HZ E (hr.deeper _)).run [] _ _ HZ Q J ht) (fun v s' hq => ?_) fun e s' hq => hq)
    obtain ⟨w', H', J', rv, q⟩ := hq
    exact ⟨w', H', J'.os, J'.bare, J'.base, J'.hok, rv, q⟩
  have hx : Passes (L2.CX X.prog X.w) ((cxOf CXg X.prog X.w X.K X.mg X.base Ng qg sg g cdg A outer sZ HZ0 Eg).tr pn xe) E := passes_call tk hW
  refine wpAny_call (codeAny_mono rc fun r s' hq => ?_)
  cases r with
  | error e => exact hx pinsZ σZ HZ s1 e s' I1 hq
  | ok fl =>
    cases fl with
    | ret u => exact I1.after hq
    | next => exact False.elim hq
    | brk => exact False.elim hq
    | cont => exact False.elim hq
end
/-- a def of one parameter (Ng: its names, the parameter first) that gets something to call: TT its promise; what the callee raises is caught within -/
structure Gives (P : Program) (w : World) (K : PySem.W.Frag) (mg : Str → Option Value) (base : Heap) (k kl : Nat) (x : Str) (g : Addr) (TT : (XK → Hp → VK → Prop) → Hp → VK → Prop) : Prop where
  m : mg x = some (.ref g)
  kp : PySem.W.keepIn K (.ref g) = true
  run : ∀ (q : Str) (A : Around) (outer : List Env) (f c' : Addr) (s : Shared) (H : Hp) (Q : VK) (tl : XK → Hp → VK → Prop), Room k A → Env0 P w K mg base A outer s H → CanAct P w K mg base kl q f c' tl s H → f ∉ frs outer → f < s.heap.objs.size → H c' = some (CodeO c' q) → TT tl H Q →
    codeAny (model P w) A (.call (.ref g) ⟨[.ref f], []⟩) (CR CX0 outer P w H s Q E0) s
theorem gives_of {P : Program} {w : World} {K : PySem.W.Frag} {mg : Str → Option Value} {base : Heap} {k kl : Nat} {x a : Str} {g : Addr} {fd : FuncData} {pg : Arguments} {bg : List Stmt} {sg : Scope} {Ng : List Str} {TT : (XK → Hp → VK → Prop) → Hp → VK → Prop}
    (F : FunD K x x pg bg sg [] [] g fd) (hm : mg x = some (.ref g)) (Sg : FnScope Ng [a] sg)
    (hb : ∀ (kV doc pm : Value) (an : Option Addr) (cdv ct : Value) (us : List Value), us.length = [a].length → bindArgs (PySem.W.fnOf x x pg bg sg .none kV doc pm an cdv ct) ⟨us, []⟩ = pure ([a].zip us))
    (hG : ∀ (q : Str) (cdg : Value) (A : Around) (outer : List Env) (f c' : Addr) (s : Shared) (H : Hp) (Q : VK) (tl : XK → Hp → VK → Prop), Room k (A.deeper (envOfC x sg s.heap.objs.size g cdg)) → CanAct P w K mg base kl q f c' tl s H → f ∉ frs outer → f < s.heap.objs.size → H c' = some (CodeO c' q) → TT tl H Q →
      ∃ t, PSs (cxOf CX0 P w K mg base Ng x sg g cdg A outer s H E0).nox bg t ∧ t { nx := fun _ H' => Q .non H', rt := Q } (L2.start Ng [.ref f]) H) : Gives P w K mg base (k + 1) kl x g TT := by
  have b := FunD.bindsN F hb
  refine ⟨hm, F.kp, fun q A outer f c' s H Q tl hr e0 act hfo hfs hc hT => ?_⟩
  obtain ⟨oc, od, dV, kV, doc, pm, an, cdv, ct, osl, rfl, lk, hcd, _, _⟩ := F.ex
  refine run_ofS (N := Ng) (ps := [a]) (us := [.ref f]) (vs := [.ref f]) lk hcd Sg hr e0 (b s [.ref f] (e0.mod.kin.keeps fun c o e => (e0.bs c o e).1) rfl) (.cons rfl .nil) rfl fun hr' => ?_
  obtain ⟨t, h1, h2⟩ := hG q cdv A outer f c' s H Q tl hr' act hfo hfs hc hT
  exact ⟨t, h1.nox, h2⟩
section
variable {X : Cx}
/-- x(lambda: body) -/
theorem pe_lam {T : List (Addr × Str)} {TT : (XK → Hp → VK → Prop) → Hp → VK → Prop} {x : Str} {g c P : Addr} {k kl : Nat}
    {params : Arguments} {body : Expr} {scope : Scope} {t : XK → TE} {p lpos pos : Pos} (G : Gives X.prog X.w X.K X.mg X.base k kl x g TT) (hg : Gl X x)
    (TB : TabB X.base X.mg c P) (hcode : X.env.code = .ref c) (hmT : (P, X.env.qual ++ "<lambda>") ∈ T) (hu : ∀ p ∈ T, p.1 = P → p.2 = X.env.qual ++ "<lambda>") (hr : Room k X.A) (L : LamS X.env.scope scope) (hdef : defaultsOf params X.env = ([], []))
    (hbind : ∀ (q : Str) (cl : List (Str × Addr)) (pm cv ctv : Value), bindArgs (PySem.W.kla_fn "<lambda>" q params body scope cl pm cv ctv) ⟨[], []⟩ = pure [])
    (hbody : ∀ (A : Around) (outer : List Env) (s : Shared) (H : Hp) (E : XK) (f c' : Addr), Room kl (A.deeper (lamEnv X scope s.heap.objs.size f c')) → PE (lamCx X A outer s H E scope f c') body (t E))
    (hdb : (x == ("__debug__" : Str)) = false := by decide) :
    PE X (.Call (.Name x p) [.Lambda params body scope lpos] [] pos) (tLam T TT t) := by
  refine ⟨fun pins s σ H Q I h => ?_⟩
  obtain ⟨hT, h⟩ := h
  refine wpAny_Call_Name_kw (ld_glob I hg G.m ?_ hdb)
  refine PySem.W.callWith_K (h₀ := X.base) I.ok.mod.kin G.kp ?_ (by rfl) (by rfl)
  show wpAny _ _ (spliced ((false, eval (.Lambda params body scope lpos) X.env) :: backTo pos (starEach [] X.env))) _ _ s
  refine Calls.spliced_cons (lam_make2 I TB hcode hmT hu hT hdef (L.has I.ok) fun f c' pm' ctv H1 s' I1 eN T1 hf hfn hfr hco => ?_)
  refine Calls.spliced_nil ⟨I1.kIn, ?_⟩
  have act := canAct_of (tb := t) I1 L hf hfn (hbind _ _ _ _ _) (fun A outer s H E hr2 => hbody A outer s H E f c' hr2)
  have rc := G.run _ X.A X.stack f c' s' H1 Q _ hr I1.env0 act hfr (Heap.lt_size hf) hco (h H1 eN T1)
  refine wpAny_call (codeAny_mono rc fun r s2 hq => ?_)
  cases r with
  | error e => exact (show False from hq).elim
  | ok fl =>
    cases fl with
    | ret u => exact I1.after hq
    | next => exact False.elim hq
    | brk => exact False.elim hq
    | cont => exact False.elim hq
end
/-- y(a) in a def that got something to call, y such a def too -/
theorem pe_passOn {P : Program} {w : World} {K : PySem.W.Frag} {mg : Str → Option Value} {base : Heap} {k kl : Nat} {q a y x : Str} {f c' gy g : Addr} {tl : XK → Hp → VK → Prop} {TT : (XK → Hp → VK → Prop) → Hp → VK → Prop} {s : Shared} {H : Hp} {A : Around} {outer : List Env} {Ng : List Str} {sg : Scope} {cdg : Value} {p1 p2 pos : Pos} {i : Nat}
    (G : Gives P w K mg base k kl y gy TT) (act : CanAct P w K mg base kl q f c' tl s H) (hfo : f ∉ frs outer) (hfs : f < s.heap.objs.size) (hr : Room k (A.deeper (envOfC x sg s.heap.objs.size g cdg)))
    (hgy : sg.names.lookup y = some .globalImplicit) (hN : Ng[i]? = some a) (hv : Vis sg a) (hdy : (y == ("__debug__" : Str)) = false := by decide) (hd : (a == ("__debug__" : Str)) = false := by decide) (hcd : (a == ("__classdict__" : Str)) = false := by decide) :
    PE (cxOf CX0 P w K mg base Ng x sg g cdg A outer s H E0).nox (.Call (.Name y p1) [.Name a p2] [] pos) (fun σZ HZ Q => σZ[i]? = some (some (.ref f)) ∧ HZ c' = some (CodeO c' q) ∧ TT tl HZ Q) := by
  refine ⟨fun pins s1 σZ HZ Q I h => ?_⟩
  obtain ⟨hs, hc, hT⟩ := h
  refine wpAny_Call_Name_kw (ld_glob (X := (cxOf CX0 P w K mg base Ng x sg g cdg A outer s H E0).nox) I hgy G.m ?_ hdy)
  refine PySem.W.callWith_K (h₀ := base) I.ok.mod.kin G.kp (thn ((pa_cons (X := (cxOf CX0 P w K mg base Ng x sg g cdg A outer s H E0).nox) (pe_var (pos := p2) (i := i) hN hv hd hcd) pa_nil).run pos pins s1 σZ HZ (fun vs H1 => vs = [.ref f] ∧ H1 = HZ) I ⟨.ref f, hs, rfl, rfl⟩) fun us s2 ⟨vs, H2, I2, r, q2⟩ => ⟨I2.kIn, ?_⟩) (by rfl) (by rfl)
  obtain ⟨ev, eH⟩ := q2
  subst ev
  rw [eH] at I2
  have eu : us = [Value.ref f] := by
    cases r with
    | cons r0 rr =>
      cases rr
      obtain rfl := (show _ = Value.ref f from r0)
      rfl
  subst eu
  have un : Un (frs outer) [] H HZ s.heap s2.heap := I2.base
  have lt2 : s.heap.objs.size ≤ s2.heap.objs.size := I2.sz
  have nfr : f ∉ frs (envOfC x sg s.heap.objs.size g cdg :: outer) := fun z => by
    unfold frs at z
    rw [List.filterMap_cons] at z
    have z' : f ∈ s.heap.objs.size :: frs outer := z
    rcases List.mem_cons.mp z' with e | e
    · exact absurd hfs (by rw [e]; exact Nat.lt_irrefl _)
    · exact hfo e
  have rc := G.run q (A.deeper (envOfC x sg s.heap.objs.size g cdg)) (envOfC x sg s.heap.objs.size g cdg :: outer) f c' s2 HZ Q tl hr I2.env0 (act.later un hfo) nfr (Nat.lt_of_lt_of_le hfs lt2) hc hT
  refine wpAny_call (codeAny_mono rc fun r s3 hq => ?_)
  cases r with
  | error e => exact (show False from hq).elim
  | ok fl =>
    cases fl with
    | ret u => exact I2.after hq
    | next => exact False.elim hq
    | brk => exact False.elim hq
    | cont => exact False.elim hq
end Xh
end
section
set_option Elab.async false
set_option linter.all false
set_option maxRecDepth 100000
set_option maxHeartbeats 2000000
namespace Xh
open PySem PySem.Spec PyProof.Rows L2
/-- a def of the module, called by its name: its promise, its defaults -/
structure Own (P : Program) (w : World) (K : PySem.W.Frag) (mg : Str → Option Value) (base : Heap) (CX : CXT) (k : Nat) (x : Str) (ps : List Str) (dvs : List V) (sp : Sp) : Prop where
  ex : ∃ (f : Addr) (fd : FuncData) (ds : List Value), FnOk P w K mg base CX k f fd ps sp ∧ mg x = some (.ref f) ∧ PySem.W.keepIn K (.ref f) = true ∧ Binds K fd ps ds ∧ Vals dvs ds
/-- .. called with its last parameter by keyword -/
structure OwnK (P : Program) (w : World) (K : PySem.W.Frag) (mg : Str → Option Value) (base : Heap) (CX : CXT) (k n : Nat) (x : Str) (ps ks : List Str) (sp : Sp) : Prop where
  ex : ∃ (f : Addr) (fd : FuncData), FnOk P w K mg base CX k f fd ps sp ∧ mg x = some (.ref f) ∧ PySem.W.keepIn K (.ref f) = true ∧ KBn K fd ps n ks (fun us ws => us ++ ws) (fun vs zs => vs ++ zs)
section
variable {P : Program} {w : World} {K : PySem.W.Frag} {mg : Str → Option Value} {base : Heap} {CX : CXT} {j k n : Nat} {x : Str} {ps ks : List Str} {dvs : List V} {sp sp' : Sp}
theorem Own.mono (O : Own P w K mg base CX j x ps dvs sp) (h : j ≤ k) : Own P w K mg base CX k x ps dvs sp := by
  obtain ⟨f, fd, ds, F, m, kp, b, r⟩ := O.ex
  exact ⟨f, fd, ds, F.mono h, m, kp, b, r⟩
theorem OwnK.mono (O : OwnK P w K mg base CX j n x ps ks sp) (h : j ≤ k) : OwnK P w K mg base CX k n x ps ks sp := by
  obtain ⟨f, fd, F, m, kp, b⟩ := O.ex
  exact ⟨f, fd, F.mono h, m, kp, b⟩
theorem own_of {q : Str} {params : Arguments} {body : List Stmt} {scope : Scope} {f : Addr} {fd : FuncData} (F : FunD K x q params body scope [] [] f fd) (G : FnOk P w K mg base CX k f fd ps sp) (m : mg x = some (.ref f))
    (h : ∀ (kV doc pm : Value) (an : Option Addr) (cdv ct : Value) (us : List Value), us.length = ps.length → bindArgs (PySem.W.fnOf x q params body scope .none kV doc pm an cdv ct) ⟨us, []⟩ = pure (ps.zip us)) : Own P w K mg base CX k x ps [] sp :=
  ⟨f, fd, [], G, m, F.kp, FunD.bindsN F h, .nil⟩
theorem own_ofK {q : Str} {params : Arguments} {body : List Stmt} {scope : Scope} {f : Addr} {fd : FuncData} {kws : List (Str × V)} (F : FunD K x q params body scope [] kws f fd) (G : FnOk P w K mg base CX k f fd ps sp) (m : mg x = some (.ref f))
    (h : ∀ (kV doc pm : Value) (an : Option Addr) (cdv ct : Value) (us ws : List Value), us.length = n → ws.length = ks.length → bindArgs (PySem.W.fnOf x q params body scope .none kV doc pm an cdv ct) ⟨us, ks.zip ws⟩ = pure (ps.zip (us ++ ws))) : OwnK P w K mg base CX k n x ps ks sp := by
  have kp := F.kp
  obtain ⟨oc, od, dV, kV, doc, pm, an, cdv, ct, osl, rfl, lk, hcd, hD, hK⟩ := F.ex
  rcases hD with ⟨_, rfl⟩ | ⟨e, _⟩
  · exact ⟨f, _, G, m, kp, ⟨fun s us ws X l1 l2 => .of_eq (h kV doc pm an cdv ct us ws l1 l2), fun r1 r2 => r1.append r2⟩⟩
  · exact absurd rfl e
theorem own_of0 {q : Str} {params : Arguments} {body : List Stmt} {scope : Scope} {f : Addr} {fd : FuncData} {kws : List (Str × V)} (F : FunD K x q params body scope [] kws f fd) (G : FnOk P w K mg base CX k f fd ps sp) (m : mg x = some (.ref f)) (n : Nat) (hk : kws ≠ []) (hn : n + kws.length = ps.length)
    (h : ∀ (D : Addr) (doc pm : Value) (an : Option Addr) (cdv ct : Value) (us ks : List Value), us.length = n → ks.length = kws.length →
      KwChain D ((kws.map (·.1)).zip ks) (bindArgs (PySem.W.fnOf x q params body scope .none (.ref D) doc pm an cdv ct) ⟨us, []⟩) (ps.zip (us ++ ks))) : Own P w K mg base CX k x ps (kws.map (·.2)) sp := by
  obtain ⟨ds, r, b⟩ := FunD.binds0 F n hk hn h
  exact ⟨f, fd, ds, G, m, F.kp, b, r⟩
end
section
variable {X : Cx} {CX : CXT} {k n : Nat} {x : Str} {ps ks : List Str} {dvs : List V} {sp : Sp} {E : XK} {p pos : Pos} {e : Expr} {es : List Expr} {kws : List Keyword} {t tk : TA}
theorem pe_own (O : Own X.prog X.w X.K X.mg X.base CX k x ps dvs sp) (hr : Room k X.A) (hg : Gl X x) (hx : Passes CX X E) (ha : PA X (e :: es) t) (hdb : (x == ("__debug__" : Str)) = false := by decide)
    (he : starEach (e :: es) X.env = (false, eval e X.env) :: starEach es X.env := by rfl) (hpl : (backTo pos (starEach es X.env)).any (·.1) = false := by rfl) : PE X (.Call (.Name x p) (e :: es) [] pos) (tCall sp dvs E t) := by
  obtain ⟨f, fd, ds, F, m, kp, b, r⟩ := O.ex
  exact pe_call F hr hg m kp b r hx ha hdb he hpl
theorem pe_own0 (O : Own X.prog X.w X.K X.mg X.base CX k x ps dvs sp) (hr : Room k X.A) (hg : Gl X x) (hx : Passes CX X E) (hdb : (x == ("__debug__" : Str)) = false := by decide) : PE X (.Call (.Name x p) [] [] pos) (tCall sp dvs E tNil) := by
  obtain ⟨f, fd, ds, F, m, kp, b, r⟩ := O.ex
  exact pe_call0 F hr hg m kp b r hx hdb
theorem pe_ownK (O : OwnK X.prog X.w X.K X.mg X.base CX k n x ps ks sp) (hr : Room k X.A) (hg : Gl X x) (hx : Passes CX X E)
    (ha : PA X (e :: es) t) (hkw : PK X kws tk) (hall : (backToKw pos (keywordEach kws X.env)).all (·.1.isSome) = true := by rfl) (hks : (backToKw pos (keywordEach kws X.env)).filterMap (·.1) = ks := by rfl)
    (hdb : (x == ("__debug__" : Str)) = false := by decide) (he : starEach (e :: es) X.env = (false, eval e X.env) :: starEach es X.env := by rfl)
    (hpl : ((backTo pos (starEach (e :: es) X.env)).any (·.1) || (backToKw pos (keywordEach kws X.env)).any (·.1.isNone)) = false := by rfl) :
    PE X (.Call (.Name x p) (e :: es) kws pos) (tCallN n ks.length sp (fun vs zs => vs ++ zs) E t tk) := by
  obtain ⟨f, fd, F, m, kp, b⟩ := O.ex
  exact pe_callN F hr hg m kp b hx ha hkw hall hks hdb he hpl
end
end Xh
end
section
set_option Elab.async false
set_option linter.all false
set_option maxRecDepth 100000
set_option maxHeartbeats 2000000
namespace Xh
open PySem PySem.Spec PyProof.Rows L2
/-! ### enumerate of a tuple -/
theorem meets_enum1 {v : Value} {o : Obj} {H : Heap → Prop} (B : Begins v o H) :
    Meets (Builtin.«enumerate.__new__» ⟨[.type "enumerate", v], []⟩) (fun _ R s => H s.heap ∧
      R (.ok (.ret (.ref (s.heap.push o).objs.size))) { s with heap := (s.heap.push o).push { cls := .type "enumerate", data := .fields #[.none, .bool false, .ref s.heap.objs.size, rawInt 0, .none, .none] } }) :=
  .of_wp fun prog w A R s h => by
    obtain ⟨hp, g, d, tk, os⟩ := s
    obtain ⟨h1, h⟩ := h
    have hsub := sub_enumerate
    have q1 : ∀ {A' : Around} {E : Value → Shared → Prop} {Q : Value → Shared → Prop}, Q (.ref hp.objs.size) ⟨hp.push o, g, d, tk, os⟩ → wpAny (model prog w) A' (pyIter v) Q E ⟨hp, g, d, tk, os⟩ :=
      fun q => B.iter prog w _ _ ⟨hp, g, d, tk, os⟩ _ h1 q
    wp_walk using q1
    refine wpAny_stack_any fun st => wpAny_pure ?_
    split
    · rename_i c _ _ _ _ _
      cases (c == Value.type "enumerate")
      · wp_walk using q1
        exact ⟨_, rfl, h⟩
      · wp_walk using q1
        exact ⟨_, rfl, h⟩
    · wp_walk using q1
      exact ⟨_, rfl, h⟩
theorem call_enum1 {prog : Program} {w : World} {A : Around} {E : Value → Shared → Prop} {s : Shared} {v : Value} {o : Obj} {H : Heap → Prop} {Q : Value → Shared → Prop} (B : Begins v o H) (h1 : H s.heap)
    (h : ∀ h', IsEnum h' (s.heap.objs.size + 1) s.heap.objs.size 0 .none → h'.get? s.heap.objs.size = some o → h'.objs.size = s.heap.objs.size + 2 →
      (∀ b o, s.heap.get? b = some o → h'.get? b = some o) → Q (.ref (s.heap.objs.size + 1)) { s with heap := h' }) :
    wpAny (model prog w) A (call (.type "enumerate") [v]) Q E s := by
  refine callType_new F.called_enumerate (by decide) (F.typeCall_enumerate_1 _) (F.newCall_enumerate_1 _) (fun obj => F.args_object_init_2 obj _) F.entry_enumerate_new (meets_enum1 B) ⟨h1, ?_⟩
  have hz : (s.heap.push o).objs.size = s.heap.objs.size + 1 := Heap.size_push ..
  show _ ∧ _
  rw [hz]
  have he := Heap.get?_push_size (s.heap.push o) (o := { cls := .type "enumerate", data := .fields #[.none, .bool false, .ref s.heap.objs.size, rawInt 0, .none, .none] }) rfl
  rw [hz] at he
  exact ⟨⟨_, he, rfl⟩, h _ he (Heap.get?_push_of_some _ (Heap.get?_push_size _ B.free)) (by rw [Heap.size_push, hz]) fun b o x => Heap.get?_push_of_some _ (Heap.get?_push_of_some _ x)⟩
/-- the tuple at a, each item in a new pair with its place -/
def IteT (K : PySem.W.Frag) (a : Addr) : It :=
  ⟨fun i H => ∃ (xs : List V) (x : V), SqT K H a xs ∧ xs[i]? = some x, fun i H v H' => ∃ T x, v = .ref T ∧ H T = none ∧ H' = upd H T (.tup [.int (i : Nat), x]) ∧ ∀ xs, SqT K H a xs → xs[i]? = some x, fun i H => ∃ xs : List V, SqT K H a xs ∧ xs.length ≤ i⟩
theorem next_enum_endT {prog : Program} {w : World} {A : Around} {E : Value → Shared → Prop} {s : Shared} {e it l : Addr} {i : Nat} {items : Array Value} {c : Int} {old : Value} {Q : Option Value → Shared → Prop} (hh : A.handled = none)
    (he : IsEnum s.heap e it c old) (hit : s.heap.IsTupleIter it l i) (hl : s.heap.IsTuple l items) (hx : items[i]? = none) (hQ : ∀ h', Heap.ExtBut it s.heap h' → Q none { s with heap := h' }) : wpAny (model prog w) A (pyNext (.ref e)) Q E s := by
  unfold pyNext
  refine wpAny_bind (wpAny_attempt (wpAny_callSpecial?_slot (name := Str.ofString "__next__") ⟨_, he, rfl⟩ F.slot_enumerate_next (wpAny_call_entry F.slot_enumerate_next ⟨_, he, rfl⟩ F.entry_enumerate_next ?_ (F.args_enumerate_next_1 _))))
  show wpAny _ _ (field (.ref e) 2 >>= _) _ _ _
  refine wpAny_bind (wpAny_field he rfl (x := .ref it) rfl (wpAny_bind (wpAny_nextOf_tuple_end hh hit hl hx fun h' x he' hx' => ?_)))
  obtain ⟨o, ho, hc⟩ := hx'
  exact wpAny_bind (wpAny_isInstance (T := "StopIteration") (b := true) ⟨o, ho, hc⟩ isSubtype_stop (wpAny_pure (hQ _ he')))
theorem turn_enumT {P : Program} {w : World} {K : PySem.W.Frag} {elts : List Expr} {kk : Nat} {tpos : Pos} {a e it : Addr} (hai : a ≠ it) (hea : e ≠ a) :
    Turn P w K (.Tuple elts kk tpos) (IteT K a) [e, it] e (fun i h => (∃ old, IsEnum h e it ((i : Nat) : Int) old) ∧ h.IsTupleIter it a i ∧ e ≠ it) where
  mem := by simp
  obj := fun i h st b hb => by
    obtain ⟨⟨old, he⟩, ⟨o, ho, hc, hd⟩, _⟩ := st
    rcases (show b = e ∨ b = it by simpa using hb) with rfl | rfl
    · exact ⟨_, he, fun v q => nomatch q⟩
    · exact ⟨o, ho, fun v q => by rw [hd] at q; cases q⟩
  keep := fun i h h' st k => let ⟨⟨old, he⟩, hi, hne⟩ := st; ⟨⟨old, k e (by simp) _ he⟩, hi.at fun o q => k it (by simp) o q, hne⟩
  item := by
    intro X hP hw hK hc i pins s σ H E I hf st hg
    subst hP hw hK
    obtain ⟨⟨old, he⟩, hit, hne⟩ := st
    obtain ⟨xs, x, hq, hx⟩ := hg
    obtain ⟨its, rv, p, hz⟩ := I.tuple hq
    obtain ⟨u, hu, ru⟩ := rv.get hx
    have hel : e < s.heap.objs.size := Heap.lt_size he
    have hil : it < s.heap.objs.size := by obtain ⟨_, q, _⟩ := hit; exact Heap.lt_size q
    have hlt : i < its.toArray.size := by
      obtain ⟨z, _⟩ := List.getElem?_eq_some_iff.mp hu
      simpa using z
    have D := Draws.tuple (prog := X.prog) (w := X.w) (A := X.A.in1) (I.ok.hd hc) it a hai its.toArray
    refine wpAny_pyNext_enum_itemD D he ⟨hit, p⟩ hlt hne (by simp [hne, hea]) fun x' h' tk hx' ho hs' hT hsz hk => ?_
    have ex : x' = u := by
      have z : its[i]? = some x' := by simpa using hx'
      rw [hu] at z
      exact (Option.some.inj z).symm
    subst ex
    refine ⟨_, rfl, wpAny_letOwnedTupleGo_enum (s := { s with heap := h', toks := tk + 1 }) ho fun h'' he' sb => ?_⟩
    have hT2 := (sb.2 _ (Nat.ne_of_gt hel)).trans hT
    have new : ObjOk X.prog X.w (upd H s.heap.objs.size (.tup [.int (i : Nat), x])) h'' s.heap.objs.size (.tup [.int (i : Nat), x]) :=
      ⟨by show 2 ≤ sizeLine; decide, [.int i tk, x'], .cons ⟨_, rfl⟩ (.cons ru .nil), ⟨_, hT2, rfl, _, rfl⟩⟩
    have I1 : Inv X pins σ (upd H s.heap.objs.size (.tup [.int (i : Nat), x])) { s with heap := h'', toks := tk + 1 } :=
      I.turnedNew (ch := [e, it]) (fun b ob hb q => (sb.2 b (fun z => hb (by simp [z]))).trans (hk b ob (fun z => hb (by simp [z])) (fun z => hb (by simp [z])) q)) hf (Nat.le_refl _) new
    refine ⟨.ref s.heap.objs.size, _, I1, rfl, ⟨_, x, rfl, I.hok.fresh (Nat.le_refl _), rfl, fun ys hy => by rw [I.tuple_inj hy hq]; exact hx⟩, ⟨⟨x', ?_⟩, hs'.1.at fun o q => (sb.2 it (Ne.symm hne)).trans q, hne⟩, fun b hb => ?_⟩
    · rw [show ((i + 1 : Nat) : Int) = (i : Int) + 1 by omega]
      exact he'
    · have hb' : b < s.heap.objs.size := by
        rcases (show b = e ∨ b = it by simpa using hb) with rfl | rfl
        · exact hel
        · exact hil
      rw [upd_ne (Nat.ne_of_lt hb')]
      exact (hf b hb).1
  done := by
    intro X hP hw hK hc i pins s σ H E I hf st hg
    subst hP hw hK
    obtain ⟨⟨old, he⟩, hit, hne⟩ := st
    obtain ⟨xs, hq, hx⟩ := hg
    obtain ⟨its, rv, p, hz⟩ := I.tuple hq
    obtain ⟨f0, f1, f2, f3, f4, f5⟩ := hf it (by simp)
    have hl := rv.length
    exact next_enum_endT (I.ok.hd hc) he hit p (by simp; omega) fun h' eb => ⟨rfl, I.turned (t' := s.toks) (fun b o hb q => eb b o hb q) f0 f1 f3 f4 f5⟩
  self := fun A i s Q E st h => let ⟨⟨_, he⟩, _⟩ := st; wpAny_pyIter_enum he h
def iEnT (K : PySem.W.Frag) (ta : TA) : TI := fun σ H R => ta σ H fun vs H1 => ∃ a xs, vs = [.ref a] ∧ SqT K H1 a xs ∧ R (IteT K a) H1
theorem pi_enT {X : Cx} {e : Expr} {ta : TA} {p pos tpos : Pos} {elts : List Expr} {kk : Nat} (hg : Gl X "enumerate") (hm : X.mg "enumerate" = none) (ha : PA X [e] ta) (hs : starEach [e] X.env = [(false, eval e X.env)] := by rfl) :
    PI X (.Tuple elts kk tpos) (.Call (.Name "enumerate" p) [e] [] pos) (iEnT X.K ta) := by
  refine ⟨fun pins s σ H R I h => ?_⟩
  refine Call_ (ld_blt I hg hm boot_enumerate (PyProof.Rows.callWith_type1 (thn (ha.run pos pins s σ H _ I h) fun us s1 ⟨vs, H1, I1, r1, q1⟩ => ?_) hs rfl))
  obtain ⟨a, xs, rfl, hq, q⟩ := q1
  cases r1 with
  | cons r rr =>
    cases rr
    cases r
    obtain ⟨its, rv, p', hz⟩ := I1.tuple hq
    have al : a < s1.heap.objs.size := by
      obtain ⟨o, q', _⟩ := p'
      exact Heap.lt_size q'
    refine call_enum1 (begins_tuple a its.toArray) p' fun h' he hit hsz hk => wpAny_pyIter_enum he ?_
    have I2 : Inv X pins σ H1 { s1 with heap := h' } := I1.kept (t' := s1.toks) hk
    refine ⟨s1.heap.objs.size + 1, [s1.heap.objs.size + 1, s1.heap.objs.size], _, _, H1, rfl, I2, turn_enumT (Nat.ne_of_lt al) (Nat.ne_of_gt (Nat.lt_succ_of_lt al)), ⟨⟨.none, he⟩, ⟨_, hit, rfl, rfl⟩, Nat.succ_ne_self _⟩, fun b hb => ?_, q⟩
    have hle : s1.heap.objs.size ≤ b := by
      rcases (show b = s1.heap.objs.size + 1 ∨ b = s1.heap.objs.size by simpa using hb) with rfl | rfl
      · exact Nat.le_add_right _ _
      · exact Nat.le_refl _
    exact I1.fpOk hle (I1.hok.fresh hle)
theorem walk_enT {K : PySem.W.Frag} {a : Addr} {xs : List V} : Walk (IteT K a) xs.length (fun H => SqT K H a xs) (YPair (fun i => some (.int (i : Nat))) (fun i => xs[i]?)) :=
  ⟨fun i H hi h => ⟨xs, xs[i], h, by simp [hi]⟩, fun H h => ⟨xs, h, Nat.le_refl _⟩,
    fun i H x H' hi h y => by
      obtain ⟨T, u, e1, e2, e3, q⟩ := y
      exact ⟨T, _, u, e1, e2, e3, rfl, q xs h⟩⟩
end Xh
namespace Xh
open PySem PySem.Spec PyProof.Rows L2
/-- xs[i] of a list, i not below 0, for `xs[i] op= e` -/
theorem get_list {X : Cx} : PGet X (rIxL X.K) := by
  intro pins s σ H o i ov iv Q I ro ri h
  obtain ⟨p, xs, k, z, rfl, rfl, hq, he, q⟩ := h
  cases ro
  obtain ⟨t, rfl⟩ := ri
  obtain ⟨its, r, pl, hz⟩ := I.list hq
  obtain ⟨j, h1, h2, h3, h4, h5⟩ := atI_get he
  obtain ⟨w, ew, rw'⟩ := r.get h2
  have hl := r.length
  have hn := line63
  have fin : EP X pins σ Q w s := ⟨z, H, I, rw', q⟩
  by_cases h0 : 0 ≤ k
  · have hj : k.toNat = j := by
      rw [seqIndex_of h0 h5] at h1
      exact Option.some.inj h1
    exact wpAny_getItem_list pl.isList h0 (by omega) (by rw [hj]; simpa using ew) fin
  · have hj : (k + (its.toArray.size : Int)).toNat = j := by
      rw [seqIndex_neg (by omega) h4] at h1
      rw [List.size_toArray, ← hl]
      exact Option.some.inj h1
    exact wpAny_getItem_list_neg pl.isList (by omega) (by rw [List.size_toArray] <;> omega) (by omega) (by rw [hj]; simpa using ew) fin
end Xh
end
section
set_option Elab.async false
set_option linter.all false
set_option maxRecDepth 100000
set_option maxHeartbeats 4000000
namespace Xk
open PySem PySem.Spec PyProof.Rows L2 Xh
def topS (i : Nat) : Stmt := PySem.Challenge.pw_rungfields_k08_doors_of_polynomials.main.body.getD i (.Pass ⟨0, 0, 0, 0⟩)
/-- names that are the built-in ones still -/
structure Fre (mg : Str → Option Value) : Prop where
  f_len : mg "len" = none
  f_abs : mg "abs" = none
  f_list : mg "list" = none
  f_tuple : mg "tuple" = none
  f_int : mg "int" = none
  f_bool : mg "bool" = none
  f_str : mg "str" = none
  f_isinstance : mg "isinstance" = none
  f_range : mg "range" = none
  f_all : mg "all" = none
  f_zip : mg "zip" = none
  f_enumerate : mg "enumerate" = none
  f_max : mg "max" = none
  f_reversed : mg "reversed" = none
/-! ### what is drawn -/
/-- a row of draws stands at d -/
def Draw (H : Hp) (d : Addr) : Prop := ∃ (c : Addr) (ns : List Int) (i : Nat) (r g : Int), H d = some (.lst [.ref c, .int i, .int r, .int g]) ∧ H c = some (.lst (ns.map V.int)) ∧ 0 ≤ g ∧ g < 2147483647
/-- all but what stands at d is as it was -/
def But (d : Addr) (H H' : Hp) : Prop := ∀ b o, b ≠ d → H b = some o → H' b = some o
theorem But.refl (d : Addr) (H : Hp) : But d H H := fun _ _ _ e => e
theorem But.trans {d : Addr} {H H1 H2 : Hp} (a : But d H H1) (b : But d H1 H2) : But d H H2 := fun c o h e => b c o h (a c o h e)
theorem But.same {d : Addr} {H H1 : Hp} (a : Same H H1) : But d H H1 := fun c o _ e => a c o e
theorem But.upd {d : Addr} {H : Hp} {o : HO} : But d H (upd H d o) := fun b u h e => by rw [upd_ne h]; exact e
theorem But.updN {d p : Addr} {H : Hp} {o : HO} (h : H p = none) : But d H (L2.upd H p o) := fun b u _ e => by rw [upd_ne (ne_of_none e h)]; exact e
theorem But.free {d p : Addr} {H H' : Hp} (a : But d H H') (h : H' p = none) (hd : p ≠ d) : H p = none := by
  cases q : H p with
  | none => rfl
  | some o =>
    rw [a p o hd q] at h
    cases h
theorem same_upd {p : Addr} {H : Hp} {o : HO} (h : H p = none) : Same H (L2.upd H p o) := fun b u e => by rw [upd_ne (ne_of_none e h)]; exact e
theorem Draw.there {H : Hp} {d : Addr} (D : Draw H d) : ∃ o, H d = some o := by
  obtain ⟨c, ns, i, r, g, h, _⟩ := D
  exact ⟨_, h⟩
theorem Draw.same {H H' : Hp} {d : Addr} (D : Draw H d) (s : Same H H') : Draw H' d := by
  obtain ⟨c, ns, i, r, g, h1, h2, h3⟩ := D
  exact ⟨c, ns, i, r, g, s _ _ h1, s _ _ h2, h3⟩
theorem Draw.ne {H : Hp} {d p : Addr} (D : Draw H d) (h : H p = none) : p ≠ d := fun z => by
  obtain ⟨o, e⟩ := D.there
  rw [z, e] at h
  cases h
theorem But.seq {K : PySem.W.Frag} {d a : Addr} {H H' : Hp} {xs : List V} (b : But d H H') (hd : a ≠ d) (h : SqL K H a xs) : SqL K H' a xs := by
  rcases h with (h | ⟨o, h⟩) | h
  · exact .inl (.inl (b _ _ hd h))
  · exact .inl (.inr ⟨o, b _ _ hd h⟩)
  · exact .inr h
/-- a row that is not the drawing one -/
theorem Draw.apart {H : Hp} {d p : Addr} {ns : List Int} (D : Draw H d) (h : H p = some (.lst (ns.map V.int))) : p ≠ d := fun z => by
  obtain ⟨c, ms, i, r, g, h1, h2, h3⟩ := D
  rw [z, h1] at h
  cases ns with
  | nil => cases h
  | cons n ns => cases h
theorem cutV_ints (ns : List Int) (lo hi : Option Int) : ∃ ms : List Int, cutV (ns.map V.int) lo hi = ms.map V.int := by
  refine ⟨(ns.drop (HT.sIx ns.length 0 lo)).take (HT.sIx ns.length ns.length hi - HT.sIx ns.length 0 lo), ?_⟩
  unfold cutV
  rw [List.length_map, ← List.map_drop, ← List.map_take]
theorem ne_of_none' {H : Hp} {a b : Addr} {o : HO} (h : H a = none) (h' : H b = some o) : a ≠ b := fun z => by
  rw [z, h'] at h
  cases h
def spBegin (K : PySem.W.Frag) : Sp := fun vs H Q _ => ∃ (a : Addr) (ns : List Int), vs = [.ref a] ∧ SqL K H a (ns.map V.int) ∧ ∀ d H', Same H H' → H d = none → Draw H' d → Q (.ref d) H'
def spTake : Sp := fun vs H Q _ => ∃ (d : Addr) (n : Int), vs = [.ref d, .int n] ∧ Draw H d ∧ 1 ≤ n ∧ n.natAbs < 2 ^ 200 ∧ ∀ (m : Int) (H' : Hp), 0 ≤ m → m < n → Draw H' d → But d H H' → Q (.int m) H'
def spOf (K : PySem.W.Frag) : Sp := fun vs H Q _ => ∃ (d a : Addr) (xs : List V), vs = [.ref d, .ref a] ∧ Draw H d ∧ SqL K H a xs ∧ a ≠ d ∧ 0 < xs.length ∧ xs.length ≤ 1000 ∧ ∀ (x : V) (H' : Hp), x ∈ xs → Draw H' d → But d H H' → Q x H'
def primes : List Int := [2, 3, 5, 7, 11, 13, 17, 19, 23, 29, 31, 37, 41, 43, 47, 53, 59, 61, 67, 71, 73, 79, 83, 89, 97]
def spPrimes : Sp := fun vs H Q _ => vs = [] ∧ ∀ (p : Addr) (H' : Hp), Same H H' → H p = none → H' p = some (.lst (primes.map V.int)) → Q (.ref p) H'
def spAnyPrime : Sp := fun vs H Q _ => ∃ (d : Addr), vs = [.ref d] ∧ Draw H d ∧ ∀ (p : Int) (H' : Hp), p ∈ primes → Draw H' d → But d H H' → Q (.int p) H'
theorem big {n : Nat} (h : n ≤ 1000) : n < 2 ^ 200 := Nat.lt_of_le_of_lt h (by decide)
section
variable {P : Program} {w : World} {K : PySem.W.Frag} {mg : Str → Option Value} {base : Heap}
abbrev s_law_begin : Stmt := topS 99
theorem sc_law_begin : FnScope (["_law_script"] : List Str) ["_law_script"] (defScope s_law_begin) := ⟨rfl, rfl, rfl, by decide +kernel, rfl, by decide +kernel, by decide +kernel⟩
theorem ok_begin {f : Addr} {fd : FuncData} (F : FunD K "_law_begin" "_law_begin" (defArgs s_law_begin) (defBody s_law_begin) (defScope s_law_begin) [] [] f fd) (T : Fre mg) : FnOk P w K mg base CX0 1 f fd ["_law_script"] (spBegin K) := by
  refine F.ok sc_law_begin (fun vs H Q E h => ?_) (fun cdv A outer s H vs Q E hr h => ?_)
  · obtain ⟨a, ns, rfl, _⟩ := h
    rfl
  · obtain ⟨a, ns, rfl, hS, k⟩ := h
    refine ⟨_, PSs.nox (pss_one (ps_ret (pe_lst (pa_cons (pe_callTy call_list_of (by rfl) T.f_list (by decide +kernel) (pa_cons (pe_slice sl_list (pv 0) po_none (po_some pe_int)) pa_nil)) (pa_cons pe_int (pa_cons pe_int (pa_cons pe_int pa_nil))))))) , ?_⟩
    refine ⟨_, rfl, 63, rfl, a, _, rfl, hS, fun p hp => ⟨p, _, rfl, .inl (SqL.of upd_same), fun l hl => ⟨(by show 4 ≤ sizeLine; decide), fun d hd => ?_⟩⟩⟩
    obtain ⟨ms, em⟩ := cutV_ints ns none (some 63)
    have h1 : H l = none := by rw [← upd_ne (H := H) (o := .lst (cutV (ns.map V.int) none (some 63))) (ne_of_none' hl upd_same)]; exact hl
    have s1 : Same H (L2.upd H p (.lst (cutV (ns.map V.int) none (some 63)))) := same_upd hp
    have s2 := s1.trans (same_upd (o := .lst (cutV (ns.map V.int) none (some 63))) hl)
    refine k d _ (s2.trans (same_upd hd)) (s2.free hd) ⟨l, ms, 0, 0, 37, upd_same, ?_, by decide, by decide⟩
    rw [upd_ne (ne_of_none upd_same hd), upd_same, em]
abbrev s_law_take : Stmt := topS 100
theorem sc_law_take : FnScope (["_law_draw", "_law_sides", "_law_cell", "_law_got"] : List Str) ["_law_draw", "_law_sides"] (defScope s_law_take) := ⟨rfl, rfl, rfl, by decide +kernel, rfl, by decide +kernel, by decide +kernel⟩
theorem ok_take {f : Addr} {fd : FuncData} (F : FunD K "_law_take" "_law_take" (defArgs s_law_take) (defBody s_law_take) (defScope s_law_take) [] [] f fd) (T : Fre mg) : FnOk P w K mg base CX0 1 f fd ["_law_draw", "_law_sides"] spTake := by
  refine F.ok sc_law_take (fun vs H Q E h => ?_) (fun cdv A outer s H vs Q E hr h => ?_)
  · obtain ⟨d, n, rfl, _⟩ := h
    rfl
  · obtain ⟨d, n, rfl, D, h1, h2, k⟩ := h
    obtain ⟨c, ns, i, r, g, e1, e2, g0, g1⟩ := id D
    have hcd : c ≠ d := D.apart e2
    refine ⟨_, PSs.nox (C8.pss_cut (ps_if (PW.pt (pw_and (pt_cmpR op_lt (pe_ix ix_list (pv 0) pe_int (fun _ _ => rfl)) (pv 1) (nomark _)) (pw_and1 (pt_cmpR op_lt (pe_ix ix_list (pv 0) pe_int (fun _ _ => rfl)) (pe_callB call_len_seq (by rfl) T.f_len PySem.boot_len (pa_cons (pe_ix ix_list (pv 0) pe_int (fun _ _ => rfl)) pa_nil)) (nomark _))))) (pss_cons (ps_set (i := 2) sc_law_take.nd rfl (Or.inl rfl) (pe_ix ix_list (pe_ix ix_list (pv 0) pe_int (fun _ _ => rfl)) (pe_ix ix_list (pv 0) pe_int (fun _ _ => rfl)) (fun _ _ => rfl)))
      (pss_cons (ps_asg (pe_op op_add (pe_ix ix_list (pv 0) pe_int (fun _ _ => rfl)) pe_int) (pg_sub (pv 0) pe_int set_list))
      (pss_cons (ps_asg pe_int (pg_sub (pv 0) pe_int set_list))
      (pss_one (ps_if (pt_cmpR op_ge (pe_callB call_abs (by rfl) T.f_abs (by decide +kernel) (pa_cons (pv 2) pa_nil)) (pe_op op_pow pe_int pe_int) (nomark _)) (pss_one (ps_asg (pe_callB call_abs (by rfl) T.f_abs (by decide +kernel) (pa_cons (pv 2) pa_nil)) (pg_sub (pv 0) pe_int set_list))) (pss_one (ps_asg (pe_op op_modN (pe_op op_add (pe_op op_add (pe_op op_mul (pe_ix ix_list (pv 0) pe_int (fun _ _ => rfl)) pe_int) (pe_op op_mul (pe_op op_modN (pv 2) pe_int) pe_int)) pe_int) pe_int) (pg_sub (pv 0) pe_int set_list)))))))) pss_nil)
      (pss_cons (ps_if (pt_cmpR op_ge (pe_ix ix_list (pv 0) pe_int (fun _ _ => rfl)) (pv 1) (nomark _)) (pss_cons (ps_set (i := 3) sc_law_take.nd rfl (Or.inl rfl) (pe_op op_modN (pe_ix ix_list (pv 0) pe_int (fun _ _ => rfl)) (pv 1)))
      (pss_cons (ps_asg (pe_op op_fdivW (pe_ix ix_list (pv 0) pe_int (fun _ _ => rfl)) (pv 1)) (pg_sub (pv 0) pe_int set_list))
      (pss_one (ps_ret (pv 3))))) pss_nil)
      (pss_cons (ps_asg (pe_op op_modN (pe_op op_add (pe_op op_add (pe_op op_mul (pe_op op_modN (pe_op op_mul (pe_ix ix_list (pv 0) pe_int (fun _ _ => rfl)) (pe_ix ix_list (pv 0) pe_int (fun _ _ => rfl))) pe_int) pe_int) (pe_op op_mul (pe_ix ix_list (pv 0) pe_int (fun _ _ => rfl)) pe_int)) pe_int) pe_int) (pg_sub (pv 0) pe_int set_list))
      (pss_one (ps_ret (pe_op op_modN (pe_op op_add (pe_op op_fdivW (pe_ix ix_list (pv 0) pe_int (fun _ _ => rfl)) pe_int) (pe_op op_mul (pe_op op_modN (pe_ix ix_list (pv 0) pe_int (fun _ _ => rfl)) pe_int) pe_int)) (pv 1))))))) , ?_⟩
    refine ⟨fun σ' H' => ∃ x, σ' = [some (.ref d), some (.int n), x, none] ∧ Draw H' d ∧ But d H H', ?_, ?_⟩
    · have same : ∃ x, L2.start ["_law_draw", "_law_sides", "_law_cell", "_law_got"] [V.ref d, V.int n] = [some (.ref d), some (.int n), x, none] ∧ Draw H d ∧ But d H H := ⟨none, rfl, D, But.refl d H⟩
      refine ⟨_, rfl, d, _, 2, _, rfl, rfl, SqL.of e1, rfl, _, rfl, _, _, rfl, rfl, _, rfl, ?_⟩
      refine ite2 (fun hc => ?_) (fun hc => ?_)
      · refine ⟨_, rfl, d, _, 1, _, rfl, rfl, SqL.of e1, rfl, _, rfl, d, _, 0, _, rfl, rfl, SqL.of e1, rfl, c, _, rfl, .inl (SqL.of e2), _, _, rfl, rfl, _, rfl, ?_⟩
        refine ite2 (fun hi => ?_) (fun hi => ?_)
        · have hi' : i < ns.length := by
            have z := of_decide_eq_true hi
            rw [List.length_map] at z
            omega
          have e1a : ∀ o : HO, L2.upd H d o d = some o := fun o => upd_same
          refine ⟨_, rfl, d, _, 0, _, rfl, rfl, SqL.of e1, rfl, _, rfl, d, _, 1, _, rfl, rfl, SqL.of e1, rfl, c, _, i, .int ns[i], rfl, rfl, SqL.of e2, atI_nat (by simp [hi']), ?_⟩
          refine ⟨_, rfl, d, _, 1, _, rfl, rfl, SqL.of e1, rfl, _, _, rfl, rfl, _, rfl, d, _, 1, 1, rfl, rfl, e1, rfl, ?_⟩
          refine ⟨_, rfl, d, _, 2, 2, rfl, rfl, upd_same, rfl, ?_⟩
          rw [upd_upd]
          refine ⟨_, rfl, _, rfl, _, _, rfl, rfl, ⟨by decide, by decide, by decide⟩, _, _, rfl, rfl, _, rfl, ?_⟩
          have fin : ∀ (r' g' : Int), 0 ≤ g' → g' < 2147483647 → ∃ x, [some (V.ref d), some (V.int n), some (V.int ns[i]), none] = [some (.ref d), some (.int n), x, none] ∧ Draw (L2.upd H d (.lst [.ref c, .int ((i : Int) + 1), .int r', .int g'])) d ∧ But d H (L2.upd H d (.lst [.ref c, .int ((i : Int) + 1), .int r', .int g'])) := fun r' g' a1 a2 =>
            ⟨_, rfl, ⟨c, ns, i + 1, r', g', upd_same, by rw [upd_ne hcd]; exact e2, a1, a2⟩, But.upd⟩
          refine ite2 (fun ha => ?_) (fun ha => ?_)
          · refine ⟨_, rfl, _, rfl, _, rfl, d, _, 2, 2, rfl, rfl, upd_same, rfl, ?_⟩
            rw [upd_upd]
            exact fin _ g g0 g1
          · refine ⟨_, rfl, d, _, 3, _, rfl, rfl, SqL.of upd_same, rfl, _, _, rfl, rfl, .inr ⟨by decide, by decide⟩, _, rfl, _, _, rfl, rfl, (fun z => absurd z (by decide)), _, _, rfl, rfl, .inr ⟨by decide, by decide⟩, _, _, rfl, rfl, _, _, rfl, rfl, _, _, rfl, rfl, (fun z => absurd z (by decide)), _, rfl, d, _, 3, 3, rfl, rfl, upd_same, rfl, ?_⟩
            rw [upd_upd]
            exact fin 0 _ (Int.fmod_nonneg_of_pos _ (by decide)) (Int.fmod_lt_of_pos _ (by decide))
        · exact same
      · exact same
    · rintro σ' H' ⟨x, rfl, ⟨c', ns', i', r', g', f1, f2, b0, b1⟩, hb⟩
      have D' : Draw H' d := ⟨c', ns', i', r', g', f1, f2, b0, b1⟩
      have hcd' : c' ≠ d := D'.apart f2
      have hwd : CDivW r' n := wide_div (b := 200) (by omega) h2 (by decide) (by decide)
      refine ⟨_, rfl, d, _, 2, _, rfl, rfl, SqL.of f1, rfl, _, rfl, _, _, rfl, rfl, _, rfl, ?_⟩
      refine ite2 (fun hc => ?_) (fun hc => ?_)
      · refine ⟨_, rfl, d, _, 2, _, rfl, rfl, SqL.of f1, rfl, _, rfl, _, _, rfl, rfl, (by show n ≠ 0; omega), ?_⟩
        refine ⟨_, rfl, d, _, 2, _, rfl, rfl, SqL.of f1, rfl, _, rfl, _, _, rfl, rfl, hwd, _, rfl, d, _, 2, 2, rfl, rfl, f1, rfl, _, rfl, ?_⟩
        refine k _ _ (Int.fmod_nonneg_of_pos _ (by omega)) (Int.fmod_lt_of_pos _ (by omega)) ⟨c', ns', i', _, g', upd_same, by rw [upd_ne hcd']; exact f2, b0, b1⟩ (hb.trans But.upd)
      · refine ⟨_, rfl, d, _, 3, _, rfl, rfl, SqL.of f1, rfl, _, rfl, d, _, 3, _, rfl, rfl, SqL.of f1, rfl, _, _, rfl, rfl, .inl ⟨by omega, by omega⟩, _, _, rfl, rfl, (fun z => absurd z (by decide)), _, _, rfl, rfl, .inr ⟨by decide, by decide⟩, _, rfl, d, _, 3, _, rfl, rfl, SqL.of f1, rfl, _, _, rfl, rfl, .inr ⟨by decide, by decide⟩, _, _, rfl, rfl, _, _, rfl, rfl, _, _, rfl, rfl, (fun z => absurd z (by decide)), _, rfl, d, _, 3, 3, rfl, rfl, f1, rfl, ?_⟩
        refine ⟨_, rfl, d, _, 3, _, rfl, rfl, SqL.of upd_same, rfl, _, _, rfl, rfl, wide_div (b := 6) (by decide) (by decide) (by decide) (by decide), _, rfl, d, _, 3, _, rfl, rfl, SqL.of upd_same, rfl, _, _, rfl, rfl, (fun z => absurd z (by decide)), _, _, rfl, rfl, .inr ⟨by decide, by decide⟩, _, _, rfl, rfl, _, rfl, _, _, rfl, rfl, (by show n ≠ 0; omega), ?_⟩
        refine k _ _ (Int.fmod_nonneg_of_pos _ (by omega)) (Int.fmod_lt_of_pos _ (by omega)) ⟨c', ns', i', _, _, upd_same, by rw [upd_ne hcd']; exact f2, Int.fmod_nonneg_of_pos _ (by decide), Int.fmod_lt_of_pos _ (by decide)⟩ (hb.trans But.upd)
abbrev s_law_of : Stmt := topS 101
theorem sc_law_of : FnScope (["_law_draw", "_law_row"] : List Str) ["_law_draw", "_law_row"] (defScope s_law_of) := ⟨rfl, rfl, rfl, by decide +kernel, rfl, by decide +kernel, by decide +kernel⟩
theorem ok_of {f : Addr} {fd : FuncData} (F : FunD K "_law_of" "_law_of" (defArgs s_law_of) (defBody s_law_of) (defScope s_law_of) [] [] f fd) (T : Fre mg) (o_law_take : Own P w K mg base CX0 1 "_law_take" ["_law_draw", "_law_sides"] [] spTake) : FnOk P w K mg base CX0 2 f fd ["_law_draw", "_law_row"] (spOf K) := by
  refine F.ok sc_law_of (fun vs H Q E h => ?_) (fun cdv A outer s H vs Q E hr h => ?_)
  · obtain ⟨d, a, xs, rfl, _⟩ := h
    rfl
  · obtain ⟨d, a, xs, rfl, D, hS, had, h1, h2, k⟩ := h
    refine ⟨_, PSs.nox (pss_one (ps_ret (pe_ix ix_list (pv 1) (pe_own o_law_take (hr.mono (by decide)) rfl pass0 (pa_cons (pv 0) (pa_cons (pe_callB call_len_seq (by rfl) T.f_len PySem.boot_len (pa_cons (pv 1) pa_nil)) pa_nil))) (fun _ _ => rfl)))) , ?_⟩
    refine ⟨_, rfl, _, rfl, _, rfl, a, _, rfl, .inl hS, d, _, rfl, D, (by show 1 ≤ ((xs.length : Nat) : Int); omega), (by show ((xs.length : Nat) : Int).natAbs < 2 ^ 200; exact big (by omega)), fun m H' m0 m1 D' B => ?_⟩
    obtain ⟨j, rfl⟩ := Int.eq_ofNat_of_zero_le m0
    have hj : j < xs.length := by omega
    refine ⟨a, xs, j, xs[j], rfl, rfl, B.seq had hS, atI_nat (by simp [hj]), k _ _ (List.getElem_mem hj) D' B⟩
abbrev s_law_primes : Stmt := topS 104
theorem sc_law_primes : FnScope ([] : List Str) [] (defScope s_law_primes) := ⟨rfl, rfl, rfl, by decide +kernel, rfl, by decide +kernel, by decide +kernel⟩
theorem ok_primes {f : Addr} {fd : FuncData} (F : FunD K "_law_primes" "_law_primes" (defArgs s_law_primes) (defBody s_law_primes) (defScope s_law_primes) [] [] f fd) : FnOk P w K mg base CX0 1 f fd [] spPrimes := by
  refine F.ok sc_law_primes (fun vs H Q E h => ?_) (fun cdv A outer s H vs Q E hr h => ?_)
  · obtain ⟨rfl, _⟩ := h
    rfl
  · obtain ⟨rfl, k⟩ := h
    refine ⟨_, PSs.nox (pss_one (ps_ret (pe_lst (pa_cons pe_int (pa_cons pe_int (pa_cons pe_int (pa_cons pe_int (pa_cons pe_int (pa_cons pe_int (pa_cons pe_int (pa_cons pe_int (pa_cons pe_int (pa_cons pe_int (pa_cons pe_int (pa_cons pe_int (pa_cons pe_int (pa_cons pe_int (pa_cons pe_int (pa_cons pe_int (pa_cons pe_int (pa_cons pe_int (pa_cons pe_int (pa_cons pe_int (pa_cons pe_int (pa_cons pe_int (pa_cons pe_int (pa_cons pe_int (pa_cons pe_int pa_nil)))))))))))))))))))))))))))) , ?_⟩
    exact ⟨(by show 25 ≤ sizeLine; decide), fun p hp => k p _ (same_upd hp) hp upd_same⟩
abbrev s_law_any_prime : Stmt := topS 105
theorem sc_law_any_prime : FnScope (["_law_draw"] : List Str) ["_law_draw"] (defScope s_law_any_prime) := ⟨rfl, rfl, rfl, by decide +kernel, rfl, by decide +kernel, by decide +kernel⟩
theorem ok_any_prime {f : Addr} {fd : FuncData} (F : FunD K "_law_any_prime" "_law_any_prime" (defArgs s_law_any_prime) (defBody s_law_any_prime) (defScope s_law_any_prime) [] [] f fd) (o_law_of : Own P w K mg base CX0 2 "_law_of" ["_law_draw", "_law_row"] [] (spOf K)) (o_law_primes : Own P w K mg base CX0 1 "_law_primes" [] [] spPrimes) : FnOk P w K mg base CX0 3 f fd ["_law_draw"] spAnyPrime := by
  refine F.ok sc_law_any_prime (fun vs H Q E h => ?_) (fun cdv A outer s H vs Q E hr h => ?_)
  · obtain ⟨d, rfl, _⟩ := h
    rfl
  · obtain ⟨d, rfl, D, k⟩ := h
    refine ⟨_, PSs.nox (pss_one (ps_ret (pe_own o_law_of (hr.mono (by decide)) rfl pass0 (pa_cons (pv 0) (pa_cons (pe_own o_law_of (hr.mono (by decide)) rfl pass0 (pa_cons (pv 0) (pa_cons (pe_lst (pa_cons (pe_lst (pa_cons pe_int pa_nil)) (pa_cons (pe_lst (pa_cons pe_int (pa_cons pe_int (pa_cons pe_int pa_nil)))) (pa_cons (pe_lst (pa_cons pe_int (pa_cons pe_int pa_nil))) (pa_cons (pe_own0 o_law_primes (hr.mono (by decide)) rfl pass0) pa_nil))))) pa_nil))) pa_nil))))) , ?_⟩
    refine ⟨_, rfl, _, rfl, (by show 1 ≤ sizeLine; decide), fun p1 n1 => ⟨(by show 3 ≤ sizeLine; decide), fun p2 n2 => ⟨(by show 2 ≤ sizeLine; decide), fun p3 n3 => ⟨rfl, fun p4 H4 s4 n4 e4 => ⟨(by show 4 ≤ sizeLine; decide), fun p5 n5 => ?_⟩⟩⟩⟩⟩
    have S1 := same_upd (o := .lst [.int 2]) n1
    have S2 := same_upd (o := .lst [.int 3, .int 5, .int 7]) n2
    have S3 := same_upd (o := .lst [.int 2, .int 97]) n3
    have S5 := same_upd (o := .lst [.ref p1, .ref p2, .ref p3, .ref p4]) n5
    have S := (((S1.trans S2).trans S3).trans s4).trans S5
    have D5 := D.same S
    have q1 : L2.upd H4 p5 (.lst [.ref p1, .ref p2, .ref p3, .ref p4]) p1 = some (.lst ([2].map V.int)) := S5 _ _ (s4 _ _ (S3 _ _ (S2 _ _ upd_same)))
    have q2 : L2.upd H4 p5 (.lst [.ref p1, .ref p2, .ref p3, .ref p4]) p2 = some (.lst ([3, 5, 7].map V.int)) := S5 _ _ (s4 _ _ (S3 _ _ upd_same))
    have q3 : L2.upd H4 p5 (.lst [.ref p1, .ref p2, .ref p3, .ref p4]) p3 = some (.lst ([2, 97].map V.int)) := S5 _ _ (s4 _ _ upd_same)
    have q4 : L2.upd H4 p5 (.lst [.ref p1, .ref p2, .ref p3, .ref p4]) p4 = some (.lst (primes.map V.int)) := S5 _ _ e4
    refine ⟨d, p5, _, rfl, D5, SqL.of upd_same, (D.same (((S1.trans S2).trans S3).trans s4)).ne n5, (by show 0 < 4; decide), (by show 4 ≤ 1000; decide), fun x H6 hx D6 B6 => ?_⟩
    have : ∃ (p : Addr) (ms : List Int), x = .ref p ∧ L2.upd H4 p5 (.lst [.ref p1, .ref p2, .ref p3, .ref p4]) p = some (.lst (ms.map V.int)) ∧ 0 < ms.length ∧ ms.length ≤ 1000 ∧ ∀ m ∈ ms, m ∈ primes := by
      rcases List.mem_cons.mp hx with rfl | hx
      · exact ⟨p1, _, rfl, q1, by decide, by decide, by decide⟩
      rcases List.mem_cons.mp hx with rfl | hx
      · exact ⟨p2, _, rfl, q2, by decide, by decide, by decide⟩
      rcases List.mem_cons.mp hx with rfl | hx
      · exact ⟨p3, _, rfl, q3, by decide, by decide, by decide⟩
      rcases List.mem_cons.mp hx with rfl | hx
      · exact ⟨p4, _, rfl, q4, by decide, by decide, fun m hm => hm⟩
      · cases hx
    obtain ⟨p, ms, rfl, hp, l0, l1, hm⟩ := this
    have hpd : p ≠ d := D5.apart hp
    refine ⟨d, p, _, rfl, D6, SqL.of (B6 _ _ hpd hp), hpd, by rw [List.length_map]; exact l0, by rw [List.length_map]; exact l1, fun y H7 hy D7 B7 => ?_⟩
    obtain ⟨m, hm1, rfl⟩ := List.mem_map.mp hy
    exact k m H7 (hm m hm1) D7 (((But.same S).trans B6).trans B7)
end
end Xk
end
section
set_option Elab.async false
set_option linter.all false
set_option maxRecDepth 100000
set_option maxHeartbeats 4000000
namespace Xk
open PySem PySem.Spec PyProof.Rows L2 Xh LamX
/-! ### two things alike -/
theorem tyT {K : PySem.W.Frag} {H : Hp} {a : Addr} {xs : List V} (h : SqT K H a xs) : TyX K H (.ref a) (.type "tuple") := by
  rcases h with (h | ⟨o, h⟩) | ⟨o, its, n, h, c, _⟩
  · exact .base (.tup h)
  · exact .fTuple h
  · exact .kTuple h c
theorem tyL {K : PySem.W.Frag} {H : Hp} {a : Addr} {xs : List V} (h : SqL K H a xs) : TyX K H (.ref a) (.type "list") := by
  rcases h with (h | ⟨o, h⟩) | ⟨o, its, n, h, c, _⟩
  · exact .base (.lst h)
  · exact .base (.frz h)
  · exact .kList h c
theorem sameT {K : PySem.W.Frag} {H H' : Hp} {a : Addr} {xs : List V} (e : Same H H') (h : SqT K H a xs) : SqT K H' a xs := by
  rcases h with (h | ⟨o, h⟩) | h
  · exact .inl (.inl (e _ _ h))
  · exact .inl (.inr ⟨o, e _ _ h⟩)
  · exact .inr h
def tyF : V → String
  | .non => "NoneType"
  | .bl _ => "bool"
  | .int _ => "int"
  | _ => "str"
theorem flat_ty {K : PySem.W.Frag} {H : Hp} {x : V} (h : flatV x = true) : TyX K H x (.type (tyF x)) := by
  cases x with
  | non => exact .base .non
  | bl b => exact .base (.bl b)
  | int i => exact .base (.int i)
  | str s => exact .base (.str s)
  | _ => cases h
theorem flat_ty4 {x : V} (h : flatV x = true) : tyF x = "NoneType" ∨ tyF x = "bool" ∨ tyF x = "int" ∨ tyF x = "str" := by
  cases x with
  | non => exact .inl rfl
  | bl b => exact .inr (.inl rfl)
  | int i => exact .inr (.inr (.inl rfl))
  | str s => exact .inr (.inr (.inr rfl))
  | _ => cases h
theorem any_lt {K : PySem.W.Frag} : PySem.W.kitAny K (.type "list") [.type "list", .type "tuple"] = some true := kitAny_cons (b := true) (kit_ty (by decide +kernel)) (fun z => by cases z) (fun _ => rfl)
theorem any_tt {K : PySem.W.Frag} : PySem.W.kitAny K (.type "tuple") [.type "list", .type "tuple"] = some true := kitAny_cons (b := false) (kit_ty (by decide +kernel)) (fun _ => kitAny_cons (b := true) (kit_ty (by decide +kernel)) (fun z => by cases z) (fun _ => rfl)) (fun z => by cases z)
theorem any_f {K : PySem.W.Frag} {t : String} (h : t = "NoneType" ∨ t = "bool" ∨ t = "int" ∨ t = "str") : PySem.W.kitAny K (.type t) [.type "list", .type "tuple"] = some false := by
  have two : kitB t "list" = some false ∧ kitB t "tuple" = some false := by
    rcases h with rfl | rfl | rfl | rfl <;> exact ⟨by decide +kernel, by decide +kernel⟩
  exact kitAny_cons (b := false) (kit_ty two.1) (fun _ => kitAny_cons (b := false) (kit_ty two.2) (fun _ => kitAny_nil) (fun z => by cases z)) (fun z => by cases z)
theorem one_f {K : PySem.W.Frag} {t : String} (h : t = "NoneType" ∨ t = "bool" ∨ t = "int" ∨ t = "str") : (∃ b, PySem.W.kitOne K (.type t) (.type "bool") = some b) ∧ (∃ b, PySem.W.kitOne K (.type t) (.type "int") = some b) ∧ ∃ b, PySem.W.kitOne K (.type t) (.type "str") = some b := by
  rcases h with rfl | rfl | rfl | rfl
  · exact ⟨⟨_, kit_ty (r := false) (by decide +kernel)⟩, ⟨_, kit_ty (r := false) (by decide +kernel)⟩, ⟨_, kit_ty (r := false) (by decide +kernel)⟩⟩
  · exact ⟨⟨_, kit_ty (r := true) (by decide +kernel)⟩, ⟨_, kit_ty (r := true) (by decide +kernel)⟩, ⟨_, kit_ty (r := false) (by decide +kernel)⟩⟩
  · exact ⟨⟨_, kit_ty (r := false) (by decide +kernel)⟩, ⟨_, kit_ty (r := true) (by decide +kernel)⟩, ⟨_, kit_ty (r := false) (by decide +kernel)⟩⟩
  · exact ⟨⟨_, kit_ty (r := false) (by decide +kernel)⟩, ⟨_, kit_ty (r := false) (by decide +kernel)⟩, ⟨_, kit_ty (r := true) (by decide +kernel)⟩⟩
theorem walk_zipT {K : PySem.W.Frag} {a b : Addr} {xs ys : List V} (hn : xs.length = ys.length) : Walk (RZ.ItzT K a b) xs.length (fun H => SqT K H a xs ∧ SqT K H b ys) (YPair (fun i => xs[i]?) (fun i => ys[i]?)) :=
  ⟨fun i H hi h => ⟨xs, ys, xs[i], ys[i]'(by omega), h.1, h.2, by simp [hi], by simp [show i < ys.length by omega]⟩, fun H h => ⟨xs, ys, h.1, h.2, .inl (Nat.le_refl _)⟩,
    fun i H x H' hi h y => by
      obtain ⟨T, u, v, e1, e2, e3, q1, q2⟩ := y
      exact ⟨T, u, v, e1, e2, e3, q1 xs h.1, q2 ys h.2⟩⟩
/-- alike, to a depth -/
def SameAt (K : PySem.W.Frag) (H : Hp) : Nat → V → V → Prop
  | 0, v, u => flatV u = true ∧ v = u
  | n + 1, v, u => (flatV u = true ∧ v = u) ∨ ∃ (a b : Addr) (xs ys : List V), v = .ref a ∧ u = .ref b ∧ ((SqL K H a xs ∧ SqL K H b ys) ∨ (SqT K H a xs ∧ SqT K H b ys)) ∧ xs.length = ys.length ∧ xs.length ≤ 1000 ∧ ∀ (i : Nat) (x y : V), xs[i]? = some x → ys[i]? = some y → SameAt K H n x y
theorem SameAt.same {K : PySem.W.Frag} {H H' : Hp} (s : Same H H') : ∀ {n : Nat} {v u : V}, SameAt K H n v u → SameAt K H' n v u
  | 0, _, _, h => h
  | n + 1, _, _, .inl h => .inl h
  | n + 1, _, _, .inr ⟨a, b, xs, ys, e1, e2, h, l, l2, q⟩ => .inr ⟨a, b, xs, ys, e1, e2, h.imp (fun z => ⟨s.seq z.1, s.seq z.2⟩) (fun z => ⟨sameT s z.1, sameT s z.2⟩), l, l2, fun i x y hx hy => (q i x y hx hy).same s⟩
def spS (K : PySem.W.Frag) : Nat → Sp
  | 0 => fun _ _ _ _ => False
  | n + 1 => fun vs H Q _ => ∃ (v u : V), vs = [v, u] ∧ SameAt K H n v u ∧ ∀ H', Same H H' → Q (.bl true) H'
theorem spS_len {K : PySem.W.Frag} : ∀ (n : Nat) (vs : List V) (H : Hp) (Q : VK) (E : XK), spS K n vs H Q E → vs.length = (["_law_found", "_law_due"] : List Str).length
  | 0, _, _, _, _, h => h.elim
  | n + 1, _, _, _, _, ⟨v, u, e, _⟩ => by rw [e]; rfl
section
variable {P : Program} {w : World} {K : PySem.W.Frag} {mg : Str → Option Value} {base : Heap}

end
end Xk
end
section
set_option Elab.async false
set_option linter.all false
set_option maxRecDepth 100000
set_option maxHeartbeats 4000000
namespace Xk
open PySem PySem.Spec PyProof.Rows L2 Xh LamX
/-! ### what is told, what is refused -/
/-- e.f of the exception that the suite holds: any own class that lets its fields be read -/
def tXfA (K : PySem.W.Frag) (a : Addr) (cls : Value) (d : Option Addr) (f : Str) (te : TE) : TE := fun σ H Q => te σ H fun x H1 => x = .ref a ∧ ∃ (C dd : Addr) (fs : List (Str × V)) (v : V), cls = .ref C ∧ XfC K C ∧ PySem.W.findIn K (.ref C) f = some none ∧ d = some dd ∧ H1 dd = some (.xd fs) ∧ fs.lookup f = some v ∧ Q v H1
theorem pe_xfA {X : Cx} {a : Addr} {oe : Obj} {cls : Value} {d : Option Addr} {pn : List (Addr × Obj)} {e : Expr} {te : TE} {pos : Pos} {n : Str}
    (hz : Zc cls d oe) (hf : ∃ vs, oe.data = .fields vs) (he : PE (X.suite a ((a, oe) :: pn)) e te) (hb : attributeBase e n X.env (eval e X.env) = eval e X.env := by rfl) :
    PE (X.suite a ((a, oe) :: pn)) (.Attribute e n pos) (tXfA X.K a cls d n te) := by
  refine ⟨fun pins s σ H Q I h => ?_⟩
  refine attr_of hb (thn (he.run pins s σ H _ I h) fun u s1 hh => ?_)
  obtain ⟨x, H1, I1, rx, ex, C, dd, fs, v, ec, T, hno, ed, ea, l, q⟩ := hh
  subst ex
  obtain rfl : u = Value.ref a := rx
  subst ec
  subst ed
  obtain ⟨ha, _⟩ := I1.pin (a, oe) (List.mem_append_left _ List.mem_cons_self)
  obtain ⟨vs, hd⟩ := hf
  have hx : ObjOk X.prog X.w H1 s1.heap dd (.xd fs) := I1.hok dd _ ea
  obtain ⟨mA, hns, hr⟩ := hx
  obtain ⟨od, ho, hl⟩ := lookIn_ns hns
  obtain ⟨u, hu, ru⟩ := RelO.some_of (v := v) (o := mA n) (by rw [← l]; exact hr n)
  have J : PySem.W.InstAt s1.heap a oe C (some od) := ⟨ha, hz.1, by unfold PySem.W.notCls; rw [hd] <;> rfl, by rw [hz.2]; exact ho⟩
  exact HandSPX.exc_get I1.kIn J T.ga T.gg T.exC (PySem.W.findObj_own T.hdC hno rfl (by rw [hl, hu])) (handed_of ru) ⟨v, H1, I1.tok _, ru, q⟩
/-- the clauses' classes -/
structure Cls8 (mg : Str → Option Value) (c : Fin 14 → Addr) : Prop where
  c0 : mg "NotWhole" = some (.ref (c 0))
  c1 : mg "TooTall" = some (.ref (c 1))
  c2 : mg "BadTable" = some (.ref (c 2))
  c3 : mg "BadText" = some (.ref (c 3))
  c4 : mg "BadPage" = some (.ref (c 4))
  c5 : mg "Stopped" = some (.ref (c 5))
  c6 : mg "Used" = some (.ref (c 6))
  c7 : mg "Held" = some (.ref (c 7))
  c8 : mg "NoGuest" = some (.ref (c 8))
  c9 : mg "NoName" = some (.ref (c 9))
  c10 : mg "RungError" = some (.ref (c 10))
  c11 : mg "RungMissing" = some (.ref (c 11))
def hcs (c : Fin 14 → Addr) : List (List Value) := [[.ref (c 0)], [.ref (c 1)], [.ref (c 2), .ref (c 3)], [.ref (c 4)], [.ref (c 5)], [.ref (c 6), .ref (c 7)], [.ref (c 8), .ref (c 9)], [.ref (c 10), .ref (c 11)]]
/-- the class at C is taken by the j-th clause -/
def Catch (K : PySem.W.Frag) (c : Fin 14 → Addr) (C : Addr) (j : Nat) : Prop := XfC K C ∧ (∀ i < j, ∀ cs, (hcs c)[i]? = some cs → PySem.W.exmAny K (.ref C) cs = some false) ∧ ∀ cs, (hcs c)[j]? = some cs → PySem.W.exmAny K (.ref C) cs = some true
/-- what is wanted of an exception: one without more is told by its word -/
def wWhy (K : PySem.W.Frag) (c : Fin 14 → Addr) (Q : VK) : XK := fun cls d H' => ∃ (C dd : Addr) (fs : List (Str × V)) (nm : Str), cls = .ref C ∧ d = some dd ∧ H' dd = some (.xd fs) ∧ Catch K c C 7 ∧ PySem.W.findIn K (.ref C) "word" = some none ∧ fs.lookup ("word" : Str) = some (V.str nm) ∧ ∀ p, H' p = none → Q (.ref p) (L2.upd H' p (.tup [.str nm, .non]))
def TTwhy (K : PySem.W.Frag) (c : Fin 14 → Addr) : (XK → Hp → VK → Prop) → Hp → VK → Prop := fun tl H Q => tl (wWhy K c Q) H fun v H1 => [V.str "told", v].length ≤ sizeLine ∧ ∀ p, H1 p = none → Q (.ref p) (L2.upd H1 p (.tup [.str "told", v]))
theorem takes_len {X : Cx} {W : WX} (t : Takes X W) : Takes X fun cls d σ H => σ.length = X.N.length → W cls d σ H := fun u s' x => by
  obtain ⟨a, B, sI, pins, σ, H, cls, d, e, I, nb, up, sky, na, os, ag, w⟩ := x
  exact t u s' ⟨a, B, sI, pins, σ, H, cls, d, e, I, nb, up, sky, na, os, ag, w I.len⟩
theorem wskip {K : PySem.W.Frag} {Wout : WX} {D : Ends} {cs : List Value} {n : Option Nat} {ts : Addr → Value → Option Addr → TS} {r : List Cl} {cls : Value} {d : Option Addr} {σ : L2.St} {H : Hp} (h : PySem.W.exmAny K cls cs = some false) (k : wClauses K Wout D r cls d σ H) : wClauses K Wout D ((cs, n, ts) :: r) cls d σ H :=
  ⟨false, h, fun z => absurd z (by decide), fun _ => k⟩
theorem wtake {K : PySem.W.Frag} {Wout : WX} {D : Ends} {cs : List Value} {n : Option Nat} {ts : Addr → Value → Option Addr → TS} {r : List Cl} {cls : Value} {d : Option Addr} {σ : L2.St} {H : Hp} (h : PySem.W.exmAny K cls cs = some true) (k : ∀ a, H a = none → ts a cls d (outOf D n) (intoS σ a n) H) : wClauses K Wout D ((cs, n, ts) :: r) cls d σ H :=
  ⟨true, h, fun _ => k, fun z => absurd z (by decide)⟩
theorem set_at {σ : L2.St} {i : Nat} {x : Option V} (h : i < σ.length) : (σ.set i x)[i]? = some x := by
  rw [List.getElem?_set_self h]
section
variable {P : Program} {w : World} {K : PySem.W.Frag} {mg : Str → Option Value} {base : Heap}
abbrev s_law_why : Stmt := topS 102
theorem sc_law_why : FnScope (["_law_ask", "e"] : List Str) ["_law_ask"] (defScope s_law_why) := ⟨rfl, rfl, rfl, by decide +kernel, rfl, by decide +kernel, by decide +kernel⟩
theorem ok_why {g : Addr} {fd : FuncData} {kl : Nat} {c : Fin 14 → Addr} (F : FunD K "_law_why" "_law_why" (defArgs s_law_why) (defBody s_law_why) (defScope s_law_why) [] [] g fd) (m : mg "_law_why" = some (.ref g)) (M : Cls8 mg c) : Gives P w K mg base (kl + 2) kl "_law_why" g (TTwhy K c) := by
  refine gives_of (Ng := ["_law_ask", "e"]) (a := "_law_ask") F m sc_law_why (fun _ _ _ _ _ _ us hl => match us, hl with | [_], _ => rfl) fun q cdg A outer f c' s H Q tl hr act hfo hfs hc hT => ?_
  refine ⟨_, pss_one (ps_try_cls (Wout := fun _ _ _ _ => False)
      (tb := fun W D σ H => ∃ Ech : XK, (∀ cls d σ' H', Ech cls d H' → σ'.length = 2 → W cls d σ' H') ∧ σ[0]? = some (some (.ref f)) ∧ H c' = some (CodeO c' q) ∧ tl Ech H fun v H1 => [V.str "told", v].length ≤ sizeLine ∧ ∀ p, H1 p = none → D.rt (.ref p) (L2.upd H1 p (.tup [.str "told", v])))
      rfl rfl sc_law_why.nd L2.takes0 (fun W pn xe tk _ => ?body)
      (.as (testName ⟨rfl, by decide, .inl M.c0⟩) (i := 1) rfl rfl (fun a oe cls d pn hz hf => pss_one (ps_ret (pe_tup (pa_cons (pe_xfA hz hf (pv 1)) (pa_cons (pe_xfA hz hf (pv 1)) pa_nil)))))
      (.as (testName ⟨rfl, by decide, .inl M.c1⟩) (i := 1) rfl rfl (fun a oe cls d pn hz hf => pss_one (ps_ret (pe_tup (pa_cons (pe_xfA hz hf (pv 1)) (pa_cons (pe_xfA hz hf (pv 1)) pa_nil)))))
      (.as (testTup2 rfl M.c2 rfl M.c3) (i := 1) rfl rfl (fun a oe cls d pn hz hf => pss_one (ps_ret (pe_tup (pa_cons (pe_xfA hz hf (pv 1)) (pa_cons (pe_xfA hz hf (pv 1)) pa_nil)))))
      (.as (testName ⟨rfl, by decide, .inl M.c4⟩) (i := 1) rfl rfl (fun a oe cls d pn hz hf => pss_one (ps_ret (pe_tup (pa_cons (pe_xfA hz hf (pv 1)) (pa_cons (pe_xfA hz hf (pv 1)) pa_nil)))))
      (.as (testName ⟨rfl, by decide, .inl M.c5⟩) (i := 1) rfl rfl (fun a oe cls d pn hz hf => pss_one (ps_ret (pe_tup (pa_cons (pe_xfA hz hf (pv 1)) (pa_cons (pe_tup (pa_cons (pe_xfA hz hf (pv 1)) (pa_cons (pe_xfA hz hf (pv 1)) pa_nil))) pa_nil)))))
      (.as (testTup2 rfl M.c6 rfl M.c7) (i := 1) rfl rfl (fun a oe cls d pn hz hf => pss_one (ps_ret (pe_tup (pa_cons (pe_xfA hz hf (pv 1)) (pa_cons (pe_xfA hz hf (pv 1)) pa_nil)))))
      (.as (testTup2 rfl M.c8 rfl M.c9) (i := 1) rfl rfl (fun a oe cls d pn hz hf => pss_one (ps_ret (pe_tup (pa_cons (pe_xfA hz hf (pv 1)) (pa_cons (pe_xfA hz hf (pv 1)) pa_nil)))))
      (.as (testTup2 rfl M.c10 rfl M.c11) (i := 1) rfl rfl (fun a oe cls d pn hz hf => pss_one (ps_ret (pe_tup (pa_cons (pe_xfA hz hf (pv 1)) (pa_cons pe_non pa_nil)))))
      .nil))))))))), ?_⟩
  case body =>
    refine ⟨fun pins s' σ H' D I h' => ?_⟩
    obtain ⟨Ech, hW, h1, h2, h3⟩ := h'
    have hp := fun p1 p2 => act (frs outer) CX0 ["_law_ask", "e"] "_law_why" (defScope s_law_why) g cdg A outer s H E0 Un.refl hfo (fun _ hb => hb) hr 0 "_law_ask" _ pn xe Ech p1 p2 rfl (Or.inl rfl) (by decide) (by decide) (takes_len tk) hW
    exact (pss_one (ps_ret (pe_tup (pa_cons pe_str (pa_cons (hp _ _) pa_nil))))).run pins s' σ H' D I ⟨h1, h2, h3⟩
  · refine ⟨wWhy K c Q, fun cls d σ' H' h hlen => ?_, rfl, hc, hT⟩
    obtain ⟨C, dd, fs, nm, rfl, rfl, hx, ⟨T, hf, ht⟩, hw, hl, k⟩ := h
    refine wskip (hf 0 (by decide) _ rfl) (wskip (hf 1 (by decide) _ rfl) (wskip (hf 2 (by decide) _ rfl) (wskip (hf 3 (by decide) _ rfl) (wskip (hf 4 (by decide) _ rfl) (wskip (hf 5 (by decide) _ rfl) (wskip (hf 6 (by decide) _ rfl) (wtake (ht _ rfl) fun a ha => ?_)))))))
    exact ⟨.ref a, set_at (by omega), rfl, C, dd, fs, .str nm, rfl, T, hw, rfl, hx, hl, (by show 2 ≤ sizeLine; decide), fun p hp => k p hp⟩
/-- the word alone -/
def TTword (K : PySem.W.Frag) (c : Fin 14 → Addr) : (XK → Hp → VK → Prop) → Hp → VK → Prop := fun tl H Q => TTwhy K c tl H fun x H1 => rIxT K x (.int 0) H1 Q
abbrev s_law_word : Stmt := topS 103
theorem sc_law_word : FnScope (["_law_ask"] : List Str) ["_law_ask"] (defScope s_law_word) := ⟨rfl, rfl, rfl, by decide +kernel, rfl, by decide +kernel, by decide +kernel⟩
theorem ok_word {g gy : Addr} {fd : FuncData} {kl : Nat} {c : Fin 14 → Addr} (F : FunD K "_law_word" "_law_word" (defArgs s_law_word) (defBody s_law_word) (defScope s_law_word) [] [] g fd) (m : mg "_law_word" = some (.ref g)) (G : Gives P w K mg base (kl + 2) kl "_law_why" gy (TTwhy K c)) : Gives P w K mg base (kl + 3) kl "_law_word" g (TTword K c) := by
  refine gives_of (Ng := ["_law_ask"]) (a := "_law_ask") F m sc_law_word (fun _ _ _ _ _ _ us hl => match us, hl with | [_], _ => rfl) fun q cdg A outer f c' s H Q tl hr act hfo hfs hc hT => ?_
  exact ⟨_, pss_one (ps_ret (pe_ix ix_tup (pe_passOn (i := 0) G act hfo hfs hr rfl rfl (Or.inl rfl)) pe_int (fun _ _ => rfl))), rfl, hc, hT⟩
end
end Xk
end
section
set_option Elab.async false
set_option linter.all false
set_option maxRecDepth 100000
set_option maxHeartbeats 2000000
/-! a lambda as a thing that is handed about: with parameters, kept, called in another def -/
namespace Xh
open PySem PySem.Spec PyProof.Rows L2 LamX NdefX
/-- at f stands the lambda of the words F and the body b -/
def LamO (f : Addr) (F : NF) (b : Expr) : HO := .ext fun h => ∃ pm ctv : Value, h.get? f = some (PySem.W.kla_obj "<lambda>" F.qual F.params b F.scope F.cl pm F.c ctv)
theorem lamO_ne {f : Addr} {F : NF} {b : Expr} (ps : Array Value) : LamO f F b ≠ .tbl ps := fun z => by
  unfold LamO at z
  cases z
theorem lamO_at {P : Program} {w : World} {H : Hp} {h : Heap} {f : Addr} {F : NF} {b : Expr} (hok : HOk P w H h) (e : H f = some (LamO f F b)) : ∃ pm ctv : Value, h.get? f = some (PySem.W.kla_obj "<lambda>" F.qual F.params b F.scope F.cl pm F.c ctv) := (hok f _ e).1
/-- all but the tables stays, nothing tracked is lost, the tables are tables -/
structure Gr (T : List (Addr × Str)) (H H' : Hp) : Prop where
  x : ExtN H H'
  n : ∀ b, H' b = none → H b = none
  t : Tabs T H'
section
variable {T : List (Addr × Str)} {H H1 H2 : Hp}
theorem Gr.refl (t : Tabs T H) : Gr T H H := ⟨ExtN.refl H, fun _ e => e, t⟩
theorem Gr.trans (a : Gr T H H1) (b : Gr T H1 H2) : Gr T H H2 := ⟨a.x.trans b.x, fun c e => a.n c (b.n c e), b.t⟩
theorem Gr.of (t : Tabs T H) (s : Same H H1) : Gr T H H1 := ⟨ExtN.of s, fun b e => s.free e, t.ext s⟩
theorem Gr.same (a : Gr T H H1) (s : Same H1 H2) : Gr T H H2 := a.trans (.of a.t s)
end
section
variable {X : Cx} {pins : List (Addr × Obj)} {σ : L2.St} {H : Hp} {s : Shared}
theorem inv_lamO {F : NF} {b : Expr} {pm ctv : Value} {t' : Nat} (I : Inv X pins σ H s) :
    Inv X pins σ (upd H s.heap.objs.size (LamO s.heap.objs.size F b)) { s with heap := s.heap.push (PySem.W.kla_obj "<lambda>" F.qual F.params b F.scope F.cl pm F.c ctv), toks := t' } := by
  have e : (s.heap.push (PySem.W.kla_obj "<lambda>" F.qual F.params b F.scope F.cl pm F.c ctv)).get? s.heap.objs.size = some (PySem.W.kla_obj "<lambda>" F.qual F.params b F.scope F.cl pm F.c ctv) := Heap.get?_push_size _ rfl
  exact I.laid (fun c u q => Heap.get?_push_of_some _ q) (Nat.le_refl _) ⟨⟨pm, ctv, e⟩, ⟨_, e⟩, fun g1 g2 ⟨u, v, z⟩ st => ⟨u, v, st _ z⟩⟩
/-- the lambda's words, by the maker's context -/
def lamF (X : Cx) (params : Arguments) (scope : Scope) (c' : Addr) : NF := ⟨"<lambda>", X.env.qual ++ "<lambda>", params, [], scope, cloFrom X.env.cells scope.names [], c'⟩
theorem lamV_make {T : List (Addr × Str)} {c P : Addr} {params : Arguments} {body : Expr} {scope : Scope} {pos : Pos} {E : Value → Shared → Prop} {Q : Value → Shared → Prop} (I : Inv X pins σ H s) (TB : TabB X.base X.mg c P) (hcode : X.env.code = .ref c)
    (hm : (P, X.env.qual ++ "<lambda>") ∈ T) (hu : ∀ p ∈ T, p.1 = P → p.2 = X.env.qual ++ "<lambda>") (hT : Tabs T H) (hdef : defaultsOf params X.env = ([], [])) (hfree : ∀ y ∈ scope.names, y.2 = .free → ∃ c, X.env.cells.lookup y.1 = some c)
    (fin : ∀ (f c' : Addr) (H1 : Hp) (s' : Shared), Inv X pins σ H1 s' → Gr T H H1 → H f = none → H1 f = some (LamO f (lamF X params scope c') body) → H1 c' = some (CodeO c' (X.env.qual ++ "<lambda>")) → f ∉ frs X.stack → Q (.ref f) s') :
    wpAny (model X.prog X.w) X.A (eval (.Lambda params body scope pos) X.env) Q E s := by
  obtain ⟨tb, onP, good, known⟩ := hT _ hm
  have inHeap : s.heap.get? P = some { cls := .none, data := .fields tb } := I.hok P _ onP
  have bt : s.heap.BuiltinsAt X.mg P := TB.bm.keeps I.bk
  have off : ∀ f, s.heap.objs.size ≤ f → f ∉ frs X.stack := fun f le z => by
    rcases List.mem_cons.mp (I.stkSub _ z) with e | e
    · exact absurd I.lt (by rw [← e]; exact Nat.not_lt_of_le le)
    · exact I.nofs le e
  refine PySem.W.kla_eval hdef ?_
  cases look : codeAmong pos tb.toList with
  | some cv =>
    obtain ⟨c', rfl, co⟩ := known pos cv look
    refine PySem.W.kla_makeFunctionHit (mg := X.mg) (c := c) (P := P) (ps := tb) (closure_ok hfree) I.ok.glob (I.mod.glob.keeps I.bk) hcode (TB.code.keeps I.bk) inHeap good look bt fun ctv g tk up le => ?_
    have J : Inv X pins σ H { s with heap := g, toks := tk } := I.kept up
    have nw : H g.objs.size = none := J.hok.fresh (Nat.le_refl _)
    have sm : Same H (upd H g.objs.size (LamO g.objs.size (lamF X params scope c') body)) := fun b u e => by rw [upd_ne (ne_of_none e nw)]; exact e
    exact fin g.objs.size c' _ _ (inv_lamO (F := lamF X params scope c') (b := body) (pm := (X.mg "__name__").getD .none) (ctv := ctv) (t' := tk) J) (.of hT sm) nw upd_same (sm _ _ co) (off _ le)
  | none =>
    refine PySem.W.kla_makeFunction (mg := X.mg) (c := c) (P := P) (ps := tb) (closure_ok hfree) I.ok.glob (I.mod.glob.keeps I.bk) hcode (TB.code.keeps I.bk) inHeap good look TB.gP bt fun c' ctv g tk but le lt rec tab => ?_
    obtain ⟨c2, oc, vs, t, e2, g1, g2, g3⟩ := rec
    cases e2
    have nC : H c' = none := I.hok.fresh le
    have J := inv_table (t' := tk) (more := #[rawInt pos.line, rawInt pos.col, .ref c']) (h' := g) I onP (fun b o hb e => but b o hb e) tab le ⟨oc, vs, t, g1, g2, g3⟩
    have ex : ExtN H (upd (upd H P (.tbl (tb ++ #[rawInt pos.line, rawInt pos.col, .ref c']))) c' (CodeO c' (X.env.qual ++ "<lambda>"))) := fun b o e no => by
      have b1 : b ≠ P := fun z => by
        rw [z, onP] at e
        exact no tb (Option.some.inj e).symm
      rw [upd_ne (ne_of_none e nC), upd_ne b1]
      exact e
    have nn : ∀ b, upd (upd H P (.tbl (tb ++ #[rawInt pos.line, rawInt pos.col, .ref c']))) c' (CodeO c' (X.env.qual ++ "<lambda>")) b = none → H b = none := fun b e => upd_none (upd_none e)
    have lst : (tb ++ #[rawInt pos.line, rawInt pos.col, .ref c']).toList = tb.toList ++ [rawInt pos.line, rawInt pos.col, .ref c'] := by simp
    have tabs : Tabs T (upd (upd H P (.tbl (tb ++ #[rawInt pos.line, rawInt pos.col, .ref c']))) c' (CodeO c' (X.env.qual ++ "<lambda>"))) := fun p hp => by
      by_cases same : p.1 = P
      · refine ⟨_, by rw [same, upd_ne (ne_of_none onP nC), upd_same], by rw [lst]; exact PySem.TriplesOk_snoc _ _ _ _ good, fun p' cv q => ?_⟩
        rw [lst] at q
        rw [hu p hp same]
        rcases among_app _ good q with z | z
        · obtain ⟨c0, a1, a2⟩ := known p' cv z
          exact ⟨c0, a1, ex _ _ a2 codeO_ne⟩
        · exact ⟨c', z, upd_same⟩
      · obtain ⟨tb2, a1, a2, a3⟩ := hT p hp
        refine ⟨tb2, by rw [upd_ne (ne_of_none a1 nC), upd_ne same]; exact a1, a2, fun p' cv q => ?_⟩
        obtain ⟨c0, d1, d2⟩ := a3 p' cv q
        exact ⟨c0, d1, ex _ _ d2 codeO_ne⟩
    have nw := J.hok.fresh (Nat.le_refl g.objs.size)
    have sm := fun (o : HO) => (show Same _ (upd _ g.objs.size o) from fun b u e => by rw [upd_ne (ne_of_none e nw)]; exact e)
    exact fin g.objs.size c' _ _ (inv_lamO (F := lamF X params scope c') (b := body) (pm := (X.mg "__name__").getD .none) (ctv := ctv) (t' := tk) J) ((Gr.mk ex nn tabs).same (sm _)) (nn _ nw) upd_same (sm _ _ _ upd_same) (off _ (Nat.le_trans le (Nat.le_of_lt lt)))
end
/-- the lambda as a value -/
def tLamV (X : Cx) (T : List (Addr × Str)) (params : Arguments) (scope : Scope) (body : Expr) : TE := fun _ H Q => Tabs T H ∧ ∀ (f c' : Addr) (H1 : Hp), Gr T H H1 → H f = none → H1 f = some (LamO f (lamF X params scope c') body) → H1 c' = some (CodeO c' (X.env.qual ++ "<lambda>")) → f ∉ frs X.stack → Q (.ref f) H1
theorem pe_lamV {X : Cx} {T : List (Addr × Str)} {c P : Addr} {params : Arguments} {body : Expr} {scope : Scope} {pos : Pos} (TB : TabB X.base X.mg c P) (hcode : X.env.code = .ref c) (hm : (P, X.env.qual ++ "<lambda>") ∈ T) (hu : ∀ p ∈ T, p.1 = P → p.2 = X.env.qual ++ "<lambda>")
    (hdef : defaultsOf params X.env = ([], [])) (hfree : ∀ y ∈ scope.names, y.2 = .free → X.env.scope.names.lookup y.1 = some .cell ∨ X.env.scope.names.lookup y.1 = some .free) : PE X (.Lambda params body scope pos) (tLamV X T params scope body) := by
  refine ⟨fun pins s σ H Q I h => ?_⟩
  obtain ⟨hT, h⟩ := h
  have hfr : ∀ y ∈ scope.names, y.2 = .free → ∃ c, X.env.cells.lookup y.1 = some c := fun y hy e => (hfree y hy e).elim (fun z => I.ok.has _ (.inl z)) fun z => I.ok.has _ (.inr z)
  exact lamV_make I TB hcode hm hu hT hdef hfr fun f c' H1 s' J g n e1 e2 e3 => ⟨.ref f, H1, J, rfl, h f c' H1 g n e1 e2 e3⟩
/-! ### its promise -/
structure NOkL (P : Program) (w : World) (K : PySem.W.Frag) (mg : Str → Option Value) (base : Heap) (CX : CXT) (k : Nat) (f : Addr) (F : NF) (b : Expr) (ps fr : List Str) (sp : List (Option V) → Sp) : Prop where
  run : ∀ (A : Around) (outer : List Env) (s : Shared) (H : Hp) (us : List Value) (vs : List V) (ws : List (Option V)) (Q : VK) (E : XK), Room k A → Env0 P w K mg base A outer s H → H f = some (LamO f F b) → H F.c = some (CodeO F.c F.qual) →
    CellsAt F.cl fr ws s.heap H → Vals vs us → sp ws vs H Q E → codeAny (model P w) A (.call (.ref f) ⟨us, []⟩) (CR CX outer P w H s Q E) s
section
variable {CX : CXT} {P : Program} {w : World} {K : PySem.W.Frag} {mg : Str → Option Value} {base : Heap} {N ps fr : List Str} {F : NF} {b : Expr} {f : Addr} {k : Nat} {sp : List (Option V) → Sp}
theorem nokL_of (S : NScope N ps fr F.scope) (hb : ∀ (pm ctv : Value) (us : List Value), us.length = ps.length → bindArgs (PySem.W.kla_fn "<lambda>" F.qual F.params b F.scope F.cl pm (.ref F.c) ctv) ⟨us, []⟩ = pure (ps.zip us)) (len : ∀ ws vs H Q E, sp ws vs H Q E → vs.length = ps.length)
    (hbody : ∀ (A : Around) (outer : List Env) (s : Shared) (H : Hp) (vs : List V) (ws : List (Option V)) (Q : VK) (E : XK), Room k (A.deeper (envF F f s.heap.objs.size)) → ws.length = fr.length → sp ws vs H Q E →
      ∃ t, PE (ncx CX P w K mg base N F f A outer s H E) b t ∧ t (startF N vs ws) H Q) : NOkL P w K mg base CX (k + 1) f F b ps fr sp := by
  refine ⟨fun A outer s H us vs ws Q E room e0 hf hc C r hsp => ?_⟩
  have many := len _ _ _ _ _ hsp
  obtain ⟨pm, ctv, onF⟩ := lamO_at e0.hok hf
  have lim : s.heap.NoLimit := e0.mod.nolimit.keeps fun c o e => (e0.bs c o e).1
  refine PySem.W.kla_callFunE room.depth onF rfl S.co S.gen rfl (codeO_at e0.hok hc) ?_
  rw [hb pm ctv us (by rw [← r.length]; exact many)]
  refine wpAny_pure (wpAny_newFunctionEnv S.nocell (fun ⟨n, _⟩ hy => S.par n (List.of_mem_zip hy).1) (fun h₁ hns hsb => ⟨lim.fresh _ hsb, ?_⟩) S.kind)
  show codeAny _ _ (.expr b (envF F f s.heap.objs.size)) _ _
  have up : ∀ c o, s.heap.get? c = some o → h₁.get? c = some o := fun c o e => hsb.extBut c o (Nat.ne_of_lt (Heap.lt_size e)) (Heap.get?_push_of_some _ e)
  obtain ⟨t, ht, q⟩ := hbody A outer s H vs ws Q E (room.deeper _) C.len hsp
  have I : Inv (ncx CX P w K mg base N F f A outer s H E) [] (startF N vs ws) H { s with heap := h₁, toks := s.toks + (ps.zip us).length } := inv_startN S room.hd e0 many r C hns up
  refine PySem.W.kla_codeExpr (wpAny_mono (ht.run [] _ _ H Q I q) (fun u s' z => ?_) fun e s' z => z)
  obtain ⟨v, H', J, rv, y⟩ := z
  exact ⟨v, H', J.os, J.bare, J.base, J.hok, rv, y⟩
/-- the cells hold what they held -/
theorem cells_on {cl : List (Str × Addr)} {ws : List (Option V)} {fs : List Addr} {H H1 : Hp} {h h1 : Heap} (C : CellsAt cl fr ws h H) (un : Un fs [] H H1 h h1) : CellsAt cl fr ws h1 H1 := by
  have kp : ∀ y c, cl.lookup y = some c → ∀ v, h.IsCell c v → h1.IsCell c v := fun y c e v ⟨o, a1, a2⟩ => by
    obtain ⟨sl, q⟩ := un.any a1 (C.all y c e).1 (fun z => nomatch z)
    exact ⟨_, q, a2⟩
  refine ⟨C.len, fun y c e => ?_, C.inj, fun i y e => ?_⟩
  · obtain ⟨no, v, z⟩ := C.all y c e
    obtain ⟨o, ho, _⟩ := id z
    exact ⟨un.free c o ho no (fun z => nomatch z), v, kp y c e v z⟩
  · obtain ⟨c, a1, a2⟩ := C.has i y e
    refine ⟨c, a1, fun v ev => ?_⟩
    obtain ⟨u, r, z⟩ := a2 v ev
    exact ⟨u, r, kp y c a1 _ z⟩
end
/-- what is known of the thing at f, and of what it does with what its cells hold -/
def spGot (f : Addr) (F : NF) (b : Expr) (ws : List (Option V)) (sp : List (Option V) → Sp) : Sp := fun vs H Q E => H f = some (LamO f F b) ∧ H F.c = some (CodeO F.c F.qual) ∧ sp ws vs H Q E
section
variable {X : Cx} {CX : CXT} {F : NF} {b : Expr} {ps fr : List Str} {ws : List (Option V)} {i j k : Nat} {f : Addr} {x : Str} {sp : List (Option V) → Sp} {E : XK} {t : TA} {e : Expr} {es : List Expr} {p pos : Pos}
/-- x(..), x a name that holds a lambda of another frame -/
theorem pe_callP (Fn : NOkL X.prog X.w X.K X.mg X.base CX k f F b ps fr sp) (C : CellsAt F.cl fr ws X.s_0.heap X.H_0) (hex : X.ex = []) (hr : Room j X.A) (hk : k ≤ j) (hx : Passes CX X E) (hN : X.N[i]? = some x) (hv : Vis X.env.scope x) (ha : PA X (e :: es) t)
    (hd : (x == ("__debug__" : Str)) = false := by decide) (hcd : (x == ("__classdict__" : Str)) = false := by decide)
    (he : starEach (e :: es) X.env = (false, eval e X.env) :: starEach es X.env := by rfl) (hpl : (backTo pos (starEach es X.env)).any (·.1) = false := by rfl) :
    PE X (.Call (.Name x p) (e :: es) [] pos) (fun σ H Q => σ[i]? = some (some (.ref f)) ∧ H f = some (LamO f F b) ∧ t σ H fun vs H1 => spGot f F b ws sp vs H1 Q E) := by
  refine ⟨fun pins s σ H Q I h => ?_⟩
  obtain ⟨hs, hf, ht⟩ := h
  have at_ : ∀ {H : Hp} {s : Shared}, Inv X pins σ H s → H f = some (LamO f F b) → PySem.W.FnAt f s.heap := fun J e => by
    obtain ⟨pm, ctv, o⟩ := lamO_at J.hok e
    exact ⟨_, _, _, _, o⟩
  refine wpAny_Call_Name_kw (thn ((pe_var (pos := p) hN hv hd hcd).run pins s σ H (fun v H1 => v = .ref f ∧ H1 = H) I ⟨.ref f, hs, rfl, rfl⟩) fun u s1 ⟨v, H1, I1, r1, q1⟩ => ?_)
  obtain ⟨ev, eH⟩ := q1
  subst ev
  rw [eH] at I1
  obtain rfl : u = Value.ref f := r1
  refine PySem.W.callWith_F (first := []) (at_ I1 hf) (thn (ha.run pos pins s1 σ H _ I1 ht) fun us s2 ⟨vs, H2, I2, r, h1, h2, q⟩ => ⟨at_ I2 h1, ?_⟩) he hpl
  show wpAny _ _ (call (.ref f) us) _ _ _
  have un := I2.base
  rw [hex] at un
  refine wpAny_call (codeAny_mono (Fn.run X.A X.stack s2 H2 us vs _ Q E (hr.mono hk) I2.env0 h1 h2 (cells_on C un) r q) fun r s' hq => ?_)
  cases r with
  | error e => exact hx pins σ H2 s2 e s' I2 hq
  | ok fl =>
    cases fl with
    | ret u => exact I2.after hq
    | next => exact False.elim hq
    | brk => exact False.elim hq
    | cont => exact False.elim hq
end
/-! ### a def that gets a lambda to call -/
structure GivesV (P : Program) (w : World) (K : PySem.W.Frag) (mg : Str → Option Value) (base : Heap) (k kl : Nat) (x : Str) (g : Addr) (TT : Addr → Sp → Sp) : Prop where
  m : mg x = some (.ref g)
  kp : PySem.W.keepIn K (.ref g) = true
  run : ∀ (A : Around) (outer : List Env) (f : Addr) (F : NF) (b : Expr) (lps fr : List Str) (ws : List (Option V)) (spl : List (Option V) → Sp) (s : Shared) (H : Hp) (us : List Value) (vs : List V) (Q : VK), Room k A → Env0 P w K mg base A outer s H → NOkL P w K mg base CX0 kl f F b lps fr spl → CellsAt F.cl fr ws s.heap H → H f = some (LamO f F b) → Vals vs us → TT f (spGot f F b ws spl) vs H Q E0 →
    codeAny (model P w) A (.call (.ref g) ⟨us, []⟩) (CR CX0 outer P w H s Q E0) s
theorem givesV_of {P : Program} {w : World} {K : PySem.W.Frag} {mg : Str → Option Value} {base : Heap} {k kl : Nat} {x : Str} {g : Addr} {fd : FuncData} {pg : Arguments} {bg : List Stmt} {sg : Scope} {Ng ps : List Str} {TT : Addr → Sp → Sp}
    (F : FunD K x x pg bg sg [] [] g fd) (hm : mg x = some (.ref g)) (Sg : FnScope Ng ps sg)
    (hb : ∀ (kV doc pm : Value) (an : Option Addr) (cdv ct : Value) (us : List Value), us.length = ps.length → bindArgs (PySem.W.fnOf x x pg bg sg .none kV doc pm an cdv ct) ⟨us, []⟩ = pure (ps.zip us))
    (len : ∀ f c vs H Q E, TT f c vs H Q E → vs.length = ps.length)
    (hG : ∀ (cdg : Value) (A : Around) (outer : List Env) (f : Addr) (F : NF) (b : Expr) (lps fr : List Str) (ws : List (Option V)) (spl : List (Option V) → Sp) (s : Shared) (H : Hp) (vs : List V) (Q : VK), Room k (A.deeper (envOfC x sg s.heap.objs.size g cdg)) → NOkL P w K mg base CX0 kl f F b lps fr spl → CellsAt F.cl fr ws s.heap H → H f = some (LamO f F b) → TT f (spGot f F b ws spl) vs H Q E0 →
      ∃ t, PSs (cxOf CX0 P w K mg base Ng x sg g cdg A outer s H E0).nox bg t ∧ t { nx := fun _ H' => Q .non H', rt := Q } (L2.start Ng vs) H) : GivesV P w K mg base (k + 1) kl x g TT := by
  have bd := FunD.bindsN F hb
  refine ⟨hm, F.kp, fun A outer f FF b lps fr ws spl s H us vs Q room e0 Fn C hf r hT => ?_⟩
  have many := len _ _ _ _ _ _ hT
  obtain ⟨oc, od, dV, kV, doc, pm, an, cdv, ct, osl, rfl, lk, hcd, _, _⟩ := F.ex
  refine run_ofS (N := Ng) (ps := ps) (us := us) (vs := vs) lk hcd Sg room e0 (by
      have z := bd s us (e0.mod.kin.keeps fun c o e => (e0.bs c o e).1) (by rw [List.append_nil, ← r.length]; exact many)
      rw [List.append_nil] at z
      exact z) r many fun room' => ?_
  obtain ⟨t, h1, h2⟩ := hG cdv A outer f FF b lps fr ws spl s H vs Q room' Fn C hf hT
  exact ⟨t, h1.nox, h2⟩
/-- g(lambda, ..): the call -/
def tGiveV (mk : Addr → NF) (b : Expr) (js : List Nat) (TT : Addr → Sp → Sp) (sp : List (Option V) → Sp) (t : TA) : TE := fun σ H Q => t σ H fun vs H1 => ∃ f c', H1 f = some (LamO f (mk c') b) ∧ TT f (spGot f (mk c') b (js.map (slotAt σ)) sp) vs H1 Q E0
theorem pe_giveV {X : Cx} {k kl : Nat} {g : Addr} {TT : Addr → Sp → Sp} {mk : Addr → NF} {cl : List (Str × Addr)} {lps fr : List Str} {js : List Nat} {x : Str} {sp : List (Option V) → Sp} {t : TA} {b e : Expr} {es : List Expr} {p pos : Pos}
    (G : GivesV X.prog X.w X.K X.mg X.base k kl x g TT) (Fn : ∀ f c', NOkL X.prog X.w X.K X.mg X.base CX0 kl f (mk c') b lps fr sp) (hcl : ∀ c', (mk c').cl = cl) (cp : X.Ok → Caps X cl fr js) (hr : Room k X.A) (hg : Gl X x) (ha : PA X (e :: es) t)
    (hdb : (x == ("__debug__" : Str)) = false := by decide) (he : starEach (e :: es) X.env = (false, eval e X.env) :: starEach es X.env := by rfl) (hpl : (backTo pos (starEach es X.env)).any (·.1) = false := by rfl) :
    PE X (.Call (.Name x p) (e :: es) [] pos) (tGiveV mk b js TT sp t) := by
  refine ⟨fun pins s σ H Q I h => ?_⟩
  refine wpAny_Call_Name_kw (ld_glob I hg G.m ?_ hdb)
  refine PySem.W.callWith_K (h₀ := X.base) I.ok.mod.kin G.kp (thn (ha.run pos pins s σ H _ I h) fun us s2 ⟨vs, H2, I2, r, q2⟩ => ⟨I2.kIn, ?_⟩) he hpl
  obtain ⟨f, c', h1, hT⟩ := q2
  have C : CellsAt (mk c').cl fr (js.map (slotAt σ)) s2.heap H2 := by
    rw [hcl c']
    exact cells_of I2 (cp I2.ok)
  show wpAny _ _ (call (.ref g) us) _ _ _
  refine wpAny_call (codeAny_mono (G.run X.A X.stack f (mk c') b lps fr _ sp s2 H2 us vs Q hr I2.env0 (Fn f c') C h1 r hT) fun r s3 hq => ?_)
  cases r with
  | error e => exact (show False from hq).elim
  | ok fl =>
    cases fl with
    | ret u => exact I2.after hq
    | next => exact False.elim hq
    | brk => exact False.elim hq
    | cont => exact False.elim hq
/-- a def whose own code object is known -/
theorem FunD_okC {P : Program} {w : World} {K : PySem.W.Frag} {mg : Str → Option Value} {base : Heap} {x qual : Str} {params : Arguments} {body : List Stmt} {scope : Scope} {dvs : List V} {kws : List (Str × V)} {f c : Addr} {fd : FuncData} {CX : CXT} {N ps : List Str} {k : Nat} {sp : Sp} (F : FunD K x qual params body scope dvs kws f fd) (hc : fd.code = .ref c) (S : FnScope N ps scope) (len : ∀ vs H Q E, sp vs H Q E → vs.length = ps.length)
    (hbody : ∀ (A : Around) (outer : List Env) (s : Shared) (H : Hp) (vs : List V) (Q : VK) (E : XK), Room k (A.deeper (envOfC qual scope s.heap.objs.size f (.ref c))) → sp vs H Q E →
      ∃ t, PSs (cxOf CX P w K mg base N qual scope f (.ref c) A outer s H E) body t ∧ t { nx := fun _ H' => Q .non H', rt := Q } (start N vs) H) : FnOk P w K mg base CX (k + 1) f fd ps sp := by
  obtain ⟨oc, od, dV, kV, doc, pm, an, cdv, ct, osl, rfl, lk, hcd, _, _⟩ := F.ex
  obtain rfl : cdv = .ref c := hc
  exact fn_of lk hcd S len fun A outer s H vs Q E hr hsp => hbody A outer s H vs Q E hr hsp
end Xh
end
section
set_option Elab.async false
set_option linter.all false
set_option maxRecDepth 100000
set_option maxHeartbeats 2000000
/-! a list comprehension whose element is read with what is known of the frame where it starts -/
namespace Xh
open PySem PySem.Spec PyProof.Rows L2 LamX NdefX
section
variable {X : Cx} {pins : List (Addr × Obj)} {σ : L2.St} {Q : VK} {elt tg iter : Expr} {scope : Scope} {own : List (Str × Nat)} {pos : Pos} {g : TG} {te : TE}
/-- what the element may lean on: the frame's state where the comprehension starts, and that the iterator's things are none of its cells -/
def EltAt (X : Cx) (pins : List (Addr × Obj)) (σ : L2.St) (scope : Scope) (elt : Expr) (te : TE) : Prop :=
  ∀ (s1 : Shared) (H1 : Hp) (C : Addr) (cl : List (Str × Addr)) (fp : List Addr), Inv X pins σ H1 s1 → (∀ b ∈ fp, ∀ x c, X.env.cells.lookup x = some c → c ≠ b) → PE (X.blk s1 H1 scope (compEnvC scope cl C X.env) fp) elt te
theorem lcF_loop {sC : Shared} {HC : Hp} {D it : Addr} {fp : List Addr} {tn : Nat → Heap → Prop} {J : It} {W : Nat → Nat → Hp → Prop} {m0 : Nat} (calm : X.calm = true) (nd : X.N.Nodup) (ok : BlkOk X.N X.env.scope scope own)
    (hg : ∀ (s : Shared) (H : Hp) (C : Addr) (cl : List (Str × Addr)) (fp : List Addr), PG (X.blk s H scope (compEnvC scope cl C X.env) fp) tg g) (he : EltAt X pins σ scope elt te)
    (IC : Inv X pins σ HC sC) (T : Turn X.prog X.w X.K tg J fp it tn) (st : tn 0 sC.heap) (fpo : ∀ b ∈ fp, FpOk X pins HC b ∧ b < sC.heap.objs.size) (w0 : W 0 m0 HC)
    (turn : ∀ i m H, W i m H → (J.stop i H ∧ Q (.ref D) H) ∨ (J.go i H ∧ ∃ Nx : Hp → Prop, (∀ H', Nx H' → ∃ m', m' < m ∧ W (i + 1) m' H') ∧ ∀ x H', J.yld i H x H' → g x (wipe σ (own.map (·.2))) H' fun σ2 H2 => wipe σ2 (own.map (·.2)) = wipe σ (own.map (·.2)) ∧
      te σ2 H2 fun y H4 => ∃ acc, H4 D = some (.lst acc) ∧ acc.length < sizeLine ∧ Nx (upd H4 D (.lst (acc ++ [y]))))) :
    codeAny (model X.prog X.w) X.A (.compStart (.ListComp elt [⟨tg, iter, [], 0⟩] scope pos) 0 (.ref it) (.ref D) (compEnvC scope (cellsFrom (sC.heap.objs.size + 1) scope.names (cloFrom X.env.cells scope.names [])) sC.heap.objs.size X.env))
      (compPost (model X.prog X.w) X.A X.xe none (EP X pins σ Q) (.ref D) sC.heap.objs.size) { sC with heap := pushCells (sC.heap.push { cls := .type "dict", data := .dict #[] }) scope.names } := by
  have begun := block_start IC ok nd fpo
  have pg := hg sC HC sC.heap.objs.size (cellsFrom (sC.heap.objs.size + 1) scope.names (cloFrom X.env.cells scope.names [])) fp
  have pe := he sC HC sC.heap.objs.size (cellsFrom (sC.heap.objs.size + 1) scope.names (cloFrom X.env.cells scope.names [])) fp IC fun b hb x c e => (fpo b hb).1.2.2.2.2.1 x c e
  have away : ∀ b ∈ fp, HC b = none := fun b hb => (fpo b hb).1.1
  have tail : tn 0 (pushCells (sC.heap.push { cls := .type "dict", data := .dict #[] }) scope.names) := T.keep _ _ _ st fun b _ o e => pushCells_keeps _ _ _ _ (Heap.get?_push_of_some _ e)
  generalize he0 : compEnvC scope (cellsFrom (sC.heap.objs.size + 1) scope.names (cloFrom X.env.cells scope.names [])) sC.heap.objs.size X.env = ce at begun pg pe ⊢
  have locals_ : ce.locals = sC.heap.objs.size := by
    rw [← he0]
    rfl
  generalize hs0 : ({ sC with heap := pushCells (sC.heap.push { cls := .type "dict", data := .dict #[] }) scope.names } : Shared) = sD at begun ⊢
  have tail' : tn 0 sD.heap := by
    rw [← hs0]
    exact tail
  have apart : ∀ {σ' : L2.St} {H' : Hp} {s' : Shared}, Inv (X.blk sC HC scope ce fp) [] σ' H' s' → (∀ b ∈ fp, H' b = none) → ∀ b ∈ fp, FpOk (X.blk sC HC scope ce fp) [] H' b := fun {σ' H' s'} I' no b hb =>
    ⟨no b hb, (I'.ok.exf b hb).1, I'.ok.exfs b hb, .inl hb, fun x c e => (I'.ok.exf b hb).2 x c e, fun p hp => nomatch (show p ∈ ([] : List (Addr × Obj)) from hp)⟩
  refine codeAny_compStart_list ?ready (T.self X.A 0 _ _ _ tail' ?ready)
  case ready =>
    refine compLoop_any (fun n s' => ∃ i H', Inv (X.blk sC HC scope ce fp) [] (wipe σ (own.map (·.2))) H' s' ∧ tn i s'.heap ∧ (∀ b ∈ fp, H' b = none) ∧ W i n H') ?_ m0 ⟨0, HC, begun, tail', away, w0⟩
    rintro n s1 ⟨i, H1, J1, t1, no1, wn⟩
    rcases turn i n H1 wn with ⟨ends, told⟩ | ⟨goes, Nx, less, body⟩
    · refine thnF (T.done (X.blk sC HC scope ce fp) rfl rfl rfl calm i [] s1 _ H1 (fun _ _ => False) J1 (apart J1 no1) t1 ends) fun r s2 z => ?_
      obtain ⟨rfl, J2⟩ := z
      have back : Inv X pins σ H1 s2 := IC.call' (ch := fp) J2.os J2.base J2.hok J2.bare fun b hb => ⟨(fpo b hb).1.2.2.2.1, (fpo b hb).1.2.1, (fpo b hb).1.2.2.2.2.1, (fpo b hb).1.2.2.2.2.2⟩
      have noC : H1 sC.heap.objs.size = none := by
        have z : H1 ce.locals = none := J2.free
        rw [locals_] at z
        exact z
      obtain ⟨mm, names, _⟩ := J2.loc
      have names : s2.heap.Ns ce.locals mm := names
      rw [locals_] at names
      obtain ⟨a0, a1, a2, a3, a4, a5⟩ := (IC.fpOk (Nat.le_refl _) noC : FpOk X pins H1 sC.heap.objs.size)
      exact ⟨mm, names, fun g2 same => ⟨.ref D, H1, back.turned (t' := s2.toks) (fun b o hb e => (same.2 b hb).trans e) a0 a1 a3 a4 a5, rfl, told⟩⟩
    · refine thnF (T.item (X.blk sC HC scope ce fp) rfl rfl rfl calm i [] s1 _ H1 (fun _ _ => False) J1 (apart J1 no1) t1 goes) fun r s2 z => ?_
      obtain ⟨u, rfl, more⟩ := z
      refine thnF more fun _ s3 z => ?_
      obtain ⟨x, H3, J3, rx, y3, t3, no3⟩ := z
      have pinned := J3.pinned (apart J3 no3) (T.obj _ _ t3)
      refine thnF (pg.run _ s3 _ H3 x u _ pinned rx (body x H3 y3)) fun _ s4 z => ?_
      obtain ⟨σ4, H4, J4, wiped, q4⟩ := z
      refine wpAny_tests_nil ?_
      simp only [if_true]
      refine thnF (pe.run _ s4 σ4 H4 _ J4 q4) fun v s5 z => ?_
      obtain ⟨yv, H5, J5, ry, acc, onD, room, nx⟩ := z
      refine app_ok (X := X.blk sC HC scope ce fp) J5 onD room ry fun s6 J6 => ?_
      obtain ⟨m', lt, w'⟩ := less _ nx
      have kept : ∀ b ∈ fp, ∀ o, s3.heap.get? b = some o → s6.heap.get? b = some o ∧ upd H5 D (.lst (acc ++ [yv])) b = none := fun b hb o e =>
        ⟨(J6.pin (b, o) (List.mem_append_right _ (List.mem_append_right _ (mem_pinsAt hb e)))).1, (J6.pin (b, o) (List.mem_append_right _ (List.mem_append_right _ (mem_pinsAt hb e)))).2.1⟩
      have lens : (wipe σ (own.map (·.2))).length = σ4.length := by rw [← wiped, wipe_length]
      refine ⟨m', lt, i + 1, _, (J6.unpinned (pins := [])).weak lens (fun j v e => ?_), T.keep _ _ _ t3 fun b hb o e => (kept b hb o e).1, fun b hb => ?_, w'⟩
      · rw [← wiped] at e
        exact (wipe_some e).1
      · obtain ⟨o, e, _⟩ := T.obj _ _ t3 b hb
        exact (kept b hb o e).2
/-- [elt for tg in iter] -/
theorem pe_lcF {wi : TI} {te : L2.St → TE} (calm : X.calm = true) (nd : X.N.Nodup) (hi : PI X tg iter wi) (ok : BlkOk X.N X.env.scope scope own)
    (hg : ∀ (s : Shared) (H : Hp) (C : Addr) (cl : List (Str × Addr)) (fp : List Addr), PG (X.blk s H scope (compEnvC scope cl C X.env) fp) tg g) (he : ∀ pins σ, EltAt X pins σ scope elt (te σ))
    (fold : ∀ x, foldedSetIterable iter X.env x = pure x := by intro _; rfl) : PE X (.ListComp elt [⟨tg, iter, [], 0⟩] scope pos) (fun σ H Q => tLc wi g tYes (te σ) (own.map (·.2)) σ H Q) := by
  refine ⟨fun pins s σ H Q I h => ?_⟩
  have free_ : ∀ y ∈ scope.names, y.2 = .free → ∃ c, X.env.cells.lookup y.1 = some c := fun y hy e => (ok.free y hy e).elim (fun z => I.ok.has _ (.inl z)) fun z => I.ok.has _ (.inr z)
  rw [eval_ListComp]
  refine wpAny_comprehension_free (use := none) rfl fold (closure_ok free_) ok.kind (fun y hy e => by rw [ok.uniq y hy, e]) ?_
  refine thn (hi.run pins s σ H _ I h) fun xv sA toIt => thn toIt fun iv sB z => ?_
  obtain ⟨it, fp, tn, J, HB, rfl, IB, T, st, fpo, reading⟩ := z
  refine wpAny_newObj_type (newEnv_comp ?_) (by show 0 ≤ sizeLine; decide)
  have new : HB sB.heap.objs.size = none := IB.hok.fresh (Nat.le_refl _)
  obtain ⟨W, ⟨m0, w0⟩, turn⟩ := reading _ new
  have IC := IB.laid (a := sB.heap.objs.size) (o := .lst []) (t' := sB.toks) (h' := sB.heap.push { cls := .type "list", data := .seq ([] : List Value).toArray }) (fun b o e => Heap.get?_push_of_some _ e) (Nat.le_refl _) ⟨Nat.zero_le _, [], 0, .nil, Heap.get?_push_size _ rfl⟩
  have under : ∀ b ∈ fp, b < sB.heap.objs.size := fun b hb => by
    obtain ⟨o, e, _⟩ := T.obj _ _ st b hb
    exact Heap.lt_size e
  refine lcF_loop (sC := { sB with heap := sB.heap.push { cls := .type "list", data := .seq ([] : List Value).toArray } }) calm nd ok hg (he pins σ) IC T (T.keep _ _ _ st fun b _ o e => Heap.get?_push_of_some _ e) (fun b hb => ?_) w0 turn
  have lt := under b hb
  refine ⟨⟨?_, (fpo b hb).2⟩, by show b < (sB.heap.push _).objs.size; rw [Heap.size_push]; exact Nat.lt_succ_of_lt lt⟩
  rw [upd_ne (Nat.ne_of_lt lt)]
  exact (fpo b hb).1
end
/-! ### a kept lambda without parameters, called within another def's `try` -/
theorem canActV {P : Program} {w : World} {K : PySem.W.Frag} {mg : Str → Option Value} {base : Heap} {k : Nat} {f : Addr} {F : NF} {b : Expr} {fr : List Str} {ws : List (Option V)} {sp : List (Option V) → Sp} {s : Shared} {H : Hp}
    (Fn : NOkL P w K mg base (L2.CX P w) k f F b [] fr sp) (C : CellsAt F.cl fr ws s.heap H) : CanAct P w K mg base k F.qual f F.c (fun E HZ Q => HZ f = some (LamO f F b) ∧ sp ws [] HZ Q E) s H := by
  intro fs CXg Ng qg sg g cdg A outer sZ HZ0 Eg un nf ho room i a W pn xe E p1 p2 hN hv hd hcd tk hW
  refine ⟨fun pinsZ s0 σZ HZ Q IZ h => ?_⟩
  obtain ⟨hs, hc, hf, hsp⟩ := h
  refine wpAny_Call_Name_kw (thn ((pe_var (pos := p1) (i := i) hN hv hd hcd).run pinsZ s0 σZ HZ (fun v H1 => v = .ref f ∧ H1 = HZ) IZ ⟨.ref f, hs, rfl, rfl⟩) fun u s1 ⟨v, H1, I1, r1, q1⟩ => ?_)
  obtain ⟨ev, eH⟩ := q1
  subst ev
  rw [eH] at I1
  obtain rfl : u = Value.ref f := r1
  obtain ⟨pm, ctv, onF⟩ := lamO_at I1.hok hf
  refine PySem.W.callWith_F0 ⟨_, _, _, _, onF⟩ ?_
  have C1 : CellsAt F.cl fr ws s1.heap HZ := cells_on C (un.trans (I1.base.mono ho fun _ z => z))
  have out : Passes (L2.CX P w) ((cxOf CXg P w K mg base Ng qg sg g cdg A outer sZ HZ0 Eg).tr pn xe) E := passes_call tk hW
  refine wpAny_call (codeAny_mono (Fn.run _ _ s1 HZ [] [] ws Q E (room.mono (Nat.le_succ k)) I1.env0 hf hc C1 .nil hsp) fun r s' hq => ?_)
  cases r with
  | error e => exact out pinsZ σZ HZ s1 e s' I1 hq
  | ok fl =>
    cases fl with
    | ret u => exact I1.after hq
    | next => exact False.elim hq
    | brk => exact False.elim hq
    | cont => exact False.elim hq
/-- what the call of a kept lambda asks -/
def tWordV (X : Cx) (kl : Nat) (TT : (XK → Hp → VK → Prop) → Hp → VK → Prop) (σ0 : L2.St) (t : TA) : TE := fun σ H Q => t σ H fun vs H1 => ∃ (f : Addr) (F : NF) (b : Expr) (fr : List Str) (js : List Nat) (sp : List (Option V) → Sp), vs = [.ref f] ∧ f ∉ frs X.stack ∧ H1 f = some (LamO f F b) ∧ H1 F.c = some (CodeO F.c F.qual) ∧
      NOkL X.prog X.w X.K X.mg X.base (L2.CX X.prog X.w) kl f F b [] fr sp ∧ (X.Ok → Caps X F.cl fr js) ∧ TT (fun E HZ Q => HZ f = some (LamO f F b) ∧ sp (js.map (slotAt σ0)) [] HZ Q E) H1 Q
/-- y(e), e a kept lambda, in a block of the frame X -/
theorem pe_wordV {X : Cx} {fp : List Addr} {k kl : Nat} {y : Str} {gy : Addr} {TT : (XK → Hp → VK → Prop) → Hp → VK → Prop} {σ0 : L2.St} {pins0 : List (Addr × Obj)} {s0 : Shared} {H0 : Hp} {scope : Scope} {ce : Env} {e : Expr} {t : TA} {p pos : Pos}
    (G : Gives X.prog X.w X.K X.mg X.base k kl y gy TT) (I0 : Inv X pins0 σ0 H0 s0) (hfp : ∀ b ∈ fp, ∀ x c, X.env.cells.lookup x = some c → c ≠ b)
    (hr : Room k X.A) (hg : Gl (X.blk s0 H0 scope ce fp) y) (ha : PA (X.blk s0 H0 scope ce fp) [e] t) (hdb : (y == ("__debug__" : Str)) = false := by decide) (hst : starEach [e] ce = [(false, eval e ce)] := by rfl) (hpl : (backTo pos (starEach [] ce)).any (·.1) = false := by rfl) :
    PE (X.blk s0 H0 scope ce fp) (.Call (.Name y p) [e] [] pos) (tWordV X kl TT σ0 t) := by
  refine ⟨fun pins s σ H Q I h => ?_⟩
  refine wpAny_Call_Name_kw (ld_glob I hg G.m ?_ hdb)
  refine PySem.W.callWith_K (h₀ := X.base) I.ok.mod.kin G.kp (thn (ha.run pos pins s σ H _ I h) fun us s2 z => ?_) hst hpl
  obtain ⟨vs, H2, I2, r, f, F, b, fr, js, sp, rfl, nf, h1, h2, Fn, cp, hT⟩ := z
  have sub := (cp I0.ok).sub
  refine ⟨I2.kIn, ?_⟩
  have eu : us = [Value.ref f] := by
    cases r with
    | cons r0 rr =>
      cases rr
      obtain rfl := (show _ = Value.ref f from r0)
      rfl
  subst eu
  have C0 := cells_of I0 (cp I0.ok)
  have un : Un (frs X.stack) fp H0 H2 s0.heap s2.heap := I2.base
  have C2 : CellsAt F.cl fr (js.map (slotAt σ0)) s2.heap H2 := by
    have nx : ∀ y c, F.cl.lookup y = some c → c ∉ fp := fun y c e z => hfp c z y c (sub y c e) rfl
    have kp : ∀ y c, F.cl.lookup y = some c → ∀ v, s0.heap.IsCell c v → s2.heap.IsCell c v := fun y c e v ⟨o, a1, a2⟩ => by
      obtain ⟨sl, q⟩ := un.any a1 (C0.all y c e).1 (nx y c e)
      exact ⟨_, q, a2⟩
    refine ⟨C0.len, fun y c e => ?_, C0.inj, fun i y e => ?_⟩
    · obtain ⟨no, v, z⟩ := C0.all y c e
      obtain ⟨o, ho, _⟩ := id z
      exact ⟨un.free c o ho no (nx y c e), v, kp y c e v z⟩
    · obtain ⟨c, a1, a2⟩ := C0.has i y e
      refine ⟨c, a1, fun v ev => ?_⟩
      obtain ⟨u, r, z⟩ := a2 v ev
      exact ⟨u, r, kp y c a1 _ z⟩
  have lt : f < s2.heap.objs.size := by
    obtain ⟨pm, ctv, o⟩ := lamO_at I2.hok h1
    exact Heap.lt_size o
  show wpAny _ _ (call (.ref gy) [.ref f]) _ _ _
  refine wpAny_call (codeAny_mono (G.run F.qual X.A X.stack f F.c s2 H2 Q _ hr I2.env0 (canActV Fn C2) nf lt h2 hT) fun r s3 hq => ?_)
  cases r with
  | error e => exact (show False from hq).elim
  | ok fl =>
    cases fl with
    | ret u => exact I2.after hq
    | next => exact False.elim hq
    | brk => exact False.elim hq
    | cont => exact False.elim hq
end Xh
end
section
set_option Elab.async false
set_option linter.all false
set_option maxRecDepth 100000
set_option maxHeartbeats 4000000
namespace Xk
open PySem PySem.Spec PyProof.Rows L2 Xh LamX
/-- N to the power e by P -/
def rpow (N : Nat) (e : Int) (P : Nat) : Nat := if N = 0 then (if e = 0 then 1 else 0) else N ^ (e.fmod ((P : Int) - 1)).toNat % P
def spRPow : Sp := fun vs H Q _ => ∃ (N P : Nat) (e : Int), vs = [.int N, .int e, .int P] ∧ 2 ≤ P ∧ P ≤ 1000 ∧ N < P ∧ Q (.int (rpow N e P)) H
theorem fmodN (a b : Nat) : (a : Int).fmod (b : Int) = ((a % b : Nat) : Int) := by
  rw [Int.fmod_eq_emod_of_nonneg _ (Int.natCast_nonneg b), Int.natCast_emod]
def slotN (i : Nat) (σ : L2.St) : Nat := match σ[i]? with
  | some (some (.int s)) => s.toNat
  | _ => 0
/-! ### rests -/
/-- what is wanted of a refusal: an own exception of the class at C, its word alone -/
def Ex (H : Hp) (E : XK) (C : Addr) (nm : Str) : Prop := ∀ (d : Addr) (H' : Hp), Same H H' → H' d = some (.xd [("word", .str nm)]) → H d = none → E (.ref C) (some d) H'
theorem Ex.imp {H : Hp} {E E' : XK} {C : Addr} {nm : Str} (x : Ex H E C nm) (h : ∀ c d H', E c d H' → E' c d H') : Ex H E' C nm := fun d H' a b c => h _ _ _ (x d H' a b c)
def spIsPrime : Sp := fun vs H Q _ => ∃ p : Int, vs = [.int p] ∧ Q (.bl (decide (p ∈ primes))) H
def spIsNum : Sp := fun vs H Q _ => ∃ n : Int, vs = [.int n] ∧ Q (.bl true) H
def spIsRest : Sp := fun vs H Q _ => ∃ n p : Int, vs = [.int n, .int p] ∧ Q (.bl (decide (0 ≤ n ∧ n < p))) H
def spRefP (C : Addr) : Sp := fun vs H Q E => ∃ p : Int, vs = [.int p] ∧ (p ∈ primes → Q .non H) ∧ (p ∉ primes → Ex H E C "BadPrime")
theorem inV_ints (p : Int) : ∀ ns : List Int, inV (.int p) (ns.map V.int) = decide (p ∈ ns)
  | [] => rfl
  | n :: ns => by
    have ih := inV_ints p ns
    unfold inV at ih ⊢
    rw [List.map_cons, List.any_cons, ih]
    show ((n == p) || decide (p ∈ ns)) = decide (p ∈ n :: ns)
    by_cases h : n = p
    · subst h
      simp
    · have h' : p ≠ n := fun z => h z.symm
      simp [h, h']
theorem all_flat (ns : List Int) : (ns.map V.int).all flatV = true := by
  rw [List.all_eq_true]
  intro x hx
  obtain ⟨n, _, rfl⟩ := List.mem_map.mp hx
  rfl
section
variable {P : Program} {w : World} {K : PySem.W.Frag} {mg : Str → Option Value} {base : Heap}
abbrev s_is_prime : Stmt := topS 23
theorem sc_is_prime : FnScope (["number"] : List Str) ["number"] (defScope s_is_prime) := ⟨rfl, rfl, rfl, by decide +kernel, rfl, by decide +kernel, by decide +kernel⟩
theorem ok_is_prime {f : Addr} {fd : FuncData} {cP : Addr} (F : FunD K "is_prime" "is_prime" (defArgs s_is_prime) (defBody s_is_prime) (defScope s_is_prime) [] [] f fd) (mP : mg "PRIMES" = some (.ref cP)) (hP : ∀ H, SqT K H cP (primes.map V.int)) : FnOk P w K mg base CX0 1 f fd ["number"] spIsPrime := by
  refine F.ok sc_is_prime (fun vs H Q E h => ?_) (fun cdv A outer s H vs Q E hr h => ?_)
  · obtain ⟨p, rfl, _⟩ := h
    rfl
  · obtain ⟨p, rfl, k⟩ := h
    refine ⟨_, PSs.nox (pss_one (ps_ret (pe_cmpR op_in_seq (pv 0) (pe_glob (v := .ref cP) rfl mP rfl) (by rfl)))) , ?_⟩
    refine ⟨_, rfl, cP, _, rfl, .inr (hP H), rfl, all_flat _, ?_⟩
    rw [if_neg (by decide), inV_ints]
    exact k
abbrev s_is_number : Stmt := topS 24
theorem sc_is_number : FnScope (["told"] : List Str) ["told"] (defScope s_is_number) := ⟨rfl, rfl, rfl, by decide +kernel, rfl, by decide +kernel, by decide +kernel⟩
theorem ok_is_number {f : Addr} {fd : FuncData} (F : FunD K "is_number" "is_number" (defArgs s_is_number) (defBody s_is_number) (defScope s_is_number) [] [] f fd) (T : Fre mg) : FnOk P w K mg base CX0 1 f fd ["told"] spIsNum := by
  refine F.ok sc_is_number (fun vs H Q E h => ?_) (fun cdv A outer s H vs Q E hr h => ?_)
  · obtain ⟨p, rfl, _⟩ := h
    rfl
  · obtain ⟨n, rfl, k⟩ := h
    refine ⟨_, PSs.nox (pss_one (ps_ret (pe_and (pe_callB call_isi (by rfl) T.f_isinstance (by decide +kernel) (pa_cons (pv 0) (pa_cons (pe_bltn (v := .ty "int") rfl T.f_int boot_int rfl) pa_nil))) (pe_one (pe_not (pe_callB call_isi (by rfl) T.f_isinstance (by decide +kernel) (pa_cons (pv 0) (pa_cons (pe_bltn (v := .ty "bool") rfl T.f_bool boot_bool rfl) pa_nil)))))))) , ?_⟩
    exact ⟨_, rfl, .int n, _, _, _, true, rfl, .ty _, .base (.int n), kit_ty (by decide +kernel), _, rfl, iteT ⟨_, rfl, .int n, _, _, _, false, rfl, .ty _, .base (.int n), kit_ty (by decide +kernel), _, rfl, k⟩⟩
abbrev s_is_rest : Stmt := topS 25
theorem sc_is_rest : FnScope (["told", "prime"] : List Str) ["told", "prime"] (defScope s_is_rest) := ⟨rfl, rfl, rfl, by decide +kernel, rfl, by decide +kernel, by decide +kernel⟩
theorem ok_is_rest {f : Addr} {fd : FuncData} (F : FunD K "is_rest" "is_rest" (defArgs s_is_rest) (defBody s_is_rest) (defScope s_is_rest) [] [] f fd) (o_is_number : Own P w K mg base CX0 1 "is_number" ["told"] [] spIsNum) : FnOk P w K mg base CX0 2 f fd ["told", "prime"] spIsRest := by
  refine F.ok sc_is_rest (fun vs H Q E h => ?_) (fun cdv A outer s H vs Q E hr h => ?_)
  · obtain ⟨n, p, rfl, _⟩ := h
    rfl
  · obtain ⟨n, p, rfl, k⟩ := h
    refine ⟨_, PSs.nox (pss_one (ps_ret (pe_and (pe_own o_is_number (hr.mono (by decide)) rfl pass0 (pa_cons (pv 0) pa_nil)) (pe_one (pe_chain op_le op_lt pe_int (pv 0) (pv 1)))))) , ?_⟩
    refine ⟨_, rfl, n, rfl, _, rfl, iteT ⟨_, rfl, _, _, rfl, rfl, _, rfl, ?_⟩⟩
    by_cases h0 : 0 ≤ n
    · rw [decide_eq_true h0]
      refine iteT ⟨_, rfl, _, _, rfl, rfl, ?_⟩
      show Q (.bl (decide (n < p))) H
      rw [show decide (n < p) = decide (0 ≤ n ∧ n < p) from by simp [h0]]
      exact k
    · rw [decide_eq_false h0]
      refine iteF ?_
      rw [show decide (0 ≤ n ∧ n < p) = false from decide_eq_false fun z => h0 z.1] at k
      exact k
abbrev s_refuse_prime : Stmt := topS 26
theorem sc_refuse_prime : FnScope (["prime"] : List Str) ["prime"] (defScope s_refuse_prime) := ⟨rfl, rfl, rfl, by decide +kernel, rfl, by decide +kernel, by decide +kernel⟩
theorem ok_refuse_prime {f C fI : Addr} {fd : FuncData} (F : FunD K "refuse_prime" "refuse_prime" (defArgs s_refuse_prime) (defBody s_refuse_prime) (defScope s_refuse_prime) [] [] f fd) (o_is_prime : Own P w K mg base CX0 1 "is_prime" ["number"] [] spIsPrime) (xP : RX K mg C fI "BadPrime") (o_init : FnR P w K mg base (L2.CX P w) 1 fI (spRI1 K)) : FnOk P w K mg base (L2.CX P w) 3 f fd ["prime"] (spRefP C) := by
  refine F.ok sc_refuse_prime (fun vs H Q E h => ?_) (fun cdv A outer s H vs Q E hr h => ?_)
  · obtain ⟨p, rfl, _⟩ := h
    rfl
  · obtain ⟨p, rfl, h1, h2⟩ := h
    refine ⟨_, (pss_one (ps_if (pt_not (pt_val (pe_own o_is_prime (hr.mono (by decide)) rfl pass0 (pa_cons (pv 0) pa_nil)))) (pss_one (ps_raise rfl (takes_of rfl rfl rfl rfl) (pmk_rung xP o_init hr rfl))) pss_nil)) , ?_⟩
    refine ⟨_, rfl, p, rfl, _, rfl, ?_⟩
    by_cases hp : p ∈ primes
    · rw [decide_eq_true hp]
      exact iteF (h1 hp)
    · rw [decide_eq_false hp]
      exact iteT fun d H' a b c => h2 hp d H' a b c
end
end Xk
end
section
set_option Elab.async false
set_option linter.all false
set_option maxRecDepth 100000
set_option maxHeartbeats 4000000
namespace Xk
open PySem PySem.Spec PyProof.Rows L2 Xh LamX
/-! ### polynomials: rests without a nought at their end -/
def trim : List Int → List Int
  | [] => []
  | x :: xs => if trim xs = [] ∧ x = 0 then [] else x :: trim xs
theorem trim_nil : ∀ {a : List Int}, (∀ i, a.getD i 0 = 0) → trim a = []
  | [], _ => rfl
  | x :: xs, h => by
    have h0 : x = 0 := h 0
    have h1 : trim xs = [] := trim_nil fun i => h (i + 1)
    unfold trim
    rw [if_pos ⟨h1, h0⟩]
theorem trim_congr : ∀ (a b : List Int), (∀ i, a.getD i 0 = b.getD i 0) → trim a = trim b
  | [], b, h => (trim_nil fun i => (h i).symm).symm
  | a, [], h => trim_nil fun i => h i
  | x :: xs, y :: ys, h => by
    have h0 : x = y := h 0
    have h1 : trim xs = trim ys := trim_congr xs ys fun i => h (i + 1)
    unfold trim
    rw [h0, h1]
theorem trim_getD : ∀ (a : List Int) (i : Nat), (trim a).getD i 0 = a.getD i 0
  | [], i => rfl
  | x :: xs, i => by
    unfold trim
    by_cases h : trim xs = [] ∧ x = 0
    · rw [if_pos h, h.2]
      cases i with
      | zero => rfl
      | succ i =>
        have z := trim_getD xs i
        rw [h.1] at z
        exact z
    · rw [if_neg h]
      cases i with
      | zero => rfl
      | succ i => exact trim_getD xs i
theorem trim_trim (a : List Int) : trim (trim a) = trim a := trim_congr _ _ fun i => trim_getD a i
theorem trim_length : ∀ a : List Int, (trim a).length ≤ a.length
  | [] => Nat.le_refl _
  | x :: xs => by
    unfold trim
    split
    · exact Nat.zero_le _
    · exact Nat.succ_le_succ (trim_length xs)
theorem trim_mem : ∀ {a : List Int} {x : Int}, x ∈ trim a → x ∈ a
  | y :: ys, x, h => by
    unfold trim at h
    split at h
    · cases h
    · rcases List.mem_cons.mp h with h | h
      · exact List.mem_cons.mpr (.inl h)
      · exact List.mem_cons.mpr (.inr (trim_mem h))
theorem trim_last : ∀ (a : List Int) (n : Nat), n + 1 = a.length → a.getD n 0 ≠ 0 → trim a = a
  | x :: xs, n, hn, hz => by
    have hn' : n = xs.length := Nat.succ.inj hn
    unfold trim
    cases n with
    | zero =>
      have : xs = [] := List.length_eq_zero_iff.mp hn'.symm
      subst this
      rw [if_neg (fun z => hz z.2)]
      rfl
    | succ n =>
      have ih := trim_last xs n hn' hz
      rw [if_neg (fun z => by rw [ih] at z; rw [z.1] at hn'; cases hn'), ih]
theorem trim_ne (a : List Int) (h : a ≠ []) (ht : trim a = a) : a.getD (a.length - 1) 0 ≠ 0 := by
  induction a with
  | nil => exact absurd rfl h
  | cons x xs ih =>
    unfold trim at ht
    split at ht
    · cases ht
    · rename_i hc
      have hx : trim xs = xs := (List.cons.inj ht).2
      cases xs with
      | nil => exact fun z => hc ⟨rfl, z⟩
      | cons y ys => exact ih (by intro z; cases z) hx
theorem take_getD (a : List Int) (n i : Nat) : (a.take n).getD i 0 = if i < n then a.getD i 0 else 0 := by
  rw [List.getD_eq_getElem?_getD, List.getD_eq_getElem?_getD, List.getElem?_take]
  split <;> rfl
/-- what the count from the end leaves -/
theorem take_trim {a : List Int} {n : Nat} (hn : n ≤ a.length) (hz : ∀ i, n ≤ i → a.getD i 0 = 0) (hl : n = 0 ∨ a.getD (n - 1) 0 ≠ 0) : a.take n = trim a := by
  have e : trim (a.take n) = trim a := trim_congr _ _ fun i => by
    rw [take_getD]
    split
    · rfl
    · rw [hz i (by omega)]
  rw [← e]
  rcases hl with rfl | hl
  · rfl
  · cases n with
    | zero => rfl
    | succ n => exact (trim_last _ n (by rw [List.length_take]; omega) (by rw [take_getD, if_pos (Nat.lt_succ_self n)]; exact hl)).symm
theorem cutV_take (ns : List Int) (n : Nat) : cutV (ns.map V.int) none (some (n : Int)) = (ns.take n).map V.int := by
  unfold cutV
  rw [HT.sIx_none, HT.sIx_nat, Nat.sub_zero, List.drop_zero, ← List.map_take]
  congr 1
  rw [List.length_map]
  by_cases h : n ≤ ns.length
  · rw [Nat.min_eq_left h]
  · rw [Nat.min_eq_right (by omega), List.take_length, List.take_of_length_le (by omega)]
theorem map_at (ns : List Int) (i : Nat) (h : i < ns.length) : (ns.map V.int)[i]? = some (.int (ns.getD i 0)) := by
  rw [List.getElem?_map, List.getD_eq_getElem?_getD, List.getElem?_eq_getElem h]
  rfl
/-- a new tuple of these -/
def NewT (H : Hp) (ms : List Int) (Q : VK) : Prop := ∀ (p : Addr) (H' : Hp), Same H H' → H p = none → H' p = some (.tup (ms.map V.int)) → Q (.ref p) H'
theorem out_take {H : Hp} {ns : List Int} {n : Nat} {Q : VK} (e : ns.take n = trim ns) (k : NewT H (trim ns) Q) {p l : Addr} (hp : H p = none) (hl : L2.upd H p (.lst (cutV (ns.map V.int) none (some (n : Int)))) l = none) :
    Q (.ref l) (L2.upd (L2.upd H p (.lst (cutV (ns.map V.int) none (some (n : Int))))) l (.tup (cutV (ns.map V.int) none (some (n : Int))))) := by
  refine k l _ ((same_upd hp).trans (same_upd hl)) ((same_upd hp).free hl) ?_
  rw [upd_same, cutV_take, e]
def spTrim (K : PySem.W.Frag) : Sp := fun vs H Q _ => ∃ (a : Addr) (ns : List Int), vs = [.ref a] ∧ SqL K H a (ns.map V.int) ∧ ns.length ≤ 1000 ∧ NewT H (trim ns) Q
section
variable {P : Program} {w : World} {K : PySem.W.Frag} {mg : Str → Option Value} {base : Heap}
abbrev s_trimmed : Stmt := topS 30
theorem sc_trimmed : FnScope (["rests", "count"] : List Str) ["rests"] (defScope s_trimmed) := ⟨rfl, rfl, rfl, by decide +kernel, rfl, by decide +kernel, by decide +kernel⟩
theorem ok_trimmed {f : Addr} {fd : FuncData} (F : FunD K "trimmed" "trimmed" (defArgs s_trimmed) (defBody s_trimmed) (defScope s_trimmed) [] [] f fd) (T : Fre mg) : FnOk P w K mg base CX0 1 f fd ["rests"] (spTrim K) := by
  refine F.ok sc_trimmed (fun vs H Q E h => ?_) (fun cdv A outer s H vs Q E hr h => ?_)
  · obtain ⟨a, ns, rfl, _⟩ := h
    rfl
  · obtain ⟨a, ns, rfl, hS, hl, k⟩ := h
    refine ⟨_, PSs.nox (pss_cons (ps_set (i := 1) sc_trimmed.nd rfl (Or.inl rfl) (pe_callB call_len_seq (by rfl) T.f_len PySem.boot_len (pa_cons (pv 0) pa_nil)))
      (pss_cons (ps_while PassesOwn.never (PW.pt (pw_and (pt_cmpR op_gt (pv 1) pe_int (nomark _)) (pw_and1 (pt_cmpR op_eq (pe_ix ix_list (pv 0) (pe_op op_sub (pv 1) pe_int) (fun _ _ => rfl)) pe_int (nomark _))))) (pss_one (ps_aug (i := 1) sc_trimmed.nd rfl (Or.inl rfl) pe_int ip_sub)))
      (pss_one (ps_ret (pe_callTy call_tuple_of (by rfl) T.f_tuple (by decide +kernel) (pa_cons (pe_slice sl_list (pv 0) po_none (po_some (pv 1))) pa_nil)))))) , ?_⟩
    refine ⟨_, rfl, _, _, rfl, .inl hS, ?_⟩
    refine while_by (fun σ' H' => ∃ n : Nat, σ' = [some (.ref a), some (.int n)] ∧ H' = H ∧ n ≤ ns.length ∧ ∀ i, n ≤ i → ns.getD i 0 = 0) (fun σ' _ => slotN 1 σ') ⟨ns.length, by rw [List.length_map]; rfl, rfl, Nat.le_refl _, fun i hi => by rw [List.getD_eq_getElem?_getD, List.getElem?_eq_none hi]; rfl⟩ ?_ ?_
    · rintro σ' H' ⟨n, rfl, rfl, hn, hz⟩
      have fin : n = 0 ∨ ns.getD (n - 1) 0 ≠ 0 → ns.take n = trim ns := take_trim hn hz
      refine ⟨_, rfl, _, _, rfl, rfl, _, rfl, ite2 (fun hc => ?_) (fun hc => ?_)⟩
      · have h0 : 0 < n := by
          have z := of_decide_eq_true hc
          omega
        refine ⟨_, rfl, _, rfl, _, _, rfl, rfl, a, _, _, .int (ns.getD (n - 1) 0), rfl, rfl, hS, ?_, ?_⟩
        · rw [show (n : Int) - 1 = ((n - 1 : Nat) : Int) by omega]
          exact atI_nat (map_at ns (n - 1) (by omega))
        · refine ⟨rfl, _, rfl, ite2 (fun hb => ?_) (fun hb => ?_)⟩
          · have z := V.int.inj (of_decide_eq_true hb)
            refine ⟨_, rfl, _, _, rfl, rfl, ⟨n - 1, by rw [show ((n - 1 : Nat) : Int) = (n : Int) - 1 by omega]; rfl, rfl, by omega, fun i hi => ?_⟩, ?_⟩
            · by_cases hi2 : i = n - 1
              · rw [hi2]; exact z
              · exact hz i (by omega)
            · show ((n : Int) - 1).toNat < (n : Int).toNat
              omega
          · exact ⟨_, rfl, _, rfl, n, rfl, a, _, rfl, hS, fun p hp => ⟨p, _, rfl, .inl ⟨SqL.of upd_same, fun l hl => out_take (fin (.inr fun z => hb (decide_eq_true (by rw [z])))) k hp hl⟩⟩⟩
      · have h0 : n = 0 := by
          by_cases z : n = 0
          · exact z
          · exact absurd (decide_eq_true (show (0 : Int) < (n : Int) by omega)) hc
        exact ⟨_, rfl, _, rfl, n, rfl, a, _, rfl, hS, fun p hp => ⟨p, _, rfl, .inl ⟨SqL.of upd_same, fun l hl => out_take (fin (.inl h0)) k hp hl⟩⟩⟩
    · rintro σ H Q Q' m ⟨v, h1, i, j, h2, h3, b, h4, q⟩
      refine ⟨v, h1, i, j, h2, h3, b, h4, ?_⟩
      cases b with
      | true =>
        obtain ⟨x, e1, y, e2, i2, j2, e3, e4, p1, p2, p3, p4, e5, e6, e7, e8, e9, b2, e10, q⟩ := q
        exact ⟨x, e1, y, e2, i2, j2, e3, e4, p1, p2, p3, p4, e5, e6, e7, e8, e9, b2, e10, m _ _ q⟩
      | false => exact m _ _ q
end
end Xk
end
section
set_option Elab.async false
set_option linter.all false
set_option maxRecDepth 100000
set_option maxHeartbeats 4000000
namespace Xk
open PySem PySem.Spec PyProof.Rows L2 Xh LamX
/-- the coefficients of ms, without a nought at the end, at most n of them -/
structure Is (f : Nat → Int) (n : Nat) (ms : List Int) : Prop where
  at_ : ∀ j, ms.getD j 0 = f j
  tr : trim ms = ms
  len : ms.length ≤ n
theorem Is.uniq {f g : Nat → Int} {n m : Nat} {a b : List Int} (x : Is f n a) (y : Is g m b) (h : ∀ j, f j = g j) : a = b := by
  rw [← x.tr, ← y.tr]
  exact trim_congr _ _ fun i => by rw [x.at_, y.at_, h]
def NewP (H : Hp) (f : Nat → Int) (n : Nat) (Q : VK) : Prop := ∀ ms, Is f n ms → NewT H ms Q
theorem is_trim {f : Nat → Int} {n : Nat} {ms : List Int} (h : ∀ j, ms.getD j 0 = f j) (l : ms.length ≤ n) : Is f n (trim ms) := ⟨fun j => by rw [trim_getD, h], trim_trim _, Nat.le_trans (trim_length _) l⟩
theorem NewT.same {H H' : Hp} {ms : List Int} {Q : VK} (k : NewT H ms Q) (s : Same H H') : NewT H' ms Q := fun p H2 a b c => k p H2 (s.trans a) (s.free b) c
theorem NewP.same {H H' : Hp} {f : Nat → Int} {n : Nat} {Q : VK} (k : NewP H f n Q) (s : Same H H') : NewP H' f n Q := fun ms h => (k ms h).same s
/-- rests by p -/
def Rs (p : Int) (ms : List Int) : Prop := ∀ j, 0 ≤ ms.getD j 0 ∧ ms.getD j 0 < p
structure Pm (p : Int) : Prop where
  lo : 2 ≤ p
  hi : p ≤ 1000
theorem Pm.pos {p : Int} (h : Pm p) : 0 < p := by have := h.lo; omega
theorem fm_rs {p : Int} (h : Pm p) {ms : List Int} {f : Nat → Int} (e : ∀ j, ms.getD j 0 = (f j).fmod p) : Rs p ms := fun j => by
  rw [e]
  exact ⟨Int.fmod_nonneg_of_pos _ h.pos, Int.fmod_lt_of_pos _ h.pos⟩
theorem fm_id {x p : Int} (h0 : 0 ≤ x) (h1 : x < p) : x.fmod p = x := by rw [Int.fmod_eq_emod_of_nonneg _ (by omega), Int.emod_eq_of_lt h0 h1]
theorem getD_over {a : List Int} {i : Nat} (h : a.length ≤ i) : a.getD i 0 = 0 := by
  rw [List.getD_eq_getElem?_getD, List.getElem?_eq_none h]
  rfl
theorem getD_map {a : List Int} {i : Nat} {g : Int → Int} (h : g 0 = 0) : (a.map g).getD i 0 = g (a.getD i 0) := by
  rw [List.getD_eq_getElem?_getD, List.getD_eq_getElem?_getD, List.getElem?_map]
  cases a[i]? with
  | none => exact h.symm
  | some x => rfl
theorem lcs {H H2 : Hp} {D : Addr} {o : HO} (hD : H D = none) (s : Same H H2) : Same H (L2.upd H2 D o) := fun b o h => by
  rw [upd_ne (ne_of_none h hD)]
  exact s b o h
theorem take_map {ns : List Int} {i : Nat} (g : Int → Int) (hi : i < ns.length) : ((ns.take i).map g).map V.int ++ [V.int (g (ns.getD i 0))] = ((ns.take (i + 1)).map g).map V.int := by
  rw [List.take_succ, List.getD_eq_getElem?_getD, List.getElem?_eq_getElem hi, List.map_append, List.map_append]
  rfl
theorem take_len (ns : List Int) (g : Int → Int) (i : Nat) : (((ns.take i).map g).map V.int).length ≤ ns.length := by
  rw [List.length_map, List.length_map, List.length_take]
  omega
theorem ixN_nat {n i : Nat} (h : i < n) : ixN n (i : Int) = some i := by
  unfold ixN
  rw [if_pos (by omega), if_pos (by omega), Int.toNat_natCast]
theorem getD_set {a : List Int} {i j : Nat} {v : Int} (h : i < a.length) : (a.set i v).getD j 0 = if j = i then v else a.getD j 0 := by
  rw [List.getD_eq_getElem?_getD, List.getD_eq_getElem?_getD, List.getElem?_set]
  by_cases e : j = i
  · rw [if_pos e, if_pos e.symm, if_pos h]
    rfl
  · rw [if_neg e, if_neg (fun z => e z.symm)]
def spScale (K : PySem.W.Frag) : Sp := fun vs H Q _ => ∃ (a : Addr) (ns : List Int) (r p : Int), vs = [.ref a, .int r, .int p] ∧ SqT K H a (ns.map V.int) ∧ ns.length ≤ 100 ∧ Rs p ns ∧ Pm p ∧ NewP H (fun j => (ns.getD j 0 * r).fmod p) ns.length Q
def spPlus (K : PySem.W.Frag) : Sp := fun vs H Q _ => ∃ (a b : Addr) (xs ys : List Int) (p : Int), vs = [.ref a, .ref b, .int p] ∧ SqT K H a (xs.map V.int) ∧ SqT K H b (ys.map V.int) ∧ xs.length ≤ 100 ∧ ys.length ≤ 100 ∧ Rs p xs ∧ Rs p ys ∧ Pm p ∧
  NewP H (fun j => (xs.getD j 0 + ys.getD j 0).fmod p) (max xs.length ys.length) Q
def spMinus (K : PySem.W.Frag) : Sp := fun vs H Q _ => ∃ (a b : Addr) (xs ys : List Int) (p : Int), vs = [.ref a, .ref b, .int p] ∧ SqT K H a (xs.map V.int) ∧ SqT K H b (ys.map V.int) ∧ xs.length ≤ 100 ∧ ys.length ≤ 100 ∧ Rs p xs ∧ Rs p ys ∧ Pm p ∧
  NewP H (fun j => (xs.getD j 0 + (p - 1) * ys.getD j 0).fmod p) 100 Q
section
variable {P : Program} {w : World} {K : PySem.W.Frag} {mg : Str → Option Value} {base : Heap}
abbrev s_law_trim : Stmt := topS 108
theorem sc_law_trim : FnScope (["_law_numbers", "_law_many", "_law_k"] : List Str) ["_law_numbers"] (defScope s_law_trim) := ⟨rfl, rfl, rfl, by decide +kernel, rfl, by decide +kernel, by decide +kernel⟩
theorem ok_law_trim {f : Addr} {fd : FuncData} (F : FunD K "_law_trim" "_law_trim" (defArgs s_law_trim) (defBody s_law_trim) (defScope s_law_trim) [] [] f fd) (T : Fre mg) : FnOk P w K mg base CX0 1 f fd ["_law_numbers"] (spTrim K) := by
  refine F.ok sc_law_trim (fun vs H Q E h => ?_) (fun cdv A outer s H vs Q E hr h => ?_)
  · obtain ⟨a, ns, rfl, _⟩ := h
    rfl
  · obtain ⟨a, ns, rfl, hS, hl, k⟩ := h
    refine ⟨_, PSs.nox (pss_cons (ps_set (i := 1) sc_law_trim.nd rfl (Or.inl rfl) (pe_callB call_len_seq (by rfl) T.f_len PySem.boot_len (pa_cons (pv 0) pa_nil)))
      (pss_cons (ps_for PassesOwn.never rfl (pi_range1 (by rfl) T.f_range (pa_cons (pe_callB call_len_seq (by rfl) T.f_len PySem.boot_len (pa_cons (pv 0) pa_nil)) pa_nil)) (pg_name (i := 2) sc_law_trim.nd rfl (Or.inl rfl)) (pss_one (ps_if (PW.pt (pw_and (pt_cmpR op_gt (pv 1) pe_int (nomark _)) (pw_and1 (pt_cmpR op_eq (pe_ix ix_list (pv 0) (pe_op op_sub (pv 1) pe_int) (fun _ _ => rfl)) pe_int (nomark _))))) (pss_one (ps_set (i := 1) sc_law_trim.nd rfl (Or.inl rfl) (pe_op op_sub (pv 1) pe_int))) pss_nil)))
      (pss_one (ps_ret (pe_callTy call_tuple_of (by rfl) T.f_tuple (by decide +kernel) (pa_cons (pe_slice sl_list (pv 0) po_none (po_some (pv 1))) pa_nil)))))) , ?_⟩
    refine ⟨_, rfl, _, _, rfl, .inl hS, ?_⟩
    refine ⟨_, rfl, _, _, rfl, .inl hS, (ns.length : Int), by rw [List.length_map], by omega, by omega, ?_⟩
    rw [Int.toNat_natCast]
    refine for_range (lo := 0) (n := ns.length) (fun i σ' H' => ∃ (n : Nat) (x : Option V), σ' = [some (.ref a), some (.int n), x] ∧ H' = H ∧ n ≤ ns.length ∧ (∀ j, n ≤ j → ns.getD j 0 = 0) ∧ (n + i ≤ ns.length ∨ n = 0 ∨ ns.getD (n - 1) 0 ≠ 0)) ⟨ns.length, none, by rw [List.length_map]; rfl, rfl, Nat.le_refl _, fun j hj => getD_over hj, .inl (Nat.le_refl _)⟩ ?_ ?_
    · rintro i σ' H' hi ⟨n, x, rfl, rfl, hn, hz, hq⟩
      refine ⟨_, rfl, _, _, rfl, rfl, _, rfl, ite2 (fun hc => ?_) (fun hc => ?_)⟩
      · have h0 : 0 < n := by
          have z := of_decide_eq_true hc
          omega
        refine ⟨_, rfl, _, rfl, _, _, rfl, rfl, a, _, _, .int (ns.getD (n - 1) 0), rfl, rfl, hS, ?_, ?_⟩
        · rw [show (n : Int) - 1 = ((n - 1 : Nat) : Int) by omega]
          exact atI_nat (map_at ns (n - 1) (by omega))
        · refine ⟨rfl, _, rfl, ite2 (fun hb => ?_) (fun hb => ?_)⟩
          · have z := V.int.inj (of_decide_eq_true hb)
            refine ⟨_, rfl, _, _, rfl, rfl, n - 1, _, by rw [show ((n - 1 : Nat) : Int) = (n : Int) - 1 by omega]; rfl, rfl, by omega, fun j hj => ?_, ?_⟩
            · by_cases hj2 : j = n - 1
              · rw [hj2]; exact z
              · exact hz j (by omega)
            · rcases hq with q | q | q
              · exact .inl (by omega)
              · omega
              · exact absurd z q
          · exact ⟨n, _, rfl, rfl, hn, hz, .inr (.inr fun z => hb (decide_eq_true (by rw [z])))⟩
      · have h0 : n = 0 := by
          by_cases z : n = 0
          · exact z
          · exact absurd (decide_eq_true (show (0 : Int) < (n : Int) by omega)) hc
        exact ⟨n, _, rfl, rfl, hn, hz, .inr (.inl h0)⟩
    · rintro σ' H' ⟨n, x, rfl, rfl, hn, hz, hq⟩
      have hq' : n = 0 ∨ ns.getD (n - 1) 0 ≠ 0 := by
        rcases hq with q | q
        · exact .inl (by omega)
        · exact q
      exact ⟨_, rfl, _, rfl, n, rfl, a, _, rfl, hS, fun p hp => ⟨p, _, rfl, .inl ⟨SqL.of upd_same, fun l hl => out_take (take_trim hn hz hq') k hp hl⟩⟩⟩
abbrev s_raw_plus : Stmt := topS 32
theorem sc_raw_plus : FnScope (["one", "other", "prime", "longer", "shorter", "rests", "place", "rest"] : List Str) ["one", "other", "prime"] (defScope s_raw_plus) := ⟨rfl, rfl, rfl, by decide +kernel, rfl, by decide +kernel, by decide +kernel⟩
theorem ok_raw_plus {f : Addr} {fd : FuncData} (F : FunD K "raw_plus" "raw_plus" (defArgs s_raw_plus) (defBody s_raw_plus) (defScope s_raw_plus) [] [] f fd) (T : Fre mg) (o_trimmed : Own P w K mg base CX0 1 "trimmed" ["rests"] [] (spTrim K)) : FnOk P w K mg base CX0 2 f fd ["one", "other", "prime"] (spPlus K) := by
  refine F.ok sc_raw_plus (fun vs H Q E h => ?_) (fun cdv A outer s H vs Q E hr h => ?_)
  · obtain ⟨a, b, xs, ys, p, rfl, _⟩ := h
    rfl
  · obtain ⟨a, b, xs, ys, p, rfl, hA, hB, la, lb, rA, rB, hp, k⟩ := h
    refine ⟨_, PSs.nox (C8.pss_cut (ps_asg (pe_ifExp (pt_cmpR op_ge (pe_callB call_len_seq (by rfl) T.f_len PySem.boot_len (pa_cons (pv 0) pa_nil)) (pe_callB call_len_seq (by rfl) T.f_len PySem.boot_len (pa_cons (pv 1) pa_nil)) (nomark _)) (pe_tup (pa_cons (pv 0) (pa_cons (pv 1) pa_nil))) (pe_tup (pa_cons (pv 1) (pa_cons (pv 0) pa_nil)))) (pg_tup rfl (pgs_cons (pg_name (i := 3) sc_raw_plus.nd rfl (Or.inl rfl)) (pgs_cons (pg_name (i := 4) sc_raw_plus.nd rfl (Or.inl rfl)) pgs_nil))))
      (pss_cons (ps_set (i := 5) sc_raw_plus.nd rfl (Or.inl rfl) (pe_callTy call_list_of (by rfl) T.f_list (by decide +kernel) (pa_cons (pv 3) pa_nil)))
      (pss_cons (ps_for PassesOwn.never rfl (pi_enT (by rfl) T.f_enumerate (pa_cons (pv 4) pa_nil)) (pg_tup rfl (pgs_cons (pg_name (i := 6) sc_raw_plus.nd rfl (Or.inl rfl)) (pgs_cons (pg_name (i := 7) sc_raw_plus.nd rfl (Or.inl rfl)) pgs_nil))) (pss_one (ps_asg (pe_op op_modN (pe_op op_add (pe_ix ix_list (pv 5) (pv 6) (fun _ _ => rfl)) (pv 7)) (pv 2)) (pg_sub (pv 5) (pv 6) set_list))))
      (pss_one (ps_ret (pe_own o_trimmed (hr.mono (by decide)) rfl pass0 (pa_cons (pv 5) pa_nil))))))) , ?_⟩
    refine ⟨fun σ' H' => ∃ (c d : Addr) (us ws : List Int), σ' = [some (.ref a), some (.ref b), some (.int p), some (.ref c), some (.ref d), none, none, none] ∧ Same H H' ∧ SqT K H' c (us.map V.int) ∧ SqT K H' d (ws.map V.int) ∧ us.length ≤ 100 ∧ ws.length ≤ us.length ∧ us.length = max xs.length ys.length ∧ Rs p us ∧ ∀ j, us.getD j 0 + ws.getD j 0 = xs.getD j 0 + ys.getD j 0, ?_, ?_⟩
    · refine ⟨_, rfl, _, _, rfl, .inr hA, _, rfl, _, _, rfl, .inr hB, _, _, rfl, rfl, _, rfl, ite2 (fun hc => ?_) (fun hc => ?_)⟩
      · have z := of_decide_eq_true hc
        rw [List.length_map, List.length_map] at z
        refine ⟨_, rfl, _, rfl, (by show 2 ≤ sizeLine; decide), fun t ht => ⟨t, _, rfl, .inl (.inl upd_same), rfl, _, _, rfl, _, _, rfl, rfl, a, b, xs, ys, rfl, same_upd ht, sameT (same_upd ht) hA, sameT (same_upd ht) hB, la, by omega, by omega, rA, fun j => rfl⟩⟩
      · have z : ¬ ((ys.map V.int).length : Int) ≤ ((xs.map V.int).length : Int) := fun z => hc (decide_eq_true z)
        rw [List.length_map, List.length_map] at z
        refine ⟨_, rfl, _, rfl, (by show 2 ≤ sizeLine; decide), fun t ht => ⟨t, _, rfl, .inl (.inl upd_same), rfl, _, _, rfl, _, _, rfl, rfl, b, a, ys, xs, rfl, same_upd ht, sameT (same_upd ht) hB, sameT (same_upd ht) hA, lb, by omega, by omega, rB, fun j => Int.add_comm _ _⟩⟩
    · rintro σ' H' ⟨c, d, us, ws, rfl, s1, hC, hD, lu, lw, lm, rU, ev⟩
      refine ⟨_, rfl, c, _, rfl, .inr hC, fun q hq => ?_⟩
      have nz : p ≠ 0 := by have := hp.lo; omega
      refine ⟨_, rfl, d, _, rfl, sameT (same_upd hq) hD, ?_⟩
      refine for_it (walk_enT (xs := ws.map V.int)) (fun i σ' H2 => ∃ (ms : List Int) (x y : Option V), σ' = [some (.ref a), some (.ref b), some (.int p), some (.ref c), some (.ref d), some (.ref q), x, y] ∧ Same H' H2 ∧ H2 q = some (.lst (ms.map V.int)) ∧ ms.length = us.length ∧ ∀ j, ms.getD j 0 = if j < i then (us.getD j 0 + ws.getD j 0).fmod p else us.getD j 0)
        ⟨us, none, none, rfl, same_upd hq, upd_same, rfl, fun j => (if_neg (Nat.not_lt_zero j)).symm⟩ (fun i σ' H2 _ ⟨_, _, _, _, s2, _⟩ => sameT s2 hD) ?_ ?_
      · rintro i x σ' H2 H3 hi ⟨ms, x0, y0, rfl, s2, eq, lms, cf⟩ ⟨T, u, v, rfl, hT, rfl, e1, e2⟩
        cases e1
        rw [List.length_map] at hi
        have e3 := (map_at ws i hi).symm.trans e2
        cases e3
        have hqT : q ≠ T := ne_of_none eq hT
        have eq2 : L2.upd H2 T (.tup [.int (i : Nat), .int (ws.getD i 0)]) q = some (.lst (ms.map V.int)) := by rw [upd_ne hqT]; exact eq
        have ei := cf i
        rw [if_neg (Nat.lt_irrefl i)] at ei
        refine ⟨T, _, rfl, .inl (.inl upd_same), rfl, _, _, rfl, _, _, rfl, rfl, ?_⟩
        refine ⟨_, rfl, _, rfl, q, _, (i : Int), .int (ms.getD i 0), rfl, rfl, SqL.of eq2, atI_nat (map_at ms i (by omega)), _, rfl, _, _, rfl, rfl, _, rfl, _, _, rfl, rfl, nz, _, rfl, _, rfl, q, _, _, i, rfl, rfl, eq2, ixN_nat (by rw [List.length_map]; omega), ?_⟩
        refine ⟨ms.set i ((ms.getD i 0 + ws.getD i 0).fmod p), _, _, rfl, lcs hq (s2.trans (same_upd hT)), ?_, by rw [List.length_set]; exact lms, fun j => ?_⟩
        · rw [upd_same, List.map_set]
        · rw [getD_set (by omega)]
          by_cases hj : j = i
          · rw [if_pos hj, if_pos (by omega), hj, ei]
          · rw [if_neg hj, cf j]
            by_cases hj2 : j < i
            · rw [if_pos hj2, if_pos (by omega)]
            · rw [if_neg hj2, if_neg (by omega)]
      · rintro σ' H2 ⟨ms, x0, y0, rfl, s2, eq, lms, cf⟩
        rw [List.length_map] at cf
        refine ⟨_, rfl, q, _, rfl, SqL.of eq, by omega, (k _ (is_trim (fun j => ?_) (by omega))).same (s1.trans s2)⟩
        rw [cf j, ← ev j]
        by_cases hj : j < ws.length
        · rw [if_pos hj]
        · rw [if_neg hj, getD_over (Nat.le_of_not_lt hj), Int.add_zero]
          exact (fm_id (rU j).1 (rU j).2).symm
end
end Xk
end
section
set_option Elab.async false
set_option linter.all false
set_option maxRecDepth 100000
set_option maxHeartbeats 4000000
namespace Xk
open PySem PySem.Spec PyProof.Rows L2 Xh LamX
/-! ### what the law of rests has of its own -/
def spBad : Sp := fun vs H Q _ => ∃ d : Addr, vs = [.ref d] ∧ Draw H d ∧ ∀ (m : Int) (H' : Hp), m ∉ primes → Draw H' d → But d H H' → Q (.int m) H'
def spFar : Sp := fun vs H Q _ => ∃ (d : Addr) (p : Int), vs = [.ref d, .int p] ∧ Draw H d ∧ p ∈ primes ∧ ∀ (m : Int) (H' : Hp), ¬ (0 ≤ m ∧ m < p) → Draw H' d → But d H H' → Q (.int m) H'
/-- the rests that undo N by P -/
def bks (N P i : Nat) : List Nat := (List.range i).filter fun j => (j + 1) * N % P == 1
def bk (N P : Nat) : Nat := (bks N P (P - 1)).headD 0 + 1
def spBack : Sp := fun vs H Q _ => ∃ N P : Nat, vs = [.int N, .int P] ∧ 2 ≤ P ∧ P ≤ 1000 ∧ bks N P (P - 1) ≠ [] ∧ ∀ H', Same H H' → Q (.int (bk N P)) H'
theorem odd_primes : ∀ m ∈ primes, m = 2 ∨ m % 2 = 1 := by decide
theorem prime_bounds : ∀ q ∈ primes, 2 ≤ q ∧ q ≤ 97 := by decide
section
variable {P : Program} {w : World} {K : PySem.W.Frag} {mg : Str → Option Value} {base : Heap}
abbrev s_law_bad_prime : Stmt := topS 106
theorem sc_law_bad_prime : FnScope (["_law_draw"] : List Str) ["_law_draw"] (defScope s_law_bad_prime) := ⟨rfl, rfl, rfl, by decide +kernel, rfl, by decide +kernel, by decide +kernel⟩
theorem ok_bad {f : Addr} {fd : FuncData} (F : FunD K "_law_bad_prime" "_law_bad_prime" (defArgs s_law_bad_prime) (defBody s_law_bad_prime) (defScope s_law_bad_prime) [] [] f fd) (o_law_take : Own P w K mg base CX0 1 "_law_take" ["_law_draw", "_law_sides"] [] spTake) (o_law_of : Own P w K mg base CX0 2 "_law_of" ["_law_draw", "_law_row"] [] (spOf K)) : FnOk P w K mg base CX0 3 f fd ["_law_draw"] spBad := by
  refine F.ok sc_law_bad_prime (fun vs H Q E h => ?_) (fun cdv A outer s H vs Q E hr h => ?_)
  · obtain ⟨d, rfl, _⟩ := h
    rfl
  · obtain ⟨d, rfl, D, k⟩ := h
    refine ⟨_, PSs.nox (pss_one (ps_ret (pe_own o_law_of (hr.mono (by decide)) rfl pass0 (pa_cons (pv 0) (pa_cons (pe_lst (pa_cons pe_int (pa_cons pe_int (pa_cons pe_int (pa_cons pe_int (pa_cons pe_int (pa_cons pe_int (pa_cons (pe_un un_neg pe_int) (pa_cons (pe_un un_neg pe_int) (pa_cons (pe_op op_pow pe_int pe_int) (pa_cons (pe_op op_add pe_int (pe_op op_mul pe_int (pe_own o_law_take (hr.mono (by decide)) rfl pass0 (pa_cons (pv 0) (pa_cons (pe_op op_pow pe_int pe_int) pa_nil))))) pa_nil))))))))))) pa_nil))))) , ?_⟩
    refine ⟨_, rfl, _, rfl, _, rfl, _, _, rfl, rfl, ⟨by decide, by decide, by decide⟩, _, rfl, _, _, rfl, rfl, ⟨by decide, by decide, by decide⟩, d, _, rfl, D, by decide, by decide, fun m H1 m0 m1 D1 B1 => ?_⟩
    refine ⟨_, _, rfl, rfl, .inl ⟨by decide, by decide⟩, _, _, rfl, rfl, (by show 10 ≤ sizeLine; decide), fun p hp => ?_⟩
    refine ⟨d, p, _, rfl, D1.same (same_upd hp), SqL.of upd_same, D1.ne hp, (by show 0 < 10; decide), (by show 10 ≤ 1000; decide), fun x H2 hx D2 B2 => ?_⟩
    have hk : ∀ n : Int, n ∉ primes → Q (.int n) H2 := fun n hn => k n H2 hn D2 ((B1.trans (But.same (same_upd hp))).trans B2)
    have he : (4 + 2 * m : Int) ∉ primes := fun z => by
      rcases odd_primes _ z with h | h <;> omega
    simp only [List.mem_cons, List.not_mem_nil, or_false] at hx
    rcases hx with rfl | rfl | rfl | rfl | rfl | rfl | rfl | rfl | rfl | rfl
    all_goals first
      | exact hk _ (by decide)
      | exact hk _ he
abbrev s_law_far : Stmt := topS 107
theorem sc_law_far : FnScope (["_law_draw", "_law_p"] : List Str) ["_law_draw", "_law_p"] (defScope s_law_far) := ⟨rfl, rfl, rfl, by decide +kernel, rfl, by decide +kernel, by decide +kernel⟩
theorem ok_far {f : Addr} {fd : FuncData} (F : FunD K "_law_far" "_law_far" (defArgs s_law_far) (defBody s_law_far) (defScope s_law_far) [] [] f fd) (o_law_take : Own P w K mg base CX0 1 "_law_take" ["_law_draw", "_law_sides"] [] spTake) (o_law_of : Own P w K mg base CX0 2 "_law_of" ["_law_draw", "_law_row"] [] (spOf K)) : FnOk P w K mg base CX0 3 f fd ["_law_draw", "_law_p"] spFar := by
  refine F.ok sc_law_far (fun vs H Q E h => ?_) (fun cdv A outer s H vs Q E hr h => ?_)
  · obtain ⟨d, p, rfl, _⟩ := h
    rfl
  · obtain ⟨d, q, rfl, D, hq, k⟩ := h
    obtain ⟨q2, q97⟩ := prime_bounds q hq
    refine ⟨_, PSs.nox (pss_one (ps_ret (pe_own o_law_of (hr.mono (by decide)) rfl pass0 (pa_cons (pv 0) (pa_cons (pe_lst (pa_cons (pv 1) (pa_cons (pe_un un_neg pe_int) (pa_cons (pe_op op_pow pe_int pe_int) (pa_cons (pe_op op_add (pv 1) (pe_own o_law_take (hr.mono (by decide)) rfl pass0 (pa_cons (pv 0) (pa_cons (pe_op op_pow pe_int pe_int) pa_nil)))) (pa_cons (pe_un un_neg (pv 1)) pa_nil)))))) pa_nil))))) , ?_⟩
    refine ⟨_, rfl, _, rfl, _, rfl, _, _, rfl, rfl, ⟨by decide, by decide, by decide⟩, _, rfl, _, rfl, _, _, rfl, rfl, ⟨by decide, by decide, by decide⟩, d, _, rfl, D, by decide, by decide, fun m H1 m0 m1 D1 B1 => ?_⟩
    refine ⟨_, _, rfl, rfl, _, rfl, _, rfl, (by show 5 ≤ sizeLine; decide), fun p hp => ?_⟩
    refine ⟨d, p, _, rfl, D1.same (same_upd hp), SqL.of upd_same, D1.ne hp, (by show 0 < 5; decide), (by show 5 ≤ 1000; decide), fun x H2 hx D2 B2 => ?_⟩
    have hk : ∀ n : Int, ¬ (0 ≤ n ∧ n < q) → Q (.int n) H2 := fun n hn => k n H2 hn D2 ((B1.trans (But.same (same_upd hp))).trans B2)
    simp only [List.mem_cons, List.not_mem_nil, or_false] at hx
    have big : (97 : Int) < (10 : Int) ^ Int.toNat 20 := by decide
    rcases hx with rfl | rfl | rfl | rfl | rfl
    · exact hk _ (by omega)
    · exact hk _ (by omega)
    · exact hk _ (by omega)
    · exact hk _ (by show ¬ (0 ≤ q + m ∧ q + m < q); omega)
    · exact hk _ (by omega)
end 
end Xk
end
section
set_option Elab.async false
set_option linter.all false
set_option maxRecDepth 100000
set_option maxHeartbeats 4000000
namespace Xk
open PySem PySem.Spec PyProof.Rows L2 Xh LamX
theorem atI_back (n : Int) (ns : List Int) : atI ((n :: ns).map V.int) (-1) = some (.int ((n :: ns).getD ns.length 0)) := by
  unfold atI ixN
  rw [List.length_map, List.length_cons, if_neg (by decide), if_pos (by omega)]
  show ((n :: ns).map V.int)[((-1 : Int) + ((ns.length + 1 : Nat) : Int)).toNat]? = _
  rw [show ((-1 : Int) + ((ns.length + 1 : Nat) : Int)).toNat = ns.length by omega]
  exact map_at (n :: ns) ns.length (by rw [List.length_cons]; omega)
theorem dp_ints {K : PySem.W.Frag} {H : Hp} : ∀ ns : List Int, DpAll K H (ns.map V.int) (ns.map PyData.int)
  | [] => .nil
  | n :: ns => .cons (.int n) (dp_ints ns)
theorem dp_tup {K : PySem.W.Frag} {H : Hp} {a : Addr} {ns : List Int} (h : SqT K H a (ns.map V.int)) : Dp K H (.ref a) (.tuple (ns.map PyData.int)) := .tup h (dp_ints ns)
theorem eqv_nil (ns : List Int) : PyData.eqv (PyData.tuple (ns.map PyData.int)) (PyData.tuple (([] : List Int).map PyData.int)) = decide (ns = []) := by
  cases ns with
  | nil => rfl
  | cons n ns => rfl
theorem sh_ints (ns : List Int) : SeqAt.shaped (PyData.tuple (ns.map PyData.int)) = true := by
  simp [SeqAt.shaped, PyData.canLay0, PyData.depth, PySem.W.ke_canLayAll0, PySem.W.ke_depthAll]
theorem pm_all : ∀ p ∈ primes, 2 ≤ p ∧ p ≤ 1000 := by decide
theorem pm_of {p : Int} (h : p ∈ primes) : Pm p := ⟨(pm_all p h).1, (pm_all p h).2⟩
structure Pol (K : PySem.W.Frag) (H : Hp) (a : Addr) (p : Int) (ns : List Int) : Prop where
  at_ : SqT K H a (ns.map V.int)
  len : ns.length ≤ 25
  rs : Rs p ns
  tr : trim ns = ns
theorem Pol.same {H H' : Hp} {K : PySem.W.Frag} {a : Addr} {p : Int} {ns : List Int} (x : Pol K H a p ns) (s : Same H H') : Pol K H' a p ns := ⟨sameT s x.at_, x.len, x.rs, x.tr⟩
theorem Ex.same {H H1 : Hp} {E : XK} {C : Addr} {nm : Str} (x : Ex H E C nm) (s : Same H H1) : Ex H1 E C nm := fun d H' a b c => x d H' (s.trans a) b (s.free c)
def okR (p n : Int) : Bool := decide (0 ≤ n ∧ n < p)
/-- whether it is a polynomial by p -/
def polyB (p : Int) (ns : List Int) : Bool := decide (ns.length ≤ 25) && ((ns.map (okR p)).all id && (decide (ns = []) || !decide (ns.getD (ns.length - 1) 0 = 0)))
def spIsPolyG (K : PySem.W.Frag) : Sp := fun vs H Q _ => ∃ (a : Addr) (ns : List Int) (p : Int), vs = [.ref a, .int p] ∧ SqT K H a (ns.map V.int) ∧ ns.length ≤ 100 ∧ ∀ H', Same H H' → Q (.bl (polyB p ns)) H'
def spRefG (K : PySem.W.Frag) (C : Fin 14 → Addr) : Sp := fun vs H Q E => ∃ (c : Addr) (al : List (Addr × List Int)) (p : Int), vs = [.ref c, .int p] ∧ SqT K H c (al.map fun x => V.ref x.1) ∧ (∀ x ∈ al, SqT K H x.1 (x.2.map V.int) ∧ x.2.length ≤ 100) ∧
  (p ∉ primes → Ex H E (C 0) "BadPrime") ∧ (p ∈ primes → (∃ x ∈ al, polyB p x.2 = false) → Ex H E (C 1) "BadPoly") ∧ (p ∈ primes → (∀ x ∈ al, polyB p x.2 = true) → ∀ H', Same H H' → Q .non H')
section
variable {P : Program} {w : World} {K : PySem.W.Frag} {mg : Str → Option Value} {base : Heap}
abbrev s_is_poly : Stmt := topS 49
theorem sc_is_poly : FnScope (["told", "prime", "rest"] : List Str) ["told", "prime"] (defScope s_is_poly) := ⟨rfl, rfl, rfl, by decide +kernel, rfl, by decide +kernel, by decide +kernel⟩
theorem ok_is_poly {f : Addr} {fd : FuncData} (F : FunD K "is_poly" "is_poly" (defArgs s_is_poly) (defBody s_is_poly) (defScope s_is_poly) [] [] f fd) (T : Fre mg) (mM : ∃ t, mg "MOST_RESTS" = some (.int 25 t)) (o_is_rest : Own P w K mg base CX0 2 "is_rest" ["told", "prime"] [] spIsRest) : FnOk P w K mg base CX0 3 f fd ["told", "prime"] (spIsPolyG K) := by
  obtain ⟨tM, mM⟩ := mM
  refine F.ok sc_is_poly (fun vs H Q E h => ?_) (fun cdv A outer s H vs Q E hr h => ?_)
  · obtain ⟨a, ns, p, rfl, _⟩ := h
    rfl
  · obtain ⟨a, ns, p, rfl, hS, hl, k⟩ := h
    refine ⟨_, PSs.nox (pss_cons (ps_if (PW.pt (pw_or (pt_not (pt_val (pe_callB call_isi (by rfl) T.f_isinstance (by decide +kernel) (pa_cons (pv 0) (pa_cons (pe_bltn (v := .ty "tuple") rfl T.f_tuple boot_tuple rfl) pa_nil))))) (pw_or1 (pt_cmpR op_gt (pe_callB call_len_seq (by rfl) T.f_len PySem.boot_len (pa_cons (pv 0) pa_nil)) (pe_glob (v := .int 25) rfl mM ⟨_, rfl⟩) (nomark _))))) (pss_one (ps_ret pe_bl)) pss_nil)
      (pss_cons (ps_if (pt_not (pt_val (pe_callB (cr_all rfl) (by rfl) T.f_all (by decide +kernel) (pa_cons (pe_lc (own := [("rest", 2)]) rfl sc_is_poly.nd (pi_tup (pv 0)) (blkOk_by (own := [("rest", 2)]) (N := ["told", "prime", "rest"]) (sc := defScope s_is_poly) (by decide +kernel)) (fun _ _ _ _ _ => pg_name (i := 2) sc_is_poly.nd rfl (Or.inl rfl) (Or.inr rfl)) (fun _ _ _ _ _ => pts_nil) (fun _ _ _ _ _ => (pe_own o_is_rest (hr.mono (by decide)) rfl pass0 (pa_cons (pv 2) (pa_cons (pv 1) pa_nil))))) pa_nil)))) (pss_one (ps_ret pe_bl)) pss_nil)
      (pss_one (ps_ret (pe_or (pe_cmpR (op_eqD hr.units) (pv 0) (pe_tup pa_nil) (nomark _)) (pe_one (pe_cmpR op_ne (pe_ix ix_tup (pv 0) (pe_un un_neg pe_int) (fun _ _ => rfl)) pe_int (nomark _)))))))) , ?_⟩
    refine ⟨_, rfl, .ref a, _, _, _, true, rfl, .ty _, tyT hS, kit_ty (by decide +kernel), _, rfl, iteF ?_⟩
    refine ⟨_, rfl, _, _, rfl, .inr hS, _, _, rfl, rfl, _, rfl, ?_⟩
    rw [List.length_map]
    by_cases h25 : ns.length ≤ 25
    case neg =>
      rw [show decide ((25 : Int) < (ns.length : Int)) = true from decide_eq_true (by omega)]
      refine iteT ?_
      have e : polyB p ns = false := by
        unfold polyB
        rw [decide_eq_false h25, Bool.false_and]
      rw [← e]
      exact k H (Same.refl H)
    rw [show decide ((25 : Int) < (ns.length : Int)) = false from decide_eq_false (by omega)]
    refine iteF ?_
    refine ⟨_, rfl, a, rfl, ⟨_, hS⟩, fun D hD => ?_⟩
    refine lc_it (walk_tup (xs := ns.map V.int)) (fun i H1 => Same H H1 ∧ H1 D = some (.lst (((ns.take i).map (okR p)).map V.bl)) ∧ i ≤ ns.length) ⟨same_upd hD, upd_same, Nat.zero_le _⟩ (fun i H1 _ h => sameT h.1 hS) ?_ ?_
    · rintro i x H1 H2 hi ⟨s1, e1, _⟩ ⟨rfl, hx⟩
      rw [List.length_map] at hi
      have e3 := (map_at ns i hi).symm.trans hx
      cases e3
      refine ⟨rfl, _, rfl, _, rfl, _, _, rfl, _, e1, ?_, lcs hD s1, ?_, hi⟩
      · rw [List.length_map, List.length_map, List.length_take]
        exact small1000 (by omega)
      · rw [upd_same, List.take_add_one, List.getElem?_eq_getElem hi, List.map_append, List.map_append]
        have eg : ns.getD i 0 = ns[i] := by rw [List.getD_eq_getElem?_getD, List.getElem?_eq_getElem hi]; rfl
        rw [eg]
        rfl
    · rintro H1 ⟨s1, e1, _⟩
      rw [List.length_map] at e1
      rw [List.take_of_length_le (Nat.le_refl _)] at e1
      refine ⟨D, _, rfl, SqL.of e1, _, rfl, ?_⟩
      by_cases hall : (ns.map (okR p)).all id = true
      case neg =>
        have hf : (ns.map (okR p)).all id = false := by simpa using hall
        rw [hf]
        refine iteT ?_
        have e : polyB p ns = false := by
          unfold polyB
          rw [hf, Bool.false_and, Bool.and_false]
        rw [← e]
        exact k _ s1
      rw [hall]
      refine iteF ⟨_, rfl, (by show 0 ≤ sizeLine; decide), fun t ht => ⟨_, _, dp_tup (sameT (s1.trans (same_upd ht)) hS), dp_tup (ns := []) (.inl (.inl upd_same)), sh_ints ns, rfl, ?_⟩⟩
      have e : polyB p ns = (decide (ns = []) || !decide (ns.getD (ns.length - 1) 0 = 0)) := by
        unfold polyB
        rw [hall, decide_eq_true h25, Bool.true_and, Bool.true_and]
      rw [e] at k
      cases ns with
      | nil => exact ⟨_, rfl, iteT (k _ (s1.trans (same_upd ht)))⟩
      | cons n ns =>
        refine ⟨_, rfl, iteF ⟨_, rfl, _, rfl, a, _, _, .int ((n :: ns).getD ns.length 0), rfl, rfl, sameT (s1.trans (same_upd ht)) hS, ?_, ?_⟩⟩
        · exact atI_back n ns
        · refine ⟨rfl, ?_⟩
          have e2 : (!decide (V.int ((n :: ns).getD ns.length 0) = V.int 0)) = (decide ((n :: ns) = []) || !decide ((n :: ns).getD ((n :: ns).length - 1) 0 = 0)) := by
            rw [decide_eq_false (show ¬ (n :: ns) = [] from fun z => by cases z), Bool.false_or, List.length_cons, Nat.add_sub_cancel]
            by_cases z : (n :: ns).getD ns.length 0 = 0
            · rw [decide_eq_true z, decide_eq_true (by rw [z])]
            · rw [decide_eq_false z, decide_eq_false (fun y => z (V.int.inj y))]
          rw [e2]
          exact k _ (s1.trans (same_upd ht))
abbrev s_refuse_polys : Stmt := topS 50
theorem sc_refuse_polys : FnScope (["polys", "prime", "poly"] : List Str) ["polys", "prime"] (defScope s_refuse_polys) := ⟨rfl, rfl, rfl, by decide +kernel, rfl, by decide +kernel, by decide +kernel⟩
theorem ok_refuse_polys {f fI : Addr} {C : Fin 14 → Addr} {fd : FuncData} (F : FunD K "refuse_polys" "refuse_polys" (defArgs s_refuse_polys) (defBody s_refuse_polys) (defScope s_refuse_polys) [] [] f fd) (o_refuse_prime : Own P w K mg base (L2.CX P w) 3 "refuse_prime" ["prime"] [] (spRefP (C 0)))
    (o_is_poly : Own P w K mg base CX0 3 "is_poly" ["told", "prime"] [] (spIsPolyG K)) (xP : RX K mg (C 1) fI "BadPoly") (o_init : FnR P w K mg base (L2.CX P w) 1 fI (spRI1 K)) : FnOk P w K mg base (L2.CX P w) 4 f fd ["polys", "prime"] (spRefG K C) := by
  refine F.ok sc_refuse_polys (fun vs H Q E h => ?_) (fun cdv A outer s H vs Q E hr h => ?_)
  · obtain ⟨c, rs, p, rfl, _⟩ := h
    rfl
  · obtain ⟨c, al, p, rfl, hS, hA, k0, k1, k2⟩ := h
    refine ⟨_, (pss_cons (ps_expr (pe_own o_refuse_prime (hr.mono (by decide)) rfl (passes_call (takes_of rfl rfl rfl rfl) (fun _ _ _ _ h => h)) (pa_cons (pv 1) pa_nil)))
      (pss_one (ps_for (passes_of rfl) rfl (pi_tup (pv 0)) (pg_name (i := 2) sc_refuse_polys.nd rfl (Or.inl rfl)) (pss_one (ps_if (pt_not (pt_val (pe_own o_is_poly (hr.mono (by decide)) rfl pass0 (pa_cons (pv 2) (pa_cons (pv 1) pa_nil))))) (pss_one (ps_raise rfl (takes_of rfl rfl rfl rfl) (pmk_rung xP o_init (hr.mono (by decide)) rfl))) pss_nil))))) , ?_⟩
    refine ⟨_, rfl, p, rfl, fun hp => ?_, k0⟩
    refine ⟨_, rfl, c, rfl, ⟨_, hS⟩, ?_⟩
    refine for_it (walk_tup (xs := al.map fun x : Addr × List Int => V.ref x.1)) (fun i σ' H2 => ∃ x : Option V, σ' = [some (.ref c), some (.int p), x] ∧ Same H H2 ∧ ∀ j x, j < i → al[j]? = some x → polyB p x.2 = true) ⟨none, rfl, fun _ _ h => h, fun j x hj => absurd hj (Nat.not_lt_zero _)⟩ (fun i σ' H2 _ ⟨_, _, s2, _⟩ => sameT s2 hS) ?_ ?_
    · rintro i x σ' H2 H3 hi ⟨x0, rfl, s2, good⟩ ⟨rfl, hx⟩
      rw [List.length_map] at hi
      rw [List.getElem?_map, List.getElem?_eq_getElem hi] at hx
      cases hx
      have mem := List.getElem_mem hi
      obtain ⟨q1, q2⟩ := hA _ mem
      refine ⟨_, rfl, _, rfl, al[i].1, al[i].2, p, rfl, sameT s2 q1, q2, fun H4 s4 => ⟨_, rfl, ?_⟩⟩
      cases hb : polyB p al[i].2 with
      | true => exact iteF ⟨_, rfl, s2.trans s4, fun j x hj hx => by
          rcases Nat.lt_succ_iff_lt_or_eq.mp hj with z | z
          · exact good j x z hx
          · rw [z, List.getElem?_eq_getElem hi] at hx
            cases hx
            exact hb⟩
      | false => exact iteT fun d H' a b c => ((k1 hp ⟨_, mem, hb⟩).same (s2.trans s4)) d H' a b c
    · rintro σ' H2 ⟨x, rfl, s2, good⟩
      rw [List.length_map] at good
      refine k2 hp (fun x hx => ?_) _ s2
      obtain ⟨j, hj, e⟩ := List.mem_iff_getElem.mp hx
      exact good j x hj (by rw [List.getElem?_eq_getElem hj, e])
end
end Xk
end
section
set_option Elab.async false
set_option linter.all false
set_option maxRecDepth 100000
set_option maxHeartbeats 4000000
namespace Xk
open PySem PySem.Spec PyProof.Rows L2 Xh LamX
theorem Draw.updL {H : Hp} {d p : Addr} {ms : List Int} (D : Draw H d) (h : p ≠ d) : Draw (L2.upd H p (.lst (ms.map V.int))) d := by
  obtain ⟨c, ns, i, r, g, h1, h2, h3⟩ := D
  by_cases hc : c = p
  · exact ⟨c, ms, i, r, g, by rw [upd_ne (Ne.symm h)]; exact h1, by rw [hc, upd_same], h3⟩
  · exact ⟨c, ns, i, r, g, by rw [upd_ne (Ne.symm h)]; exact h1, by rw [upd_ne hc]; exact h2, h3⟩
theorem But.lcs {H H2 : Hp} {d D : Addr} {o : HO} (hD : H D = none) (b : But d H H2) : But d H (L2.upd H2 D o) := fun c u h e => by
  rw [upd_ne (ne_of_none e hD)]
  exact b c u h e
theorem Rs.nil (p : Int) (h : 0 < p) : Rs p [] := fun j => ⟨Int.le_refl _, h⟩
theorem Rs.add {p x : Int} {ms : List Int} (r : Rs p ms) (h0 : 0 ≤ x) (h1 : x < p) : Rs p (ms ++ [x]) := fun j => by
  rw [List.getD_eq_getElem?_getD, List.getElem?_append]
  split
  · have z := r j
    rw [List.getD_eq_getElem?_getD] at z
    exact z
  · cases e : j - ms.length with
    | zero => exact ⟨h0, h1⟩
    | succ n => exact ⟨Int.le_refl _, show (0 : Int) < p by omega⟩
/-- a new list of rests, drawn -/
def NewL (H : Hp) (d : Addr) (p : Int) (n : Nat) (Q : VK) : Prop := ∀ (ms : List Int) (a : Addr) (H' : Hp), ms.length ≤ n → Rs p ms → Draw H' d → But d H H' → H' a = some (.lst (ms.map V.int)) → a ≠ d → H a = none → Q (.ref a) H'
def spRestsD : Sp := fun vs H Q _ => ∃ (d : Addr) (n : Nat) (p : Int), vs = [.ref d, .int n, .int p] ∧ Draw H d ∧ n ≤ 100 ∧ Pm p ∧ NewL H d p n Q
def spPolyD (K : PySem.W.Frag) : Sp := fun vs H Q _ => ∃ (d : Addr) (n : Nat) (p : Int), vs = [.ref d, .int n, .int p] ∧ Draw H d ∧ n ≤ 25 ∧ Pm p ∧ ∀ (ms : List Int) (a : Addr) (H' : Hp), Draw H' d → But d H H' → Pol K H' a p ms → ms.length ≤ n → a ≠ d → H a = none → H' a = some (.tup (ms.map V.int)) → Q (.ref a) H'
theorem natAbs_small {p : Int} (h : Pm p) : p.natAbs < 2 ^ 200 := big (by have := h.lo; have := h.hi; omega)
section
variable {P : Program} {w : World} {K : PySem.W.Frag} {mg : Str → Option Value} {base : Heap}
abbrev s_law_rests : Stmt := topS 109
theorem sc_law_rests : FnScope (["_law_draw", "_law_many", "_law_p", "_law_k"] : List Str) ["_law_draw", "_law_many", "_law_p"] (defScope s_law_rests) := ⟨rfl, rfl, rfl, by decide +kernel, rfl, by decide +kernel, by decide +kernel⟩
theorem ok_law_rests {f : Addr} {fd : FuncData} (F : FunD K "_law_rests" "_law_rests" (defArgs s_law_rests) (defBody s_law_rests) (defScope s_law_rests) [] [] f fd) (T : Fre mg) (o_law_take : Own P w K mg base CX0 1 "_law_take" ["_law_draw", "_law_sides"] [] spTake) : FnOk P w K mg base CX0 2 f fd ["_law_draw", "_law_many", "_law_p"] spRestsD := by
  refine F.ok sc_law_rests (fun vs H Q E h => ?_) (fun cdv A outer s H vs Q E hr h => ?_)
  · obtain ⟨d, n, p, rfl, _⟩ := h
    rfl
  · obtain ⟨d, n, p, rfl, Dr, hn, hp, k⟩ := h
    refine ⟨_, PSs.nox (pss_one (ps_ret (pe_lc (own := [("_law_k", 3)]) rfl sc_law_rests.nd (pi_range1 (by rfl) T.f_range (pa_cons (pv 1) pa_nil)) (blkOk_by (own := [("_law_k", 3)]) (N := ["_law_draw", "_law_many", "_law_p", "_law_k"]) (sc := defScope s_law_rests) (by decide +kernel)) (fun _ _ _ _ _ => pg_name (i := 3) sc_law_rests.nd rfl (Or.inl rfl) (Or.inr rfl)) (fun _ _ _ _ _ => pts_nil) (fun _ _ _ _ _ => (pe_own o_law_take (hr.mono (by decide)) rfl pass0 (pa_cons (pv 0) (pa_cons (pv 2) pa_nil))))))) , ?_⟩
    refine ⟨_, rfl, (n : Int), rfl, by omega, by omega, fun D hD => ?_⟩
    rw [Int.toNat_natCast]
    have hDd : D ≠ d := Dr.ne hD
    refine lc_range (lo := 0) (n := n) (fun i H1 => ∃ ms : List Int, H1 D = some (.lst (ms.map V.int)) ∧ ms.length = i ∧ Rs p ms ∧ Draw H1 d ∧ But d H H1) ⟨[], upd_same, rfl, Rs.nil p hp.pos, Dr.same (same_upd hD), But.updN hD⟩ ?_ ?_
    · rintro i H1 hi ⟨ms, e1, l1, r1, D1, B1⟩
      have lo := hp.lo
      refine ⟨rfl, _, rfl, _, rfl, d, p, rfl, D1, by omega, natAbs_small hp, fun m H2 m0 m1 D2 B2 => ⟨_, B2 _ _ hDd e1, ?_, ms ++ [m], ?_, ?_, r1.add m0 m1, ?_, But.lcs hD (B1.trans B2)⟩⟩
      · rw [List.length_map]
        exact small1000 (by omega)
      · rw [upd_same, List.map_append]
        rfl
      · rw [List.length_append, l1]
        rfl
      · have z := D2.updL (p := D) (ms := ms ++ [m]) hDd
        rw [List.map_append] at z
        exact z
    · rintro H1 ⟨ms, e1, l1, r1, D1, B1⟩
      exact k ms D H1 (by omega) r1 D1 B1 e1 hDd hD
abbrev s_law_poly : Stmt := topS 110
theorem sc_law_poly : FnScope (["_law_draw", "_law_most", "_law_p", "_law_found", "_law_number"] : List Str) ["_law_draw", "_law_most", "_law_p"] (defScope s_law_poly) := ⟨rfl, rfl, rfl, by decide +kernel, rfl, by decide +kernel, by decide +kernel⟩
theorem ok_law_poly {f : Addr} {fd : FuncData} (F : FunD K "_law_poly" "_law_poly" (defArgs s_law_poly) (defBody s_law_poly) (defScope s_law_poly) [] [] f fd) (T : Fre mg) (o_law_take : Own P w K mg base CX0 1 "_law_take" ["_law_draw", "_law_sides"] [] spTake) (o_law_rests : Own P w K mg base CX0 2 "_law_rests" ["_law_draw", "_law_many", "_law_p"] [] spRestsD) (o_law_trim : Own P w K mg base CX0 1 "_law_trim" ["_law_numbers"] [] (spTrim K)) : FnOk P w K mg base CX0 3 f fd ["_law_draw", "_law_most", "_law_p"] (spPolyD K) := by
  refine F.ok sc_law_poly (fun vs H Q E h => ?_) (fun cdv A outer s H vs Q E hr h => ?_)
  · obtain ⟨d, n, p, rfl, _⟩ := h
    rfl
  · obtain ⟨d, n, p, rfl, Dr, hn, hp, k⟩ := h
    have lo := hp.lo
    have hi := hp.hi
    refine ⟨_, PSs.nox (pss_cons (ps_set (i := 3) sc_law_poly.nd rfl (Or.inl rfl) (pe_own o_law_rests (hr.mono (by decide)) rfl pass0 (pa_cons (pv 0) (pa_cons (pe_own o_law_take (hr.mono (by decide)) rfl pass0 (pa_cons (pv 0) (pa_cons (pe_op op_add (pv 1) pe_int) pa_nil))) (pa_cons (pv 2) pa_nil)))))
      (C8.pss_cut (ps_if (pt_cmpR op_eq (pe_own o_law_take (hr.mono (by decide)) rfl pass0 (pa_cons (pv 0) (pa_cons pe_int pa_nil))) pe_int (nomark _)) (pss_one (ps_setLc (i := 3) (own := [("_law_number", 4)]) rfl sc_law_poly.nd rfl rfl (sw_true rfl rfl rfl (by decide +kernel)) (pi_list (pv 3)) (blkOk_by (own := [("_law_number", 4)]) (N := ["_law_draw", "_law_most", "_law_p", "_law_found", "_law_number"]) (sc := defScope s_law_poly) (by decide +kernel)) (fun _ _ _ _ _ => pg_name (i := 4) sc_law_poly.nd rfl (Or.inl rfl) (Or.inr rfl)) (fun _ _ _ _ _ => pts_nil) (fun _ _ _ _ _ => (pe_op op_mul (pv 4) (pe_callTy call_int1 (by rfl) T.f_int (by decide +kernel) (pa_cons (pe_cmpR op_eq (pe_own o_law_take (hr.mono (by decide)) rfl pass0 (pa_cons (pv 0) (pa_cons pe_int pa_nil))) pe_int (nomark _)) pa_nil)))))) pss_nil)
      (pss_one (ps_ret (pe_own o_law_trim (hr.mono (by decide)) rfl pass0 (pa_cons (pv 3) pa_nil)))))) , ?_⟩
    refine ⟨_, rfl, _, rfl, _, rfl, _, _, rfl, rfl, d, (n : Int) + 1, rfl, Dr, by omega, big (by omega), fun m H1 m0 m1 D1 B1 => ?_⟩
    obtain ⟨j, rfl⟩ := Int.eq_ofNat_of_zero_le m0
    refine ⟨_, rfl, d, j, p, rfl, D1, by omega, hp, fun ms b H2 lm rm D2 B2 e2 hbd nb => ?_⟩
    refine ⟨fun σ' H' => ∃ (ms : List Int) (b : Addr), σ' = [some (.ref d), some (.int n), some (.int p), some (.ref b), none] ∧ ms.length ≤ n ∧ Rs p ms ∧ Draw H' d ∧ But d H H' ∧ H' b = some (.lst (ms.map V.int)) ∧ b ≠ d ∧ H b = none, ?_, ?_⟩
    · refine ⟨_, rfl, d, 4, rfl, D2, by decide, by decide, fun m2 H3 _ _ D3 B3 => ?_⟩
      have e3 := B3 _ _ hbd e2
      have nb0 : H b = none := B1.free nb hbd
      refine ⟨rfl, _, rfl, ite2 (fun hc => ?_) (fun hc => ?_)⟩
      · refine ⟨_, rfl, b, rfl, ⟨_, SqL.of e3⟩, fun D hD => ?_⟩
        have hDd : D ≠ d := D3.ne hD
        have B0 : But d H H3 := (B1.trans B2).trans B3
        refine lc_it (walk_list (xs := ms.map V.int)) (fun i H4 => ∃ ws : List Int, H4 D = some (.lst (ws.map V.int)) ∧ ws.length = i ∧ Rs p ws ∧ Draw H4 d ∧ But d H3 H4) ⟨[], upd_same, rfl, Rs.nil p hp.pos, D3.same (same_upd hD), But.updN hD⟩ (fun i H4 _ ⟨_, _, _, _, _, B4⟩ => SqL.of (B4 _ _ hbd e3)) ?_ ?_
        · rintro i x H4 H5 hi2 ⟨ws, e4, l4, r4, D4, B4⟩ ⟨rfl, hx⟩
          rw [List.length_map] at hi2
          have e5 := (map_at ms i hi2).symm.trans hx
          cases e5
          obtain ⟨x0, x1⟩ := rm i
          refine ⟨rfl, _, rfl, _, rfl, d, 3, rfl, D4, by decide, by decide, fun m3 H6 _ _ D6 B6 => ⟨rfl, .inr ⟨_, rfl, _, _, rfl, rfl, ?_, _, B6 _ _ hDd e4, ?_, ws ++ [ms.getD i 0 * (if decide (V.int m3 = V.int 0) = true then 1 else 0)], ?_, ?_, r4.add ?_ ?_, ?_, But.lcs hD (B4.trans B6)⟩⟩⟩
          · exact .inl ⟨by omega, by omega⟩
          · rw [List.length_map]
            exact small1000 (by omega)
          · rw [upd_same, List.map_append]
            rfl
          · rw [List.length_append, l4]
            rfl
          · split <;> omega
          · split <;> omega
          · have z := D6.updL (p := D) (ms := ws ++ [ms.getD i 0 * (if decide (V.int m3 = V.int 0) = true then 1 else 0)]) hDd
            rw [List.map_append] at z
            exact z
        · rintro H4 ⟨ws, e4, l4, r4, D4, B4⟩
          rw [List.length_map] at l4
          exact ⟨ws, D, rfl, by omega, r4, D4, B0.trans B4, e4, hDd, B0.free hD hDd⟩
      · exact ⟨ms, b, rfl, by omega, rm, D3, (B1.trans B2).trans B3, e3, hbd, nb0⟩
    · rintro σ' H3 ⟨ms, b, rfl, lm, rm, D3, B3, e3, hbd, nb⟩
      refine ⟨_, rfl, b, ms, rfl, SqL.of e3, by omega, fun t H4 s4 ht e4 => ?_⟩
      exact k (trim ms) t H4 (D3.same s4) (B3.trans (But.same s4)) ⟨.inl (.inl e4), Nat.le_trans (Nat.le_trans (trim_length _) lm) hn, fun j => by rw [trim_getD]; exact rm j, trim_trim _⟩ (Nat.le_trans (trim_length _) lm) (D3.ne ht) (B3.free ht (D3.ne ht)) e4
end
end Xk
end
section
set_option Elab.async false
set_option linter.all false
set_option maxRecDepth 100000
set_option maxHeartbeats 4000000
namespace Xk
open PySem PySem.Spec PyProof.Rows L2 Xh LamX
open NdefX
/-! ### doors that refuse -/
/-- the tuple of rests at x.1 -/
def At (K : PySem.W.Frag) (H : Hp) (x : Addr × List Int) : Prop := SqT K H x.1 (x.2.map V.int) ∧ x.2.length ≤ 100
theorem At.same {K : PySem.W.Frag} {H H' : Hp} {x : Addr × List Int} (a : At K H x) (s : Same H H') : At K H' x := ⟨sameT s a.1, a.2⟩
/-- the prime is bad, or else something -/
def Bd (C : Fin 14 → Addr) (H : Hp) (E : XK) (p : Int) (bad : Prop) : Prop := (p ∉ primes ∧ Ex H E (C 0) "BadPrime") ∨ (p ∈ primes ∧ bad ∧ Ex H E (C 1) "BadPoly")
theorem Bd.same {C : Fin 14 → Addr} {H H' : Hp} {E : XK} {p : Int} {bad : Prop} (x : Bd C H E p bad) (s : Same H H') : Bd C H' E p bad := by
  rcases x with ⟨h, x⟩ | ⟨h, b, x⟩
  · exact .inl ⟨h, x.same s⟩
  · exact .inr ⟨h, b, x.same s⟩
theorem Bd.imp {C : Fin 14 → Addr} {H : Hp} {E : XK} {p : Int} {bad bad' : Prop} (x : Bd C H E p bad) (f : bad → bad') : Bd C H E p bad' := by
  rcases x with ⟨h, x⟩ | ⟨h, b, x⟩
  · exact .inl ⟨h, x⟩
  · exact .inr ⟨h, f b, x⟩
def Door (K : PySem.W.Frag) (C : Fin 14 → Addr) (H : Hp) (E : XK) (al : List (Addr × List Int)) (p : Int) : Prop := (∀ x ∈ al, At K H x) ∧ Bd C H E p (∃ x ∈ al, polyB p x.2 = false)
theorem door_of {K : PySem.W.Frag} {C : Fin 14 → Addr} {H : Hp} {E : XK} {al : List (Addr × List Int)} {p : Int} {b : Addr} {ns : List Int} (h : ∀ x ∈ al, At K H x) (bd : Bd C H E p (polyB p ns = false)) (m : (b, ns) ∈ al) : Door K C H E al p := ⟨h, bd.imp fun z => ⟨_, m, z⟩⟩
theorem Door.ref {K : PySem.W.Frag} {C : Fin 14 → Addr} {H : Hp} {E : XK} {al : List (Addr × List Int)} {p : Int} {c : Addr} (d : Door K C H E al p) (hc : H c = none) : (∀ x ∈ al, SqT K (L2.upd H c (.tup (al.map fun x => V.ref x.1))) x.1 (x.2.map V.int) ∧ x.2.length ≤ 100) ∧
    (p ∉ primes → Ex (L2.upd H c (.tup (al.map fun x => V.ref x.1))) E (C 0) "BadPrime") ∧ (p ∈ primes → (∃ x ∈ al, polyB p x.2 = false) → Ex (L2.upd H c (.tup (al.map fun x => V.ref x.1))) E (C 1) "BadPoly") ∧ (p ∈ primes → ¬ ∀ x ∈ al, polyB p x.2 = true) := by
  have s := same_upd (o := .tup (al.map fun x => V.ref x.1)) hc
  obtain ⟨h, bd⟩ := d
  refine ⟨fun x hx => (h x hx).same s, ?_⟩
  rcases bd with ⟨np, x⟩ | ⟨hp, ⟨x, hx, hb⟩, e⟩
  · exact ⟨fun _ => x.same s, fun z => absurd z np, fun z => absurd z np⟩
  · exact ⟨fun z => absurd hp z, fun _ _ => e.same s, fun _ g => by rw [g x hx] at hb; cases hb⟩
theorem pssNo {X : Cx} {r : List Stmt} : PSs X r (fun _ _ _ => False) := ⟨fun _ _ _ _ _ _ h => h.elim⟩
def spNP (K : PySem.W.Frag) (C : Fin 14 → Addr) : Sp := fun vs H _ E => ∃ (a : Addr) (ns : List Int) (p : Int), vs = [.ref a, .int p] ∧ SqT K H a (ns.map V.int) ∧ ns.length ≤ 100 ∧ Bd C H E p (polyB p ns = false ∨ ns = [])
def spLow (K : PySem.W.Frag) (C : Fin 14 → Addr) : Sp := fun vs H _ E => ∃ (a : Addr) (ns : List Int) (p : Int), vs = [.ref a, .int p] ∧ SqT K H a (ns.map V.int) ∧ ns.length ≤ 100 ∧ Bd C H E p (polyB p ns = false ∨ ns.length < 2)
theorem spNP.any {K : PySem.W.Frag} {C : Fin 14 → Addr} {vs : List V} {H : Hp} {Q Q' : VK} {E : XK} (h : spNP K C vs H Q E) : spNP K C vs H Q' E := h
theorem spLow.any {K : PySem.W.Frag} {C : Fin 14 → Addr} {vs : List V} {H : Hp} {Q Q' : VK} {E : XK} (h : spLow K C vs H Q E) : spLow K C vs H Q' E := h
theorem NewP.imp {H : Hp} {f g : Nat → Int} {n m : Nat} {Q : VK} (k : NewP H g m Q) (h : ∀ j, f j = g j) (l : n ≤ m) : NewP H f n Q := fun ms x => k ms ⟨fun j => by rw [x.at_, h], x.tr, Nat.le_trans x.len l⟩
def spRead (C : Fin 14 → Addr) : Sp := fun vs H _ E => ∃ (x : V) (p : Int), vs = [x, .int p] ∧ p ∉ primes ∧ Ex H E (C 0) "BadPrime"
def spPlusG (K : PySem.W.Frag) : Sp := fun vs H Q _ => ∃ (a b : Addr) (xs ys : List Int) (p : Int), vs = [.ref a, .ref b, .int p] ∧ p ∈ primes ∧ At K H (a, xs) ∧ At K H (b, ys) ∧ polyB p xs = true ∧ polyB p ys = true ∧ Rs p xs ∧ Rs p ys ∧ NewP H (fun j => (xs.getD j 0 + ys.getD j 0).fmod p) 200 Q
def sp_poly_plus (K : PySem.W.Frag) (C : Fin 14 → Addr) : Sp := fun vs H _ E => ∃ (x0 : Addr × List Int) (x1 : Addr × List Int) (p : Int), vs = [.ref x0.1, .ref x1.1, .int p] ∧ Door K C H E [x0, x1] p
def sp_poly_minus (K : PySem.W.Frag) (C : Fin 14 → Addr) : Sp := fun vs H _ E => ∃ (x0 : Addr × List Int) (x1 : Addr × List Int) (p : Int), vs = [.ref x0.1, .ref x1.1, .int p] ∧ Door K C H E [x0, x1] p
def sp_poly_times (K : PySem.W.Frag) (C : Fin 14 → Addr) : Sp := fun vs H _ E => ∃ (x0 : Addr × List Int) (x1 : Addr × List Int) (p : Int), vs = [.ref x0.1, .ref x1.1, .int p] ∧ Door K C H E [x0, x1] p
def sp_poly_parted (K : PySem.W.Frag) (C : Fin 14 → Addr) : Sp := fun vs H _ E => ∃ (x0 : Addr × List Int) (x1 : Addr × List Int) (p : Int), vs = [.ref x0.1, .ref x1.1, .int p] ∧ Door K C H E [x0, x1] p
def sp_poly_common (K : PySem.W.Frag) (C : Fin 14 → Addr) : Sp := fun vs H _ E => ∃ (x0 : Addr × List Int) (x1 : Addr × List Int) (p : Int), vs = [.ref x0.1, .ref x1.1, .int p] ∧ Door K C H E [x0, x1] p
def sp_poly_value (K : PySem.W.Frag) (C : Fin 14 → Addr) : Sp := fun vs H _ E => ∃ (x0 : Addr × List Int) (x1 : V) (p : Int), vs = [.ref x0.1, x1, .int p] ∧ Door K C H E [x0] p
def sp_poly_put (K : PySem.W.Frag) (C : Fin 14 → Addr) : Sp := fun vs H _ E => ∃ (x0 : Addr × List Int) (x1 : Addr × List Int) (x2 : Addr × List Int) (p : Int), vs = [.ref x0.1, .ref x1.1, .ref x2.1, .int p] ∧ Door K C H E [x0, x1, x2] p
def sp_poly_left (K : PySem.W.Frag) (C : Fin 14 → Addr) : Sp := fun vs H _ E => ∃ (x0 : Addr × List Int) (x1 : V) (x2 : Addr × List Int) (p : Int), vs = [.ref x0.1, x1, .ref x2.1, .int p] ∧ Door K C H E [x0, x2] p
def sp_poly_slope (K : PySem.W.Frag) (C : Fin 14 → Addr) : Sp := fun vs H _ E => ∃ (x0 : Addr × List Int) (p : Int), vs = [.ref x0.1, .int p] ∧ Door K C H E [x0] p
def sp_poly_text (K : PySem.W.Frag) (C : Fin 14 → Addr) : Sp := fun vs H _ E => ∃ (x0 : Addr × List Int) (p : Int), vs = [.ref x0.1, .int p] ∧ Door K C H E [x0] p
def sp_is_whole (K : PySem.W.Frag) (C : Fin 14 → Addr) : Sp := fun vs H _ E => ∃ (x0 : Addr × List Int) (p : Int), vs = [.ref x0.1, .int p] ∧ Door K C H E [x0] p
def sp_parts (K : PySem.W.Frag) (C : Fin 14 → Addr) : Sp := fun vs H Q E => ∃ (x0 : Addr × List Int) (p : Int), vs = [.ref x0.1, .int p] ∧ spNP K C [.ref x0.1, .int p] H Q E
def sp_rest_roots (K : PySem.W.Frag) (C : Fin 14 → Addr) : Sp := fun vs H Q E => ∃ (x0 : Addr × List Int) (p : Int), vs = [.ref x0.1, .int p] ∧ spNP K C [.ref x0.1, .int p] H Q E
def sp_paper (K : PySem.W.Frag) (C : Fin 14 → Addr) : Sp := fun vs H Q E => ∃ (x0 : Addr × List Int) (p : Int), vs = [.ref x0.1, .int p] ∧ spLow K C [.ref x0.1, .int p] H Q E
def sp_paper_holds (K : PySem.W.Frag) (C : Fin 14 → Addr) : Sp := fun vs H Q E => ∃ (x0 : Addr × List Int) (x1 : V) (p : Int), vs = [.ref x0.1, x1, .int p] ∧ spLow K C [.ref x0.1, .int p] H Q E

section
variable {P : Program} {w : World} {K : PySem.W.Frag} {C : Fin 14 → Addr} {mg : Str → Option Value} {base : Heap}
abbrev s_refuse_nought_poly : Stmt := topS 76
theorem sc_refuse_nought_poly : FnScope (["poly", "prime"] : List Str) ["poly", "prime"] (defScope s_refuse_nought_poly) := ⟨rfl, rfl, rfl, by decide +kernel, rfl, by decide +kernel, by decide +kernel⟩
theorem d_refuse_nought_poly {f fI : Addr} {fd : FuncData} (F : FunD K "refuse_nought_poly" "refuse_nought_poly" (defArgs s_refuse_nought_poly) (defBody s_refuse_nought_poly) (defScope s_refuse_nought_poly) [] [] f fd) (o_refuse_polys : Own P w K mg base (L2.CX P w) 4 "refuse_polys" ["polys", "prime"] [] (spRefG K C)) (xP : RX K mg (C 1) fI "BadPoly") (o_init : FnR P w K mg base (L2.CX P w) 1 fI (spRI1 K)) : FnOk P w K mg base (L2.CX P w) 5 f fd ["poly", "prime"] (spNP K C) := by
  refine F.ok sc_refuse_nought_poly (fun vs H Q E h => ?_) (fun cdv A outer s H vs Q E hr h => ?_)
  · obtain ⟨a, ns, p, rfl, _⟩ := h
    rfl
  · obtain ⟨a, ns, p, rfl, hS, hl, bd⟩ := h
    refine ⟨_, (pss_cons (ps_expr (pe_own o_refuse_polys (hr.mono (by decide)) rfl (passes_call (takes_of rfl rfl rfl rfl) (fun _ _ _ _ h => h)) (pa_cons (pe_tup (pa_cons (pv 0) pa_nil)) (pa_cons (pv 1) pa_nil))))
      (pss_one (ps_if (pt_cmpR (op_eqD hr.units) (pv 0) (pe_tup pa_nil) (nomark _)) (pss_one (ps_raise rfl (takes_of rfl rfl rfl rfl) (pmk_rung xP o_init (hr.mono (by decide)) rfl))) pss_nil))) , ?_⟩
    refine ⟨_, rfl, (by show 1 ≤ sizeLine; decide), fun c hc => ⟨_, rfl, ?_⟩⟩
    have s1 := same_upd (o := .tup [.ref a]) hc
    rcases bd with ⟨np, x⟩ | ⟨hp, hb, e⟩
    · obtain ⟨a2, a3, a4, a5⟩ := Door.ref (al := [(a, ns)]) (E := E) (C := C) (p := p) ⟨fun x hx => by rw [List.mem_singleton.mp hx]; exact ⟨hS, hl⟩, .inl ⟨np, x⟩⟩ hc
      exact ⟨c, [(a, ns)], p, rfl, .inl (.inl upd_same), a2, a3, a4, fun z g => (a5 z g).elim⟩
    · refine ⟨c, [(a, ns)], p, rfl, .inl (.inl upd_same), fun x hx => by rw [List.mem_singleton.mp hx]; exact ⟨sameT s1 hS, hl⟩, fun z => absurd hp z, fun _ _ => e.same s1, fun _ good H1 s2 => ?_⟩
      have hn : ns = [] := by
        rcases hb with hb | hb
        · have z := good (a, ns) (List.mem_singleton.mpr rfl)
          rw [hb] at z
          cases z
        · exact hb
      subst hn
      have s3 := s1.trans s2
      refine ⟨_, rfl, (by show 0 ≤ sizeLine; decide), fun t ht => ⟨_, _, dp_tup (sameT (s3.trans (same_upd ht)) hS), dp_tup (ns := []) (.inl (.inl upd_same)), sh_ints [], rfl, _, rfl, ?_⟩⟩
      rw [eqv_nil]
      exact iteT fun d H' a b c => (e.same (s3.trans (same_upd ht))) d H' a b c
abbrev s_refuse_low : Stmt := topS 90
theorem sc_refuse_low : FnScope (["poly", "prime"] : List Str) ["poly", "prime"] (defScope s_refuse_low) := ⟨rfl, rfl, rfl, by decide +kernel, rfl, by decide +kernel, by decide +kernel⟩
theorem d_refuse_low {f fI : Addr} {fd : FuncData} (F : FunD K "refuse_low" "refuse_low" (defArgs s_refuse_low) (defBody s_refuse_low) (defScope s_refuse_low) [] [] f fd) (T : Fre mg) (o_refuse_polys : Own P w K mg base (L2.CX P w) 4 "refuse_polys" ["polys", "prime"] [] (spRefG K C)) (xP : RX K mg (C 1) fI "BadPoly") (o_init : FnR P w K mg base (L2.CX P w) 1 fI (spRI1 K)) : FnOk P w K mg base (L2.CX P w) 5 f fd ["poly", "prime"] (spLow K C) := by
  refine F.ok sc_refuse_low (fun vs H Q E h => ?_) (fun cdv A outer s H vs Q E hr h => ?_)
  · obtain ⟨a, ns, p, rfl, _⟩ := h
    rfl
  · obtain ⟨a, ns, p, rfl, hS, hl, bd⟩ := h
    refine ⟨_, (pss_cons (ps_expr (pe_own o_refuse_polys (hr.mono (by decide)) rfl (passes_call (takes_of rfl rfl rfl rfl) (fun _ _ _ _ h => h)) (pa_cons (pe_tup (pa_cons (pv 0) pa_nil)) (pa_cons (pv 1) pa_nil))))
      (pss_one (ps_if (pt_cmpR op_lt (pe_callB call_len_seq (by rfl) T.f_len PySem.boot_len (pa_cons (pv 0) pa_nil)) pe_int (nomark _)) (pss_one (ps_raise rfl (takes_of rfl rfl rfl rfl) (pmk_rung xP o_init (hr.mono (by decide)) rfl))) pss_nil))) , ?_⟩
    refine ⟨_, rfl, (by show 1 ≤ sizeLine; decide), fun c hc => ⟨_, rfl, ?_⟩⟩
    have s1 := same_upd (o := .tup [.ref a]) hc
    rcases bd with ⟨np, x⟩ | ⟨hp, hb, e⟩
    · obtain ⟨a2, a3, a4, a5⟩ := Door.ref (al := [(a, ns)]) (E := E) (C := C) (p := p) ⟨fun x hx => by rw [List.mem_singleton.mp hx]; exact ⟨hS, hl⟩, .inl ⟨np, x⟩⟩ hc
      exact ⟨c, [(a, ns)], p, rfl, .inl (.inl upd_same), a2, a3, a4, fun z g => (a5 z g).elim⟩
    · refine ⟨c, [(a, ns)], p, rfl, .inl (.inl upd_same), fun x hx => by rw [List.mem_singleton.mp hx]; exact ⟨sameT s1 hS, hl⟩, fun z => absurd hp z, fun _ _ => e.same s1, fun _ good H1 s2 => ?_⟩
      have hn : ns.length < 2 := by
        rcases hb with hb | hb
        · have z := good (a, ns) (List.mem_singleton.mpr rfl)
          rw [hb] at z
          cases z
        · exact hb
      have s3 := s1.trans s2
      refine ⟨_, rfl, _, _, rfl, .inr (sameT s3 hS), _, _, rfl, rfl, _, rfl, ?_⟩
      rw [List.length_map, decide_eq_true (show (ns.length : Int) < 2 by omega)]
      exact iteT fun d H' a b c => (e.same s3) d H' a b c
abbrev s_poly_plus : Stmt := topS 52
theorem sc_poly_plus : FnScope (["one", "other", "prime"] : List Str) ["one", "other", "prime"] (defScope s_poly_plus) := ⟨rfl, rfl, rfl, by decide +kernel, rfl, by decide +kernel, by decide +kernel⟩
theorem ok_poly_plus {f : Addr} {fd : FuncData} {kws : List (Str × V)} (F : FunD K "poly_plus" "poly_plus" (defArgs s_poly_plus) (defBody s_poly_plus) (defScope s_poly_plus) [] kws f fd) (o_refuse_polys : Own P w K mg base (L2.CX P w) 4 "refuse_polys" ["polys", "prime"] [] (spRefG K C)) (o_raw_plus : Own P w K mg base CX0 2 "raw_plus" ["one", "other", "prime"] [] (spPlus K)) : FnOk P w K mg base (L2.CX P w) 5 f fd ["one", "other", "prime"] (spPlusG K) := by
  refine F.ok sc_poly_plus (fun vs H Q E h => ?_) (fun cdv A outer s H vs Q E hr h => ?_)
  · obtain ⟨a, b, xs, ys, p, rfl, _⟩ := h
    rfl
  · obtain ⟨a, b, xs, ys, p, rfl, hp, hA, hB, g1, g2, r1, r2, k⟩ := h
    obtain ⟨hA, l1⟩ := hA
    obtain ⟨hB, l2⟩ := hB
    have l1 : xs.length ≤ 100 := l1
    have l2 : ys.length ≤ 100 := l2
    refine ⟨_, (pss_cons (ps_expr (pe_own o_refuse_polys (hr.mono (by decide)) rfl (passes_call (takes_of rfl rfl rfl rfl) (fun _ _ _ _ h => h)) (pa_cons (pe_tup (pa_cons (pv 0) (pa_cons (pv 1) pa_nil))) (pa_cons (pv 2) pa_nil))))
      (pss_one (ps_ret (pe_own o_raw_plus (hr.mono (by decide)) rfl pass0 (pa_cons (pv 0) (pa_cons (pv 1) (pa_cons (pv 2) pa_nil))))))) , ?_⟩
    refine ⟨_, rfl, _, rfl, (by show 2 ≤ sizeLine; decide), fun c hc => ⟨_, rfl, c, [(a, xs), (b, ys)], p, rfl, SqT.of upd_same, ?_, fun z => absurd hp z, ?_, fun _ _ H1 s1 => ?_⟩⟩
    · intro x hx
      simp only [List.mem_cons, List.not_mem_nil, or_false] at hx
      rcases hx with rfl | rfl
      · exact ⟨sameT (same_upd hc) hA, l1⟩
      · exact ⟨sameT (same_upd hc) hB, l2⟩
    · rintro _ ⟨x, hx, hb⟩
      simp only [List.mem_cons, List.not_mem_nil, or_false] at hx
      rcases hx with rfl | rfl
      · rw [show polyB p xs = false from hb] at g1
        cases g1
      · rw [show polyB p ys = false from hb] at g2
        cases g2
    · have s2 := (same_upd hc).trans s1
      exact ⟨_, rfl, _, rfl, _, rfl, a, b, xs, ys, p, rfl, sameT s2 hA, sameT s2 hB, by omega, by omega, r1, r2, pm_of hp, (k.same s2).imp (fun _ => rfl) (by omega)⟩
theorem d_poly_plus {f : Addr} {fd : FuncData} {kws : List (Str × V)} (F : FunD K "poly_plus" "poly_plus" (defArgs s_poly_plus) (defBody s_poly_plus) (defScope s_poly_plus) [] kws f fd) (o_refuse_polys : Own P w K mg base (L2.CX P w) 4 "refuse_polys" ["polys", "prime"] [] (spRefG K C)) : FnOk P w K mg base (L2.CX P w) 5 f fd ["one", "other", "prime"] (sp_poly_plus K C) := by
  refine F.ok sc_poly_plus (fun vs H Q E h => ?_) (fun cdv A outer s H vs Q E hr h => ?_)
  · obtain ⟨x0, x1, p, rfl, _⟩ := h
    rfl
  · obtain ⟨x0, x1, p, rfl, d⟩ := h
    refine ⟨_, pss_cons (ps_expr (pe_own o_refuse_polys hr rfl (passes_call (takes_of rfl rfl rfl rfl) (fun _ _ _ _ h => h)) (pa_cons (pe_tup (pa_cons (pv 0) (pa_cons (pv 1) pa_nil))) (pa_cons (pv 2) pa_nil)))) pssNo, ?_⟩
    refine ⟨_, rfl, _, rfl, (by show 2 ≤ sizeLine; decide), fun c hc => ⟨_, rfl, ?_⟩⟩
    obtain ⟨a2, a3, a4, a5⟩ := d.ref hc
    exact ⟨c, _, p, rfl, .inl (.inl upd_same), a2, a3, a4, fun z g => (a5 z g).elim⟩
abbrev s_poly_minus : Stmt := topS 53
theorem sc_poly_minus : FnScope (["one", "other", "prime"] : List Str) ["one", "other", "prime"] (defScope s_poly_minus) := ⟨rfl, rfl, rfl, by decide +kernel, rfl, by decide +kernel, by decide +kernel⟩
theorem d_poly_minus {f : Addr} {fd : FuncData} {kws : List (Str × V)} (F : FunD K "poly_minus" "poly_minus" (defArgs s_poly_minus) (defBody s_poly_minus) (defScope s_poly_minus) [] kws f fd) (o_refuse_polys : Own P w K mg base (L2.CX P w) 4 "refuse_polys" ["polys", "prime"] [] (spRefG K C)) : FnOk P w K mg base (L2.CX P w) 5 f fd ["one", "other", "prime"] (sp_poly_minus K C) := by
  refine F.ok sc_poly_minus (fun vs H Q E h => ?_) (fun cdv A outer s H vs Q E hr h => ?_)
  · obtain ⟨x0, x1, p, rfl, _⟩ := h
    rfl
  · obtain ⟨x0, x1, p, rfl, d⟩ := h
    refine ⟨_, pss_cons (ps_expr (pe_own o_refuse_polys hr rfl (passes_call (takes_of rfl rfl rfl rfl) (fun _ _ _ _ h => h)) (pa_cons (pe_tup (pa_cons (pv 0) (pa_cons (pv 1) pa_nil))) (pa_cons (pv 2) pa_nil)))) pssNo, ?_⟩
    refine ⟨_, rfl, _, rfl, (by show 2 ≤ sizeLine; decide), fun c hc => ⟨_, rfl, ?_⟩⟩
    obtain ⟨a2, a3, a4, a5⟩ := d.ref hc
    exact ⟨c, _, p, rfl, .inl (.inl upd_same), a2, a3, a4, fun z g => (a5 z g).elim⟩
abbrev s_poly_times : Stmt := topS 54
theorem sc_poly_times : FnScope (["one", "other", "prime"] : List Str) ["one", "other", "prime"] (defScope s_poly_times) := ⟨rfl, rfl, rfl, by decide +kernel, rfl, by decide +kernel, by decide +kernel⟩
theorem d_poly_times {f : Addr} {fd : FuncData} {kws : List (Str × V)} (F : FunD K "poly_times" "poly_times" (defArgs s_poly_times) (defBody s_poly_times) (defScope s_poly_times) [] kws f fd) (o_refuse_polys : Own P w K mg base (L2.CX P w) 4 "refuse_polys" ["polys", "prime"] [] (spRefG K C)) : FnOk P w K mg base (L2.CX P w) 5 f fd ["one", "other", "prime"] (sp_poly_times K C) := by
  refine F.ok sc_poly_times (fun vs H Q E h => ?_) (fun cdv A outer s H vs Q E hr h => ?_)
  · obtain ⟨x0, x1, p, rfl, _⟩ := h
    rfl
  · obtain ⟨x0, x1, p, rfl, d⟩ := h
    refine ⟨_, pss_cons (ps_expr (pe_own o_refuse_polys hr rfl (passes_call (takes_of rfl rfl rfl rfl) (fun _ _ _ _ h => h)) (pa_cons (pe_tup (pa_cons (pv 0) (pa_cons (pv 1) pa_nil))) (pa_cons (pv 2) pa_nil)))) pssNo, ?_⟩
    refine ⟨_, rfl, _, rfl, (by show 2 ≤ sizeLine; decide), fun c hc => ⟨_, rfl, ?_⟩⟩
    obtain ⟨a2, a3, a4, a5⟩ := d.ref hc
    exact ⟨c, _, p, rfl, .inl (.inl upd_same), a2, a3, a4, fun z g => (a5 z g).elim⟩
abbrev s_poly_parted : Stmt := topS 55
theorem sc_poly_parted : FnScope (["one", "other", "prime"] : List Str) ["one", "other", "prime"] (defScope s_poly_parted) := ⟨rfl, rfl, rfl, by decide +kernel, rfl, by decide +kernel, by decide +kernel⟩
theorem d_poly_parted {f : Addr} {fd : FuncData} {kws : List (Str × V)} (F : FunD K "poly_parted" "poly_parted" (defArgs s_poly_parted) (defBody s_poly_parted) (defScope s_poly_parted) [] kws f fd) (o_refuse_polys : Own P w K mg base (L2.CX P w) 4 "refuse_polys" ["polys", "prime"] [] (spRefG K C)) : FnOk P w K mg base (L2.CX P w) 5 f fd ["one", "other", "prime"] (sp_poly_parted K C) := by
  refine F.ok sc_poly_parted (fun vs H Q E h => ?_) (fun cdv A outer s H vs Q E hr h => ?_)
  · obtain ⟨x0, x1, p, rfl, _⟩ := h
    rfl
  · obtain ⟨x0, x1, p, rfl, d⟩ := h
    refine ⟨_, pss_cons (ps_expr (pe_own o_refuse_polys hr rfl (passes_call (takes_of rfl rfl rfl rfl) (fun _ _ _ _ h => h)) (pa_cons (pe_tup (pa_cons (pv 0) (pa_cons (pv 1) pa_nil))) (pa_cons (pv 2) pa_nil)))) pssNo, ?_⟩
    refine ⟨_, rfl, _, rfl, (by show 2 ≤ sizeLine; decide), fun c hc => ⟨_, rfl, ?_⟩⟩
    obtain ⟨a2, a3, a4, a5⟩ := d.ref hc
    exact ⟨c, _, p, rfl, .inl (.inl upd_same), a2, a3, a4, fun z g => (a5 z g).elim⟩
abbrev s_poly_common : Stmt := topS 56
theorem sc_poly_common : FnScope (["one", "other", "prime"] : List Str) ["one", "other", "prime"] (defScope s_poly_common) := ⟨rfl, rfl, rfl, by decide +kernel, rfl, by decide +kernel, by decide +kernel⟩
theorem d_poly_common {f : Addr} {fd : FuncData} {kws : List (Str × V)} (F : FunD K "poly_common" "poly_common" (defArgs s_poly_common) (defBody s_poly_common) (defScope s_poly_common) [] kws f fd) (o_refuse_polys : Own P w K mg base (L2.CX P w) 4 "refuse_polys" ["polys", "prime"] [] (spRefG K C)) : FnOk P w K mg base (L2.CX P w) 5 f fd ["one", "other", "prime"] (sp_poly_common K C) := by
  refine F.ok sc_poly_common (fun vs H Q E h => ?_) (fun cdv A outer s H vs Q E hr h => ?_)
  · obtain ⟨x0, x1, p, rfl, _⟩ := h
    rfl
  · obtain ⟨x0, x1, p, rfl, d⟩ := h
    refine ⟨_, pss_cons (ps_expr (pe_own o_refuse_polys hr rfl (passes_call (takes_of rfl rfl rfl rfl) (fun _ _ _ _ h => h)) (pa_cons (pe_tup (pa_cons (pv 0) (pa_cons (pv 1) pa_nil))) (pa_cons (pv 2) pa_nil)))) pssNo, ?_⟩
    refine ⟨_, rfl, _, rfl, (by show 2 ≤ sizeLine; decide), fun c hc => ⟨_, rfl, ?_⟩⟩
    obtain ⟨a2, a3, a4, a5⟩ := d.ref hc
    exact ⟨c, _, p, rfl, .inl (.inl upd_same), a2, a3, a4, fun z g => (a5 z g).elim⟩
abbrev s_poly_value : Stmt := topS 57
theorem sc_poly_value : FnScope (["one", "number", "prime"] : List Str) ["one", "number", "prime"] (defScope s_poly_value) := ⟨rfl, rfl, rfl, by decide +kernel, rfl, by decide +kernel, by decide +kernel⟩
theorem d_poly_value {f : Addr} {fd : FuncData} {kws : List (Str × V)} (F : FunD K "poly_value" "poly_value" (defArgs s_poly_value) (defBody s_poly_value) (defScope s_poly_value) [] kws f fd) (o_refuse_polys : Own P w K mg base (L2.CX P w) 4 "refuse_polys" ["polys", "prime"] [] (spRefG K C)) : FnOk P w K mg base (L2.CX P w) 5 f fd ["one", "number", "prime"] (sp_poly_value K C) := by
  refine F.ok sc_poly_value (fun vs H Q E h => ?_) (fun cdv A outer s H vs Q E hr h => ?_)
  · obtain ⟨x0, x1, p, rfl, _⟩ := h
    rfl
  · obtain ⟨x0, x1, p, rfl, d⟩ := h
    refine ⟨_, pss_cons (ps_expr (pe_own o_refuse_polys hr rfl (passes_call (takes_of rfl rfl rfl rfl) (fun _ _ _ _ h => h)) (pa_cons (pe_tup (pa_cons (pv 0) pa_nil)) (pa_cons (pv 2) pa_nil)))) pssNo, ?_⟩
    refine ⟨_, rfl, (by show 1 ≤ sizeLine; decide), fun c hc => ⟨_, rfl, ?_⟩⟩
    obtain ⟨a2, a3, a4, a5⟩ := d.ref hc
    exact ⟨c, _, p, rfl, .inl (.inl upd_same), a2, a3, a4, fun z g => (a5 z g).elim⟩
abbrev s_poly_put : Stmt := topS 58
theorem sc_poly_put : FnScope (["one", "other", "rule", "prime"] : List Str) ["one", "other", "rule", "prime"] (defScope s_poly_put) := ⟨rfl, rfl, rfl, by decide +kernel, rfl, by decide +kernel, by decide +kernel⟩
theorem d_poly_put {f : Addr} {fd : FuncData} {kws : List (Str × V)} (F : FunD K "poly_put" "poly_put" (defArgs s_poly_put) (defBody s_poly_put) (defScope s_poly_put) [] kws f fd) (o_refuse_polys : Own P w K mg base (L2.CX P w) 4 "refuse_polys" ["polys", "prime"] [] (spRefG K C)) : FnOk P w K mg base (L2.CX P w) 5 f fd ["one", "other", "rule", "prime"] (sp_poly_put K C) := by
  refine F.ok sc_poly_put (fun vs H Q E h => ?_) (fun cdv A outer s H vs Q E hr h => ?_)
  · obtain ⟨x0, x1, x2, p, rfl, _⟩ := h
    rfl
  · obtain ⟨x0, x1, x2, p, rfl, d⟩ := h
    refine ⟨_, pss_cons (ps_expr (pe_own o_refuse_polys hr rfl (passes_call (takes_of rfl rfl rfl rfl) (fun _ _ _ _ h => h)) (pa_cons (pe_tup (pa_cons (pv 0) (pa_cons (pv 1) (pa_cons (pv 2) pa_nil)))) (pa_cons (pv 3) pa_nil)))) pssNo, ?_⟩
    refine ⟨_, rfl, _, rfl, _, rfl, (by show 3 ≤ sizeLine; decide), fun c hc => ⟨_, rfl, ?_⟩⟩
    obtain ⟨a2, a3, a4, a5⟩ := d.ref hc
    exact ⟨c, _, p, rfl, .inl (.inl upd_same), a2, a3, a4, fun z g => (a5 z g).elim⟩
abbrev s_poly_left : Stmt := topS 59
theorem sc_poly_left : FnScope (["one", "exponent", "rule", "prime"] : List Str) ["one", "exponent", "rule", "prime"] (defScope s_poly_left) := ⟨rfl, rfl, rfl, by decide +kernel, rfl, by decide +kernel, by decide +kernel⟩
theorem d_poly_left {f : Addr} {fd : FuncData} {kws : List (Str × V)} (F : FunD K "poly_left" "poly_left" (defArgs s_poly_left) (defBody s_poly_left) (defScope s_poly_left) [] kws f fd) (o_refuse_polys : Own P w K mg base (L2.CX P w) 4 "refuse_polys" ["polys", "prime"] [] (spRefG K C)) : FnOk P w K mg base (L2.CX P w) 5 f fd ["one", "exponent", "rule", "prime"] (sp_poly_left K C) := by
  refine F.ok sc_poly_left (fun vs H Q E h => ?_) (fun cdv A outer s H vs Q E hr h => ?_)
  · obtain ⟨x0, x1, x2, p, rfl, _⟩ := h
    rfl
  · obtain ⟨x0, x1, x2, p, rfl, d⟩ := h
    refine ⟨_, pss_cons (ps_expr (pe_own o_refuse_polys hr rfl (passes_call (takes_of rfl rfl rfl rfl) (fun _ _ _ _ h => h)) (pa_cons (pe_tup (pa_cons (pv 0) (pa_cons (pv 2) pa_nil))) (pa_cons (pv 3) pa_nil)))) pssNo, ?_⟩
    refine ⟨_, rfl, _, rfl, (by show 2 ≤ sizeLine; decide), fun c hc => ⟨_, rfl, ?_⟩⟩
    obtain ⟨a2, a3, a4, a5⟩ := d.ref hc
    exact ⟨c, _, p, rfl, .inl (.inl upd_same), a2, a3, a4, fun z g => (a5 z g).elim⟩
abbrev s_poly_slope : Stmt := topS 60
theorem sc_poly_slope : FnScope (["one", "prime"] : List Str) ["one", "prime"] (defScope s_poly_slope) := ⟨rfl, rfl, rfl, by decide +kernel, rfl, by decide +kernel, by decide +kernel⟩
theorem d_poly_slope {f : Addr} {fd : FuncData} {kws : List (Str × V)} (F : FunD K "poly_slope" "poly_slope" (defArgs s_poly_slope) (defBody s_poly_slope) (defScope s_poly_slope) [] kws f fd) (o_refuse_polys : Own P w K mg base (L2.CX P w) 4 "refuse_polys" ["polys", "prime"] [] (spRefG K C)) : FnOk P w K mg base (L2.CX P w) 5 f fd ["one", "prime"] (sp_poly_slope K C) := by
  refine F.ok sc_poly_slope (fun vs H Q E h => ?_) (fun cdv A outer s H vs Q E hr h => ?_)
  · obtain ⟨x0, p, rfl, _⟩ := h
    rfl
  · obtain ⟨x0, p, rfl, d⟩ := h
    refine ⟨_, pss_cons (ps_expr (pe_own o_refuse_polys hr rfl (passes_call (takes_of rfl rfl rfl rfl) (fun _ _ _ _ h => h)) (pa_cons (pe_tup (pa_cons (pv 0) pa_nil)) (pa_cons (pv 1) pa_nil)))) pssNo, ?_⟩
    refine ⟨_, rfl, (by show 1 ≤ sizeLine; decide), fun c hc => ⟨_, rfl, ?_⟩⟩
    obtain ⟨a2, a3, a4, a5⟩ := d.ref hc
    exact ⟨c, _, p, rfl, .inl (.inl upd_same), a2, a3, a4, fun z g => (a5 z g).elim⟩
abbrev s_poly_text : Stmt := topS 61
theorem sc_poly_text : FnScope (["one", "prime"] : List Str) ["one", "prime"] (defScope s_poly_text) := ⟨rfl, rfl, rfl, by decide +kernel, rfl, by decide +kernel, by decide +kernel⟩
theorem d_poly_text {f : Addr} {fd : FuncData} {kws : List (Str × V)} (F : FunD K "poly_text" "poly_text" (defArgs s_poly_text) (defBody s_poly_text) (defScope s_poly_text) [] kws f fd) (o_refuse_polys : Own P w K mg base (L2.CX P w) 4 "refuse_polys" ["polys", "prime"] [] (spRefG K C)) : FnOk P w K mg base (L2.CX P w) 5 f fd ["one", "prime"] (sp_poly_text K C) := by
  refine F.ok sc_poly_text (fun vs H Q E h => ?_) (fun cdv A outer s H vs Q E hr h => ?_)
  · obtain ⟨x0, p, rfl, _⟩ := h
    rfl
  · obtain ⟨x0, p, rfl, d⟩ := h
    refine ⟨_, pss_cons (ps_expr (pe_own o_refuse_polys hr rfl (passes_call (takes_of rfl rfl rfl rfl) (fun _ _ _ _ h => h)) (pa_cons (pe_tup (pa_cons (pv 0) pa_nil)) (pa_cons (pv 1) pa_nil)))) pssNo, ?_⟩
    refine ⟨_, rfl, (by show 1 ≤ sizeLine; decide), fun c hc => ⟨_, rfl, ?_⟩⟩
    obtain ⟨a2, a3, a4, a5⟩ := d.ref hc
    exact ⟨c, _, p, rfl, .inl (.inl upd_same), a2, a3, a4, fun z g => (a5 z g).elim⟩
abbrev s_is_whole : Stmt := topS 87
theorem sc_is_whole : FnScope (["poly", "prime"] : List Str) ["poly", "prime"] (defScope s_is_whole) := ⟨rfl, rfl, rfl, by decide +kernel, rfl, by decide +kernel, by decide +kernel⟩
theorem d_is_whole {f : Addr} {fd : FuncData} {kws : List (Str × V)} (F : FunD K "is_whole" "is_whole" (defArgs s_is_whole) (defBody s_is_whole) (defScope s_is_whole) [] kws f fd) (o_refuse_polys : Own P w K mg base (L2.CX P w) 4 "refuse_polys" ["polys", "prime"] [] (spRefG K C)) : FnOk P w K mg base (L2.CX P w) 5 f fd ["poly", "prime"] (sp_is_whole K C) := by
  refine F.ok sc_is_whole (fun vs H Q E h => ?_) (fun cdv A outer s H vs Q E hr h => ?_)
  · obtain ⟨x0, p, rfl, _⟩ := h
    rfl
  · obtain ⟨x0, p, rfl, d⟩ := h
    refine ⟨_, pss_cons (ps_expr (pe_own o_refuse_polys hr rfl (passes_call (takes_of rfl rfl rfl rfl) (fun _ _ _ _ h => h)) (pa_cons (pe_tup (pa_cons (pv 0) pa_nil)) (pa_cons (pv 1) pa_nil)))) pssNo, ?_⟩
    refine ⟨_, rfl, (by show 1 ≤ sizeLine; decide), fun c hc => ⟨_, rfl, ?_⟩⟩
    obtain ⟨a2, a3, a4, a5⟩ := d.ref hc
    exact ⟨c, _, p, rfl, .inl (.inl upd_same), a2, a3, a4, fun z g => (a5 z g).elim⟩
abbrev s_parts : Stmt := topS 74
theorem sc_parts : FnScope (["poly", "prime"] : List Str) ["poly", "prime"] (defScope s_parts) := ⟨rfl, rfl, rfl, by decide +kernel, rfl, by decide +kernel, by decide +kernel⟩
theorem d_parts {f : Addr} {fd : FuncData} {kws : List (Str × V)} (F : FunD K "parts" "parts" (defArgs s_parts) (defBody s_parts) (defScope s_parts) [] kws f fd) (o_refuse_nought_poly : Own P w K mg base (L2.CX P w) 5 "refuse_nought_poly" ["poly", "prime"] [] (spNP K C)) : FnOk P w K mg base (L2.CX P w) 6 f fd ["poly", "prime"] (sp_parts K C) := by
  refine F.ok sc_parts (fun vs H Q E h => ?_) (fun cdv A outer s H vs Q E hr h => ?_)
  · obtain ⟨x0, p, rfl, _⟩ := h
    rfl
  · obtain ⟨x0, p, rfl, d⟩ := h
    refine ⟨_, pss_cons (ps_expr (pe_own o_refuse_nought_poly hr rfl (passes_call (takes_of rfl rfl rfl rfl) (fun _ _ _ _ h => h)) (pa_cons (pv 0) (pa_cons (pv 1) pa_nil)))) pssNo, ?_⟩
    obtain ⟨a', ns', p', e1, e2, e3, e4⟩ := d
    exact ⟨_, rfl, _, rfl, a', ns', p', e1, e2, e3, e4⟩
abbrev s_rest_roots : Stmt := topS 75
theorem sc_rest_roots : FnScope (["poly", "prime", "told", "rest"] : List Str) ["poly", "prime"] (defScope s_rest_roots) := ⟨rfl, rfl, rfl, by decide +kernel, rfl, by decide +kernel, by decide +kernel⟩
theorem d_rest_roots {f : Addr} {fd : FuncData} {kws : List (Str × V)} (F : FunD K "rest_roots" "rest_roots" (defArgs s_rest_roots) (defBody s_rest_roots) (defScope s_rest_roots) [] kws f fd) (o_refuse_nought_poly : Own P w K mg base (L2.CX P w) 5 "refuse_nought_poly" ["poly", "prime"] [] (spNP K C)) : FnOk P w K mg base (L2.CX P w) 6 f fd ["poly", "prime"] (sp_rest_roots K C) := by
  refine F.ok sc_rest_roots (fun vs H Q E h => ?_) (fun cdv A outer s H vs Q E hr h => ?_)
  · obtain ⟨x0, p, rfl, _⟩ := h
    rfl
  · obtain ⟨x0, p, rfl, d⟩ := h
    refine ⟨_, pss_cons (ps_expr (pe_own o_refuse_nought_poly hr rfl (passes_call (takes_of rfl rfl rfl rfl) (fun _ _ _ _ h => h)) (pa_cons (pv 0) (pa_cons (pv 1) pa_nil)))) pssNo, ?_⟩
    obtain ⟨a', ns', p', e1, e2, e3, e4⟩ := d
    exact ⟨_, rfl, _, rfl, a', ns', p', e1, e2, e3, e4⟩
abbrev s_paper : Stmt := topS 88
theorem sc_paper : FnScope (["poly", "prime", "part", "turns", "shows", "less"] : List Str) ["poly", "prime"] (defScope s_paper) := ⟨rfl, rfl, rfl, by decide +kernel, rfl, by decide +kernel, by decide +kernel⟩
theorem d_paper {f : Addr} {fd : FuncData} {kws : List (Str × V)} (F : FunD K "paper" "paper" (defArgs s_paper) (defBody s_paper) (defScope s_paper) [] kws f fd) (o_refuse_low : Own P w K mg base (L2.CX P w) 5 "refuse_low" ["poly", "prime"] [] (spLow K C)) : FnOk P w K mg base (L2.CX P w) 6 f fd ["poly", "prime"] (sp_paper K C) := by
  refine F.ok sc_paper (fun vs H Q E h => ?_) (fun cdv A outer s H vs Q E hr h => ?_)
  · obtain ⟨x0, p, rfl, _⟩ := h
    rfl
  · obtain ⟨x0, p, rfl, d⟩ := h
    refine ⟨_, pss_cons (ps_expr (pe_own o_refuse_low hr rfl (passes_call (takes_of rfl rfl rfl rfl) (fun _ _ _ _ h => h)) (pa_cons (pv 0) (pa_cons (pv 1) pa_nil)))) pssNo, ?_⟩
    obtain ⟨a', ns', p', e1, e2, e3, e4⟩ := d
    exact ⟨_, rfl, _, rfl, a', ns', p', e1, e2, e3, e4⟩
abbrev s_paper_holds : Stmt := topS 89
theorem sc_paper_holds : FnScope (["poly", "told", "prime", "word", "one", "other"] : List Str) ["poly", "told", "prime"] (defScope s_paper_holds) := ⟨rfl, rfl, rfl, by decide +kernel, rfl, by decide +kernel, by decide +kernel⟩
theorem d_paper_holds {f : Addr} {fd : FuncData} {kws : List (Str × V)} (F : FunD K "paper_holds" "paper_holds" (defArgs s_paper_holds) (defBody s_paper_holds) (defScope s_paper_holds) [] kws f fd) (o_refuse_low : Own P w K mg base (L2.CX P w) 5 "refuse_low" ["poly", "prime"] [] (spLow K C)) : FnOk P w K mg base (L2.CX P w) 6 f fd ["poly", "told", "prime"] (sp_paper_holds K C) := by
  refine F.ok sc_paper_holds (fun vs H Q E h => ?_) (fun cdv A outer s H vs Q E hr h => ?_)
  · obtain ⟨x0, x1, p, rfl, _⟩ := h
    rfl
  · obtain ⟨x0, x1, p, rfl, d⟩ := h
    refine ⟨_, pss_cons (ps_expr (pe_own o_refuse_low hr rfl (passes_call (takes_of rfl rfl rfl rfl) (fun _ _ _ _ h => h)) (pa_cons (pv 0) (pa_cons (pv 2) pa_nil)))) pssNo, ?_⟩
    obtain ⟨a', ns', p', e1, e2, e3, e4⟩ := d
    exact ⟨_, rfl, _, rfl, a', ns', p', e1, e2, e3, e4⟩
abbrev s_read_poly : Stmt := topS 62
theorem sc_read_poly : FnScope (["text", "prime", "rests", "word", "rest", "power", "poly"] : List Str) ["text", "prime"] (defScope s_read_poly) := ⟨rfl, rfl, rfl, by decide +kernel, rfl, by decide +kernel, by decide +kernel⟩
theorem d_read_poly {f : Addr} {fd : FuncData} {kws : List (Str × V)} (F : FunD K "read_poly" "read_poly" (defArgs s_read_poly) (defBody s_read_poly) (defScope s_read_poly) [] kws f fd) (o_refuse_prime : Own P w K mg base (L2.CX P w) 3 "refuse_prime" ["prime"] [] (spRefP (C 0))) : FnOk P w K mg base (L2.CX P w) 5 f fd ["text", "prime"] (spRead C) := by
  refine F.ok sc_read_poly (fun vs H Q E h => ?_) (fun cdv A outer s H vs Q E hr h => ?_)
  · obtain ⟨x, p, rfl, _⟩ := h
    rfl
  · obtain ⟨x, p, rfl, hp, d⟩ := h
    refine ⟨_, pss_cons (ps_expr (pe_own o_refuse_prime (hr.mono (by decide)) rfl (passes_call (takes_of rfl rfl rfl rfl) (fun _ _ _ _ h => h)) (pa_cons (pv 1) pa_nil))) pssNo, ?_⟩
    exact ⟨_, rfl, p, rfl, fun z => absurd z hp, fun _ => d⟩
end
end Xk
end
section
set_option Elab.async false
set_option linter.all false
set_option maxRecDepth 100000
set_option maxHeartbeats 4000000
namespace Xk
open PySem PySem.Spec PyProof.Rows L2 Xh LamX
open NdefX
/-! ### the lambdas of _law_doors -/
abbrev s_law_doors : Stmt := topS 111
theorem sc_law_doors : FnScope (["_law_bad", "_law_p", "_law_good", "_law_asks", "_law_ask"] : List Str) ["_law_bad", "_law_p"] (defScope s_law_doors) := ⟨rfl, rfl, rfl, by decide +kernel, rfl, by decide +kernel, by decide +kernel⟩
def lamsE : Expr → List (Arguments × Expr × Scope)
  | .List es _ => es.filterMap fun e => match e with
    | .Lambda p b s _ => some (p, b, s)
    | _ => none
  | .BinOp _ _ r _ => lamsE r
  | _ => []
def lamAt (s : Stmt) (j : Nat) : Arguments × Expr × Scope := (match s with
  | .Assign _ v _ => lamsE v
  | _ => []).getD j (defArgs s, .Name "x" ⟨0, 0, 0, 0⟩, defScope s)
def spA3 (K : PySem.W.Frag) (C : Fin 14 → Addr) : List (Option V) → Sp := fun ws vs H _ E => ∃ (b g : Addr) (ns : List Int) (p : Int), ws = [some (.ref b), some (.ref g), some (.int p)] ∧ vs = [] ∧ At K H (b, ns) ∧ At K H (g, [1]) ∧ Bd C H E p (polyB p ns = false)
def spA2 (K : PySem.W.Frag) (C : Fin 14 → Addr) : List (Option V) → Sp := fun ws vs H _ E => ∃ (b : Addr) (ns : List Int) (p : Int), ws = [some (.ref b), some (.int p)] ∧ vs = [] ∧ At K H (b, ns) ∧ Bd C H E p (polyB p ns = false)
def lamQ : Str := (envOfC "law" ⟨.function, [], false, false, []⟩ 0 0 .none).qual ++ "<lambda>"
def doorQ : Str := (envOfC "_law_doors" ⟨.function, [], false, false, []⟩ 0 0 .none).qual ++ "<lambda>"
/-- the tables: the law's, that of the doors -/
abbrev TL2 (PL PD : Addr) : List (Addr × Str) := [(PL, lamQ), (PD, doorQ)]
def spDoors (K : PySem.W.Frag) (PL PD : Addr) : Sp := fun vs H Q _ => ∃ (b : Addr) (ns : List Int) (p : Int) (nm : Str), vs = [.ref b, .int p] ∧ At K H (b, ns) ∧ Tabs (TL2 PL PD) H ∧ ((p ∉ primes ∧ nm = "BadPrime") ∨ (p ∈ primes ∧ polyB p ns = false ∧ nm = "BadPoly")) ∧
  ∀ q H', Gr (TL2 PL PD) H H' → H q = none → H' q = some (.lst (List.replicate 20 (.str nm))) → Q (.ref q) H'
/-- the slots of _law_doors that the lambdas reach -/
abbrev sgD (b g : Addr) (p : Int) (o : Option V) : L2.St := [some (.ref b), some (.int p), some (.ref g), o, none]
/-- a kept lambda that does as the doors do -/
def GoodL (X : Cx) (b g : Addr) (ns : List Int) (p : Int) (C : Fin 14 → Addr) (H : Hp) (v : V) : Prop := ∃ (f : Addr) (F : NF) (bb : Expr) (fr : List Str) (js : List Nat) (sp : List (Option V) → Sp), v = .ref f ∧ f ∉ frs X.stack ∧ H f = some (LamO f F bb) ∧ H F.c = some (CodeO F.c F.qual) ∧
  NOkL X.prog X.w X.K X.mg X.base (L2.CX X.prog X.w) 7 f F bb [] fr sp ∧ (X.Ok → Caps X F.cl fr js) ∧ ∀ (o : Option V) (H : Hp) (E : XK) (Q : VK), (At X.K H (b, ns) ∧ At X.K H (g, [1]) ∧ Bd C H E p (polyB p ns = false)) → sp (js.map (slotAt (sgD b g p o))) [] H Q E
theorem GoodL.ext {X : Cx} {b g : Addr} {ns : List Int} {p : Int} {C : Fin 14 → Addr} {H H' : Hp} {v : V} (x : GoodL X b g ns p C H v) (e : ExtN H H') : GoodL X b g ns p C H' v := by
  obtain ⟨f, F, bb, fr, js, sp, h1, h2, h3, h4, h5⟩ := x
  exact ⟨f, F, bb, fr, js, sp, h1, h2, e _ _ h3 lamO_ne, e _ _ h4 codeO_ne, h5⟩
theorem GoodL.same {X : Cx} {b g : Addr} {ns : List Int} {p : Int} {C : Fin 14 → Addr} {H H' : Hp} {v : V} (x : GoodL X b g ns p C H v) (s : Same H H') : GoodL X b g ns p C H' v := x.ext (ExtN.of s)
/-- the list of what is asked, so far -/
structure Asks (X : Cx) (b g : Addr) (ns : List Int) (p : Int) (C : Fin 14 → Addr) (H : Hp) (L : Addr) (xs : List V) (n : Nat) : Prop where
  l : H L = some (.lst xs)
  a : ∀ x ∈ xs, GoodL X b g ns p C H x
  n : xs.length = n
section
variable {X : Cx} {b g : Addr} {ns : List Int} {p : Int} {C : Fin 14 → Addr} {H H1 : Hp} {L q : Addr} {xs : List V} {n : Nat} {f1 f2 : Addr}
theorem Asks.two (h : H L = some (.lst [.ref f1, .ref f2])) (x : GoodL X b g ns p C H (.ref f1)) (y : GoodL X b g ns p C H (.ref f2)) : Asks X b g ns p C H L [.ref f1, .ref f2] 2 := ⟨h, fun z hz => by
  rcases List.mem_cons.mp hz with rfl | hz
  · exact x
  · rw [List.mem_singleton.mp hz]
    exact y, rfl⟩
theorem Asks.add {T : List (Addr × Str)} (A : Asks X b g ns p C H L xs n) (e : Gr T H H1) (hq : H1 q = none) (x : GoodL X b g ns p C H1 (.ref f1)) (y : GoodL X b g ns p C H1 (.ref f2)) : Asks X b g ns p C (L2.upd H1 q (.lst (xs ++ [.ref f1, .ref f2]))) q (xs ++ [.ref f1, .ref f2]) (n + 2) := by
  have s := same_upd (o := .lst (xs ++ [.ref f1, .ref f2])) hq
  refine ⟨upd_same, fun z hz => ?_, by rw [List.length_append, A.n]; rfl⟩
  rcases List.mem_append.mp hz with hz | hz
  · exact ((A.a z hz).ext e.x).same s
  · rcases List.mem_cons.mp hz with rfl | hz
    · exact x.same s
    · rw [List.mem_singleton.mp hz]
      exact y.same s
end
theorem At.same_gr {K : PySem.W.Frag} {H H' : Hp} {T : List (Addr × Str)} {x : Addr × List Int} (a : At K H x) (g : Gr T H H') : At K H' x := by
  refine ⟨?_, a.2⟩
  rcases a.1 with (h | ⟨o, h⟩) | h
  · exact .inl (.inl (g.x _ _ h (fun _ z => by cases z)))
  · exact .inl (.inr ⟨o, g.x _ _ h (fun _ z => by cases z)⟩)
  · exact .inr h
theorem word_ix {K : PySem.W.Frag} {H : Hp} {Q : VK} {p : Addr} {y z : V} (h : Q y (L2.upd H p (.tup [y, z]))) : rIxT K (.ref p) (.int 0) (L2.upd H p (.tup [y, z])) Q := ⟨p, _, 0, y, rfl, rfl, SqT.of upd_same, rfl, h⟩
theorem ex_why {K : PySem.W.Frag} {c : Fin 14 → Addr} {C : Addr} {nm : Str} {H : Hp} {Q : VK} (hc : Catch K c C 7) (hw : PySem.W.findIn K (.ref C) "word" = some none) (k : ∀ (H' : Hp) (p : Addr), Same H H' → H' p = none → Q (.ref p) (L2.upd H' p (.tup [.str nm, .non]))) : Ex H (wWhy K c Q) C nm :=
  fun d H' s hx _ => ⟨C, d, _, nm, rfl, rfl, hx, hc, hw, by simp [List.lookup], fun p hp => k H' p s hp⟩
/-- what the classes of the refusals are -/
structure Kinds (K : PySem.W.Frag) (c C : Fin 14 → Addr) : Prop where
  h0 : Catch K c (C 0) 7
  h1 : Catch K c (C 1) 7
  w0 : PySem.W.findIn K (.ref (C 0)) "word" = some none
  w1 : PySem.W.findIn K (.ref (C 1)) "word" = some none
/-- a refusal's word -/
theorem bd_word {K : PySem.W.Frag} {c C : Fin 14 → Addr} (KK : Kinds K c C) {p : Int} {bad : Prop} {nm : Str} (h : (p ∉ primes ∧ nm = "BadPrime") ∨ (p ∈ primes ∧ bad ∧ nm = "BadPoly")) {H : Hp} {Q : VK} (k : ∀ H', Same H H' → Q (.str nm) H') : Bd C H (wWhy K c fun x H1 => rIxT K x (.int 0) H1 Q) p bad := by
  rcases h with ⟨h, rfl⟩ | ⟨h, hb, rfl⟩
  · exact .inl ⟨h, ex_why KK.h0 KK.w0 fun H' q s hq => word_ix (k _ (s.trans (same_upd hq)))⟩
  · exact .inr ⟨h, hb, ex_why KK.h1 KK.w1 fun H' q s hq => word_ix (k _ (s.trans (same_upd hq)))⟩
section
variable {P : Program} {w : World} {K : PySem.W.Frag} {C : Fin 14 → Addr} {mg : Str → Option Value} {base : Heap}
abbrev L_0 : Arguments × Expr × Scope := lamAt ((defBody s_law_doors).getD 1 (.Pass ⟨0, 0, 0, 0⟩)) 0
theorem ns_0 : NScope (["_law_bad", "_law_good", "_law_p"] : List Str) [] ["_law_bad", "_law_good", "_law_p"] L_0.2.2 := nscope_by (by decide +kernel)
theorem nb_0 : ndefB (defScope s_law_doors) L_0.2.2 ["_law_bad", "_law_good", "_law_p"] = true := by decide +kernel
theorem lam_0 {f : Addr} {F : NF} (hp : F.params = L_0.1) (hs : F.scope = L_0.2.2) (k_poly_plus : OwnK P w K mg base (L2.CX P w) 5 2 "poly_plus" ["one", "other", "prime"] ["prime"] (sp_poly_plus K C)) : NOkL P w K mg base (L2.CX P w) 7 f F L_0.2.1 [] ["_law_bad", "_law_good", "_law_p"] (spA3 K C) := by
  obtain ⟨fn, fq, fp, fb, fs, fc, fo⟩ := F
  have hp : fp = _ := hp
  have hs : fs = _ := hs
  subst hp hs
  refine nokL_of (N := ["_law_bad", "_law_good", "_law_p"]) ns_0 (fun pm ctv us hl => match us, hl with | [], _ => rfl) (fun ws vs H Q E h => ?_) fun A outer s H vs ws Q E hr hw h => ?_
  · obtain ⟨b, g, ns, p, rfl, rfl, _⟩ := h
    rfl
  · obtain ⟨b, g, ns, p, rfl, rfl, hb, hg, bd⟩ := h
    refine ⟨_, (pe_ownK k_poly_plus (hr.mono (by decide)) rfl (passes_call (takes_of rfl rfl rfl rfl) (fun _ _ _ _ h => h)) (pa_cons (pv 0) (pa_cons (pv 1) pa_nil)) (pk_cons (pv 2) pk_nil)), ?_⟩
    exact ⟨_, rfl, _, rfl, _, rfl, rfl, rfl, (b, ns), (g, [1]), p, rfl, door_of (ns := ns) (b := b) (by
      intro x hx
      simp only [List.mem_cons, List.not_mem_nil, or_false] at hx
      rcases hx with rfl | rfl <;> first | exact hb | exact hg) bd (by simp)⟩
abbrev L_1 : Arguments × Expr × Scope := lamAt ((defBody s_law_doors).getD 1 (.Pass ⟨0, 0, 0, 0⟩)) 1
theorem ns_1 : NScope (["_law_bad", "_law_good", "_law_p"] : List Str) [] ["_law_bad", "_law_good", "_law_p"] L_1.2.2 := nscope_by (by decide +kernel)
theorem nb_1 : ndefB (defScope s_law_doors) L_1.2.2 ["_law_bad", "_law_good", "_law_p"] = true := by decide +kernel
theorem lam_1 {f : Addr} {F : NF} (hp : F.params = L_1.1) (hs : F.scope = L_1.2.2) (k_poly_plus : OwnK P w K mg base (L2.CX P w) 5 2 "poly_plus" ["one", "other", "prime"] ["prime"] (sp_poly_plus K C)) : NOkL P w K mg base (L2.CX P w) 7 f F L_1.2.1 [] ["_law_bad", "_law_good", "_law_p"] (spA3 K C) := by
  obtain ⟨fn, fq, fp, fb, fs, fc, fo⟩ := F
  have hp : fp = _ := hp
  have hs : fs = _ := hs
  subst hp hs
  refine nokL_of (N := ["_law_bad", "_law_good", "_law_p"]) ns_1 (fun pm ctv us hl => match us, hl with | [], _ => rfl) (fun ws vs H Q E h => ?_) fun A outer s H vs ws Q E hr hw h => ?_
  · obtain ⟨b, g, ns, p, rfl, rfl, _⟩ := h
    rfl
  · obtain ⟨b, g, ns, p, rfl, rfl, hb, hg, bd⟩ := h
    refine ⟨_, (pe_ownK k_poly_plus (hr.mono (by decide)) rfl (passes_call (takes_of rfl rfl rfl rfl) (fun _ _ _ _ h => h)) (pa_cons (pv 1) (pa_cons (pv 0) pa_nil)) (pk_cons (pv 2) pk_nil)), ?_⟩
    exact ⟨_, rfl, _, rfl, _, rfl, rfl, rfl, (g, [1]), (b, ns), p, rfl, door_of (ns := ns) (b := b) (by
      intro x hx
      simp only [List.mem_cons, List.not_mem_nil, or_false] at hx
      rcases hx with rfl | rfl <;> first | exact hb | exact hg) bd (by simp)⟩
abbrev L_2 : Arguments × Expr × Scope := lamAt ((defBody s_law_doors).getD 2 (.Pass ⟨0, 0, 0, 0⟩)) 0
theorem ns_2 : NScope (["_law_bad", "_law_good", "_law_p"] : List Str) [] ["_law_bad", "_law_good", "_law_p"] L_2.2.2 := nscope_by (by decide +kernel)
theorem nb_2 : ndefB (defScope s_law_doors) L_2.2.2 ["_law_bad", "_law_good", "_law_p"] = true := by decide +kernel
theorem lam_2 {f : Addr} {F : NF} (hp : F.params = L_2.1) (hs : F.scope = L_2.2.2) (k_poly_minus : OwnK P w K mg base (L2.CX P w) 5 2 "poly_minus" ["one", "other", "prime"] ["prime"] (sp_poly_minus K C)) : NOkL P w K mg base (L2.CX P w) 7 f F L_2.2.1 [] ["_law_bad", "_law_good", "_law_p"] (spA3 K C) := by
  obtain ⟨fn, fq, fp, fb, fs, fc, fo⟩ := F
  have hp : fp = _ := hp
  have hs : fs = _ := hs
  subst hp hs
  refine nokL_of (N := ["_law_bad", "_law_good", "_law_p"]) ns_2 (fun pm ctv us hl => match us, hl with | [], _ => rfl) (fun ws vs H Q E h => ?_) fun A outer s H vs ws Q E hr hw h => ?_
  · obtain ⟨b, g, ns, p, rfl, rfl, _⟩ := h
    rfl
  · obtain ⟨b, g, ns, p, rfl, rfl, hb, hg, bd⟩ := h
    refine ⟨_, (pe_ownK k_poly_minus (hr.mono (by decide)) rfl (passes_call (takes_of rfl rfl rfl rfl) (fun _ _ _ _ h => h)) (pa_cons (pv 1) (pa_cons (pv 0) pa_nil)) (pk_cons (pv 2) pk_nil)), ?_⟩
    exact ⟨_, rfl, _, rfl, _, rfl, rfl, rfl, (g, [1]), (b, ns), p, rfl, door_of (ns := ns) (b := b) (by
      intro x hx
      simp only [List.mem_cons, List.not_mem_nil, or_false] at hx
      rcases hx with rfl | rfl <;> first | exact hb | exact hg) bd (by simp)⟩
abbrev L_3 : Arguments × Expr × Scope := lamAt ((defBody s_law_doors).getD 2 (.Pass ⟨0, 0, 0, 0⟩)) 1
theorem ns_3 : NScope (["_law_bad", "_law_good", "_law_p"] : List Str) [] ["_law_bad", "_law_good", "_law_p"] L_3.2.2 := nscope_by (by decide +kernel)
theorem nb_3 : ndefB (defScope s_law_doors) L_3.2.2 ["_law_bad", "_law_good", "_law_p"] = true := by decide +kernel
theorem lam_3 {f : Addr} {F : NF} (hp : F.params = L_3.1) (hs : F.scope = L_3.2.2) (k_poly_times : OwnK P w K mg base (L2.CX P w) 5 2 "poly_times" ["one", "other", "prime"] ["prime"] (sp_poly_times K C)) : NOkL P w K mg base (L2.CX P w) 7 f F L_3.2.1 [] ["_law_bad", "_law_good", "_law_p"] (spA3 K C) := by
  obtain ⟨fn, fq, fp, fb, fs, fc, fo⟩ := F
  have hp : fp = _ := hp
  have hs : fs = _ := hs
  subst hp hs
  refine nokL_of (N := ["_law_bad", "_law_good", "_law_p"]) ns_3 (fun pm ctv us hl => match us, hl with | [], _ => rfl) (fun ws vs H Q E h => ?_) fun A outer s H vs ws Q E hr hw h => ?_
  · obtain ⟨b, g, ns, p, rfl, rfl, _⟩ := h
    rfl
  · obtain ⟨b, g, ns, p, rfl, rfl, hb, hg, bd⟩ := h
    refine ⟨_, (pe_ownK k_poly_times (hr.mono (by decide)) rfl (passes_call (takes_of rfl rfl rfl rfl) (fun _ _ _ _ h => h)) (pa_cons (pv 0) (pa_cons (pv 1) pa_nil)) (pk_cons (pv 2) pk_nil)), ?_⟩
    exact ⟨_, rfl, _, rfl, _, rfl, rfl, rfl, (b, ns), (g, [1]), p, rfl, door_of (ns := ns) (b := b) (by
      intro x hx
      simp only [List.mem_cons, List.not_mem_nil, or_false] at hx
      rcases hx with rfl | rfl <;> first | exact hb | exact hg) bd (by simp)⟩
abbrev L_4 : Arguments × Expr × Scope := lamAt ((defBody s_law_doors).getD 3 (.Pass ⟨0, 0, 0, 0⟩)) 0
theorem ns_4 : NScope (["_law_bad", "_law_p"] : List Str) [] ["_law_bad", "_law_p"] L_4.2.2 := nscope_by (by decide +kernel)
theorem nb_4 : ndefB (defScope s_law_doors) L_4.2.2 ["_law_bad", "_law_p"] = true := by decide +kernel
theorem lam_4 {f : Addr} {F : NF} (hp : F.params = L_4.1) (hs : F.scope = L_4.2.2) (k_poly_parted : OwnK P w K mg base (L2.CX P w) 5 2 "poly_parted" ["one", "other", "prime"] ["prime"] (sp_poly_parted K C)) : NOkL P w K mg base (L2.CX P w) 7 f F L_4.2.1 [] ["_law_bad", "_law_p"] (spA2 K C) := by
  obtain ⟨fn, fq, fp, fb, fs, fc, fo⟩ := F
  have hp : fp = _ := hp
  have hs : fs = _ := hs
  subst hp hs
  refine nokL_of (N := ["_law_bad", "_law_p"]) ns_4 (fun pm ctv us hl => match us, hl with | [], _ => rfl) (fun ws vs H Q E h => ?_) fun A outer s H vs ws Q E hr hw h => ?_
  · obtain ⟨b, ns, p, rfl, rfl, _⟩ := h
    rfl
  · obtain ⟨b, ns, p, rfl, rfl, hb, bd⟩ := h
    refine ⟨_, (pe_ownK k_poly_parted (hr.mono (by decide)) rfl (passes_call (takes_of rfl rfl rfl rfl) (fun _ _ _ _ h => h)) (pa_cons (pv 0) (pa_cons (pe_tup pa_nil) pa_nil)) (pk_cons (pv 1) pk_nil)), ?_⟩
    exact ⟨_, rfl, (by show 0 ≤ sizeLine; decide), fun e he => ⟨_, rfl, rfl, rfl, (b, ns), (e, []), p, rfl, door_of (ns := ns) (b := b) (by
      intro x hx
      simp only [List.mem_cons, List.not_mem_nil, or_false] at hx
      rcases hx with rfl | rfl <;> first | exact (hb.same (same_upd he)) | exact ⟨.inl (.inl upd_same), Nat.zero_le _⟩) (bd.same (same_upd he)) (by simp)⟩⟩
abbrev L_5 : Arguments × Expr × Scope := lamAt ((defBody s_law_doors).getD 3 (.Pass ⟨0, 0, 0, 0⟩)) 1
theorem ns_5 : NScope (["_law_bad", "_law_good", "_law_p"] : List Str) [] ["_law_bad", "_law_good", "_law_p"] L_5.2.2 := nscope_by (by decide +kernel)
theorem nb_5 : ndefB (defScope s_law_doors) L_5.2.2 ["_law_bad", "_law_good", "_law_p"] = true := by decide +kernel
theorem lam_5 {f : Addr} {F : NF} (hp : F.params = L_5.1) (hs : F.scope = L_5.2.2) (k_poly_parted : OwnK P w K mg base (L2.CX P w) 5 2 "poly_parted" ["one", "other", "prime"] ["prime"] (sp_poly_parted K C)) : NOkL P w K mg base (L2.CX P w) 7 f F L_5.2.1 [] ["_law_bad", "_law_good", "_law_p"] (spA3 K C) := by
  obtain ⟨fn, fq, fp, fb, fs, fc, fo⟩ := F
  have hp : fp = _ := hp
  have hs : fs = _ := hs
  subst hp hs
  refine nokL_of (N := ["_law_bad", "_law_good", "_law_p"]) ns_5 (fun pm ctv us hl => match us, hl with | [], _ => rfl) (fun ws vs H Q E h => ?_) fun A outer s H vs ws Q E hr hw h => ?_
  · obtain ⟨b, g, ns, p, rfl, rfl, _⟩ := h
    rfl
  · obtain ⟨b, g, ns, p, rfl, rfl, hb, hg, bd⟩ := h
    refine ⟨_, (pe_ownK k_poly_parted (hr.mono (by decide)) rfl (passes_call (takes_of rfl rfl rfl rfl) (fun _ _ _ _ h => h)) (pa_cons (pv 1) (pa_cons (pv 0) pa_nil)) (pk_cons (pv 2) pk_nil)), ?_⟩
    exact ⟨_, rfl, _, rfl, _, rfl, rfl, rfl, (g, [1]), (b, ns), p, rfl, door_of (ns := ns) (b := b) (by
      intro x hx
      simp only [List.mem_cons, List.not_mem_nil, or_false] at hx
      rcases hx with rfl | rfl <;> first | exact hb | exact hg) bd (by simp)⟩
abbrev L_6 : Arguments × Expr × Scope := lamAt ((defBody s_law_doors).getD 4 (.Pass ⟨0, 0, 0, 0⟩)) 0
theorem ns_6 : NScope (["_law_bad", "_law_good", "_law_p"] : List Str) [] ["_law_bad", "_law_good", "_law_p"] L_6.2.2 := nscope_by (by decide +kernel)
theorem nb_6 : ndefB (defScope s_law_doors) L_6.2.2 ["_law_bad", "_law_good", "_law_p"] = true := by decide +kernel
theorem lam_6 {f : Addr} {F : NF} (hp : F.params = L_6.1) (hs : F.scope = L_6.2.2) (k_poly_common : OwnK P w K mg base (L2.CX P w) 5 2 "poly_common" ["one", "other", "prime"] ["prime"] (sp_poly_common K C)) : NOkL P w K mg base (L2.CX P w) 7 f F L_6.2.1 [] ["_law_bad", "_law_good", "_law_p"] (spA3 K C) := by
  obtain ⟨fn, fq, fp, fb, fs, fc, fo⟩ := F
  have hp : fp = _ := hp
  have hs : fs = _ := hs
  subst hp hs
  refine nokL_of (N := ["_law_bad", "_law_good", "_law_p"]) ns_6 (fun pm ctv us hl => match us, hl with | [], _ => rfl) (fun ws vs H Q E h => ?_) fun A outer s H vs ws Q E hr hw h => ?_
  · obtain ⟨b, g, ns, p, rfl, rfl, _⟩ := h
    rfl
  · obtain ⟨b, g, ns, p, rfl, rfl, hb, hg, bd⟩ := h
    refine ⟨_, (pe_ownK k_poly_common (hr.mono (by decide)) rfl (passes_call (takes_of rfl rfl rfl rfl) (fun _ _ _ _ h => h)) (pa_cons (pv 1) (pa_cons (pv 0) pa_nil)) (pk_cons (pv 2) pk_nil)), ?_⟩
    exact ⟨_, rfl, _, rfl, _, rfl, rfl, rfl, (g, [1]), (b, ns), p, rfl, door_of (ns := ns) (b := b) (by
      intro x hx
      simp only [List.mem_cons, List.not_mem_nil, or_false] at hx
      rcases hx with rfl | rfl <;> first | exact hb | exact hg) bd (by simp)⟩
abbrev L_7 : Arguments × Expr × Scope := lamAt ((defBody s_law_doors).getD 4 (.Pass ⟨0, 0, 0, 0⟩)) 1
theorem ns_7 : NScope (["_law_bad", "_law_p"] : List Str) [] ["_law_bad", "_law_p"] L_7.2.2 := nscope_by (by decide +kernel)
theorem nb_7 : ndefB (defScope s_law_doors) L_7.2.2 ["_law_bad", "_law_p"] = true := by decide +kernel
theorem lam_7 {f : Addr} {F : NF} (hp : F.params = L_7.1) (hs : F.scope = L_7.2.2) (k_poly_value : OwnK P w K mg base (L2.CX P w) 5 2 "poly_value" ["one", "number", "prime"] ["prime"] (sp_poly_value K C)) : NOkL P w K mg base (L2.CX P w) 7 f F L_7.2.1 [] ["_law_bad", "_law_p"] (spA2 K C) := by
  obtain ⟨fn, fq, fp, fb, fs, fc, fo⟩ := F
  have hp : fp = _ := hp
  have hs : fs = _ := hs
  subst hp hs
  refine nokL_of (N := ["_law_bad", "_law_p"]) ns_7 (fun pm ctv us hl => match us, hl with | [], _ => rfl) (fun ws vs H Q E h => ?_) fun A outer s H vs ws Q E hr hw h => ?_
  · obtain ⟨b, ns, p, rfl, rfl, _⟩ := h
    rfl
  · obtain ⟨b, ns, p, rfl, rfl, hb, bd⟩ := h
    refine ⟨_, (pe_ownK k_poly_value (hr.mono (by decide)) rfl (passes_call (takes_of rfl rfl rfl rfl) (fun _ _ _ _ h => h)) (pa_cons (pv 0) (pa_cons (pe_un un_neg pe_int) pa_nil)) (pk_cons (pv 1) pk_nil)), ?_⟩
    exact ⟨_, rfl, _, rfl, _, rfl, rfl, rfl, (b, ns), V.int (-1), p, rfl, door_of (ns := ns) (b := b) (by
      intro x hx
      simp only [List.mem_cons, List.not_mem_nil, or_false] at hx
      rcases hx with rfl <;> first | exact hb) bd (by simp)⟩
abbrev L_8 : Arguments × Expr × Scope := lamAt ((defBody s_law_doors).getD 5 (.Pass ⟨0, 0, 0, 0⟩)) 0
theorem ns_8 : NScope (["_law_bad", "_law_good", "_law_p"] : List Str) [] ["_law_bad", "_law_good", "_law_p"] L_8.2.2 := nscope_by (by decide +kernel)
theorem nb_8 : ndefB (defScope s_law_doors) L_8.2.2 ["_law_bad", "_law_good", "_law_p"] = true := by decide +kernel
theorem lam_8 {f : Addr} {F : NF} (hp : F.params = L_8.1) (hs : F.scope = L_8.2.2) (k_poly_put : OwnK P w K mg base (L2.CX P w) 5 3 "poly_put" ["one", "other", "rule", "prime"] ["prime"] (sp_poly_put K C)) : NOkL P w K mg base (L2.CX P w) 7 f F L_8.2.1 [] ["_law_bad", "_law_good", "_law_p"] (spA3 K C) := by
  obtain ⟨fn, fq, fp, fb, fs, fc, fo⟩ := F
  have hp : fp = _ := hp
  have hs : fs = _ := hs
  subst hp hs
  refine nokL_of (N := ["_law_bad", "_law_good", "_law_p"]) ns_8 (fun pm ctv us hl => match us, hl with | [], _ => rfl) (fun ws vs H Q E h => ?_) fun A outer s H vs ws Q E hr hw h => ?_
  · obtain ⟨b, g, ns, p, rfl, rfl, _⟩ := h
    rfl
  · obtain ⟨b, g, ns, p, rfl, rfl, hb, hg, bd⟩ := h
    refine ⟨_, (pe_ownK k_poly_put (hr.mono (by decide)) rfl (passes_call (takes_of rfl rfl rfl rfl) (fun _ _ _ _ h => h)) (pa_cons (pv 0) (pa_cons (pv 1) (pa_cons (pe_tup pa_nil) pa_nil))) (pk_cons (pv 2) pk_nil)), ?_⟩
    exact ⟨_, rfl, _, rfl, (by show 0 ≤ sizeLine; decide), fun e he => ⟨_, rfl, rfl, rfl, (b, ns), (g, [1]), (e, []), p, rfl, door_of (ns := ns) (b := b) (by
      intro x hx
      simp only [List.mem_cons, List.not_mem_nil, or_false] at hx
      rcases hx with rfl | rfl | rfl <;> first | exact (hb.same (same_upd he)) | exact (hg.same (same_upd he)) | exact ⟨.inl (.inl upd_same), Nat.zero_le _⟩) (bd.same (same_upd he)) (by simp)⟩⟩
abbrev L_9 : Arguments × Expr × Scope := lamAt ((defBody s_law_doors).getD 5 (.Pass ⟨0, 0, 0, 0⟩)) 1
theorem ns_9 : NScope (["_law_bad", "_law_good", "_law_p"] : List Str) [] ["_law_bad", "_law_good", "_law_p"] L_9.2.2 := nscope_by (by decide +kernel)
theorem nb_9 : ndefB (defScope s_law_doors) L_9.2.2 ["_law_bad", "_law_good", "_law_p"] = true := by decide +kernel
theorem lam_9 {f : Addr} {F : NF} (hp : F.params = L_9.1) (hs : F.scope = L_9.2.2) (k_poly_put : OwnK P w K mg base (L2.CX P w) 5 3 "poly_put" ["one", "other", "rule", "prime"] ["prime"] (sp_poly_put K C)) : NOkL P w K mg base (L2.CX P w) 7 f F L_9.2.1 [] ["_law_bad", "_law_good", "_law_p"] (spA3 K C) := by
  obtain ⟨fn, fq, fp, fb, fs, fc, fo⟩ := F
  have hp : fp = _ := hp
  have hs : fs = _ := hs
  subst hp hs
  refine nokL_of (N := ["_law_bad", "_law_good", "_law_p"]) ns_9 (fun pm ctv us hl => match us, hl with | [], _ => rfl) (fun ws vs H Q E h => ?_) fun A outer s H vs ws Q E hr hw h => ?_
  · obtain ⟨b, g, ns, p, rfl, rfl, _⟩ := h
    rfl
  · obtain ⟨b, g, ns, p, rfl, rfl, hb, hg, bd⟩ := h
    refine ⟨_, (pe_ownK k_poly_put (hr.mono (by decide)) rfl (passes_call (takes_of rfl rfl rfl rfl) (fun _ _ _ _ h => h)) (pa_cons (pv 1) (pa_cons (pv 0) (pa_cons (pe_tup pa_nil) pa_nil))) (pk_cons (pv 2) pk_nil)), ?_⟩
    exact ⟨_, rfl, _, rfl, (by show 0 ≤ sizeLine; decide), fun e he => ⟨_, rfl, rfl, rfl, (g, [1]), (b, ns), (e, []), p, rfl, door_of (ns := ns) (b := b) (by
      intro x hx
      simp only [List.mem_cons, List.not_mem_nil, or_false] at hx
      rcases hx with rfl | rfl | rfl <;> first | exact (hb.same (same_upd he)) | exact (hg.same (same_upd he)) | exact ⟨.inl (.inl upd_same), Nat.zero_le _⟩) (bd.same (same_upd he)) (by simp)⟩⟩
abbrev L_10 : Arguments × Expr × Scope := lamAt ((defBody s_law_doors).getD 6 (.Pass ⟨0, 0, 0, 0⟩)) 0
theorem ns_10 : NScope (["_law_bad", "_law_good", "_law_p"] : List Str) [] ["_law_bad", "_law_good", "_law_p"] L_10.2.2 := nscope_by (by decide +kernel)
theorem nb_10 : ndefB (defScope s_law_doors) L_10.2.2 ["_law_bad", "_law_good", "_law_p"] = true := by decide +kernel
theorem lam_10 {f : Addr} {F : NF} (hp : F.params = L_10.1) (hs : F.scope = L_10.2.2) (k_poly_put : OwnK P w K mg base (L2.CX P w) 5 3 "poly_put" ["one", "other", "rule", "prime"] ["prime"] (sp_poly_put K C)) : NOkL P w K mg base (L2.CX P w) 7 f F L_10.2.1 [] ["_law_bad", "_law_good", "_law_p"] (spA3 K C) := by
  obtain ⟨fn, fq, fp, fb, fs, fc, fo⟩ := F
  have hp : fp = _ := hp
  have hs : fs = _ := hs
  subst hp hs
  refine nokL_of (N := ["_law_bad", "_law_good", "_law_p"]) ns_10 (fun pm ctv us hl => match us, hl with | [], _ => rfl) (fun ws vs H Q E h => ?_) fun A outer s H vs ws Q E hr hw h => ?_
  · obtain ⟨b, g, ns, p, rfl, rfl, _⟩ := h
    rfl
  · obtain ⟨b, g, ns, p, rfl, rfl, hb, hg, bd⟩ := h
    refine ⟨_, (pe_ownK k_poly_put (hr.mono (by decide)) rfl (passes_call (takes_of rfl rfl rfl rfl) (fun _ _ _ _ h => h)) (pa_cons (pv 1) (pa_cons (pv 1) (pa_cons (pv 0) pa_nil))) (pk_cons (pv 2) pk_nil)), ?_⟩
    exact ⟨_, rfl, _, rfl, _, rfl, _, rfl, rfl, rfl, (g, [1]), (g, [1]), (b, ns), p, rfl, door_of (ns := ns) (b := b) (by
      intro x hx
      simp only [List.mem_cons, List.not_mem_nil, or_false] at hx
      rcases hx with rfl | rfl | rfl <;> first | exact hb | exact hg) bd (by simp)⟩
abbrev L_11 : Arguments × Expr × Scope := lamAt ((defBody s_law_doors).getD 6 (.Pass ⟨0, 0, 0, 0⟩)) 1
theorem ns_11 : NScope (["_law_bad", "_law_p"] : List Str) [] ["_law_bad", "_law_p"] L_11.2.2 := nscope_by (by decide +kernel)
theorem nb_11 : ndefB (defScope s_law_doors) L_11.2.2 ["_law_bad", "_law_p"] = true := by decide +kernel
theorem lam_11 {f : Addr} {F : NF} (hp : F.params = L_11.1) (hs : F.scope = L_11.2.2) (k_poly_left : OwnK P w K mg base (L2.CX P w) 5 3 "poly_left" ["one", "exponent", "rule", "prime"] ["prime"] (sp_poly_left K C)) : NOkL P w K mg base (L2.CX P w) 7 f F L_11.2.1 [] ["_law_bad", "_law_p"] (spA2 K C) := by
  obtain ⟨fn, fq, fp, fb, fs, fc, fo⟩ := F
  have hp : fp = _ := hp
  have hs : fs = _ := hs
  subst hp hs
  refine nokL_of (N := ["_law_bad", "_law_p"]) ns_11 (fun pm ctv us hl => match us, hl with | [], _ => rfl) (fun ws vs H Q E h => ?_) fun A outer s H vs ws Q E hr hw h => ?_
  · obtain ⟨b, ns, p, rfl, rfl, _⟩ := h
    rfl
  · obtain ⟨b, ns, p, rfl, rfl, hb, bd⟩ := h
    refine ⟨_, (pe_ownK k_poly_left (hr.mono (by decide)) rfl (passes_call (takes_of rfl rfl rfl rfl) (fun _ _ _ _ h => h)) (pa_cons (pv 0) (pa_cons (pe_un un_neg pe_int) (pa_cons (pe_tup pa_nil) pa_nil))) (pk_cons (pv 1) pk_nil)), ?_⟩
    exact ⟨_, rfl, _, rfl, (by show 0 ≤ sizeLine; decide), fun e he => ⟨_, rfl, rfl, rfl, (b, ns), V.int (-1), (e, []), p, rfl, door_of (ns := ns) (b := b) (by
      intro x hx
      simp only [List.mem_cons, List.not_mem_nil, or_false] at hx
      rcases hx with rfl | rfl <;> first | exact (hb.same (same_upd he)) | exact ⟨.inl (.inl upd_same), Nat.zero_le _⟩) (bd.same (same_upd he)) (by simp)⟩⟩
abbrev L_12 : Arguments × Expr × Scope := lamAt ((defBody s_law_doors).getD 7 (.Pass ⟨0, 0, 0, 0⟩)) 0
theorem ns_12 : NScope (["_law_bad", "_law_good", "_law_p"] : List Str) [] ["_law_bad", "_law_good", "_law_p"] L_12.2.2 := nscope_by (by decide +kernel)
theorem nb_12 : ndefB (defScope s_law_doors) L_12.2.2 ["_law_bad", "_law_good", "_law_p"] = true := by decide +kernel
theorem lam_12 {f : Addr} {F : NF} (hp : F.params = L_12.1) (hs : F.scope = L_12.2.2) (k_poly_left : OwnK P w K mg base (L2.CX P w) 5 3 "poly_left" ["one", "exponent", "rule", "prime"] ["prime"] (sp_poly_left K C)) : NOkL P w K mg base (L2.CX P w) 7 f F L_12.2.1 [] ["_law_bad", "_law_good", "_law_p"] (spA3 K C) := by
  obtain ⟨fn, fq, fp, fb, fs, fc, fo⟩ := F
  have hp : fp = _ := hp
  have hs : fs = _ := hs
  subst hp hs
  refine nokL_of (N := ["_law_bad", "_law_good", "_law_p"]) ns_12 (fun pm ctv us hl => match us, hl with | [], _ => rfl) (fun ws vs H Q E h => ?_) fun A outer s H vs ws Q E hr hw h => ?_
  · obtain ⟨b, g, ns, p, rfl, rfl, _⟩ := h
    rfl
  · obtain ⟨b, g, ns, p, rfl, rfl, hb, hg, bd⟩ := h
    refine ⟨_, (pe_ownK k_poly_left (hr.mono (by decide)) rfl (passes_call (takes_of rfl rfl rfl rfl) (fun _ _ _ _ h => h)) (pa_cons (pv 1) (pa_cons (pe_un un_neg pe_int) (pa_cons (pv 0) pa_nil))) (pk_cons (pv 2) pk_nil)), ?_⟩
    exact ⟨_, rfl, _, rfl, _, rfl, _, rfl, rfl, rfl, (g, [1]), V.int (-1), (b, ns), p, rfl, door_of (ns := ns) (b := b) (by
      intro x hx
      simp only [List.mem_cons, List.not_mem_nil, or_false] at hx
      rcases hx with rfl | rfl <;> first | exact hb | exact hg) bd (by simp)⟩
abbrev L_13 : Arguments × Expr × Scope := lamAt ((defBody s_law_doors).getD 7 (.Pass ⟨0, 0, 0, 0⟩)) 1
theorem ns_13 : NScope (["_law_bad", "_law_p"] : List Str) [] ["_law_bad", "_law_p"] L_13.2.2 := nscope_by (by decide +kernel)
theorem nb_13 : ndefB (defScope s_law_doors) L_13.2.2 ["_law_bad", "_law_p"] = true := by decide +kernel
theorem lam_13 {f : Addr} {F : NF} (hp : F.params = L_13.1) (hs : F.scope = L_13.2.2) (k_poly_slope : OwnK P w K mg base (L2.CX P w) 5 1 "poly_slope" ["one", "prime"] ["prime"] (sp_poly_slope K C)) : NOkL P w K mg base (L2.CX P w) 7 f F L_13.2.1 [] ["_law_bad", "_law_p"] (spA2 K C) := by
  obtain ⟨fn, fq, fp, fb, fs, fc, fo⟩ := F
  have hp : fp = _ := hp
  have hs : fs = _ := hs
  subst hp hs
  refine nokL_of (N := ["_law_bad", "_law_p"]) ns_13 (fun pm ctv us hl => match us, hl with | [], _ => rfl) (fun ws vs H Q E h => ?_) fun A outer s H vs ws Q E hr hw h => ?_
  · obtain ⟨b, ns, p, rfl, rfl, _⟩ := h
    rfl
  · obtain ⟨b, ns, p, rfl, rfl, hb, bd⟩ := h
    refine ⟨_, (pe_ownK k_poly_slope (hr.mono (by decide)) rfl (passes_call (takes_of rfl rfl rfl rfl) (fun _ _ _ _ h => h)) (pa_cons (pv 0) pa_nil) (pk_cons (pv 1) pk_nil)), ?_⟩
    exact ⟨_, rfl, _, rfl, rfl, rfl, (b, ns), p, rfl, door_of (ns := ns) (b := b) (by
      intro x hx
      simp only [List.mem_cons, List.not_mem_nil, or_false] at hx
      rcases hx with rfl <;> first | exact hb) bd (by simp)⟩
abbrev L_14 : Arguments × Expr × Scope := lamAt ((defBody s_law_doors).getD 8 (.Pass ⟨0, 0, 0, 0⟩)) 0
theorem ns_14 : NScope (["_law_bad", "_law_p"] : List Str) [] ["_law_bad", "_law_p"] L_14.2.2 := nscope_by (by decide +kernel)
theorem nb_14 : ndefB (defScope s_law_doors) L_14.2.2 ["_law_bad", "_law_p"] = true := by decide +kernel
theorem lam_14 {f : Addr} {F : NF} (hp : F.params = L_14.1) (hs : F.scope = L_14.2.2) (k_poly_text : OwnK P w K mg base (L2.CX P w) 5 1 "poly_text" ["one", "prime"] ["prime"] (sp_poly_text K C)) : NOkL P w K mg base (L2.CX P w) 7 f F L_14.2.1 [] ["_law_bad", "_law_p"] (spA2 K C) := by
  obtain ⟨fn, fq, fp, fb, fs, fc, fo⟩ := F
  have hp : fp = _ := hp
  have hs : fs = _ := hs
  subst hp hs
  refine nokL_of (N := ["_law_bad", "_law_p"]) ns_14 (fun pm ctv us hl => match us, hl with | [], _ => rfl) (fun ws vs H Q E h => ?_) fun A outer s H vs ws Q E hr hw h => ?_
  · obtain ⟨b, ns, p, rfl, rfl, _⟩ := h
    rfl
  · obtain ⟨b, ns, p, rfl, rfl, hb, bd⟩ := h
    refine ⟨_, (pe_ownK k_poly_text (hr.mono (by decide)) rfl (passes_call (takes_of rfl rfl rfl rfl) (fun _ _ _ _ h => h)) (pa_cons (pv 0) pa_nil) (pk_cons (pv 1) pk_nil)), ?_⟩
    exact ⟨_, rfl, _, rfl, rfl, rfl, (b, ns), p, rfl, door_of (ns := ns) (b := b) (by
      intro x hx
      simp only [List.mem_cons, List.not_mem_nil, or_false] at hx
      rcases hx with rfl <;> first | exact hb) bd (by simp)⟩
abbrev L_15 : Arguments × Expr × Scope := lamAt ((defBody s_law_doors).getD 8 (.Pass ⟨0, 0, 0, 0⟩)) 1
theorem ns_15 : NScope (["_law_bad", "_law_p"] : List Str) [] ["_law_bad", "_law_p"] L_15.2.2 := nscope_by (by decide +kernel)
theorem nb_15 : ndefB (defScope s_law_doors) L_15.2.2 ["_law_bad", "_law_p"] = true := by decide +kernel
theorem lam_15 {f : Addr} {F : NF} (hp : F.params = L_15.1) (hs : F.scope = L_15.2.2) (k_is_whole : OwnK P w K mg base (L2.CX P w) 5 1 "is_whole" ["poly", "prime"] ["prime"] (sp_is_whole K C)) : NOkL P w K mg base (L2.CX P w) 7 f F L_15.2.1 [] ["_law_bad", "_law_p"] (spA2 K C) := by
  obtain ⟨fn, fq, fp, fb, fs, fc, fo⟩ := F
  have hp : fp = _ := hp
  have hs : fs = _ := hs
  subst hp hs
  refine nokL_of (N := ["_law_bad", "_law_p"]) ns_15 (fun pm ctv us hl => match us, hl with | [], _ => rfl) (fun ws vs H Q E h => ?_) fun A outer s H vs ws Q E hr hw h => ?_
  · obtain ⟨b, ns, p, rfl, rfl, _⟩ := h
    rfl
  · obtain ⟨b, ns, p, rfl, rfl, hb, bd⟩ := h
    refine ⟨_, (pe_ownK k_is_whole (hr.mono (by decide)) rfl (passes_call (takes_of rfl rfl rfl rfl) (fun _ _ _ _ h => h)) (pa_cons (pv 0) pa_nil) (pk_cons (pv 1) pk_nil)), ?_⟩
    exact ⟨_, rfl, _, rfl, rfl, rfl, (b, ns), p, rfl, door_of (ns := ns) (b := b) (by
      intro x hx
      simp only [List.mem_cons, List.not_mem_nil, or_false] at hx
      rcases hx with rfl <;> first | exact hb) bd (by simp)⟩
abbrev L_16 : Arguments × Expr × Scope := lamAt ((defBody s_law_doors).getD 9 (.Pass ⟨0, 0, 0, 0⟩)) 0
theorem ns_16 : NScope (["_law_bad", "_law_p"] : List Str) [] ["_law_bad", "_law_p"] L_16.2.2 := nscope_by (by decide +kernel)
theorem nb_16 : ndefB (defScope s_law_doors) L_16.2.2 ["_law_bad", "_law_p"] = true := by decide +kernel
theorem lam_16 {f : Addr} {F : NF} (hp : F.params = L_16.1) (hs : F.scope = L_16.2.2) (k_parts : OwnK P w K mg base (L2.CX P w) 6 1 "parts" ["poly", "prime"] ["prime"] (sp_parts K C)) : NOkL P w K mg base (L2.CX P w) 7 f F L_16.2.1 [] ["_law_bad", "_law_p"] (spA2 K C) := by
  obtain ⟨fn, fq, fp, fb, fs, fc, fo⟩ := F
  have hp : fp = _ := hp
  have hs : fs = _ := hs
  subst hp hs
  refine nokL_of (N := ["_law_bad", "_law_p"]) ns_16 (fun pm ctv us hl => match us, hl with | [], _ => rfl) (fun ws vs H Q E h => ?_) fun A outer s H vs ws Q E hr hw h => ?_
  · obtain ⟨b, ns, p, rfl, rfl, _⟩ := h
    rfl
  · obtain ⟨b, ns, p, rfl, rfl, hb, bd⟩ := h
    refine ⟨_, (pe_ownK k_parts (hr.mono (by decide)) rfl (passes_call (takes_of rfl rfl rfl rfl) (fun _ _ _ _ h => h)) (pa_cons (pv 0) pa_nil) (pk_cons (pv 1) pk_nil)), ?_⟩
    exact ⟨_, rfl, _, rfl, rfl, rfl, (b, ns), p, rfl, b, ns, p, rfl, hb.1, hb.2, bd.imp fun z => .inl z⟩
abbrev L_17 : Arguments × Expr × Scope := lamAt ((defBody s_law_doors).getD 9 (.Pass ⟨0, 0, 0, 0⟩)) 1
theorem ns_17 : NScope (["_law_bad", "_law_p"] : List Str) [] ["_law_bad", "_law_p"] L_17.2.2 := nscope_by (by decide +kernel)
theorem nb_17 : ndefB (defScope s_law_doors) L_17.2.2 ["_law_bad", "_law_p"] = true := by decide +kernel
theorem lam_17 {f : Addr} {F : NF} (hp : F.params = L_17.1) (hs : F.scope = L_17.2.2) (k_rest_roots : OwnK P w K mg base (L2.CX P w) 6 1 "rest_roots" ["poly", "prime"] ["prime"] (sp_rest_roots K C)) : NOkL P w K mg base (L2.CX P w) 7 f F L_17.2.1 [] ["_law_bad", "_law_p"] (spA2 K C) := by
  obtain ⟨fn, fq, fp, fb, fs, fc, fo⟩ := F
  have hp : fp = _ := hp
  have hs : fs = _ := hs
  subst hp hs
  refine nokL_of (N := ["_law_bad", "_law_p"]) ns_17 (fun pm ctv us hl => match us, hl with | [], _ => rfl) (fun ws vs H Q E h => ?_) fun A outer s H vs ws Q E hr hw h => ?_
  · obtain ⟨b, ns, p, rfl, rfl, _⟩ := h
    rfl
  · obtain ⟨b, ns, p, rfl, rfl, hb, bd⟩ := h
    refine ⟨_, (pe_ownK k_rest_roots (hr.mono (by decide)) rfl (passes_call (takes_of rfl rfl rfl rfl) (fun _ _ _ _ h => h)) (pa_cons (pv 0) pa_nil) (pk_cons (pv 1) pk_nil)), ?_⟩
    exact ⟨_, rfl, _, rfl, rfl, rfl, (b, ns), p, rfl, b, ns, p, rfl, hb.1, hb.2, bd.imp fun z => .inl z⟩
abbrev L_18 : Arguments × Expr × Scope := lamAt ((defBody s_law_doors).getD 10 (.Pass ⟨0, 0, 0, 0⟩)) 0
theorem ns_18 : NScope (["_law_bad", "_law_p"] : List Str) [] ["_law_bad", "_law_p"] L_18.2.2 := nscope_by (by decide +kernel)
theorem nb_18 : ndefB (defScope s_law_doors) L_18.2.2 ["_law_bad", "_law_p"] = true := by decide +kernel
theorem lam_18 {f : Addr} {F : NF} (hp : F.params = L_18.1) (hs : F.scope = L_18.2.2) (k_paper : OwnK P w K mg base (L2.CX P w) 6 1 "paper" ["poly", "prime"] ["prime"] (sp_paper K C)) : NOkL P w K mg base (L2.CX P w) 7 f F L_18.2.1 [] ["_law_bad", "_law_p"] (spA2 K C) := by
  obtain ⟨fn, fq, fp, fb, fs, fc, fo⟩ := F
  have hp : fp = _ := hp
  have hs : fs = _ := hs
  subst hp hs
  refine nokL_of (N := ["_law_bad", "_law_p"]) ns_18 (fun pm ctv us hl => match us, hl with | [], _ => rfl) (fun ws vs H Q E h => ?_) fun A outer s H vs ws Q E hr hw h => ?_
  · obtain ⟨b, ns, p, rfl, rfl, _⟩ := h
    rfl
  · obtain ⟨b, ns, p, rfl, rfl, hb, bd⟩ := h
    refine ⟨_, (pe_ownK k_paper (hr.mono (by decide)) rfl (passes_call (takes_of rfl rfl rfl rfl) (fun _ _ _ _ h => h)) (pa_cons (pv 0) pa_nil) (pk_cons (pv 1) pk_nil)), ?_⟩
    exact ⟨_, rfl, _, rfl, rfl, rfl, (b, ns), p, rfl, b, ns, p, rfl, hb.1, hb.2, bd.imp fun z => .inl z⟩
abbrev L_19 : Arguments × Expr × Scope := lamAt ((defBody s_law_doors).getD 10 (.Pass ⟨0, 0, 0, 0⟩)) 1
theorem ns_19 : NScope (["_law_bad", "_law_good", "_law_p"] : List Str) [] ["_law_bad", "_law_good", "_law_p"] L_19.2.2 := nscope_by (by decide +kernel)
theorem nb_19 : ndefB (defScope s_law_doors) L_19.2.2 ["_law_bad", "_law_good", "_law_p"] = true := by decide +kernel
theorem lam_19 {f : Addr} {F : NF} (hp : F.params = L_19.1) (hs : F.scope = L_19.2.2) (k_paper_holds : OwnK P w K mg base (L2.CX P w) 6 2 "paper_holds" ["poly", "told", "prime"] ["prime"] (sp_paper_holds K C)) : NOkL P w K mg base (L2.CX P w) 7 f F L_19.2.1 [] ["_law_bad", "_law_good", "_law_p"] (spA3 K C) := by
  obtain ⟨fn, fq, fp, fb, fs, fc, fo⟩ := F
  have hp : fp = _ := hp
  have hs : fs = _ := hs
  subst hp hs
  refine nokL_of (N := ["_law_bad", "_law_good", "_law_p"]) ns_19 (fun pm ctv us hl => match us, hl with | [], _ => rfl) (fun ws vs H Q E h => ?_) fun A outer s H vs ws Q E hr hw h => ?_
  · obtain ⟨b, g, ns, p, rfl, rfl, _⟩ := h
    rfl
  · obtain ⟨b, g, ns, p, rfl, rfl, hb, hg, bd⟩ := h
    refine ⟨_, (pe_ownK k_paper_holds (hr.mono (by decide)) rfl (passes_call (takes_of rfl rfl rfl rfl) (fun _ _ _ _ h => h)) (pa_cons (pv 0) (pa_cons (pe_tup (pa_cons pe_str (pa_cons (pv 1) (pa_cons (pv 1) pa_nil)))) pa_nil)) (pk_cons (pv 2) pk_nil)), ?_⟩
    exact ⟨_, rfl, _, rfl, _, rfl, (by show 3 ≤ sizeLine; decide), fun e he => ⟨_, rfl, rfl, rfl, (b, ns), V.ref e, p, rfl, b, ns, p, rfl, (hb.same (same_upd (o := .tup [.str "parts", .ref g, .ref g]) he)).1, (hb.same (same_upd (o := .tup [.str "parts", .ref g, .ref g]) he)).2, (bd.same (same_upd (o := .tup [.str "parts", .ref g, .ref g]) he)).imp fun z => .inl z⟩⟩
/-- the context of _law_doors -/
abbrev DX (P : Program) (w : World) (K : PySem.W.Frag) (mg : Str → Option Value) (base : Heap) (fD cD : Addr) (A : Around) (outer : List Env) (s0 : Shared) (H0 : Hp) (E0' : XK) : Cx := (cxOf CX0 P w K mg base ["_law_bad", "_law_p", "_law_good", "_law_asks", "_law_ask"] "_law_doors" (defScope s_law_doors) fD (.ref cD) A outer s0 H0 E0').nox
section
variable {fD cD : Addr} {A : Around} {outer : List Env} {s0 : Shared} {H0 : Hp} {E0' : XK} {b g : Addr} {ns : List Int} {p : Int}
theorem good_0 {f1 c1 : Addr} {H : Hp} (e1 : H f1 = some (LamO f1 (lamF (DX P w K mg base fD cD A outer s0 H0 E0') L_0.1 L_0.2.2 c1) L_0.2.1)) (k1 : H c1 = some (CodeO c1 ((DX P w K mg base fD cD A outer s0 H0 E0').env.qual ++ "<lambda>"))) (n1 : f1 ∉ frs (DX P w K mg base fD cD A outer s0 H0 E0').stack) (k_poly_plus : OwnK P w K mg base (L2.CX P w) 5 2 "poly_plus" ["one", "other", "prime"] ["prime"] (sp_poly_plus K C)) : GoodL (DX P w K mg base fD cD A outer s0 H0 E0') b g ns p C H (.ref f1) :=
  ⟨f1, lamF (DX P w K mg base fD cD A outer s0 H0 E0') L_0.1 L_0.2.2 c1, L_0.2.1, ["_law_bad", "_law_good", "_law_p"], [0, 2, 1], spA3 K C, rfl, n1, e1, k1, lam_0 rfl rfl k_poly_plus, fun ok => Caps.made ok (ndef_free nb_0) (ndef_fr nb_0) rfl, fun o H E Q d => ⟨b, g, ns, p, rfl, rfl, d.1, d.2.1, d.2.2⟩⟩
theorem good_1 {f1 c1 : Addr} {H : Hp} (e1 : H f1 = some (LamO f1 (lamF (DX P w K mg base fD cD A outer s0 H0 E0') L_1.1 L_1.2.2 c1) L_1.2.1)) (k1 : H c1 = some (CodeO c1 ((DX P w K mg base fD cD A outer s0 H0 E0').env.qual ++ "<lambda>"))) (n1 : f1 ∉ frs (DX P w K mg base fD cD A outer s0 H0 E0').stack) (k_poly_plus : OwnK P w K mg base (L2.CX P w) 5 2 "poly_plus" ["one", "other", "prime"] ["prime"] (sp_poly_plus K C)) : GoodL (DX P w K mg base fD cD A outer s0 H0 E0') b g ns p C H (.ref f1) :=
  ⟨f1, lamF (DX P w K mg base fD cD A outer s0 H0 E0') L_1.1 L_1.2.2 c1, L_1.2.1, ["_law_bad", "_law_good", "_law_p"], [0, 2, 1], spA3 K C, rfl, n1, e1, k1, lam_1 rfl rfl k_poly_plus, fun ok => Caps.made ok (ndef_free nb_1) (ndef_fr nb_1) rfl, fun o H E Q d => ⟨b, g, ns, p, rfl, rfl, d.1, d.2.1, d.2.2⟩⟩
theorem good_2 {f1 c1 : Addr} {H : Hp} (e1 : H f1 = some (LamO f1 (lamF (DX P w K mg base fD cD A outer s0 H0 E0') L_2.1 L_2.2.2 c1) L_2.2.1)) (k1 : H c1 = some (CodeO c1 ((DX P w K mg base fD cD A outer s0 H0 E0').env.qual ++ "<lambda>"))) (n1 : f1 ∉ frs (DX P w K mg base fD cD A outer s0 H0 E0').stack) (k_poly_minus : OwnK P w K mg base (L2.CX P w) 5 2 "poly_minus" ["one", "other", "prime"] ["prime"] (sp_poly_minus K C)) : GoodL (DX P w K mg base fD cD A outer s0 H0 E0') b g ns p C H (.ref f1) :=
  ⟨f1, lamF (DX P w K mg base fD cD A outer s0 H0 E0') L_2.1 L_2.2.2 c1, L_2.2.1, ["_law_bad", "_law_good", "_law_p"], [0, 2, 1], spA3 K C, rfl, n1, e1, k1, lam_2 rfl rfl k_poly_minus, fun ok => Caps.made ok (ndef_free nb_2) (ndef_fr nb_2) rfl, fun o H E Q d => ⟨b, g, ns, p, rfl, rfl, d.1, d.2.1, d.2.2⟩⟩
theorem good_3 {f1 c1 : Addr} {H : Hp} (e1 : H f1 = some (LamO f1 (lamF (DX P w K mg base fD cD A outer s0 H0 E0') L_3.1 L_3.2.2 c1) L_3.2.1)) (k1 : H c1 = some (CodeO c1 ((DX P w K mg base fD cD A outer s0 H0 E0').env.qual ++ "<lambda>"))) (n1 : f1 ∉ frs (DX P w K mg base fD cD A outer s0 H0 E0').stack) (k_poly_times : OwnK P w K mg base (L2.CX P w) 5 2 "poly_times" ["one", "other", "prime"] ["prime"] (sp_poly_times K C)) : GoodL (DX P w K mg base fD cD A outer s0 H0 E0') b g ns p C H (.ref f1) :=
  ⟨f1, lamF (DX P w K mg base fD cD A outer s0 H0 E0') L_3.1 L_3.2.2 c1, L_3.2.1, ["_law_bad", "_law_good", "_law_p"], [0, 2, 1], spA3 K C, rfl, n1, e1, k1, lam_3 rfl rfl k_poly_times, fun ok => Caps.made ok (ndef_free nb_3) (ndef_fr nb_3) rfl, fun o H E Q d => ⟨b, g, ns, p, rfl, rfl, d.1, d.2.1, d.2.2⟩⟩
theorem good_4 {f1 c1 : Addr} {H : Hp} (e1 : H f1 = some (LamO f1 (lamF (DX P w K mg base fD cD A outer s0 H0 E0') L_4.1 L_4.2.2 c1) L_4.2.1)) (k1 : H c1 = some (CodeO c1 ((DX P w K mg base fD cD A outer s0 H0 E0').env.qual ++ "<lambda>"))) (n1 : f1 ∉ frs (DX P w K mg base fD cD A outer s0 H0 E0').stack) (k_poly_parted : OwnK P w K mg base (L2.CX P w) 5 2 "poly_parted" ["one", "other", "prime"] ["prime"] (sp_poly_parted K C)) : GoodL (DX P w K mg base fD cD A outer s0 H0 E0') b g ns p C H (.ref f1) :=
  ⟨f1, lamF (DX P w K mg base fD cD A outer s0 H0 E0') L_4.1 L_4.2.2 c1, L_4.2.1, ["_law_bad", "_law_p"], [0, 1], spA2 K C, rfl, n1, e1, k1, lam_4 rfl rfl k_poly_parted, fun ok => Caps.made ok (ndef_free nb_4) (ndef_fr nb_4) rfl, fun o H E Q d => ⟨b, ns, p, rfl, rfl, d.1, d.2.2⟩⟩
theorem good_5 {f1 c1 : Addr} {H : Hp} (e1 : H f1 = some (LamO f1 (lamF (DX P w K mg base fD cD A outer s0 H0 E0') L_5.1 L_5.2.2 c1) L_5.2.1)) (k1 : H c1 = some (CodeO c1 ((DX P w K mg base fD cD A outer s0 H0 E0').env.qual ++ "<lambda>"))) (n1 : f1 ∉ frs (DX P w K mg base fD cD A outer s0 H0 E0').stack) (k_poly_parted : OwnK P w K mg base (L2.CX P w) 5 2 "poly_parted" ["one", "other", "prime"] ["prime"] (sp_poly_parted K C)) : GoodL (DX P w K mg base fD cD A outer s0 H0 E0') b g ns p C H (.ref f1) :=
  ⟨f1, lamF (DX P w K mg base fD cD A outer s0 H0 E0') L_5.1 L_5.2.2 c1, L_5.2.1, ["_law_bad", "_law_good", "_law_p"], [0, 2, 1], spA3 K C, rfl, n1, e1, k1, lam_5 rfl rfl k_poly_parted, fun ok => Caps.made ok (ndef_free nb_5) (ndef_fr nb_5) rfl, fun o H E Q d => ⟨b, g, ns, p, rfl, rfl, d.1, d.2.1, d.2.2⟩⟩
theorem good_6 {f1 c1 : Addr} {H : Hp} (e1 : H f1 = some (LamO f1 (lamF (DX P w K mg base fD cD A outer s0 H0 E0') L_6.1 L_6.2.2 c1) L_6.2.1)) (k1 : H c1 = some (CodeO c1 ((DX P w K mg base fD cD A outer s0 H0 E0').env.qual ++ "<lambda>"))) (n1 : f1 ∉ frs (DX P w K mg base fD cD A outer s0 H0 E0').stack) (k_poly_common : OwnK P w K mg base (L2.CX P w) 5 2 "poly_common" ["one", "other", "prime"] ["prime"] (sp_poly_common K C)) : GoodL (DX P w K mg base fD cD A outer s0 H0 E0') b g ns p C H (.ref f1) :=
  ⟨f1, lamF (DX P w K mg base fD cD A outer s0 H0 E0') L_6.1 L_6.2.2 c1, L_6.2.1, ["_law_bad", "_law_good", "_law_p"], [0, 2, 1], spA3 K C, rfl, n1, e1, k1, lam_6 rfl rfl k_poly_common, fun ok => Caps.made ok (ndef_free nb_6) (ndef_fr nb_6) rfl, fun o H E Q d => ⟨b, g, ns, p, rfl, rfl, d.1, d.2.1, d.2.2⟩⟩
theorem good_7 {f1 c1 : Addr} {H : Hp} (e1 : H f1 = some (LamO f1 (lamF (DX P w K mg base fD cD A outer s0 H0 E0') L_7.1 L_7.2.2 c1) L_7.2.1)) (k1 : H c1 = some (CodeO c1 ((DX P w K mg base fD cD A outer s0 H0 E0').env.qual ++ "<lambda>"))) (n1 : f1 ∉ frs (DX P w K mg base fD cD A outer s0 H0 E0').stack) (k_poly_value : OwnK P w K mg base (L2.CX P w) 5 2 "poly_value" ["one", "number", "prime"] ["prime"] (sp_poly_value K C)) : GoodL (DX P w K mg base fD cD A outer s0 H0 E0') b g ns p C H (.ref f1) :=
  ⟨f1, lamF (DX P w K mg base fD cD A outer s0 H0 E0') L_7.1 L_7.2.2 c1, L_7.2.1, ["_law_bad", "_law_p"], [0, 1], spA2 K C, rfl, n1, e1, k1, lam_7 rfl rfl k_poly_value, fun ok => Caps.made ok (ndef_free nb_7) (ndef_fr nb_7) rfl, fun o H E Q d => ⟨b, ns, p, rfl, rfl, d.1, d.2.2⟩⟩
theorem good_8 {f1 c1 : Addr} {H : Hp} (e1 : H f1 = some (LamO f1 (lamF (DX P w K mg base fD cD A outer s0 H0 E0') L_8.1 L_8.2.2 c1) L_8.2.1)) (k1 : H c1 = some (CodeO c1 ((DX P w K mg base fD cD A outer s0 H0 E0').env.qual ++ "<lambda>"))) (n1 : f1 ∉ frs (DX P w K mg base fD cD A outer s0 H0 E0').stack) (k_poly_put : OwnK P w K mg base (L2.CX P w) 5 3 "poly_put" ["one", "other", "rule", "prime"] ["prime"] (sp_poly_put K C)) : GoodL (DX P w K mg base fD cD A outer s0 H0 E0') b g ns p C H (.ref f1) :=
  ⟨f1, lamF (DX P w K mg base fD cD A outer s0 H0 E0') L_8.1 L_8.2.2 c1, L_8.2.1, ["_law_bad", "_law_good", "_law_p"], [0, 2, 1], spA3 K C, rfl, n1, e1, k1, lam_8 rfl rfl k_poly_put, fun ok => Caps.made ok (ndef_free nb_8) (ndef_fr nb_8) rfl, fun o H E Q d => ⟨b, g, ns, p, rfl, rfl, d.1, d.2.1, d.2.2⟩⟩
theorem good_9 {f1 c1 : Addr} {H : Hp} (e1 : H f1 = some (LamO f1 (lamF (DX P w K mg base fD cD A outer s0 H0 E0') L_9.1 L_9.2.2 c1) L_9.2.1)) (k1 : H c1 = some (CodeO c1 ((DX P w K mg base fD cD A outer s0 H0 E0').env.qual ++ "<lambda>"))) (n1 : f1 ∉ frs (DX P w K mg base fD cD A outer s0 H0 E0').stack) (k_poly_put : OwnK P w K mg base (L2.CX P w) 5 3 "poly_put" ["one", "other", "rule", "prime"] ["prime"] (sp_poly_put K C)) : GoodL (DX P w K mg base fD cD A outer s0 H0 E0') b g ns p C H (.ref f1) :=
  ⟨f1, lamF (DX P w K mg base fD cD A outer s0 H0 E0') L_9.1 L_9.2.2 c1, L_9.2.1, ["_law_bad", "_law_good", "_law_p"], [0, 2, 1], spA3 K C, rfl, n1, e1, k1, lam_9 rfl rfl k_poly_put, fun ok => Caps.made ok (ndef_free nb_9) (ndef_fr nb_9) rfl, fun o H E Q d => ⟨b, g, ns, p, rfl, rfl, d.1, d.2.1, d.2.2⟩⟩
theorem good_10 {f1 c1 : Addr} {H : Hp} (e1 : H f1 = some (LamO f1 (lamF (DX P w K mg base fD cD A outer s0 H0 E0') L_10.1 L_10.2.2 c1) L_10.2.1)) (k1 : H c1 = some (CodeO c1 ((DX P w K mg base fD cD A outer s0 H0 E0').env.qual ++ "<lambda>"))) (n1 : f1 ∉ frs (DX P w K mg base fD cD A outer s0 H0 E0').stack) (k_poly_put : OwnK P w K mg base (L2.CX P w) 5 3 "poly_put" ["one", "other", "rule", "prime"] ["prime"] (sp_poly_put K C)) : GoodL (DX P w K mg base fD cD A outer s0 H0 E0') b g ns p C H (.ref f1) :=
  ⟨f1, lamF (DX P w K mg base fD cD A outer s0 H0 E0') L_10.1 L_10.2.2 c1, L_10.2.1, ["_law_bad", "_law_good", "_law_p"], [0, 2, 1], spA3 K C, rfl, n1, e1, k1, lam_10 rfl rfl k_poly_put, fun ok => Caps.made ok (ndef_free nb_10) (ndef_fr nb_10) rfl, fun o H E Q d => ⟨b, g, ns, p, rfl, rfl, d.1, d.2.1, d.2.2⟩⟩
theorem good_11 {f1 c1 : Addr} {H : Hp} (e1 : H f1 = some (LamO f1 (lamF (DX P w K mg base fD cD A outer s0 H0 E0') L_11.1 L_11.2.2 c1) L_11.2.1)) (k1 : H c1 = some (CodeO c1 ((DX P w K mg base fD cD A outer s0 H0 E0').env.qual ++ "<lambda>"))) (n1 : f1 ∉ frs (DX P w K mg base fD cD A outer s0 H0 E0').stack) (k_poly_left : OwnK P w K mg base (L2.CX P w) 5 3 "poly_left" ["one", "exponent", "rule", "prime"] ["prime"] (sp_poly_left K C)) : GoodL (DX P w K mg base fD cD A outer s0 H0 E0') b g ns p C H (.ref f1) :=
  ⟨f1, lamF (DX P w K mg base fD cD A outer s0 H0 E0') L_11.1 L_11.2.2 c1, L_11.2.1, ["_law_bad", "_law_p"], [0, 1], spA2 K C, rfl, n1, e1, k1, lam_11 rfl rfl k_poly_left, fun ok => Caps.made ok (ndef_free nb_11) (ndef_fr nb_11) rfl, fun o H E Q d => ⟨b, ns, p, rfl, rfl, d.1, d.2.2⟩⟩
theorem good_12 {f1 c1 : Addr} {H : Hp} (e1 : H f1 = some (LamO f1 (lamF (DX P w K mg base fD cD A outer s0 H0 E0') L_12.1 L_12.2.2 c1) L_12.2.1)) (k1 : H c1 = some (CodeO c1 ((DX P w K mg base fD cD A outer s0 H0 E0').env.qual ++ "<lambda>"))) (n1 : f1 ∉ frs (DX P w K mg base fD cD A outer s0 H0 E0').stack) (k_poly_left : OwnK P w K mg base (L2.CX P w) 5 3 "poly_left" ["one", "exponent", "rule", "prime"] ["prime"] (sp_poly_left K C)) : GoodL (DX P w K mg base fD cD A outer s0 H0 E0') b g ns p C H (.ref f1) :=
  ⟨f1, lamF (DX P w K mg base fD cD A outer s0 H0 E0') L_12.1 L_12.2.2 c1, L_12.2.1, ["_law_bad", "_law_good", "_law_p"], [0, 2, 1], spA3 K C, rfl, n1, e1, k1, lam_12 rfl rfl k_poly_left, fun ok => Caps.made ok (ndef_free nb_12) (ndef_fr nb_12) rfl, fun o H E Q d => ⟨b, g, ns, p, rfl, rfl, d.1, d.2.1, d.2.2⟩⟩
theorem good_13 {f1 c1 : Addr} {H : Hp} (e1 : H f1 = some (LamO f1 (lamF (DX P w K mg base fD cD A outer s0 H0 E0') L_13.1 L_13.2.2 c1) L_13.2.1)) (k1 : H c1 = some (CodeO c1 ((DX P w K mg base fD cD A outer s0 H0 E0').env.qual ++ "<lambda>"))) (n1 : f1 ∉ frs (DX P w K mg base fD cD A outer s0 H0 E0').stack) (k_poly_slope : OwnK P w K mg base (L2.CX P w) 5 1 "poly_slope" ["one", "prime"] ["prime"] (sp_poly_slope K C)) : GoodL (DX P w K mg base fD cD A outer s0 H0 E0') b g ns p C H (.ref f1) :=
  ⟨f1, lamF (DX P w K mg base fD cD A outer s0 H0 E0') L_13.1 L_13.2.2 c1, L_13.2.1, ["_law_bad", "_law_p"], [0, 1], spA2 K C, rfl, n1, e1, k1, lam_13 rfl rfl k_poly_slope, fun ok => Caps.made ok (ndef_free nb_13) (ndef_fr nb_13) rfl, fun o H E Q d => ⟨b, ns, p, rfl, rfl, d.1, d.2.2⟩⟩
theorem good_14 {f1 c1 : Addr} {H : Hp} (e1 : H f1 = some (LamO f1 (lamF (DX P w K mg base fD cD A outer s0 H0 E0') L_14.1 L_14.2.2 c1) L_14.2.1)) (k1 : H c1 = some (CodeO c1 ((DX P w K mg base fD cD A outer s0 H0 E0').env.qual ++ "<lambda>"))) (n1 : f1 ∉ frs (DX P w K mg base fD cD A outer s0 H0 E0').stack) (k_poly_text : OwnK P w K mg base (L2.CX P w) 5 1 "poly_text" ["one", "prime"] ["prime"] (sp_poly_text K C)) : GoodL (DX P w K mg base fD cD A outer s0 H0 E0') b g ns p C H (.ref f1) :=
  ⟨f1, lamF (DX P w K mg base fD cD A outer s0 H0 E0') L_14.1 L_14.2.2 c1, L_14.2.1, ["_law_bad", "_law_p"], [0, 1], spA2 K C, rfl, n1, e1, k1, lam_14 rfl rfl k_poly_text, fun ok => Caps.made ok (ndef_free nb_14) (ndef_fr nb_14) rfl, fun o H E Q d => ⟨b, ns, p, rfl, rfl, d.1, d.2.2⟩⟩
theorem good_15 {f1 c1 : Addr} {H : Hp} (e1 : H f1 = some (LamO f1 (lamF (DX P w K mg base fD cD A outer s0 H0 E0') L_15.1 L_15.2.2 c1) L_15.2.1)) (k1 : H c1 = some (CodeO c1 ((DX P w K mg base fD cD A outer s0 H0 E0').env.qual ++ "<lambda>"))) (n1 : f1 ∉ frs (DX P w K mg base fD cD A outer s0 H0 E0').stack) (k_is_whole : OwnK P w K mg base (L2.CX P w) 5 1 "is_whole" ["poly", "prime"] ["prime"] (sp_is_whole K C)) : GoodL (DX P w K mg base fD cD A outer s0 H0 E0') b g ns p C H (.ref f1) :=
  ⟨f1, lamF (DX P w K mg base fD cD A outer s0 H0 E0') L_15.1 L_15.2.2 c1, L_15.2.1, ["_law_bad", "_law_p"], [0, 1], spA2 K C, rfl, n1, e1, k1, lam_15 rfl rfl k_is_whole, fun ok => Caps.made ok (ndef_free nb_15) (ndef_fr nb_15) rfl, fun o H E Q d => ⟨b, ns, p, rfl, rfl, d.1, d.2.2⟩⟩
theorem good_16 {f1 c1 : Addr} {H : Hp} (e1 : H f1 = some (LamO f1 (lamF (DX P w K mg base fD cD A outer s0 H0 E0') L_16.1 L_16.2.2 c1) L_16.2.1)) (k1 : H c1 = some (CodeO c1 ((DX P w K mg base fD cD A outer s0 H0 E0').env.qual ++ "<lambda>"))) (n1 : f1 ∉ frs (DX P w K mg base fD cD A outer s0 H0 E0').stack) (k_parts : OwnK P w K mg base (L2.CX P w) 6 1 "parts" ["poly", "prime"] ["prime"] (sp_parts K C)) : GoodL (DX P w K mg base fD cD A outer s0 H0 E0') b g ns p C H (.ref f1) :=
  ⟨f1, lamF (DX P w K mg base fD cD A outer s0 H0 E0') L_16.1 L_16.2.2 c1, L_16.2.1, ["_law_bad", "_law_p"], [0, 1], spA2 K C, rfl, n1, e1, k1, lam_16 rfl rfl k_parts, fun ok => Caps.made ok (ndef_free nb_16) (ndef_fr nb_16) rfl, fun o H E Q d => ⟨b, ns, p, rfl, rfl, d.1, d.2.2⟩⟩
theorem good_17 {f1 c1 : Addr} {H : Hp} (e1 : H f1 = some (LamO f1 (lamF (DX P w K mg base fD cD A outer s0 H0 E0') L_17.1 L_17.2.2 c1) L_17.2.1)) (k1 : H c1 = some (CodeO c1 ((DX P w K mg base fD cD A outer s0 H0 E0').env.qual ++ "<lambda>"))) (n1 : f1 ∉ frs (DX P w K mg base fD cD A outer s0 H0 E0').stack) (k_rest_roots : OwnK P w K mg base (L2.CX P w) 6 1 "rest_roots" ["poly", "prime"] ["prime"] (sp_rest_roots K C)) : GoodL (DX P w K mg base fD cD A outer s0 H0 E0') b g ns p C H (.ref f1) :=
  ⟨f1, lamF (DX P w K mg base fD cD A outer s0 H0 E0') L_17.1 L_17.2.2 c1, L_17.2.1, ["_law_bad", "_law_p"], [0, 1], spA2 K C, rfl, n1, e1, k1, lam_17 rfl rfl k_rest_roots, fun ok => Caps.made ok (ndef_free nb_17) (ndef_fr nb_17) rfl, fun o H E Q d => ⟨b, ns, p, rfl, rfl, d.1, d.2.2⟩⟩
theorem good_18 {f1 c1 : Addr} {H : Hp} (e1 : H f1 = some (LamO f1 (lamF (DX P w K mg base fD cD A outer s0 H0 E0') L_18.1 L_18.2.2 c1) L_18.2.1)) (k1 : H c1 = some (CodeO c1 ((DX P w K mg base fD cD A outer s0 H0 E0').env.qual ++ "<lambda>"))) (n1 : f1 ∉ frs (DX P w K mg base fD cD A outer s0 H0 E0').stack) (k_paper : OwnK P w K mg base (L2.CX P w) 6 1 "paper" ["poly", "prime"] ["prime"] (sp_paper K C)) : GoodL (DX P w K mg base fD cD A outer s0 H0 E0') b g ns p C H (.ref f1) :=
  ⟨f1, lamF (DX P w K mg base fD cD A outer s0 H0 E0') L_18.1 L_18.2.2 c1, L_18.2.1, ["_law_bad", "_law_p"], [0, 1], spA2 K C, rfl, n1, e1, k1, lam_18 rfl rfl k_paper, fun ok => Caps.made ok (ndef_free nb_18) (ndef_fr nb_18) rfl, fun o H E Q d => ⟨b, ns, p, rfl, rfl, d.1, d.2.2⟩⟩
theorem good_19 {f1 c1 : Addr} {H : Hp} (e1 : H f1 = some (LamO f1 (lamF (DX P w K mg base fD cD A outer s0 H0 E0') L_19.1 L_19.2.2 c1) L_19.2.1)) (k1 : H c1 = some (CodeO c1 ((DX P w K mg base fD cD A outer s0 H0 E0').env.qual ++ "<lambda>"))) (n1 : f1 ∉ frs (DX P w K mg base fD cD A outer s0 H0 E0').stack) (k_paper_holds : OwnK P w K mg base (L2.CX P w) 6 2 "paper_holds" ["poly", "told", "prime"] ["prime"] (sp_paper_holds K C)) : GoodL (DX P w K mg base fD cD A outer s0 H0 E0') b g ns p C H (.ref f1) :=
  ⟨f1, lamF (DX P w K mg base fD cD A outer s0 H0 E0') L_19.1 L_19.2.2 c1, L_19.2.1, ["_law_bad", "_law_good", "_law_p"], [0, 2, 1], spA3 K C, rfl, n1, e1, k1, lam_19 rfl rfl k_paper_holds, fun ok => Caps.made ok (ndef_free nb_19) (ndef_fr nb_19) rfl, fun o H E Q d => ⟨b, g, ns, p, rfl, rfl, d.1, d.2.1, d.2.2⟩⟩
end
theorem ok_law_doors {f cD PL PD gword : Addr} {c : Fin 14 → Addr} {fd : FuncData} (F : FunD K "_law_doors" "_law_doors" (defArgs s_law_doors) (defBody s_law_doors) (defScope s_law_doors) [] [] f fd) (hcd : fd.code = .ref cD) (TB : TabB base mg cD PD) (hne : PL ≠ PD) (KK : Kinds K c C)
    (G_law_word : Gives P w K mg base 10 7 "_law_word" gword (TTword K c)) (k_poly_plus : OwnK P w K mg base (L2.CX P w) 5 2 "poly_plus" ["one", "other", "prime"] ["prime"] (sp_poly_plus K C)) (k_poly_minus : OwnK P w K mg base (L2.CX P w) 5 2 "poly_minus" ["one", "other", "prime"] ["prime"] (sp_poly_minus K C)) (k_poly_times : OwnK P w K mg base (L2.CX P w) 5 2 "poly_times" ["one", "other", "prime"] ["prime"] (sp_poly_times K C)) (k_poly_parted : OwnK P w K mg base (L2.CX P w) 5 2 "poly_parted" ["one", "other", "prime"] ["prime"] (sp_poly_parted K C)) (k_poly_common : OwnK P w K mg base (L2.CX P w) 5 2 "poly_common" ["one", "other", "prime"] ["prime"] (sp_poly_common K C)) (k_poly_value : OwnK P w K mg base (L2.CX P w) 5 2 "poly_value" ["one", "number", "prime"] ["prime"] (sp_poly_value K C)) (k_poly_put : OwnK P w K mg base (L2.CX P w) 5 3 "poly_put" ["one", "other", "rule", "prime"] ["prime"] (sp_poly_put K C)) (k_poly_left : OwnK P w K mg base (L2.CX P w) 5 3 "poly_left" ["one", "exponent", "rule", "prime"] ["prime"] (sp_poly_left K C)) (k_poly_slope : OwnK P w K mg base (L2.CX P w) 5 1 "poly_slope" ["one", "prime"] ["prime"] (sp_poly_slope K C)) (k_poly_text : OwnK P w K mg base (L2.CX P w) 5 1 "poly_text" ["one", "prime"] ["prime"] (sp_poly_text K C)) (k_is_whole : OwnK P w K mg base (L2.CX P w) 5 1 "is_whole" ["poly", "prime"] ["prime"] (sp_is_whole K C)) (k_parts : OwnK P w K mg base (L2.CX P w) 6 1 "parts" ["poly", "prime"] ["prime"] (sp_parts K C)) (k_rest_roots : OwnK P w K mg base (L2.CX P w) 6 1 "rest_roots" ["poly", "prime"] ["prime"] (sp_rest_roots K C)) (k_paper : OwnK P w K mg base (L2.CX P w) 6 1 "paper" ["poly", "prime"] ["prime"] (sp_paper K C)) (k_paper_holds : OwnK P w K mg base (L2.CX P w) 6 2 "paper_holds" ["poly", "told", "prime"] ["prime"] (sp_paper_holds K C)) : FnOk P w K mg base CX0 11 f fd ["_law_bad", "_law_p"] (spDoors K PL PD) := by
  refine FunD_okC F hcd sc_law_doors (fun vs H Q E h => ?_) (fun A outer s H vs Q E hr h => ?_)
  · obtain ⟨b, ns, p, nm, rfl, _⟩ := h
    rfl
  · obtain ⟨b, ns, p, nm, rfl, hb, hT, hnm, k⟩ := h
    have hmT : (PD, doorQ) ∈ TL2 PL PD := List.mem_cons_of_mem _ (List.mem_singleton.mpr rfl)
    have hu : ∀ p ∈ TL2 PL PD, p.1 = PD → p.2 = doorQ := fun p hp e => by
      rcases List.mem_cons.mp hp with rfl | hp
      · exact absurd e hne
      · rw [List.mem_singleton.mp hp]
    refine ⟨_, PSs.nox (pss_cons (ps_set (i := 2) sc_law_doors.nd rfl (Or.inr rfl) (pe_tup (pa_cons pe_int pa_nil)))
      (pss_cons (ps_set (i := 3) sc_law_doors.nd rfl (Or.inl rfl) (pe_lst (pa_cons (pe_lamV TB rfl hmT hu rfl (ndef_free nb_0)) (pa_cons (pe_lamV TB rfl hmT hu rfl (ndef_free nb_1)) pa_nil))))
      (pss_cons (ps_set (i := 3) sc_law_doors.nd rfl (Or.inl rfl) (pe_op op_cat (pv 3) (pe_lst (pa_cons (pe_lamV TB rfl hmT hu rfl (ndef_free nb_2)) (pa_cons (pe_lamV TB rfl hmT hu rfl (ndef_free nb_3)) pa_nil)))))
      (pss_cons (ps_set (i := 3) sc_law_doors.nd rfl (Or.inl rfl) (pe_op op_cat (pv 3) (pe_lst (pa_cons (pe_lamV TB rfl hmT hu rfl (ndef_free nb_4)) (pa_cons (pe_lamV TB rfl hmT hu rfl (ndef_free nb_5)) pa_nil)))))
      (pss_cons (ps_set (i := 3) sc_law_doors.nd rfl (Or.inl rfl) (pe_op op_cat (pv 3) (pe_lst (pa_cons (pe_lamV TB rfl hmT hu rfl (ndef_free nb_6)) (pa_cons (pe_lamV TB rfl hmT hu rfl (ndef_free nb_7)) pa_nil)))))
      (pss_cons (ps_set (i := 3) sc_law_doors.nd rfl (Or.inl rfl) (pe_op op_cat (pv 3) (pe_lst (pa_cons (pe_lamV TB rfl hmT hu rfl (ndef_free nb_8)) (pa_cons (pe_lamV TB rfl hmT hu rfl (ndef_free nb_9)) pa_nil)))))
      (pss_cons (ps_set (i := 3) sc_law_doors.nd rfl (Or.inl rfl) (pe_op op_cat (pv 3) (pe_lst (pa_cons (pe_lamV TB rfl hmT hu rfl (ndef_free nb_10)) (pa_cons (pe_lamV TB rfl hmT hu rfl (ndef_free nb_11)) pa_nil)))))
      (pss_cons (ps_set (i := 3) sc_law_doors.nd rfl (Or.inl rfl) (pe_op op_cat (pv 3) (pe_lst (pa_cons (pe_lamV TB rfl hmT hu rfl (ndef_free nb_12)) (pa_cons (pe_lamV TB rfl hmT hu rfl (ndef_free nb_13)) pa_nil)))))
      (pss_cons (ps_set (i := 3) sc_law_doors.nd rfl (Or.inl rfl) (pe_op op_cat (pv 3) (pe_lst (pa_cons (pe_lamV TB rfl hmT hu rfl (ndef_free nb_14)) (pa_cons (pe_lamV TB rfl hmT hu rfl (ndef_free nb_15)) pa_nil)))))
      (pss_cons (ps_set (i := 3) sc_law_doors.nd rfl (Or.inl rfl) (pe_op op_cat (pv 3) (pe_lst (pa_cons (pe_lamV TB rfl hmT hu rfl (ndef_free nb_16)) (pa_cons (pe_lamV TB rfl hmT hu rfl (ndef_free nb_17)) pa_nil)))))
      (pss_cons (ps_set (i := 3) sc_law_doors.nd rfl (Or.inl rfl) (pe_op op_cat (pv 3) (pe_lst (pa_cons (pe_lamV TB rfl hmT hu rfl (ndef_free nb_18)) (pa_cons (pe_lamV TB rfl hmT hu rfl (ndef_free nb_19)) pa_nil)))))
      (pss_one (ps_ret (pe_lcF (own := [("_law_ask", 4)]) rfl sc_law_doors.nd (pi_list (pv 3)) (blkOk_by (own := [("_law_ask", 4)]) (N := ["_law_bad", "_law_p", "_law_good", "_law_asks", "_law_ask"]) (sc := defScope s_law_doors) (by decide +kernel)) (fun _ _ _ _ _ => pg_name (i := 4) sc_law_doors.nd rfl (Or.inl rfl) (Or.inr rfl)) (fun pins σ s1 H1 C cl fp I0 hfp => pe_wordV G_law_word I0 hfp hr rfl (pa_cons (pv 4) pa_nil)))))))))))))))) , ?_⟩
    refine ⟨(by show 1 ≤ sizeLine; decide), fun g hg0 => ?_⟩
    have sg0 := same_upd (o := .tup [.int 1]) hg0
    have hb0 := hb.same sg0
    have hg1 : At K (L2.upd H g (.tup [.int 1])) (g, [1]) := ⟨.inl (.inl upd_same), (by show 1 ≤ 100; decide)⟩
    have hg2 := hg1
    have G0 : Gr (TL2 PL PD) H (L2.upd H g (.tup [.int 1])) := .of hT sg0
    refine ⟨G0.t, fun f0 c0 Ha0 ga0 na0 e0 k0 r0 => ⟨ga0.t, fun f1 c1 Hb0 gb0 nb1 e1 k1 r1 => ⟨(by show 2 ≤ sizeLine; decide), fun l0 hl0 => ?_⟩⟩⟩
    have sl0 := same_upd (o := .lst [.ref f0, .ref f1]) hl0
    have x0 := good_0 (b := b) (g := g) (ns := ns) (p := p) e0 k0 r0 k_poly_plus
    have x1 := good_1 (b := b) (g := g) (ns := ns) (p := p) e1 k1 r1 k_poly_plus
    have gl0 := (ga0.trans gb0).same sl0
    have y0 := (x0.ext gb0.x).same sl0
    have y1 := x1.same sl0
    have A0 := Asks.two upd_same y0 y1
    have G1 := G0.trans gl0
    have GG1 := gl0
    refine ⟨_, rfl, G1.t, fun f2 c2 Ha1 ga1 na2 e2 k2 r2 => ⟨ga1.t, fun f3 c3 Hb1 gb1 nb3 e3 k3 r3 => ⟨(by show 2 ≤ sizeLine; decide), fun l1 hl1 => ?_⟩⟩⟩
    have sl1 := same_upd (o := .lst [.ref f2, .ref f3]) hl1
    have x2 := good_2 (b := b) (g := g) (ns := ns) (p := p) e2 k2 r2 k_poly_minus
    have x3 := good_3 (b := b) (g := g) (ns := ns) (p := p) e3 k3 r3 k_poly_times
    have gl1 := (ga1.trans gb1).same sl1
    have y2 := (x2.ext gb1.x).same sl1
    have y3 := x3.same sl1
    have hL1 := gl1.x _ _ A0.l (fun _ z => by cases z)
    refine ⟨_, l1, _, _, rfl, rfl, hL1, upd_same, (by rw [A0.n]; show 4 ≤ sizeLine; decide), fun q1 hq1 => ?_⟩
    have A1 := A0.add gl1 hq1 y2 y3
    have G2 := (G1.trans gl1).same (same_upd (o := .lst ([V.ref f0, V.ref f1] ++ [V.ref f2, V.ref f3])) hq1)
    have GG2 := (GG1.trans gl1).same (same_upd (o := .lst ([V.ref f0, V.ref f1] ++ [V.ref f2, V.ref f3])) hq1)
    refine ⟨_, rfl, G2.t, fun f4 c4 Ha2 ga2 na4 e4 k4 r4 => ⟨ga2.t, fun f5 c5 Hb2 gb2 nb5 e5 k5 r5 => ⟨(by show 2 ≤ sizeLine; decide), fun l2 hl2 => ?_⟩⟩⟩
    have sl2 := same_upd (o := .lst [.ref f4, .ref f5]) hl2
    have x4 := good_4 (b := b) (g := g) (ns := ns) (p := p) e4 k4 r4 k_poly_parted
    have x5 := good_5 (b := b) (g := g) (ns := ns) (p := p) e5 k5 r5 k_poly_parted
    have gl2 := (ga2.trans gb2).same sl2
    have y4 := (x4.ext gb2.x).same sl2
    have y5 := x5.same sl2
    have hL2 := gl2.x _ _ A1.l (fun _ z => by cases z)
    refine ⟨_, l2, _, _, rfl, rfl, hL2, upd_same, (by rw [A1.n]; show 6 ≤ sizeLine; decide), fun q2 hq2 => ?_⟩
    have A2 := A1.add gl2 hq2 y4 y5
    have G3 := (G2.trans gl2).same (same_upd (o := .lst (([V.ref f0, V.ref f1] ++ [V.ref f2, V.ref f3]) ++ [V.ref f4, V.ref f5])) hq2)
    have GG3 := (GG2.trans gl2).same (same_upd (o := .lst (([V.ref f0, V.ref f1] ++ [V.ref f2, V.ref f3]) ++ [V.ref f4, V.ref f5])) hq2)
    refine ⟨_, rfl, G3.t, fun f6 c6 Ha3 ga3 na6 e6 k6 r6 => ⟨ga3.t, fun f7 c7 Hb3 gb3 nb7 e7 k7 r7 => ⟨(by show 2 ≤ sizeLine; decide), fun l3 hl3 => ?_⟩⟩⟩
    have sl3 := same_upd (o := .lst [.ref f6, .ref f7]) hl3
    have x6 := good_6 (b := b) (g := g) (ns := ns) (p := p) e6 k6 r6 k_poly_common
    have x7 := good_7 (b := b) (g := g) (ns := ns) (p := p) e7 k7 r7 k_poly_value
    have gl3 := (ga3.trans gb3).same sl3
    have y6 := (x6.ext gb3.x).same sl3
    have y7 := x7.same sl3
    have hL3 := gl3.x _ _ A2.l (fun _ z => by cases z)
    refine ⟨_, l3, _, _, rfl, rfl, hL3, upd_same, (by rw [A2.n]; show 8 ≤ sizeLine; decide), fun q3 hq3 => ?_⟩
    have A3 := A2.add gl3 hq3 y6 y7
    have G4 := (G3.trans gl3).same (same_upd (o := .lst ((([V.ref f0, V.ref f1] ++ [V.ref f2, V.ref f3]) ++ [V.ref f4, V.ref f5]) ++ [V.ref f6, V.ref f7])) hq3)
    have GG4 := (GG3.trans gl3).same (same_upd (o := .lst ((([V.ref f0, V.ref f1] ++ [V.ref f2, V.ref f3]) ++ [V.ref f4, V.ref f5]) ++ [V.ref f6, V.ref f7])) hq3)
    refine ⟨_, rfl, G4.t, fun f8 c8 Ha4 ga4 na8 e8 k8 r8 => ⟨ga4.t, fun f9 c9 Hb4 gb4 nb9 e9 k9 r9 => ⟨(by show 2 ≤ sizeLine; decide), fun l4 hl4 => ?_⟩⟩⟩
    have sl4 := same_upd (o := .lst [.ref f8, .ref f9]) hl4
    have x8 := good_8 (b := b) (g := g) (ns := ns) (p := p) e8 k8 r8 k_poly_put
    have x9 := good_9 (b := b) (g := g) (ns := ns) (p := p) e9 k9 r9 k_poly_put
    have gl4 := (ga4.trans gb4).same sl4
    have y8 := (x8.ext gb4.x).same sl4
    have y9 := x9.same sl4
    have hL4 := gl4.x _ _ A3.l (fun _ z => by cases z)
    refine ⟨_, l4, _, _, rfl, rfl, hL4, upd_same, (by rw [A3.n]; show 10 ≤ sizeLine; decide), fun q4 hq4 => ?_⟩
    have A4 := A3.add gl4 hq4 y8 y9
    have G5 := (G4.trans gl4).same (same_upd (o := .lst (((([V.ref f0, V.ref f1] ++ [V.ref f2, V.ref f3]) ++ [V.ref f4, V.ref f5]) ++ [V.ref f6, V.ref f7]) ++ [V.ref f8, V.ref f9])) hq4)
    have GG5 := (GG4.trans gl4).same (same_upd (o := .lst (((([V.ref f0, V.ref f1] ++ [V.ref f2, V.ref f3]) ++ [V.ref f4, V.ref f5]) ++ [V.ref f6, V.ref f7]) ++ [V.ref f8, V.ref f9])) hq4)
    refine ⟨_, rfl, G5.t, fun f10 c10 Ha5 ga5 na10 e10 k10 r10 => ⟨ga5.t, fun f11 c11 Hb5 gb5 nb11 e11 k11 r11 => ⟨(by show 2 ≤ sizeLine; decide), fun l5 hl5 => ?_⟩⟩⟩
    have sl5 := same_upd (o := .lst [.ref f10, .ref f11]) hl5
    have x10 := good_10 (b := b) (g := g) (ns := ns) (p := p) e10 k10 r10 k_poly_put
    have x11 := good_11 (b := b) (g := g) (ns := ns) (p := p) e11 k11 r11 k_poly_left
    have gl5 := (ga5.trans gb5).same sl5
    have y10 := (x10.ext gb5.x).same sl5
    have y11 := x11.same sl5
    have hL5 := gl5.x _ _ A4.l (fun _ z => by cases z)
    refine ⟨_, l5, _, _, rfl, rfl, hL5, upd_same, (by rw [A4.n]; show 12 ≤ sizeLine; decide), fun q5 hq5 => ?_⟩
    have A5 := A4.add gl5 hq5 y10 y11
    have G6 := (G5.trans gl5).same (same_upd (o := .lst ((((([V.ref f0, V.ref f1] ++ [V.ref f2, V.ref f3]) ++ [V.ref f4, V.ref f5]) ++ [V.ref f6, V.ref f7]) ++ [V.ref f8, V.ref f9]) ++ [V.ref f10, V.ref f11])) hq5)
    have GG6 := (GG5.trans gl5).same (same_upd (o := .lst ((((([V.ref f0, V.ref f1] ++ [V.ref f2, V.ref f3]) ++ [V.ref f4, V.ref f5]) ++ [V.ref f6, V.ref f7]) ++ [V.ref f8, V.ref f9]) ++ [V.ref f10, V.ref f11])) hq5)
    refine ⟨_, rfl, G6.t, fun f12 c12 Ha6 ga6 na12 e12 k12 r12 => ⟨ga6.t, fun f13 c13 Hb6 gb6 nb13 e13 k13 r13 => ⟨(by show 2 ≤ sizeLine; decide), fun l6 hl6 => ?_⟩⟩⟩
    have sl6 := same_upd (o := .lst [.ref f12, .ref f13]) hl6
    have x12 := good_12 (b := b) (g := g) (ns := ns) (p := p) e12 k12 r12 k_poly_left
    have x13 := good_13 (b := b) (g := g) (ns := ns) (p := p) e13 k13 r13 k_poly_slope
    have gl6 := (ga6.trans gb6).same sl6
    have y12 := (x12.ext gb6.x).same sl6
    have y13 := x13.same sl6
    have hL6 := gl6.x _ _ A5.l (fun _ z => by cases z)
    refine ⟨_, l6, _, _, rfl, rfl, hL6, upd_same, (by rw [A5.n]; show 14 ≤ sizeLine; decide), fun q6 hq6 => ?_⟩
    have A6 := A5.add gl6 hq6 y12 y13
    have G7 := (G6.trans gl6).same (same_upd (o := .lst (((((([V.ref f0, V.ref f1] ++ [V.ref f2, V.ref f3]) ++ [V.ref f4, V.ref f5]) ++ [V.ref f6, V.ref f7]) ++ [V.ref f8, V.ref f9]) ++ [V.ref f10, V.ref f11]) ++ [V.ref f12, V.ref f13])) hq6)
    have GG7 := (GG6.trans gl6).same (same_upd (o := .lst (((((([V.ref f0, V.ref f1] ++ [V.ref f2, V.ref f3]) ++ [V.ref f4, V.ref f5]) ++ [V.ref f6, V.ref f7]) ++ [V.ref f8, V.ref f9]) ++ [V.ref f10, V.ref f11]) ++ [V.ref f12, V.ref f13])) hq6)
    refine ⟨_, rfl, G7.t, fun f14 c14 Ha7 ga7 na14 e14 k14 r14 => ⟨ga7.t, fun f15 c15 Hb7 gb7 nb15 e15 k15 r15 => ⟨(by show 2 ≤ sizeLine; decide), fun l7 hl7 => ?_⟩⟩⟩
    have sl7 := same_upd (o := .lst [.ref f14, .ref f15]) hl7
    have x14 := good_14 (b := b) (g := g) (ns := ns) (p := p) e14 k14 r14 k_poly_text
    have x15 := good_15 (b := b) (g := g) (ns := ns) (p := p) e15 k15 r15 k_is_whole
    have gl7 := (ga7.trans gb7).same sl7
    have y14 := (x14.ext gb7.x).same sl7
    have y15 := x15.same sl7
    have hL7 := gl7.x _ _ A6.l (fun _ z => by cases z)
    refine ⟨_, l7, _, _, rfl, rfl, hL7, upd_same, (by rw [A6.n]; show 16 ≤ sizeLine; decide), fun q7 hq7 => ?_⟩
    have A7 := A6.add gl7 hq7 y14 y15
    have G8 := (G7.trans gl7).same (same_upd (o := .lst ((((((([V.ref f0, V.ref f1] ++ [V.ref f2, V.ref f3]) ++ [V.ref f4, V.ref f5]) ++ [V.ref f6, V.ref f7]) ++ [V.ref f8, V.ref f9]) ++ [V.ref f10, V.ref f11]) ++ [V.ref f12, V.ref f13]) ++ [V.ref f14, V.ref f15])) hq7)
    have GG8 := (GG7.trans gl7).same (same_upd (o := .lst ((((((([V.ref f0, V.ref f1] ++ [V.ref f2, V.ref f3]) ++ [V.ref f4, V.ref f5]) ++ [V.ref f6, V.ref f7]) ++ [V.ref f8, V.ref f9]) ++ [V.ref f10, V.ref f11]) ++ [V.ref f12, V.ref f13]) ++ [V.ref f14, V.ref f15])) hq7)
    refine ⟨_, rfl, G8.t, fun f16 c16 Ha8 ga8 na16 e16 k16 r16 => ⟨ga8.t, fun f17 c17 Hb8 gb8 nb17 e17 k17 r17 => ⟨(by show 2 ≤ sizeLine; decide), fun l8 hl8 => ?_⟩⟩⟩
    have sl8 := same_upd (o := .lst [.ref f16, .ref f17]) hl8
    have x16 := good_16 (b := b) (g := g) (ns := ns) (p := p) e16 k16 r16 k_parts
    have x17 := good_17 (b := b) (g := g) (ns := ns) (p := p) e17 k17 r17 k_rest_roots
    have gl8 := (ga8.trans gb8).same sl8
    have y16 := (x16.ext gb8.x).same sl8
    have y17 := x17.same sl8
    have hL8 := gl8.x _ _ A7.l (fun _ z => by cases z)
    refine ⟨_, l8, _, _, rfl, rfl, hL8, upd_same, (by rw [A7.n]; show 18 ≤ sizeLine; decide), fun q8 hq8 => ?_⟩
    have A8 := A7.add gl8 hq8 y16 y17
    have G9 := (G8.trans gl8).same (same_upd (o := .lst (((((((([V.ref f0, V.ref f1] ++ [V.ref f2, V.ref f3]) ++ [V.ref f4, V.ref f5]) ++ [V.ref f6, V.ref f7]) ++ [V.ref f8, V.ref f9]) ++ [V.ref f10, V.ref f11]) ++ [V.ref f12, V.ref f13]) ++ [V.ref f14, V.ref f15]) ++ [V.ref f16, V.ref f17])) hq8)
    have GG9 := (GG8.trans gl8).same (same_upd (o := .lst (((((((([V.ref f0, V.ref f1] ++ [V.ref f2, V.ref f3]) ++ [V.ref f4, V.ref f5]) ++ [V.ref f6, V.ref f7]) ++ [V.ref f8, V.ref f9]) ++ [V.ref f10, V.ref f11]) ++ [V.ref f12, V.ref f13]) ++ [V.ref f14, V.ref f15]) ++ [V.ref f16, V.ref f17])) hq8)
    refine ⟨_, rfl, G9.t, fun f18 c18 Ha9 ga9 na18 e18 k18 r18 => ⟨ga9.t, fun f19 c19 Hb9 gb9 nb19 e19 k19 r19 => ⟨(by show 2 ≤ sizeLine; decide), fun l9 hl9 => ?_⟩⟩⟩
    have sl9 := same_upd (o := .lst [.ref f18, .ref f19]) hl9
    have x18 := good_18 (b := b) (g := g) (ns := ns) (p := p) e18 k18 r18 k_paper
    have x19 := good_19 (b := b) (g := g) (ns := ns) (p := p) e19 k19 r19 k_paper_holds
    have gl9 := (ga9.trans gb9).same sl9
    have y18 := (x18.ext gb9.x).same sl9
    have y19 := x19.same sl9
    have hL9 := gl9.x _ _ A8.l (fun _ z => by cases z)
    refine ⟨_, l9, _, _, rfl, rfl, hL9, upd_same, (by rw [A8.n]; show 20 ≤ sizeLine; decide), fun q9 hq9 => ?_⟩
    have A9 := A8.add gl9 hq9 y18 y19
    have G10 := (G9.trans gl9).same (same_upd (o := .lst ((((((((([V.ref f0, V.ref f1] ++ [V.ref f2, V.ref f3]) ++ [V.ref f4, V.ref f5]) ++ [V.ref f6, V.ref f7]) ++ [V.ref f8, V.ref f9]) ++ [V.ref f10, V.ref f11]) ++ [V.ref f12, V.ref f13]) ++ [V.ref f14, V.ref f15]) ++ [V.ref f16, V.ref f17]) ++ [V.ref f18, V.ref f19])) hq9)
    have GG10 := (GG9.trans gl9).same (same_upd (o := .lst ((((((((([V.ref f0, V.ref f1] ++ [V.ref f2, V.ref f3]) ++ [V.ref f4, V.ref f5]) ++ [V.ref f6, V.ref f7]) ++ [V.ref f8, V.ref f9]) ++ [V.ref f10, V.ref f11]) ++ [V.ref f12, V.ref f13]) ++ [V.ref f14, V.ref f15]) ++ [V.ref f16, V.ref f17]) ++ [V.ref f18, V.ref f19])) hq9)
    refine ⟨_, rfl, q9, rfl, ⟨_, SqL.of A9.l⟩, fun D hD => ?_⟩
    have hbq := hb.same_gr G10
    have hgq := hg1.same_gr GG10
    refine lc_it (walk_list (xs := ((((((((([V.ref f0, V.ref f1] ++ [V.ref f2, V.ref f3]) ++ [V.ref f4, V.ref f5]) ++ [V.ref f6, V.ref f7]) ++ [V.ref f8, V.ref f9]) ++ [V.ref f10, V.ref f11]) ++ [V.ref f12, V.ref f13]) ++ [V.ref f14, V.ref f15]) ++ [V.ref f16, V.ref f17]) ++ [V.ref f18, V.ref f19]))) (fun i H1 => Same (L2.upd (L2.upd Hb9 l9 (.lst [.ref f18, .ref f19])) q9 (.lst ((((((((([V.ref f0, V.ref f1] ++ [V.ref f2, V.ref f3]) ++ [V.ref f4, V.ref f5]) ++ [V.ref f6, V.ref f7]) ++ [V.ref f8, V.ref f9]) ++ [V.ref f10, V.ref f11]) ++ [V.ref f12, V.ref f13]) ++ [V.ref f14, V.ref f15]) ++ [V.ref f16, V.ref f17]) ++ [V.ref f18, V.ref f19]))) H1 ∧ H1 D = some (.lst (List.replicate i (.str nm))) ∧ i ≤ 20) ⟨same_upd hD, upd_same, Nat.zero_le _⟩ (fun i H1 _ h => SqL.of (h.1 _ _ A9.l)) ?_ ?_
    · rintro i x H1 H2 hi ⟨s1, e1, li⟩ ⟨rfl, hx⟩
      have hi : i < 20 := hi
      obtain ⟨f', F', bb, fr, js, sp, rfl, nf, h1, h2, Fn, cp, hsp⟩ := (A9.a x (List.mem_of_getElem? hx)).same s1
      refine ⟨rfl, _, rfl, f', F', bb, fr, js, sp, rfl, nf, h1, h2, Fn, cp, h1, hsp (some (.ref q9)) _ _ _ ⟨hbq.same s1, hgq.same s1, bd_word KK hnm fun H3 s3 => ?_⟩⟩
      refine ⟨_, s3 _ _ e1, ?_, lcs hD (s1.trans s3), ?_, hi⟩
      · rw [List.length_replicate]
        exact small1000 (by omega)
      · rw [upd_same, List.replicate_succ']
    · rintro H1 ⟨s1, e1, _⟩
      rw [show (((((((((([V.ref f0, V.ref f1] ++ [V.ref f2, V.ref f3]) ++ [V.ref f4, V.ref f5]) ++ [V.ref f6, V.ref f7]) ++ [V.ref f8, V.ref f9]) ++ [V.ref f10, V.ref f11]) ++ [V.ref f12, V.ref f13]) ++ [V.ref f14, V.ref f15]) ++ [V.ref f16, V.ref f17]) ++ [V.ref f18, V.ref f19]) : List V).length = 20 from A9.n] at e1
      exact k D H1 (G10.same s1) (G10.n D hD) e1
end
end Xk
end
section
set_option Elab.async false
set_option linter.all false
set_option maxRecDepth 100000
set_option maxHeartbeats 4000000
namespace Xk
open PySem PySem.Spec PyProof.Rows L2 Xh LamX
open NdefX
/-! ### the law's own state -/
/-- the draws stand at d, the tables stand, and what qs tells stands -/
structure Wd (d : Addr) (T : List (Addr × Str)) (qs : List (Addr × HO)) (H : Hp) : Prop where
  D : Draw H d
  T : Tabs T H
  q : ∀ p ∈ qs, p.1 ≠ d ∧ H p.1 = some p.2 ∧ ∀ ps, p.2 ≠ .tbl ps
section
variable {d : Addr} {T : List (Addr × Str)} {qs : List (Addr × HO)} {H H' : Hp}
theorem Draw.ext (D : Draw H d) (x : ExtN H H') : Draw H' d := by
  obtain ⟨c, ns, i, r, g, h1, h2, h3⟩ := D
  exact ⟨c, ns, i, r, g, x _ _ h1 (fun _ z => by cases z), x _ _ h2 (fun _ z => by cases z), h3⟩
theorem Wd.ext (w : Wd d T qs H) (x : ExtN H H') (t : Tabs T H') : Wd d T qs H' := ⟨w.D.ext x, t, fun p hp => ⟨(w.q p hp).1, x _ _ (w.q p hp).2.1 (w.q p hp).2.2, (w.q p hp).2.2⟩⟩
theorem Wd.gr (w : Wd d T qs H) (g : Gr T H H') : Wd d T qs H' := w.ext g.x g.t
theorem Wd.same (w : Wd d T qs H) (s : Same H H') : Wd d T qs H' := ⟨w.D.same s, w.T.ext s, fun p hp => ⟨(w.q p hp).1, s _ _ (w.q p hp).2.1, (w.q p hp).2.2⟩⟩
theorem Tabs.but (t : Tabs T H) (D : Draw H d) (b : But d H H') : Tabs T H' := fun p hp => by
  obtain ⟨ps, h1, h2, h3⟩ := t p hp
  obtain ⟨c, ns, i, r, g, e, _⟩ := D
  refine ⟨ps, b _ _ (fun z => ?_) h1, h2, fun pos cv hc => ?_⟩
  · rw [z, e] at h1
    cases h1
  · obtain ⟨c', e1, e2⟩ := h3 pos cv hc
    refine ⟨c', e1, b _ _ (fun z => ?_) e2⟩
    rw [z, e] at e2
    unfold CodeO at e2
    cases e2
theorem Wd.but (w : Wd d T qs H) (b : But d H H') (D' : Draw H' d) : Wd d T qs H' := ⟨D', Tabs.but w.T w.D b, fun p hp => ⟨(w.q p hp).1, b _ _ (w.q p hp).1 (w.q p hp).2.1, (w.q p hp).2.2⟩⟩
theorem Wd.add (w : Wd d T qs H) {p : Addr} {o : HO} (hp : H p = none) (ho : ∀ ps, o ≠ .tbl ps) : Wd d T ((p, o) :: qs) (L2.upd H p o) := by
  have w' := w.same (same_upd (o := o) hp)
  refine ⟨w'.D, w'.T, fun r hr => ?_⟩
  rcases List.mem_cons.mp hr with rfl | hr
  · exact ⟨w.D.ne hp, upd_same, ho⟩
  · exact w'.q r hr
theorem Wd.sub {rs : List (Addr × HO)} (w : Wd d T qs H) (h : ∀ p ∈ rs, p ∈ qs) : Wd d T rs H := ⟨w.D, w.T, fun p hp => w.q p (h p hp)⟩
theorem Wd.at {p : Addr} {o : HO} (w : Wd d T qs H) (h : (p, o) ∈ qs) : H p = some o := (w.q _ h).2.1
end
theorem same_tup {K : PySem.W.Frag} {H : Hp} {p q : Addr} {xs : List V} (hp : H p = some (.tup xs)) (hq : H q = some (.tup xs)) (hf : xs.all flatV = true) (hl : xs.length ≤ 1000) : SameAt K H 1 (.ref p) (.ref q) :=
  .inr ⟨p, q, xs, xs, rfl, rfl, .inr ⟨SqT.of hp, SqT.of hq⟩, rfl, hl, fun i x y hx hy => by
    rw [hx] at hy
    cases hy
    exact ⟨List.all_eq_true.mp hf _ (List.mem_of_getElem? hx), rfl⟩⟩
def spLaw (K : PySem.W.Frag) (PL PD : Addr) : Sp := fun vs H Q _ => ∃ (a : Addr) (ns : List Int), vs = [.ref a] ∧ SqL K H a (ns.map V.int) ∧ Tabs (TL2 PL PD) H ∧ ∀ H', Q (.bl true) H'
theorem sqT_butD {K : PySem.W.Frag} {d a : Addr} {H H' : Hp} {xs : List V} (D : Draw H d) (b : But d H H') (x : SqT K H a xs) : SqT K H' a xs := by
  obtain ⟨c, ns, i, r, g, h1, _⟩ := D
  have ne : ∀ o, H a = some o → (∀ ys, o ≠ .lst ys) → a ≠ d := fun o e n z => by
    rw [z, h1] at e
    exact n _ (Option.some.inj e).symm
  rcases x with (x | ⟨o, x⟩) | x
  · exact .inl (.inl (b _ _ (ne _ x (fun _ z => by cases z)) x))
  · exact .inl (.inr ⟨o, b _ _ (ne _ x (fun _ z => by cases z)) x⟩)
  · exact .inr x
theorem At.butD {K : PySem.W.Frag} {d : Addr} {H H' : Hp} {x : Addr × List Int} (a : At K H x) (D : Draw H d) (b : But d H H') : At K H' x := ⟨sqT_butD D b a.1, a.2⟩
theorem Gr.noneq {T : List (Addr × Str)} {H H' : Hp} (g : Gr T H H') {q : Addr} (h : H' q = none) : H q = none := g.n q h
/-- t + u, both of rests -/
theorem catA {K : PySem.W.Frag} {H : Hp} {a b : Addr} {xs ys : List Int} {Q : VK} (ha : SqT K H a (xs.map V.int)) (hb : SqT K H b (ys.map V.int)) (l : xs.length ≤ 100) (l2 : ys.length ≤ 100) (k : ∀ r H', Same H H' → SqT K H' r ((xs ++ ys).map V.int) → Q (.ref r) H') : rCatA K (.ref a) (.ref b) H Q := by
  refine ⟨a, b, _, _, rfl, rfl, ha, hb, ?_, fun e => ?_, fun _ e => ?_, fun _ _ p hp => ?_⟩
  · rw [List.length_map, List.length_map]
    exact Nat.le_trans (show xs.length + ys.length ≤ 200 by omega) (by decide)
  · have z : xs = [] := List.map_eq_nil_iff.mp e
    subst z
    exact k b H (fun _ _ z => z) hb
  · have z : ys = [] := List.map_eq_nil_iff.mp e
    subst z
    refine k a H (fun _ _ z => z) ?_
    rw [List.append_nil]
    exact ha
  · refine k p _ (same_upd hp) (.inl (.inl ?_))
    rw [upd_same, List.map_append]
theorem polyB_last {p : Int} {ms : List Int} : polyB p (ms ++ [0]) = false := by
  unfold polyB
  have e : (ms ++ [(0 : Int)]).getD ((ms ++ [(0 : Int)]).length - 1) 0 = 0 := by
    rw [List.length_append, List.length_singleton, Nat.add_sub_cancel, List.getD_eq_getElem?_getD, List.getElem?_append_right (Nat.le_refl _)]
    simp
  rw [e, decide_eq_false (show ¬ (ms ++ [(0 : Int)]) = [] by simp)]
  simp
theorem polyB_far {p m : Int} {ms : List Int} (h : m ∈ ms) (hm : ¬ (0 ≤ m ∧ m < p)) : polyB p ms = false := by
  unfold polyB
  have e : (ms.map (okR p)).all id = false := by
    rw [List.all_eq_false]
    exact ⟨okR p m, List.mem_map.mpr ⟨m, h, rfl⟩, by unfold okR; rw [decide_eq_false hm]; decide⟩
  rw [e]
  simp
theorem polyB_long {p : Int} {ms : List Int} (h : ¬ ms.length ≤ 25) : polyB p ms = false := by
  unfold polyB
  rw [decide_eq_false h]
  simp
theorem dp_rep {K : PySem.W.Frag} {H : Hp} (s : Str) : ∀ n, DpAll K H (List.replicate n (V.str s)) (List.replicate n (PyData.str s))
  | 0 => .nil
  | n + 1 => .cons (.str s) (dp_rep s n)
theorem dp_repL {K : PySem.W.Frag} {H : Hp} {q : Addr} {s : Str} {n : Nat} (h : H q = some (.lst (List.replicate n (.str s)))) : Dp K H (.ref q) (.list (List.replicate n (.str s))) := .lst (SqL.of h) (dp_rep s n)
section
variable {P : Program} {w : World} {K : PySem.W.Frag} {C : Fin 14 → Addr} {mg : Str → Option Value} {base : Heap}
abbrev s_law : Stmt := topS 112
theorem sc_law : FnScope (["_law_script", "_law_draw", "_law_turn", "_law_p", "_law_one", "_law_far_here", "_law_bad", "_law_words"] : List Str) ["_law_script"] (defScope s_law) := ⟨rfl, rfl, rfl, by decide +kernel, rfl, by decide +kernel, by decide +kernel⟩
theorem ok_law {f cL PL PD gword : Addr} {c : Fin 14 → Addr} {fd : FuncData} (F : FunD K "law" "law" (defArgs s_law) (defBody s_law) (defScope s_law) [] [] f fd) (hcd : fd.code = .ref cL) (TB : TabB base mg cL PL) (T : Fre mg) (hne : PL ≠ PD) (KK : Kinds K c C)
    (o_law_begin : Own P w K mg base CX0 1 "_law_begin" ["_law_script"] [] (spBegin K)) (o_law_of : Own P w K mg base CX0 2 "_law_of" ["_law_draw", "_law_row"] [] (spOf K)) (o_law_any_prime : Own P w K mg base CX0 3 "_law_any_prime" ["_law_draw"] [] spAnyPrime)
    (o_law_poly : Own P w K mg base CX0 3 "_law_poly" ["_law_draw", "_law_most", "_law_p"] [] (spPolyD K)) (o_law_bad_prime : Own P w K mg base CX0 3 "_law_bad_prime" ["_law_draw"] [] spBad) (o_law_far : Own P w K mg base CX0 3 "_law_far" ["_law_draw", "_law_p"] [] spFar)
    (o_law_doors : Own P w K mg base CX0 11 "_law_doors" ["_law_bad", "_law_p"] [] (spDoors K PL PD)) (G_law_word : Gives P w K mg base 10 7 "_law_word" gword (TTword K c))
    (k_read_poly : OwnK P w K mg base (L2.CX P w) 5 1 "read_poly" ["text", "prime"] ["prime"] (spRead C)) (o_parts : Own P w K mg base (L2.CX P w) 6 "parts" ["poly", "prime"] [.int 2] (sp_parts K C)) (o_rest_roots : Own P w K mg base (L2.CX P w) 6 "rest_roots" ["poly", "prime"] [.int 2] (sp_rest_roots K C))
    (o_paper : Own P w K mg base (L2.CX P w) 6 "paper" ["poly", "prime"] [.int 2] (sp_paper K C)) (o_paper_holds : Own P w K mg base (L2.CX P w) 6 "paper_holds" ["poly", "told", "prime"] [.int 2] (sp_paper_holds K C)) (o_poly_plus : Own P w K mg base (L2.CX P w) 5 "poly_plus" ["one", "other", "prime"] [.int 2] (spPlusG K)) : FnOk P w K mg base CX0 12 f fd ["_law_script"] (spLaw K PL PD) := by
  refine FunD_okC F hcd sc_law (fun vs H Q E h => ?_) (fun A outer s H vs Q E hr h => ?_)
  · obtain ⟨a, ns, rfl, _⟩ := h
    rfl
  · obtain ⟨a, ns, rfl, hS, hT, k⟩ := h
    have hmT : (PL, lamQ) ∈ TL2 PL PD := List.mem_cons_self
    have hu : ∀ p ∈ TL2 PL PD, p.1 = PL → p.2 = lamQ := fun p hp e => by
      rcases List.mem_cons.mp hp with rfl | hp
      · rfl
      · rw [List.mem_singleton.mp hp] at e
        exact absurd e.symm hne
    refine ⟨_, PSs.nox (pss_cons (ps_set (i := 1) sc_law.nd rfl (Or.inr rfl) (pe_own o_law_begin (hr.mono (by decide)) rfl pass0 (pa_cons (pv 0) pa_nil)))
      (pss_cons (ps_for PassesOwn.never rfl (pi_range1 (by rfl) T.f_range (pa_cons pe_int pa_nil)) (pg_name (i := 2) sc_law.nd rfl (Or.inl rfl)) (pss_cons (ps_set (i := 3) sc_law.nd rfl (Or.inl rfl) (pe_own o_law_any_prime (hr.mono (by decide)) rfl pass0 (pa_cons (pv 1) pa_nil)))
      (pss_cons (ps_set (i := 4) sc_law.nd rfl (Or.inl rfl) (pe_own o_law_poly (hr.mono (by decide)) rfl pass0 (pa_cons (pv 1) (pa_cons pe_int (pa_cons (pv 3) pa_nil)))))
      (pss_cons (ps_set (i := 5) sc_law.nd rfl (Or.inl rfl) (pe_own o_law_far (hr.mono (by decide)) rfl pass0 (pa_cons (pv 1) (pa_cons (pv 3) pa_nil))))
      (pss_cons (ps_set (i := 6) sc_law.nd rfl (Or.inl rfl) (pe_own o_law_of (hr.mono (by decide)) rfl pass0 (pa_cons (pv 1) (pa_cons (pe_lst (pa_cons (pe_op op_catA (pv 4) (pe_tup (pa_cons pe_int pa_nil))) (pa_cons (pe_op op_catA (pv 4) (pe_tup (pa_cons (pv 5) pa_nil))) (pa_cons (pe_op op_catA (pe_op op_catA (pe_tup (pa_cons (pv 5) pa_nil)) (pv 4)) (pe_tup (pa_cons pe_int pa_nil))) (pa_cons (pe_op op_repT (pe_tup (pa_cons pe_int pa_nil)) pe_int) (pa_cons (pe_op op_catA (pe_op op_repT (pe_tup (pa_cons pe_int pa_nil)) pe_int) (pe_tup (pa_cons pe_int pa_nil))) pa_nil)))))) pa_nil))))
      (pss_cons (ps_if (pt_cmpR (op_neD hr.units) (pe_own o_law_doors (hr.mono (by decide)) rfl pass0 (pa_cons (pv 6) (pa_cons (pv 3) pa_nil))) (pe_op op_rep (pe_lst (pa_cons pe_str pa_nil)) pe_int) (nomark _)) (pss_one (ps_ret pe_bl)) pss_nil)
      (pss_cons (ps_if (pt_cmpR (op_neD hr.units) (pe_own o_law_doors (hr.mono (by decide)) rfl pass0 (pa_cons (pv 6) (pa_cons (pe_own o_law_bad_prime (hr.mono (by decide)) rfl pass0 (pa_cons (pv 1) pa_nil)) pa_nil))) (pe_op op_rep (pe_lst (pa_cons pe_str pa_nil)) pe_int) (nomark _)) (pss_one (ps_ret pe_bl)) pss_nil)
      (pss_one (ps_if (pt_cmpR op_ne (pe_lam (T := TL2 PL PD) (kl := 7) G_law_word rfl TB rfl hmT hu (hr.mono (by decide)) (lamS_by (sc := defScope s_law) (by decide +kernel)) rfl (fun _ _ _ _ _ => rfl) (fun A outer s H E f c' hr2 => (pe_ownK k_read_poly (hr2.mono (by decide)) rfl (passes_call (takes_of rfl rfl rfl rfl) (fun _ _ _ _ h => h)) (pa_cons pe_str pa_nil) (pk_cons (pe_own o_law_bad_prime (hr2.mono (by decide)) rfl pass0 (pa_cons (pv 1) pa_nil)) pk_nil)))) pe_str (nomark _)) (pss_one (ps_ret pe_bl)) pss_nil)))))))))
      (pss_cons (ps_set (i := 7) sc_law.nd rfl (Or.inl rfl) (pe_lst (pa_cons (pe_lam (T := TL2 PL PD) (kl := 7) G_law_word rfl TB rfl hmT hu (hr.mono (by decide)) (lamS_by (sc := defScope s_law) (by decide +kernel)) rfl (fun _ _ _ _ _ => rfl) (fun A outer s H E f c' hr2 => (pe_own o_parts (hr2.mono (by decide)) rfl (passes_call (takes_of rfl rfl rfl rfl) (fun _ _ _ _ h => h)) (pa_cons (pe_tup pa_nil) pa_nil)))) (pa_cons (pe_lam (T := TL2 PL PD) (kl := 7) G_law_word rfl TB rfl hmT hu (hr.mono (by decide)) (lamS_by (sc := defScope s_law) (by decide +kernel)) rfl (fun _ _ _ _ _ => rfl) (fun A outer s H E f c' hr2 => (pe_own o_rest_roots (hr2.mono (by decide)) rfl (passes_call (takes_of rfl rfl rfl rfl) (fun _ _ _ _ h => h)) (pa_cons (pe_tup pa_nil) pa_nil)))) (pa_cons (pe_lam (T := TL2 PL PD) (kl := 7) G_law_word rfl TB rfl hmT hu (hr.mono (by decide)) (lamS_by (sc := defScope s_law) (by decide +kernel)) rfl (fun _ _ _ _ _ => rfl) (fun A outer s H E f c' hr2 => (pe_own o_paper (hr2.mono (by decide)) rfl (passes_call (takes_of rfl rfl rfl rfl) (fun _ _ _ _ h => h)) (pa_cons (pe_tup pa_nil) pa_nil)))) pa_nil)))))
      (pss_cons (ps_set (i := 7) sc_law.nd rfl (Or.inl rfl) (pe_op op_cat (pv 7) (pe_lst (pa_cons (pe_lam (T := TL2 PL PD) (kl := 7) G_law_word rfl TB rfl hmT hu (hr.mono (by decide)) (lamS_by (sc := defScope s_law) (by decide +kernel)) rfl (fun _ _ _ _ _ => rfl) (fun A outer s H E f c' hr2 => (pe_own o_paper (hr2.mono (by decide)) rfl (passes_call (takes_of rfl rfl rfl rfl) (fun _ _ _ _ h => h)) (pa_cons (pe_tup (pa_cons pe_int pa_nil)) pa_nil)))) (pa_cons (pe_lam (T := TL2 PL PD) (kl := 7) G_law_word rfl TB rfl hmT hu (hr.mono (by decide)) (lamS_by (sc := defScope s_law) (by decide +kernel)) rfl (fun _ _ _ _ _ => rfl) (fun A outer s H E f c' hr2 => (pe_own o_paper_holds (hr2.mono (by decide)) rfl (passes_call (takes_of rfl rfl rfl rfl) (fun _ _ _ _ h => h)) (pa_cons (pe_tup (pa_cons pe_int pa_nil)) (pa_cons (pe_tup (pa_cons pe_str (pa_cons (pe_tup (pa_cons pe_int pa_nil)) (pa_cons (pe_tup (pa_cons pe_int pa_nil)) pa_nil)))) pa_nil))))) pa_nil)))))
      (pss_one (ps_ret (pe_and (pe_cmpR (op_eqD hr.units) (pv 7) (pe_op op_rep (pe_lst (pa_cons pe_str pa_nil)) pe_int) (nomark _)) (pe_one (pe_cmpR (op_eqD hr.units) (pe_own o_poly_plus (hr.mono (by decide)) rfl passL (pa_cons (pe_op op_repT (pe_tup (pa_cons pe_int pa_nil)) pe_int) (pa_cons (pe_op op_repT (pe_tup (pa_cons pe_int pa_nil)) pe_int) pa_nil))) (pe_tup pa_nil) (nomark _)))))))))) , ?_⟩
    refine ⟨_, rfl, a, ns, rfl, hS, fun d H1 s1 nd D1 => ?_⟩
    refine ⟨4, rfl, by decide, by decide, ?_⟩
    refine for_range (lo := 0) (n := 4) (fun i σ' H' => ∃ x2 x3 x4 x5 x6 x7, σ' = [some (.ref a), some (.ref d), x2, x3, x4, x5, x6, x7] ∧ Wd d (TL2 PL PD) [] H') ⟨none, none, none, none, none, none, rfl, D1, hT.ext s1, fun p hp => nomatch hp⟩ ?_ ?_
    · rintro i σ' H2 hi ⟨x2, x3, x4, x5, x6, x7, rfl, W2⟩
      refine ⟨_, rfl, d, rfl, W2.D, fun p H3 hp D3 B3 => ?_⟩
      have W3 := W2.but B3 D3
      have hpm := pm_of hp
      refine ⟨_, rfl, _, rfl, d, 6, p, rfl, D3, by decide, hpm, fun ms b H4 D4 B4 P4 m4 n4 f4 e4 => ?_⟩
      have W4 := W3.but B4 D4
      refine ⟨_, rfl, _, rfl, d, p, rfl, D4, hp, fun m H5 hm D5 B5 => ?_⟩
      have W5 := W4.but B5 D5
      have hb := sqT_butD D4 B5 P4.at_
      have lm : ms.length ≤ 25 := P4.len
      refine ⟨_, rfl, _, rfl, (by show 1 ≤ sizeLine; decide), fun t1 h1 => catA (xs := ms) (ys := [0]) (sameT (same_upd h1) hb) (.inl (.inl upd_same)) (by omega) (by decide) fun r1 G1 s1 q1 => ?_⟩
      have S1 := (same_upd (o := .tup [.int 0]) h1).trans s1
      refine ⟨_, rfl, _, rfl, (by show 1 ≤ sizeLine; decide), fun t2 h2 => catA (xs := ms) (ys := [m]) (sameT (S1.trans (same_upd h2)) hb) (.inl (.inl upd_same)) (by omega) (by show 1 ≤ 100; decide) fun r2 G2 s2 q2 => ?_⟩
      have S2 := (same_upd (o := .tup [.int m]) h2).trans s2
      refine ⟨_, rfl, (by show 1 ≤ sizeLine; decide), fun t3 h3 => ⟨_, rfl, catA (xs := [m]) (ys := ms) (.inl (.inl upd_same)) (sameT ((S1.trans S2).trans (same_upd h3)) hb) (by show 1 ≤ 100; decide) (by omega) fun r3 G3 s3 q3 => ⟨(by show 1 ≤ sizeLine; decide), fun t4 h4 => catA (xs := [m] ++ ms) (ys := [1]) (sameT (same_upd h4) q3) (.inl (.inl upd_same)) (by rw [List.length_append]; show 1 + ms.length ≤ 100; omega) (by decide) fun r4 G4 s4 q4 => ?_⟩⟩⟩
      have S4 := (((same_upd (o := .tup [.int m]) h3).trans s3).trans (same_upd (o := .tup [.int 1]) h4)).trans s4
      refine ⟨(by show 1 ≤ sizeLine; decide), fun t5 h5 => ⟨t5, 26, [.int 1], rfl, rfl, .inl (.inl upd_same), by simp, by decide, by decide, by decide, fun r5 h6 => ?_⟩⟩
      have S5 := (same_upd (o := .tup [.int 1]) h5).trans (same_upd (o := .tup (List.replicate (26 : Int).toNat [V.int 1]).flatten) h6)
      refine ⟨(by show 1 ≤ sizeLine; decide), fun t6 h7 => ⟨t6, 25, [.int 0], rfl, rfl, .inl (.inl upd_same), by simp, by decide, by decide, by decide, fun t7 h8 => ⟨(by show 1 ≤ sizeLine; decide), fun t8 h9 => catA (xs := List.replicate 25 0) (ys := [1]) (sameT (same_upd h9) (.inl (.inl upd_same))) (.inl (.inl upd_same)) (by decide) (by decide) fun r6 G6 s6 q6 => ?_⟩⟩⟩
      have S6 := (((same_upd (o := .tup [.int 0]) h7).trans (same_upd (o := .tup (List.replicate (25 : Int).toNat [V.int 0]).flatten) h8)).trans (same_upd (o := .tup [.int 1]) h9)).trans s6
      have SS := (((S1.trans S2).trans S4).trans S5).trans S6
      have W6 := W5.same SS
      refine ⟨(by show 5 ≤ sizeLine; decide), fun l hl => ⟨d, l, _, rfl, W6.D.same (same_upd hl), SqL.of upd_same, W6.D.ne hl, (by show 0 < 5; decide), (by show 5 ≤ 1000; decide), fun x H7 hx D7 B7 => ?_⟩⟩
      have W7 := (W6.same (same_upd hl)).but B7 D7
      have bad : ∃ (b' : Addr) (ns : List Int), x = .ref b' ∧ At K H7 (b', ns) ∧ polyB p ns = false := by
        have Dl := W6.D.same (same_upd (o := .lst [.ref r1, .ref r2, .ref r4, .ref r5, .ref r6]) hl)
        have up : ∀ {r : Addr} {ns : List Int} {G : Hp}, SqT K G r (ns.map V.int) → Same G (L2.upd G6 l (.lst [.ref r1, .ref r2, .ref r4, .ref r5, .ref r6])) → SqT K H7 r (ns.map V.int) := fun z s => sqT_butD Dl B7 (sameT s z)
        simp only [List.mem_cons, List.not_mem_nil, or_false] at hx
        have sl := same_upd (o := .lst [.ref r1, .ref r2, .ref r4, .ref r5, .ref r6]) hl
        rcases hx with rfl | rfl | rfl | rfl | rfl
        · exact ⟨r1, ms ++ [0], rfl, ⟨up q1 ((((S2.trans S4).trans S5).trans S6).trans sl), by show (ms ++ [0]).length ≤ 100; rw [List.length_append]; show ms.length + 1 ≤ 100; omega⟩, polyB_last⟩
        · exact ⟨r2, ms ++ [m], rfl, ⟨up q2 (((S4.trans S5).trans S6).trans sl), by show (ms ++ [m]).length ≤ 100; rw [List.length_append]; show ms.length + 1 ≤ 100; omega⟩, polyB_far (m := m) (by simp) hm⟩
        · exact ⟨r4, ([m] ++ ms) ++ [1], rfl, ⟨up q4 ((S5.trans S6).trans sl), by show (([m] ++ ms) ++ [1]).length ≤ 100; rw [List.length_append, List.length_append]; show 1 + ms.length + 1 ≤ 100; omega⟩, polyB_far (m := m) (by simp) hm⟩
        · exact ⟨r5, List.replicate 26 1, rfl, ⟨up (G := L2.upd _ r5 _) (.inl (.inl upd_same)) (S6.trans sl), by show 26 ≤ 100; decide⟩, polyB_long (by show ¬ 26 ≤ 25; decide)⟩
        · exact ⟨r6, List.replicate 25 0 ++ [1], rfl, ⟨up q6 sl, by show 26 ≤ 100; decide⟩, polyB_long (by show ¬ 26 ≤ 25; decide)⟩
      obtain ⟨b', ns', rfl, hA, hbad⟩ := bad
      refine ⟨_, rfl, _, rfl, b', ns', p, "BadPoly", rfl, hA, W7.T, .inr ⟨hp, hbad, rfl⟩, fun q H8 g8 f8 e8 => ?_⟩
      have W8 := W7.gr g8
      have hA8 := hA.same_gr g8
      refine ⟨(by show 1 ≤ sizeLine; decide), fun y1 hy1 => ⟨y1, 20, _, rfl, rfl, upd_same, by decide, by decide, (by show 1 * 20 ≤ sizeLine; decide), fun y2 hy2 => ?_⟩⟩
      have S8 := (same_upd (o := .lst [.str "BadPoly"]) hy1).trans (same_upd (o := .lst (List.replicate (20 : Int).toNat [V.str "BadPoly"]).flatten) hy2)
      refine ⟨_, _, dp_repL (S8 _ _ e8), dp_repL (n := 20) upd_same, by decide +kernel, by decide +kernel, _, rfl, ?_⟩
      rw [show (!PyData.eqv (.list (List.replicate 20 (.str "BadPoly"))) (.list (List.replicate 20 (.str "BadPoly")))) = false from by decide +kernel]
      refine iteF ?_
      have W9 := W8.same S8
      have hA9 := hA8.same S8
      refine ⟨_, rfl, _, rfl, d, rfl, W9.D, fun mb H10 hmb D10 B10 => ?_⟩
      have W10 := W9.but B10 D10
      have hA10 := hA9.butD W9.D B10
      refine ⟨b', ns', mb, "BadPrime", rfl, hA10, W10.T, .inl ⟨hmb, rfl⟩, fun q2 H11 g11 f11 e11 => ?_⟩
      have W11 := W10.gr g11
      refine ⟨(by show 1 ≤ sizeLine; decide), fun y3 hy3 => ⟨y3, 20, _, rfl, rfl, upd_same, by decide, by decide, (by show 1 * 20 ≤ sizeLine; decide), fun y4 hy4 => ?_⟩⟩
      have S11 := (same_upd (o := .lst [.str "BadPrime"]) hy3).trans (same_upd (o := .lst (List.replicate (20 : Int).toNat [V.str "BadPrime"]).flatten) hy4)
      refine ⟨_, _, dp_repL (S11 _ _ e11), dp_repL (n := 20) upd_same, by decide +kernel, by decide +kernel, _, rfl, ?_⟩
      rw [show (!PyData.eqv (.list (List.replicate 20 (.str "BadPrime"))) (.list (List.replicate 20 (.str "BadPrime")))) = false from by decide +kernel]
      refine iteF ?_
      have W12 := W11.same S11
      refine ⟨W12.T, fun H13 x13 T13 => ?_⟩
      have W13 := W12.ext x13 T13
      refine ⟨_, rfl, d, rfl, W13.D, fun mb2 H14 hmb2 D14 B14 => ⟨rfl, rfl, _, mb2, rfl, hmb2, ex_why KK.h0 KK.w0 fun H15 q3 s15 hq3 => word_ix ?_⟩⟩
      have W15 := ((W13.but B14 D14).same s15).same (same_upd (o := .tup [.str "BadPrime", .non]) hq3)
      refine ⟨rfl, _, rfl, iteF ?_⟩
      exact ⟨_, _, _, _, _, _, rfl, W15⟩
    · rintro σ' H2 ⟨x2, x3, x4, x5, x6, x7, rfl, W2⟩
      refine ⟨W2.T, fun H3 x3 T3 => ⟨(by show 0 ≤ sizeLine; decide), fun e1 he1 => ⟨(e1, []), 2, rfl, e1, [], 2, rfl, .inl (.inl upd_same), (by show 0 ≤ 100; decide), bd_word KK (nm := "BadPoly") (.inr ⟨by decide, .inr rfl, rfl⟩) fun H4 s4 => ?_⟩⟩⟩
      have W4 := ((W2.ext x3 T3).same (same_upd (o := .tup []) he1)).same s4
      refine ⟨W4.T, fun H5 x5 T5 => ⟨(by show 0 ≤ sizeLine; decide), fun e2 he2 => ⟨(e2, []), 2, rfl, e2, [], 2, rfl, .inl (.inl upd_same), (by show 0 ≤ 100; decide), bd_word KK (nm := "BadPoly") (.inr ⟨by decide, .inr rfl, rfl⟩) fun H6 s6 => ?_⟩⟩⟩
      have W6 := ((W4.ext x5 T5).same (same_upd (o := .tup []) he2)).same s6
      refine ⟨W6.T, fun H7 x7 T7 => ⟨(by show 0 ≤ sizeLine; decide), fun e3 he3 => ⟨(e3, []), 2, rfl, e3, [], 2, rfl, .inl (.inl upd_same), (by show 0 ≤ 100; decide), bd_word KK (nm := "BadPoly") (.inr ⟨by decide, .inr (by decide), rfl⟩) fun H8 s8 => ?_⟩⟩⟩
      have W8 := ((W6.ext x7 T7).same (same_upd (o := .tup []) he3)).same s8
      refine ⟨(by show 3 ≤ sizeLine; decide), fun q hq => ?_⟩
      have W9 := W8.add (o := .lst [.str "BadPoly", .str "BadPoly", .str "BadPoly"]) hq (fun _ z => by cases z)
      refine ⟨_, rfl, W9.T, fun H10 x10 T10 => ⟨(by show 1 ≤ sizeLine; decide), fun e4 he4 => ⟨(e4, [1]), 2, rfl, e4, [1], 2, rfl, .inl (.inl upd_same), (by show 1 ≤ 100; decide), bd_word KK (nm := "BadPoly") (.inr ⟨by decide, .inr (by decide), rfl⟩) fun H11 s11 => ?_⟩⟩⟩
      have W11 := ((W9.ext x10 T10).same (same_upd (o := .tup [.int 1]) he4)).same s11
      refine ⟨W11.T, fun H12 x12 T12 => ⟨(by show 1 ≤ sizeLine; decide), fun e5 he5 => ⟨(by show 1 ≤ sizeLine; decide), fun e6 he6 => ⟨(by show 1 ≤ sizeLine; decide), fun e7 he7 => ⟨(by show 3 ≤ sizeLine; decide), fun e8 he8 => ?_⟩⟩⟩⟩⟩
      have SE := ((same_upd (o := .tup [.int 1]) he6).trans (same_upd (o := .tup [.int 1]) he7)).trans (same_upd (o := .tup [.str "parts", .ref e6, .ref e7]) he8)
      refine ⟨(e5, [1]), .ref e8, 2, rfl, e5, [1], 2, rfl, .inl (.inl (SE _ _ upd_same)), (by show 1 ≤ 100; decide), bd_word KK (nm := "BadPoly") (.inr ⟨by decide, .inr (by decide), rfl⟩) fun H13 s13 => ?_⟩
      have W13 := (((W11.ext x12 T12).same (same_upd (o := .tup [.int 1]) he5)).same SE).same s13
      refine ⟨(by show 2 ≤ sizeLine; decide), fun l hl => ?_⟩
      have W14 := W13.same (same_upd (o := .lst [.str "BadPoly", .str "BadPoly"]) hl)
      refine ⟨q, l, _, _, rfl, rfl, W14.at List.mem_cons_self, upd_same, (by show 5 ≤ sizeLine; decide), fun q2 hq2 => ?_⟩
      refine ⟨_, rfl, (by show 1 ≤ sizeLine; decide), fun y1 hy1 => ⟨y1, 5, _, rfl, rfl, upd_same, by decide, by decide, (by show 1 * 5 ≤ sizeLine; decide), fun y2 hy2 => ?_⟩⟩
      have SY := (same_upd (o := .lst [.str "BadPoly"]) hy1).trans (same_upd (o := .lst (List.replicate (5 : Int).toNat [V.str "BadPoly"]).flatten) hy2)
      refine ⟨_, _, dp_repL (n := 5) (SY _ _ upd_same), dp_repL (n := 5) upd_same, by decide +kernel, by decide +kernel, _, rfl, ?_⟩
      rw [show PyData.eqv (.list (List.replicate 5 (.str "BadPoly"))) (.list (List.replicate 5 (.str "BadPoly"))) = true from by decide +kernel]
      refine iteT ?_
      refine ⟨(by show 1 ≤ sizeLine; decide), fun t1 h1 => ⟨t1, 25, [.int 1], rfl, rfl, .inl (.inl upd_same), by simp, by decide, by decide, by decide, fun t2 h2 => ?_⟩⟩
      refine ⟨(by show 1 ≤ sizeLine; decide), fun t3 h3 => ⟨t3, 25, [.int 1], rfl, rfl, .inl (.inl upd_same), by simp, by decide, by decide, by decide, fun t4 h4 => ?_⟩⟩
      have r1 : Rs 2 (List.replicate 25 1) := fun j => by
        rw [List.getD_eq_getElem?_getD, List.getElem?_replicate]
        split <;> decide
      refine ⟨t2, t4, List.replicate 25 1, List.replicate 25 1, 2, rfl, by decide, ⟨.inl (.inl (((same_upd h3).trans (same_upd h4)) _ _ upd_same)), by show 25 ≤ 100; decide⟩, ⟨.inl (.inl upd_same), by show 25 ≤ 100; decide⟩, by decide +kernel, by decide +kernel, r1, r1, fun ms x q3 H15 s15 f15 e15 => ?_⟩
      have em : ms = [] := x.uniq (g := fun _ => 0) (m := 0) (b := []) ⟨fun j => rfl, rfl, Nat.le_refl _⟩ (fun j => by
        have z := r1 j
        show (_ + _ : Int).fmod 2 = 0
        rw [Int.fmod_eq_emod_of_nonneg _ (by decide)]
        omega)
      subst em
      exact ⟨(by show 0 ≤ sizeLine; decide), fun z hz => ⟨_, _, dp_tup (ns := []) (.inl (.inl (same_upd hz _ _ e15))), dp_tup (ns := []) (.inl (.inl upd_same)), rfl, rfl, k _⟩⟩
end
end Xk
end
section
set_option Elab.async false
set_option linter.all false
set_option maxRecDepth 100000
set_option maxHeartbeats 0
namespace Xh
open PySem PySem.Spec PyProof.Rows L2 He
/-- where the written part looks: what the names reach in n steps, and the statics -/
def asS (g : Addr → Option Obj) (n : Nat) : List Addr := cStatics :: asD g n
def obsZ (n : Nat) (fa : List Fa) (fn : List DefD) (tf : List Defn) (ex : PySem.W.Frag → Bool) (g : Addr → Option Obj) : AlX :=
  let K := frT g (asS g n)
  (obsT fa fn [] K, ex K && tabsB g tf K)
theorem saysZ {n : Nat} {fa : List Fa} {fn : List DefD} {tf : List Defn} {ex : PySem.W.Frag → Bool} {w : World} {h : Heap} (e : obsZ n fa fn tf ex h.get? = valX fn [] w) :
    SaysX fa fn [] tf ex w h (frT h.get? (asS h.get? n)) := by
  generalize hK : frT h.get? (asS h.get? n) = K
  have e' : (obsT fa fn [] K, ex K && tabsB h.get? tf K) = valX fn [] w := by rw [← hK]; exact e
  injection e' with e1 e2
  rw [Bool.and_eq_true] at e2
  have key : ∀ p ∈ tf, PySem.W.codeHdIn K (cT K p).1 (cT K p).2 = true ∧ ∃ o, h.get? (cT K p).2 = some o ∧ emptyTab o = true := by
    intro p hp
    have z := List.all_eq_true.mp e2.2 p hp
    rw [Bool.and_eq_true] at z
    refine ⟨z.1, ?_⟩
    have z2 := z.2
    split at z2
    · exact ⟨_, ‹_›, z2⟩
    · cases z2
  refine ⟨e1, e2.1, fun p hp => (key p hp).1, fun p hp => ?_, fun p hp => ?_⟩
  · obtain ⟨_, o, q, z⟩ := key p hp
    rw [← hK] at q ⊢
    exact frT_none q z
  · obtain ⟨_, o, q, z⟩ := key p hp
    rw [q, emptyTab_eq z]
def hookZ (n : Nat) (fa : List Fa) (fn : List DefD) (tf : List Defn) (ex : PySem.W.Frag → Bool) : PySem.W.Hook where
  α := AlX
  obs := fun s => obsZ n fa fn tf ex s.heap.get?
  val := fun w => valX fn [] w
  says := fun w h => ∃ K : PySem.W.Frag, K.In h ∧ SaysX fa fn [] tf ex w h K
  of := fun _ _ e => ⟨_, frT_in, saysZ e⟩
  keeps := fun _ _ _ ⟨K, hK, c⟩ k => ⟨K, PySem.W.Frag.In.keeps hK k, ⟨c.t, c.more, c.hd, c.out, fun p hp => k _ _ (c.empty p hp)⟩⟩
theorem obsZ_eq {n : Nat} {fa : List Fa} {fn : List DefD} {tf : List Defn} {ex : PySem.W.Frag → Bool} {g : Addr → Option Obj} {s : Shared} (h : ∀ a, g a = s.heap.get? a) :
    obsZ n fa fn tf ex g = (hookZ n fa fn tf ex).obs s := by
  have e : g = s.heap.get? := funext h
  subst e
  rfl
end Xh
end
section
set_option Elab.async false
set_option linter.all false
set_option maxRecDepth 100000
set_option maxHeartbeats 0
namespace Xh
open PySem PySem.Spec PyProof.Rows L2 He
/-! The same hook, its addresses found layer by layer, each once: what was seen is a mask. -/
/-- those of a row that the mask has not, each once, and the mask then -/
def freshB {β : Type} : List Addr → Nat → List Addr → (List Addr → Nat → β) → β
  | [], m, acc, k => k acc m
  | a :: r, m, acc, k => match Nat.beq (Nat.mod (Nat.shiftRight m a) 2) 1 with
    | true => freshB r m acc k
    | false => freshB r (Nat.add m (Nat.pow 2 a)) (a :: acc) k
def refsB (g : Addr → Option Obj) (as : List Addr) : List Addr := as.flatMap fun a => match g a with
  | some o => refsD o
  | none => []
def bfsB (g : Addr → Option Obj) : Nat → List Addr → Nat → List Addr
  | 0, fr, _ => fr
  | n + 1, fr, m => fr ++ freshB (refsB g fr) m [] fun new m' => bfsB g n new m'
def asB (n : Nat) (g : Addr → Option Obj) : List Addr := mainGlobals :: cStatics :: freshB (refsB g [mainGlobals]) (2 ^ mainGlobals + 2 ^ cStatics) [] fun new m => bfsB g n new m
/-- over any row of addresses -/
def obsA (as : (Addr → Option Obj) → List Addr) (fa : List Fa) (fn : List DefD) (tf : List Defn) (ex : PySem.W.Frag → Bool) (g : Addr → Option Obj) : AlX :=
  let K := frT g (as g)
  (obsT fa fn [] K, ex K && tabsB g tf K)
theorem saysA {as : (Addr → Option Obj) → List Addr} {fa : List Fa} {fn : List DefD} {tf : List Defn} {ex : PySem.W.Frag → Bool} {w : World} {h : Heap} (e : obsA as fa fn tf ex h.get? = valX fn [] w) :
    SaysX fa fn [] tf ex w h (frT h.get? (as h.get?)) := by
  generalize hK : frT h.get? (as h.get?) = K
  have e' : (obsT fa fn [] K, ex K && tabsB h.get? tf K) = valX fn [] w := by rw [← hK]; exact e
  injection e' with e1 e2
  rw [Bool.and_eq_true] at e2
  have key : ∀ p ∈ tf, PySem.W.codeHdIn K (cT K p).1 (cT K p).2 = true ∧ ∃ o, h.get? (cT K p).2 = some o ∧ emptyTab o = true := by
    intro p hp
    have z := List.all_eq_true.mp e2.2 p hp
    rw [Bool.and_eq_true] at z
    refine ⟨z.1, ?_⟩
    have z2 := z.2
    split at z2
    · exact ⟨_, ‹_›, z2⟩
    · cases z2
  refine ⟨e1, e2.1, fun p hp => (key p hp).1, fun p hp => ?_, fun p hp => ?_⟩
  · obtain ⟨_, o, q, z⟩ := key p hp
    rw [← hK] at q ⊢
    exact frT_none q z
  · obtain ⟨_, o, q, z⟩ := key p hp
    rw [q, emptyTab_eq z]
def hookA (as : (Addr → Option Obj) → List Addr) (fa : List Fa) (fn : List DefD) (tf : List Defn) (ex : PySem.W.Frag → Bool) : PySem.W.Hook where
  α := AlX
  obs := fun s => obsA as fa fn tf ex s.heap.get?
  val := fun w => valX fn [] w
  says := fun w h => ∃ K : PySem.W.Frag, K.In h ∧ SaysX fa fn [] tf ex w h K
  of := fun _ _ e => ⟨_, frT_in, saysA e⟩
  keeps := fun _ _ _ ⟨K, hK, c⟩ k => ⟨K, PySem.W.Frag.In.keeps hK k, ⟨c.t, c.more, c.hd, c.out, fun p hp => k _ _ (c.empty p hp)⟩⟩
theorem obsA_eq {as : (Addr → Option Obj) → List Addr} {fa : List Fa} {fn : List DefD} {tf : List Defn} {ex : PySem.W.Frag → Bool} {g : Addr → Option Obj} {s : Shared} (h : ∀ a, g a = s.heap.get? a) :
    obsA as fa fn tf ex g = (hookA as fa fn tf ex).obs s := by
  have e : g = s.heap.get? := funext h
  subst e
  rfl
end Xh
end
section
set_option Elab.async false
set_option linter.all false
set_option maxRecDepth 100000
set_option maxHeartbeats 0
namespace Xk
open PySem PySem.Spec PyProof.Rows L2 Xh LamX NdefX
abbrev s_RungError___init : Stmt := inClass (topS 1) 0
theorem sc_RungError___init : FnScope (["self", "told"] : List Str) ["self", "told"] (defScope s_RungError___init) := ⟨rfl, rfl, rfl, by decide +kernel, rfl, by decide +kernel, by decide +kernel⟩
/-! ### the head: what of the written part is looked at -/
open He
/-- the class at C, an own exception over ValueError, called nm; f: how it is made -/
def clsB (K : PySem.W.Frag) (C fI : Addr) (nm : Str) : Bool := (match K.lookup C with
    | some ⟨.type c, _, .cls cd, sl⟩ => decide (c = "type") && ((match cd.mro with
      | .ref a :: bm => decide (a = C) && PySem.HandSPX.refsVE bm
      | _ => false) && (cd.hasDict && (!cd.hasDel && ((match sl.toList with
      | [_, _, some (.str x _), _, some (.builtin n), _] => decide (x = nm) && decide (n = "ValueError.__new__")
      | _ => false)))))
    | _ => false) &&
  (eqO (PySem.W.findIn K (.ref C) "__setattr__") (some (some (.builtin "object.__setattr__"))) && (decide (PySem.W.subIn K (.ref C) (.type "BaseException") = some true) && (decide (PySem.W.typeIn K (.ref C) = some (.type "type")) && (PySem.W.keepIn K (.ref C) &&
  (eqO (PySem.W.findIn K (.ref C) "__getattribute__") (some (some (.builtin "BaseException.__getattribute__"))) && (eqO (PySem.W.findIn K (.ref C) "__getattr__") (some none) && (PySem.W.hasDictIn K C && (eqO (PySem.W.findIn K (.ref C) "__class__") (some (some (.builtin "object.__class__"))) &&
  (eqO (PySem.W.specialIn K (.builtin "object.__class__") "__get__") (some (some (.builtin "getset_descriptor.__get__"))) && (decide (PySem.W.takesIn K (.builtin "object.__class__") = some true) && (decide (PySem.W.mroIn K C (.type "object") = some true) && (PySem.W.readsIn K C (.type "type") &&
  ((match PySem.W.findCls K (.ref C) (.type "type") "__name__" with
    | some (.get (.builtin g) (.builtin n) (.ref c) (.type t)) => decide (g = "getset_descriptor.__get__") && (decide (n = "type.__name__") && (decide (c = C) && decide (t = "type")))
    | _ => false) && (eqO (PySem.W.findIn K (.ref C) "word") (some none) && (eqO (PySem.W.findIn K (.ref C) "__init__") (some (some (.ref fI))) && decide (PySem.W.typeIn K (.ref fI) = some (.type "function")))))))))))))))))
theorem clsB_ok {K : PySem.W.Frag} {C fI : Addr} {nm : Str} (h : clsB K C fI nm = true) : RC K C nm ∧ PySem.W.findIn K (.ref C) "word" = some none ∧ PySem.W.findIn K (.ref C) "__init__" = some (some (.ref fI)) ∧ PySem.W.typeIn K (.ref fI) = some (.type "function") := by
  obtain ⟨h0, h⟩ := ba h
  obtain ⟨h1, h⟩ := ba h
  obtain ⟨h2, h⟩ := ba h
  obtain ⟨h3, h⟩ := ba h
  obtain ⟨h4, h⟩ := ba h
  obtain ⟨h5, h⟩ := ba h
  obtain ⟨h6, h⟩ := ba h
  obtain ⟨h7, h⟩ := ba h
  obtain ⟨h8, h⟩ := ba h
  obtain ⟨h9, h⟩ := ba h
  obtain ⟨h10, h⟩ := ba h
  obtain ⟨h11, h⟩ := ba h
  obtain ⟨h12, h⟩ := ba h
  obtain ⟨h13, h⟩ := ba h
  obtain ⟨h14, h⟩ := ba h
  obtain ⟨h15, h16⟩ := ba h
  have fn : PySem.W.findCls K (.ref C) (.type "type") "__name__" = some (.get (.builtin "getset_descriptor.__get__") (.builtin "type.__name__") (.ref C) (.type "type")) := by
    revert h13
    split
    · rename_i g n c t e
      intro z
      obtain ⟨z1, z⟩ := ba z
      obtain ⟨z2, z⟩ := ba z
      obtain ⟨z3, z4⟩ := ba z
      rw [e, of_decide_eq_true z1, of_decide_eq_true z2, of_decide_eq_true z3, of_decide_eq_true z4]
    · intro z
      cases z
  revert h0
  split
  · rename_i c dd cd sl e
    intro z
    obtain ⟨z1, z⟩ := ba z
    obtain ⟨z2, z⟩ := ba z
    obtain ⟨z3, z⟩ := ba z
    obtain ⟨z4, z5⟩ := ba z
    have c1 : c = "type" := of_decide_eq_true z1
    subst c1
    obtain ⟨cn, cb, cm, cns, cq, chd, csn, csub, cab, ccol, cdel⟩ := cd
    revert z2
    split
    · rename_i a bm em
      intro z2
      obtain ⟨y1, y2⟩ := ba z2
      have y1' := of_decide_eq_true y1
      have em' : cm = .ref a :: bm := em
      subst em'
      subst y1'
      revert z5
      split
      · rename_i s0 s1 x t s3 n s5 es
        intro z5
        obtain ⟨x1, x2⟩ := ba z5
        have x1' := of_decide_eq_true x1
        have x2' := of_decide_eq_true x2
        subst x1' x2'
        have esl : sl = #[s0, s1, some (.str x t), s3, some (.builtin "ValueError.__new__"), s5] := by
          rw [← es]
        have d1 : chd = true := z3
        have d2 : cdel = false := by
          have z4' : (!cdel) = true := z4
          cases cdel with
          | true => cases z4'
          | false => rfl
        subst d1 d2 esl
        exact ⟨⟨⟨⟨_, _, _, _, _, _, _, _, _, _, _, _, _, _, _, e, y2⟩, eqO_ok h1, of_decide_eq_true h2, of_decide_eq_true h3, h4⟩, ⟨eqO_ok h5, eqO_ok h6, of_decide_eq_true h2, h7, eqO_ok h8, eqO_ok h9, of_decide_eq_true h10, of_decide_eq_true h11⟩, h12, fn, ⟨_, _, _, t, e, rfl⟩⟩, eqO_ok h14, eqO_ok h15, of_decide_eq_true h16⟩
      · intro z5
        cases z5
    · intro z2
      cases z2
  · intro z
    cases z
/-- by which clause -/
def catchB (K : PySem.W.Frag) (c : Fin 14 → Addr) (C : Addr) (j : Nat) : Bool := xfB K C && (((hcs c).take j).all (fun cs => decide (PySem.W.exmAny K (.ref C) cs = some false)) && (match (hcs c)[j]? with
  | some cs => decide (PySem.W.exmAny K (.ref C) cs = some true)
  | none => false))
theorem catchB_ok {K : PySem.W.Frag} {c : Fin 14 → Addr} {C : Addr} {j : Nat} (h : catchB K c C j = true) : Catch K c C j := by
  obtain ⟨h1, h⟩ := ba h
  obtain ⟨h2, h3⟩ := ba h
  refine ⟨xfB_ok h1, fun i hi cs hcs => ?_, fun cs hcs => ?_⟩
  · refine of_decide_eq_true (List.all_eq_true.mp h2 cs ?_)
    refine List.mem_of_getElem? (i := i) ?_
    rw [List.getElem?_take_of_lt hi]
    exact hcs
  · rw [hcs] at h3
    exact of_decide_eq_true h3
def names12 : List Str := ["NotWhole", "TooTall", "BadTable", "BadText", "BadPage", "Stopped", "Used", "Held", "NoGuest", "NoName", "RungError", "RungMissing"]
def cOf (K : PySem.W.Frag) (i : Fin 14) : Addr := ga K (names12.getD i.val "RungError")

def fnL : List DefD := [⟨("RungError", some "__init__"), "__init__", "RungError.__init__", defArgs s_RungError___init, defBody s_RungError___init, defScope s_RungError___init, [], []⟩, ⟨("is_prime", none), "is_prime", "is_prime", defArgs s_is_prime, defBody s_is_prime, defScope s_is_prime, [], []⟩, ⟨("is_number", none), "is_number", "is_number", defArgs s_is_number, defBody s_is_number, defScope s_is_number, [], []⟩, ⟨("is_rest", none), "is_rest", "is_rest", defArgs s_is_rest, defBody s_is_rest, defScope s_is_rest, [], []⟩, ⟨("refuse_prime", none), "refuse_prime", "refuse_prime", defArgs s_refuse_prime, defBody s_refuse_prime, defScope s_refuse_prime, [], []⟩, ⟨("trimmed", none), "trimmed", "trimmed", defArgs s_trimmed, defBody s_trimmed, defScope s_trimmed, [], []⟩, ⟨("raw_plus", none), "raw_plus", "raw_plus", defArgs s_raw_plus, defBody s_raw_plus, defScope s_raw_plus, [], []⟩, ⟨("is_poly", none), "is_poly", "is_poly", defArgs s_is_poly, defBody s_is_poly, defScope s_is_poly, [], []⟩, ⟨("refuse_polys", none), "refuse_polys", "refuse_polys", defArgs s_refuse_polys, defBody s_refuse_polys, defScope s_refuse_polys, [], []⟩, ⟨("poly_plus", none), "poly_plus", "poly_plus", defArgs s_poly_plus, defBody s_poly_plus, defScope s_poly_plus, [], [("prime", .int 2)]⟩, ⟨("poly_minus", none), "poly_minus", "poly_minus", defArgs s_poly_minus, defBody s_poly_minus, defScope s_poly_minus, [], [("prime", .int 2)]⟩, ⟨("poly_times", none), "poly_times", "poly_times", defArgs s_poly_times, defBody s_poly_times, defScope s_poly_times, [], [("prime", .int 2)]⟩, ⟨("poly_parted", none), "poly_parted", "poly_parted", defArgs s_poly_parted, defBody s_poly_parted, defScope s_poly_parted, [], [("prime", .int 2)]⟩, ⟨("poly_common", none), "poly_common", "poly_common", defArgs s_poly_common, defBody s_poly_common, defScope s_poly_common, [], [("prime", .int 2)]⟩, ⟨("poly_value", none), "poly_value", "poly_value", defArgs s_poly_value, defBody s_poly_value, defScope s_poly_value, [], [("prime", .int 2)]⟩, ⟨("poly_put", none), "poly_put", "poly_put", defArgs s_poly_put, defBody s_poly_put, defScope s_poly_put, [], [("prime", .int 2)]⟩, ⟨("poly_left", none), "poly_left", "poly_left", defArgs s_poly_left, defBody s_poly_left, defScope s_poly_left, [], [("prime", .int 2)]⟩, ⟨("poly_slope", none), "poly_slope", "poly_slope", defArgs s_poly_slope, defBody s_poly_slope, defScope s_poly_slope, [], [("prime", .int 2)]⟩, ⟨("poly_text", none), "poly_text", "poly_text", defArgs s_poly_text, defBody s_poly_text, defScope s_poly_text, [], [("prime", .int 2)]⟩, ⟨("read_poly", none), "read_poly", "read_poly", defArgs s_read_poly, defBody s_read_poly, defScope s_read_poly, [], [("prime", .int 2)]⟩, ⟨("parts", none), "parts", "parts", defArgs s_parts, defBody s_parts, defScope s_parts, [], [("prime", .int 2)]⟩, ⟨("rest_roots", none), "rest_roots", "rest_roots", defArgs s_rest_roots, defBody s_rest_roots, defScope s_rest_roots, [], [("prime", .int 2)]⟩, ⟨("refuse_nought_poly", none), "refuse_nought_poly", "refuse_nought_poly", defArgs s_refuse_nought_poly, defBody s_refuse_nought_poly, defScope s_refuse_nought_poly, [], []⟩, ⟨("is_whole", none), "is_whole", "is_whole", defArgs s_is_whole, defBody s_is_whole, defScope s_is_whole, [], [("prime", .int 2)]⟩, ⟨("paper", none), "paper", "paper", defArgs s_paper, defBody s_paper, defScope s_paper, [], [("prime", .int 2)]⟩, ⟨("paper_holds", none), "paper_holds", "paper_holds", defArgs s_paper_holds, defBody s_paper_holds, defScope s_paper_holds, [], [("prime", .int 2)]⟩, ⟨("refuse_low", none), "refuse_low", "refuse_low", defArgs s_refuse_low, defBody s_refuse_low, defScope s_refuse_low, [], []⟩, ⟨("_law_begin", none), "_law_begin", "_law_begin", defArgs s_law_begin, defBody s_law_begin, defScope s_law_begin, [], []⟩, ⟨("_law_take", none), "_law_take", "_law_take", defArgs s_law_take, defBody s_law_take, defScope s_law_take, [], []⟩, ⟨("_law_of", none), "_law_of", "_law_of", defArgs s_law_of, defBody s_law_of, defScope s_law_of, [], []⟩, ⟨("_law_why", none), "_law_why", "_law_why", defArgs s_law_why, defBody s_law_why, defScope s_law_why, [], []⟩, ⟨("_law_word", none), "_law_word", "_law_word", defArgs s_law_word, defBody s_law_word, defScope s_law_word, [], []⟩, ⟨("_law_primes", none), "_law_primes", "_law_primes", defArgs s_law_primes, defBody s_law_primes, defScope s_law_primes, [], []⟩, ⟨("_law_any_prime", none), "_law_any_prime", "_law_any_prime", defArgs s_law_any_prime, defBody s_law_any_prime, defScope s_law_any_prime, [], []⟩, ⟨("_law_bad_prime", none), "_law_bad_prime", "_law_bad_prime", defArgs s_law_bad_prime, defBody s_law_bad_prime, defScope s_law_bad_prime, [], []⟩, ⟨("_law_far", none), "_law_far", "_law_far", defArgs s_law_far, defBody s_law_far, defScope s_law_far, [], []⟩, ⟨("_law_trim", none), "_law_trim", "_law_trim", defArgs s_law_trim, defBody s_law_trim, defScope s_law_trim, [], []⟩, ⟨("_law_rests", none), "_law_rests", "_law_rests", defArgs s_law_rests, defBody s_law_rests, defScope s_law_rests, [], []⟩, ⟨("_law_poly", none), "_law_poly", "_law_poly", defArgs s_law_poly, defBody s_law_poly, defScope s_law_poly, [], []⟩, ⟨("_law_doors", none), "_law_doors", "_law_doors", defArgs s_law_doors, defBody s_law_doors, defScope s_law_doors, [], []⟩, ⟨("law", none), "law", "law", defArgs s_law, defBody s_law, defScope s_law, [], []⟩]
def faL : List Fa := [.glo "NotWhole", .glo "TooTall", .glo "BadTable", .glo "BadText", .glo "BadPage", .glo "Stopped", .glo "Used", .glo "Held", .glo "NoGuest", .glo "NoName", .glo "RungError", .glo "RungMissing", .glo "BadPrime", .glo "BadPoly", .glo "PRIMES", .glo "is_prime", .glo "is_number", .glo "is_rest", .glo "refuse_prime", .glo "trimmed", .glo "raw_plus", .glo "is_poly", .glo "refuse_polys", .glo "poly_plus", .glo "poly_minus", .glo "poly_times", .glo "poly_parted", .glo "poly_common", .glo "poly_value", .glo "poly_put", .glo "poly_left", .glo "poly_slope", .glo "poly_text", .glo "read_poly", .glo "parts", .glo "rest_roots", .glo "refuse_nought_poly", .glo "is_whole", .glo "paper", .glo "paper_holds", .glo "refuse_low", .glo "_law_begin", .glo "_law_take", .glo "_law_of", .glo "_law_why", .glo "_law_word", .glo "_law_primes", .glo "_law_any_prime", .glo "_law_bad_prime", .glo "_law_far", .glo "_law_trim", .glo "_law_rests", .glo "_law_poly", .glo "_law_doors", .glo "law", .int "MOST_RESTS" 25, .free "len", .free "abs", .free "list", .free "tuple", .free "int", .free "bool", .free "str", .free "isinstance", .free "range", .free "all", .free "zip", .free "enumerate", .free "max", .free "reversed"]
def exL (K : PySem.W.Frag) : Bool := tupB K "PRIMES" (primes.map Dv.int) && (clsB K (ga K "BadPrime") (ma K (ga K "RungError") "__init__") "BadPrime" && (clsB K (ga K "BadPoly") (ma K (ga K "RungError") "__init__") "BadPoly" && (catchB K (cOf K) (ga K "BadPrime") 7 && (catchB K (cOf K) (ga K "BadPoly") 7 && (decide ((cT K ("law", none)).2 ≠ (cT K ("_law_doors", none)).2))))))
abbrev R : PySem.W.OpenRow := PySem.W.OpenLaw.row PySem.Challenge.rw_rungfields_k08_doors_of_polynomials
abbrev hk : PySem.W.Hook := hookA (asB 4) faL fnL [("law", none), ("_law_doors", none)] exL
def ob (s : PySem.W.SharedT) : AlX := obsA (asB 4) faL fnL [("law", none), ("_law_doors", none)] exL (HandSHeadRun.getT s)
theorem ob_eq (s : PySem.W.SharedT) : ob s = hk.obs s.abs := obsA_eq (HandSHeadRun.getT_eq s)
def loL : List Str := (["RungError", "BadPrime", "BadRest", "BadPoly", "BadTable", "NotWhole", "BadNumber", "NoInverse", "TooTall", "BadText"] : List Str) ++ (["Used", "Held", "BadPage", "Stopped", "RungMissing", "NoGuest", "NoName", "power_by", "PRIMES", "LEAST"] : List Str) ++ (["is_prime", "is_number", "is_rest", "refuse_prime", "refuse_rest", "rest_power", "trimmed", "raw_scaled", "raw_plus", "raw_minus"] : List Str) ++ (["raw_times", "raw_parted", "raw_left", "raw_common", "raw_value", "raw_put", "raw_power", "raw_slope", "raw_level", "raw_greatest"] : List Str) ++ (["padded", "turn_rows", "weighed", "MOST_RESTS", "is_poly", "refuse_polys", "refuse_nought", "poly_plus", "poly_minus", "poly_times"] : List Str) ++ (["poly_parted", "poly_common", "poly_value", "poly_put", "poly_left", "poly_slope", "poly_text", "read_poly", "written", "written_term"] : List Str) ++ (["read_term", "read_figures", "raw_stepped", "cleared", "head_place", "unit_row", "raw_kernel", "parts", "rest_roots", "refuse_nought_poly"] : List Str) ++ (["raw_parts", "first_part", "taken_out", "whole_parts", "single_parts", "steady_polys", "split_by", "half_mask", "X", "is_whole"] : List Str) ++ (["paper", "paper_holds", "refuse_low", "raw_whole", "turns_of_x", "shown_turns", "parts_hold", "turns_hold", "shows_hold", "show_holds"] : List Str) ++ (["_law_begin", "_law_take", "_law_of", "_law_why", "_law_word", "_law_primes", "_law_any_prime", "_law_bad_prime", "_law_far", "_law_trim"] : List Str) ++ (["_law_rests", "_law_poly", "_law_doors"] : List Str)
theorem run (w : World) : HandSHeadRun.RunEq R (PySem.W.view R.prog [112]) hk ob 16000 loL w := by
  intro os
  kernel_rfl
end Xk
end
section
set_option Elab.async false
set_option linter.all false
set_option maxRecDepth 100000
set_option maxHeartbeats 4000000
namespace Xk
open PySem PySem.Spec PyProof.Rows L2 Xh LamX He NdefX
section
variable {P : Program} {w : World} {K : PySem.W.Frag} {mg : Str → Option Value} {base : Heap}
theorem o_init0 {f : Addr} {fd : FuncData} (F : FunD K "__init__" "RungError.__init__" (defArgs s_RungError___init) (defBody s_RungError___init) (defScope s_RungError___init) [] [] f fd) : FnR P w K mg base (L2.CX P w) 1 f (spRI1 K) :=
  ok_rinit (st := s_RungError___init) F sc_RungError___init (fun kV doc pm an cdv ct => StX.bind_star1 (p1 := "self") (pv := "told") (B := fun vs => bindArgs (PySem.W.fnOf "__init__" "RungError.__init__" (defArgs s_RungError___init) (defBody s_RungError___init) (defScope s_RungError___init) .none kV doc pm an cdv ct) ⟨vs, []⟩) (fun a => rfl) (fun a r rs => rfl))
    (fun X hK hN hs => by
      subst hK
      have hN0 : X.N[0]? = some ("self" : Str) := by rw [hN]; rfl
      have hv0 : Vis X.env.scope ("self" : Str) := by rw [hs]; first | exact Or.inl rfl | exact Or.inr (Or.inl rfl) | exact Or.inr (Or.inr rfl)
      exact pss_one (ps_ost (pv 0 hN0 hv0) (pe_clsnm (pv 0 hN0 hv0))))
theorem code_of {x q : Str} {params : Arguments} {body : List Stmt} {scope : Scope} {dvs : List V} {kws : List (Str × V)} {p : Defn} {fd : FuncData} (F : FunD K x q params body scope dvs kws (fAd K p) fd) : fd.code = .ref (cT K p).1 := by
  obtain ⟨oc, od, dV, kV, doc, pm, an, cdv, ct, osl, rfl, lk, hcd, hD, _⟩ := F.ex
  obtain ⟨c, rfl⟩ := codeIn_ref hcd
  show Value.ref c = .ref (codeOf K p)
  rw [codeOf_eq lk rfl]
theorem lit_tup (H : Hp) (h : tupB K "PRIMES" (primes.map Dv.int) = true) : SqT K H (ga K "PRIMES") (primes.map V.int) := by
  have z := tupB_ok h H
  rw [List.map_map] at z
  exact z
def kOf (K : PySem.W.Frag) (i : Fin 14) : Addr := ga K (((["BadPrime", "BadPoly"] : List Str)).getD i.val "BadPrime")
theorem facts {h : Heap} {f : Addr} (X : K.In h) (G : h.Ns mainGlobals mg) (hfa : mg ("law" : Str) = some (.ref f)) (c : SaysX faL fnL [] [("law", none), ("_law_doors", none)] exL w h K) :
    ∃ fd : FuncData, (∀ (s : Shared) (v : Value), BindsTo s fd ⟨[v], []⟩ [("_law_script", v)]) ∧ ∀ base : Heap, TabB base mg (cT K ("law", none)).1 (cT K ("law", none)).2 → TabB base mg (cT K ("_law_doors", none)).1 (cT K ("_law_doors", none)).2 → FnOk P w K mg base CX0 12 f fd ["_law_script"] (spLaw K (cT K ("law", none)).2 (cT K ("_law_doors", none)).2) := by
  obtain ⟨e0, e⟩ := ba c.more
  obtain ⟨e1, e⟩ := ba e
  obtain ⟨e2, e⟩ := ba e
  obtain ⟨e3, e⟩ := ba e
  obtain ⟨e4, e⟩ := ba e
  have e5 := e
  obtain ⟨r_BadPrime, w_BadPrime, i_BadPrime, t_BadPrime⟩ := clsB_ok e1
  obtain ⟨r_BadPoly, w_BadPoly, i_BadPoly, t_BadPoly⟩ := clsB_ok e2
  have hC_BadPrime := catchB_ok e3
  have hC_BadPoly := catchB_ok e4
  have hne_law_law_doors := of_decide_eq_true e5
  obtain ⟨fdRungError___init, FRungError___init⟩ := c.t.d.def_ 0 (d := fnL[0]) rfl
  obtain ⟨fdis_prime, Fis_prime⟩ := c.t.d.def_ 1 (d := fnL[1]) rfl
  obtain ⟨fdis_number, Fis_number⟩ := c.t.d.def_ 2 (d := fnL[2]) rfl
  obtain ⟨fdis_rest, Fis_rest⟩ := c.t.d.def_ 3 (d := fnL[3]) rfl
  obtain ⟨fdrefuse_prime, Frefuse_prime⟩ := c.t.d.def_ 4 (d := fnL[4]) rfl
  obtain ⟨fdtrimmed, Ftrimmed⟩ := c.t.d.def_ 5 (d := fnL[5]) rfl
  obtain ⟨fdraw_plus, Fraw_plus⟩ := c.t.d.def_ 6 (d := fnL[6]) rfl
  obtain ⟨fdis_poly, Fis_poly⟩ := c.t.d.def_ 7 (d := fnL[7]) rfl
  obtain ⟨fdrefuse_polys, Frefuse_polys⟩ := c.t.d.def_ 8 (d := fnL[8]) rfl
  obtain ⟨fdpoly_plus, Fpoly_plus⟩ := c.t.d.def_ 9 (d := fnL[9]) rfl
  obtain ⟨fdpoly_minus, Fpoly_minus⟩ := c.t.d.def_ 10 (d := fnL[10]) rfl
  obtain ⟨fdpoly_times, Fpoly_times⟩ := c.t.d.def_ 11 (d := fnL[11]) rfl
  obtain ⟨fdpoly_parted, Fpoly_parted⟩ := c.t.d.def_ 12 (d := fnL[12]) rfl
  obtain ⟨fdpoly_common, Fpoly_common⟩ := c.t.d.def_ 13 (d := fnL[13]) rfl
  obtain ⟨fdpoly_value, Fpoly_value⟩ := c.t.d.def_ 14 (d := fnL[14]) rfl
  obtain ⟨fdpoly_put, Fpoly_put⟩ := c.t.d.def_ 15 (d := fnL[15]) rfl
  obtain ⟨fdpoly_left, Fpoly_left⟩ := c.t.d.def_ 16 (d := fnL[16]) rfl
  obtain ⟨fdpoly_slope, Fpoly_slope⟩ := c.t.d.def_ 17 (d := fnL[17]) rfl
  obtain ⟨fdpoly_text, Fpoly_text⟩ := c.t.d.def_ 18 (d := fnL[18]) rfl
  obtain ⟨fdread_poly, Fread_poly⟩ := c.t.d.def_ 19 (d := fnL[19]) rfl
  obtain ⟨fdparts, Fparts⟩ := c.t.d.def_ 20 (d := fnL[20]) rfl
  obtain ⟨fdrest_roots, Frest_roots⟩ := c.t.d.def_ 21 (d := fnL[21]) rfl
  obtain ⟨fdrefuse_nought_poly, Frefuse_nought_poly⟩ := c.t.d.def_ 22 (d := fnL[22]) rfl
  obtain ⟨fdis_whole, Fis_whole⟩ := c.t.d.def_ 23 (d := fnL[23]) rfl
  obtain ⟨fdpaper, Fpaper⟩ := c.t.d.def_ 24 (d := fnL[24]) rfl
  obtain ⟨fdpaper_holds, Fpaper_holds⟩ := c.t.d.def_ 25 (d := fnL[25]) rfl
  obtain ⟨fdrefuse_low, Frefuse_low⟩ := c.t.d.def_ 26 (d := fnL[26]) rfl
  obtain ⟨fdlaw_begin, Flaw_begin⟩ := c.t.d.def_ 27 (d := fnL[27]) rfl
  obtain ⟨fdlaw_take, Flaw_take⟩ := c.t.d.def_ 28 (d := fnL[28]) rfl
  obtain ⟨fdlaw_of, Flaw_of⟩ := c.t.d.def_ 29 (d := fnL[29]) rfl
  obtain ⟨fdlaw_why, Flaw_why⟩ := c.t.d.def_ 30 (d := fnL[30]) rfl
  obtain ⟨fdlaw_word, Flaw_word⟩ := c.t.d.def_ 31 (d := fnL[31]) rfl
  obtain ⟨fdlaw_primes, Flaw_primes⟩ := c.t.d.def_ 32 (d := fnL[32]) rfl
  obtain ⟨fdlaw_any_prime, Flaw_any_prime⟩ := c.t.d.def_ 33 (d := fnL[33]) rfl
  obtain ⟨fdlaw_bad_prime, Flaw_bad_prime⟩ := c.t.d.def_ 34 (d := fnL[34]) rfl
  obtain ⟨fdlaw_far, Flaw_far⟩ := c.t.d.def_ 35 (d := fnL[35]) rfl
  obtain ⟨fdlaw_trim, Flaw_trim⟩ := c.t.d.def_ 36 (d := fnL[36]) rfl
  obtain ⟨fdlaw_rests, Flaw_rests⟩ := c.t.d.def_ 37 (d := fnL[37]) rfl
  obtain ⟨fdlaw_poly, Flaw_poly⟩ := c.t.d.def_ 38 (d := fnL[38]) rfl
  obtain ⟨fdlaw_doors, Flaw_doors⟩ := c.t.d.def_ 39 (d := fnL[39]) rfl
  obtain ⟨fdlaw, Flaw⟩ := c.t.d.def_ 40 (d := fnL[40]) rfl
  have e := hfa.symm.trans (glo_ok X G (c.t.d.fact 54 (f := .glo "law") rfl))
  cases e
  have b := FunD.bindsA (ps := ["_law_script"]) Flaw fun _ _ _ _ _ _ us hl => match us, hl with | [_], _ => rfl
  have T : Fre mg := ⟨free_ok X G (c.t.d.fact 56 (f := .free "len") rfl), free_ok X G (c.t.d.fact 57 (f := .free "abs") rfl), free_ok X G (c.t.d.fact 58 (f := .free "list") rfl), free_ok X G (c.t.d.fact 59 (f := .free "tuple") rfl), free_ok X G (c.t.d.fact 60 (f := .free "int") rfl), free_ok X G (c.t.d.fact 61 (f := .free "bool") rfl), free_ok X G (c.t.d.fact 62 (f := .free "str") rfl), free_ok X G (c.t.d.fact 63 (f := .free "isinstance") rfl), free_ok X G (c.t.d.fact 64 (f := .free "range") rfl), free_ok X G (c.t.d.fact 65 (f := .free "all") rfl), free_ok X G (c.t.d.fact 66 (f := .free "zip") rfl), free_ok X G (c.t.d.fact 67 (f := .free "enumerate") rfl), free_ok X G (c.t.d.fact 68 (f := .free "max") rfl), free_ok X G (c.t.d.fact 69 (f := .free "reversed") rfl)⟩
  have M8 : Cls8 mg (cOf K) := ⟨glo_ok X G (c.t.d.fact 0 (f := .glo "NotWhole") rfl), glo_ok X G (c.t.d.fact 1 (f := .glo "TooTall") rfl), glo_ok X G (c.t.d.fact 2 (f := .glo "BadTable") rfl), glo_ok X G (c.t.d.fact 3 (f := .glo "BadText") rfl), glo_ok X G (c.t.d.fact 4 (f := .glo "BadPage") rfl), glo_ok X G (c.t.d.fact 5 (f := .glo "Stopped") rfl), glo_ok X G (c.t.d.fact 6 (f := .glo "Used") rfl), glo_ok X G (c.t.d.fact 7 (f := .glo "Held") rfl), glo_ok X G (c.t.d.fact 8 (f := .glo "NoGuest") rfl), glo_ok X G (c.t.d.fact 9 (f := .glo "NoName") rfl), glo_ok X G (c.t.d.fact 10 (f := .glo "RungError") rfl), glo_ok X G (c.t.d.fact 11 (f := .glo "RungMissing") rfl)⟩
  have x_BadPrime : RX K mg (ga K "BadPrime") (ma K (ga K "RungError") "__init__") "BadPrime" := ⟨r_BadPrime, w_BadPrime, i_BadPrime, t_BadPrime, glo_ok X G (c.t.d.fact 12 (f := .glo "BadPrime") rfl)⟩
  have x_BadPoly : RX K mg (ga K "BadPoly") (ma K (ga K "RungError") "__init__") "BadPoly" := ⟨r_BadPoly, w_BadPoly, i_BadPoly, t_BadPoly, glo_ok X G (c.t.d.fact 13 (f := .glo "BadPoly") rfl)⟩
  have mP : mg "PRIMES" = some (.ref (ga K "PRIMES")) := glo_ok X G (c.t.d.fact 14 (f := .glo "PRIMES") rfl)
  have hP : ∀ H, SqT K H (ga K "PRIMES") (primes.map V.int) := fun H => lit_tup H e0
  have mI_MOST_RESTS : ∃ t, mg "MOST_RESTS" = some (.int 25 t) := int_ok X G (c.t.d.fact 55 (f := .int "MOST_RESTS" 25) rfl)
  refine ⟨fdlaw, fun s v => b s [v] rfl, fun base TB_law TB_law_doors => ?_⟩
  have o_init : FnR P w K mg base (L2.CX P w) 1 (ma K (ga K "RungError") "__init__") (spRI1 K) := o_init0 FRungError___init
  have KK : Kinds K (cOf K) (kOf K) := ⟨hC_BadPrime, hC_BadPoly, w_BadPrime, w_BadPoly⟩
  have o_law_begin := own_of Flaw_begin (ok_begin (P := P) (w := w) (base := base)  Flaw_begin T) (glo_ok X G (c.t.d.fact 41 (f := .glo "_law_begin") rfl)) (fun _ _ _ _ _ _ us hl => match us, hl with | [_], _ => rfl)
  have o_law_take := own_of Flaw_take (ok_take (P := P) (w := w) (base := base)  Flaw_take T) (glo_ok X G (c.t.d.fact 42 (f := .glo "_law_take") rfl)) (fun _ _ _ _ _ _ us hl => match us, hl with | [_, _], _ => rfl)
  have o_law_of := own_of Flaw_of (ok_of (P := P) (w := w) (base := base)  Flaw_of T o_law_take) (glo_ok X G (c.t.d.fact 43 (f := .glo "_law_of") rfl)) (fun _ _ _ _ _ _ us hl => match us, hl with | [_, _], _ => rfl)
  have o_law_primes := own_of Flaw_primes (ok_primes (P := P) (w := w) (base := base)  Flaw_primes) (glo_ok X G (c.t.d.fact 46 (f := .glo "_law_primes") rfl)) (fun _ _ _ _ _ _ us hl => match us, hl with | [], _ => rfl)
  have o_law_any_prime := own_of Flaw_any_prime (ok_any_prime (P := P) (w := w) (base := base)  Flaw_any_prime o_law_of o_law_primes) (glo_ok X G (c.t.d.fact 47 (f := .glo "_law_any_prime") rfl)) (fun _ _ _ _ _ _ us hl => match us, hl with | [_], _ => rfl)
  have o_law_bad_prime := own_of Flaw_bad_prime (ok_bad (P := P) (w := w) (base := base)  Flaw_bad_prime o_law_take o_law_of) (glo_ok X G (c.t.d.fact 48 (f := .glo "_law_bad_prime") rfl)) (fun _ _ _ _ _ _ us hl => match us, hl with | [_], _ => rfl)
  have o_law_far := own_of Flaw_far (ok_far (P := P) (w := w) (base := base)  Flaw_far o_law_take o_law_of) (glo_ok X G (c.t.d.fact 49 (f := .glo "_law_far") rfl)) (fun _ _ _ _ _ _ us hl => match us, hl with | [_, _], _ => rfl)
  have o_is_prime := own_of Fis_prime (ok_is_prime (P := P) (w := w) (base := base)  Fis_prime mP hP) (glo_ok X G (c.t.d.fact 15 (f := .glo "is_prime") rfl)) (fun _ _ _ _ _ _ us hl => match us, hl with | [_], _ => rfl)
  have o_is_number := own_of Fis_number (ok_is_number (P := P) (w := w) (base := base)  Fis_number T) (glo_ok X G (c.t.d.fact 16 (f := .glo "is_number") rfl)) (fun _ _ _ _ _ _ us hl => match us, hl with | [_], _ => rfl)
  have o_is_rest := own_of Fis_rest (ok_is_rest (P := P) (w := w) (base := base)  Fis_rest o_is_number) (glo_ok X G (c.t.d.fact 17 (f := .glo "is_rest") rfl)) (fun _ _ _ _ _ _ us hl => match us, hl with | [_, _], _ => rfl)
  have o_refuse_prime := own_of Frefuse_prime (ok_refuse_prime (P := P) (w := w) (base := base)  Frefuse_prime o_is_prime x_BadPrime o_init) (glo_ok X G (c.t.d.fact 18 (f := .glo "refuse_prime") rfl)) (fun _ _ _ _ _ _ us hl => match us, hl with | [_], _ => rfl)
  have o_trimmed := own_of Ftrimmed (ok_trimmed (P := P) (w := w) (base := base)  Ftrimmed T) (glo_ok X G (c.t.d.fact 19 (f := .glo "trimmed") rfl)) (fun _ _ _ _ _ _ us hl => match us, hl with | [_], _ => rfl)
  have o_raw_plus := own_of Fraw_plus (ok_raw_plus (P := P) (w := w) (base := base)  Fraw_plus T o_trimmed) (glo_ok X G (c.t.d.fact 20 (f := .glo "raw_plus") rfl)) (fun _ _ _ _ _ _ us hl => match us, hl with | [_, _, _], _ => rfl)
  have o_law_trim := own_of Flaw_trim (ok_law_trim (P := P) (w := w) (base := base)  Flaw_trim T) (glo_ok X G (c.t.d.fact 50 (f := .glo "_law_trim") rfl)) (fun _ _ _ _ _ _ us hl => match us, hl with | [_], _ => rfl)
  have o_law_rests := own_of Flaw_rests (ok_law_rests (P := P) (w := w) (base := base)  Flaw_rests T o_law_take) (glo_ok X G (c.t.d.fact 51 (f := .glo "_law_rests") rfl)) (fun _ _ _ _ _ _ us hl => match us, hl with | [_, _, _], _ => rfl)
  have o_law_poly := own_of Flaw_poly (ok_law_poly (P := P) (w := w) (base := base)  Flaw_poly T o_law_take o_law_rests o_law_trim) (glo_ok X G (c.t.d.fact 52 (f := .glo "_law_poly") rfl)) (fun _ _ _ _ _ _ us hl => match us, hl with | [_, _, _], _ => rfl)
  have o_is_poly := own_of Fis_poly (ok_is_poly (P := P) (w := w) (base := base)  Fis_poly T mI_MOST_RESTS o_is_rest) (glo_ok X G (c.t.d.fact 21 (f := .glo "is_poly") rfl)) (fun _ _ _ _ _ _ us hl => match us, hl with | [_, _], _ => rfl)
  have o_refuse_polys := own_of Frefuse_polys (ok_refuse_polys (P := P) (w := w) (base := base) (C := kOf K) Frefuse_polys o_refuse_prime o_is_poly x_BadPoly o_init) (glo_ok X G (c.t.d.fact 22 (f := .glo "refuse_polys") rfl)) (fun _ _ _ _ _ _ us hl => match us, hl with | [_, _], _ => rfl)
  have o_refuse_nought_poly := own_of Frefuse_nought_poly (d_refuse_nought_poly (P := P) (w := w) (base := base) (C := kOf K) Frefuse_nought_poly o_refuse_polys x_BadPoly o_init) (glo_ok X G (c.t.d.fact 36 (f := .glo "refuse_nought_poly") rfl)) (fun _ _ _ _ _ _ us hl => match us, hl with | [_, _], _ => rfl)
  have o_refuse_low := own_of Frefuse_low (d_refuse_low (P := P) (w := w) (base := base) (C := kOf K) Frefuse_low T o_refuse_polys x_BadPoly o_init) (glo_ok X G (c.t.d.fact 40 (f := .glo "refuse_low") rfl)) (fun _ _ _ _ _ _ us hl => match us, hl with | [_, _], _ => rfl)
  have G_d_poly_plus := d_poly_plus (P := P) (w := w) (base := base) (C := kOf K) Fpoly_plus o_refuse_polys
  have k_d_poly_plus := own_ofK (n := 2) (ks := ["prime"]) Fpoly_plus G_d_poly_plus (glo_ok X G (c.t.d.fact 23 (f := .glo "poly_plus") rfl)) (fun _ _ _ _ _ _ us ws hl hk => match us, hl, ws, hk with | [_, _], _, [_], _ => rfl)
  have o_d_poly_plus := own_of0 Fpoly_plus G_d_poly_plus (glo_ok X G (c.t.d.fact 23 (f := .glo "poly_plus") rfl)) 2 (by intro z; cases z) rfl (fun D _ _ _ _ _ us ks hl hk => match us, hl, ks, hk with | [_, _], _, [_], _ => ⟨_, _, _, _, _, _, rfl, rfl, rfl⟩)
  have G_d_poly_minus := d_poly_minus (P := P) (w := w) (base := base) (C := kOf K) Fpoly_minus o_refuse_polys
  have k_d_poly_minus := own_ofK (n := 2) (ks := ["prime"]) Fpoly_minus G_d_poly_minus (glo_ok X G (c.t.d.fact 24 (f := .glo "poly_minus") rfl)) (fun _ _ _ _ _ _ us ws hl hk => match us, hl, ws, hk with | [_, _], _, [_], _ => rfl)
  have o_d_poly_minus := own_of0 Fpoly_minus G_d_poly_minus (glo_ok X G (c.t.d.fact 24 (f := .glo "poly_minus") rfl)) 2 (by intro z; cases z) rfl (fun D _ _ _ _ _ us ks hl hk => match us, hl, ks, hk with | [_, _], _, [_], _ => ⟨_, _, _, _, _, _, rfl, rfl, rfl⟩)
  have G_d_poly_times := d_poly_times (P := P) (w := w) (base := base) (C := kOf K) Fpoly_times o_refuse_polys
  have k_d_poly_times := own_ofK (n := 2) (ks := ["prime"]) Fpoly_times G_d_poly_times (glo_ok X G (c.t.d.fact 25 (f := .glo "poly_times") rfl)) (fun _ _ _ _ _ _ us ws hl hk => match us, hl, ws, hk with | [_, _], _, [_], _ => rfl)
  have o_d_poly_times := own_of0 Fpoly_times G_d_poly_times (glo_ok X G (c.t.d.fact 25 (f := .glo "poly_times") rfl)) 2 (by intro z; cases z) rfl (fun D _ _ _ _ _ us ks hl hk => match us, hl, ks, hk with | [_, _], _, [_], _ => ⟨_, _, _, _, _, _, rfl, rfl, rfl⟩)
  have G_d_poly_parted := d_poly_parted (P := P) (w := w) (base := base) (C := kOf K) Fpoly_parted o_refuse_polys
  have k_d_poly_parted := own_ofK (n := 2) (ks := ["prime"]) Fpoly_parted G_d_poly_parted (glo_ok X G (c.t.d.fact 26 (f := .glo "poly_parted") rfl)) (fun _ _ _ _ _ _ us ws hl hk => match us, hl, ws, hk with | [_, _], _, [_], _ => rfl)
  have o_d_poly_parted := own_of0 Fpoly_parted G_d_poly_parted (glo_ok X G (c.t.d.fact 26 (f := .glo "poly_parted") rfl)) 2 (by intro z; cases z) rfl (fun D _ _ _ _ _ us ks hl hk => match us, hl, ks, hk with | [_, _], _, [_], _ => ⟨_, _, _, _, _, _, rfl, rfl, rfl⟩)
  have G_d_poly_common := d_poly_common (P := P) (w := w) (base := base) (C := kOf K) Fpoly_common o_refuse_polys
  have k_d_poly_common := own_ofK (n := 2) (ks := ["prime"]) Fpoly_common G_d_poly_common (glo_ok X G (c.t.d.fact 27 (f := .glo "poly_common") rfl)) (fun _ _ _ _ _ _ us ws hl hk => match us, hl, ws, hk with | [_, _], _, [_], _ => rfl)
  have o_d_poly_common := own_of0 Fpoly_common G_d_poly_common (glo_ok X G (c.t.d.fact 27 (f := .glo "poly_common") rfl)) 2 (by intro z; cases z) rfl (fun D _ _ _ _ _ us ks hl hk => match us, hl, ks, hk with | [_, _], _, [_], _ => ⟨_, _, _, _, _, _, rfl, rfl, rfl⟩)
  have G_d_poly_value := d_poly_value (P := P) (w := w) (base := base) (C := kOf K) Fpoly_value o_refuse_polys
  have k_d_poly_value := own_ofK (n := 2) (ks := ["prime"]) Fpoly_value G_d_poly_value (glo_ok X G (c.t.d.fact 28 (f := .glo "poly_value") rfl)) (fun _ _ _ _ _ _ us ws hl hk => match us, hl, ws, hk with | [_, _], _, [_], _ => rfl)
  have o_d_poly_value := own_of0 Fpoly_value G_d_poly_value (glo_ok X G (c.t.d.fact 28 (f := .glo "poly_value") rfl)) 2 (by intro z; cases z) rfl (fun D _ _ _ _ _ us ks hl hk => match us, hl, ks, hk with | [_, _], _, [_], _ => ⟨_, _, _, _, _, _, rfl, rfl, rfl⟩)
  have G_d_poly_put := d_poly_put (P := P) (w := w) (base := base) (C := kOf K) Fpoly_put o_refuse_polys
  have k_d_poly_put := own_ofK (n := 3) (ks := ["prime"]) Fpoly_put G_d_poly_put (glo_ok X G (c.t.d.fact 29 (f := .glo "poly_put") rfl)) (fun _ _ _ _ _ _ us ws hl hk => match us, hl, ws, hk with | [_, _, _], _, [_], _ => rfl)
  have o_d_poly_put := own_of0 Fpoly_put G_d_poly_put (glo_ok X G (c.t.d.fact 29 (f := .glo "poly_put") rfl)) 3 (by intro z; cases z) rfl (fun D _ _ _ _ _ us ks hl hk => match us, hl, ks, hk with | [_, _, _], _, [_], _ => ⟨_, _, _, _, _, _, rfl, rfl, rfl⟩)
  have G_d_poly_left := d_poly_left (P := P) (w := w) (base := base) (C := kOf K) Fpoly_left o_refuse_polys
  have k_d_poly_left := own_ofK (n := 3) (ks := ["prime"]) Fpoly_left G_d_poly_left (glo_ok X G (c.t.d.fact 30 (f := .glo "poly_left") rfl)) (fun _ _ _ _ _ _ us ws hl hk => match us, hl, ws, hk with | [_, _, _], _, [_], _ => rfl)
  have o_d_poly_left := own_of0 Fpoly_left G_d_poly_left (glo_ok X G (c.t.d.fact 30 (f := .glo "poly_left") rfl)) 3 (by intro z; cases z) rfl (fun D _ _ _ _ _ us ks hl hk => match us, hl, ks, hk with | [_, _, _], _, [_], _ => ⟨_, _, _, _, _, _, rfl, rfl, rfl⟩)
  have G_d_poly_slope := d_poly_slope (P := P) (w := w) (base := base) (C := kOf K) Fpoly_slope o_refuse_polys
  have k_d_poly_slope := own_ofK (n := 1) (ks := ["prime"]) Fpoly_slope G_d_poly_slope (glo_ok X G (c.t.d.fact 31 (f := .glo "poly_slope") rfl)) (fun _ _ _ _ _ _ us ws hl hk => match us, hl, ws, hk with | [_], _, [_], _ => rfl)
  have o_d_poly_slope := own_of0 Fpoly_slope G_d_poly_slope (glo_ok X G (c.t.d.fact 31 (f := .glo "poly_slope") rfl)) 1 (by intro z; cases z) rfl (fun D _ _ _ _ _ us ks hl hk => match us, hl, ks, hk with | [_], _, [_], _ => ⟨_, _, _, _, _, _, rfl, rfl, rfl⟩)
  have G_d_poly_text := d_poly_text (P := P) (w := w) (base := base) (C := kOf K) Fpoly_text o_refuse_polys
  have k_d_poly_text := own_ofK (n := 1) (ks := ["prime"]) Fpoly_text G_d_poly_text (glo_ok X G (c.t.d.fact 32 (f := .glo "poly_text") rfl)) (fun _ _ _ _ _ _ us ws hl hk => match us, hl, ws, hk with | [_], _, [_], _ => rfl)
  have o_d_poly_text := own_of0 Fpoly_text G_d_poly_text (glo_ok X G (c.t.d.fact 32 (f := .glo "poly_text") rfl)) 1 (by intro z; cases z) rfl (fun D _ _ _ _ _ us ks hl hk => match us, hl, ks, hk with | [_], _, [_], _ => ⟨_, _, _, _, _, _, rfl, rfl, rfl⟩)
  have G_d_is_whole := d_is_whole (P := P) (w := w) (base := base) (C := kOf K) Fis_whole o_refuse_polys
  have k_d_is_whole := own_ofK (n := 1) (ks := ["prime"]) Fis_whole G_d_is_whole (glo_ok X G (c.t.d.fact 37 (f := .glo "is_whole") rfl)) (fun _ _ _ _ _ _ us ws hl hk => match us, hl, ws, hk with | [_], _, [_], _ => rfl)
  have o_d_is_whole := own_of0 Fis_whole G_d_is_whole (glo_ok X G (c.t.d.fact 37 (f := .glo "is_whole") rfl)) 1 (by intro z; cases z) rfl (fun D _ _ _ _ _ us ks hl hk => match us, hl, ks, hk with | [_], _, [_], _ => ⟨_, _, _, _, _, _, rfl, rfl, rfl⟩)
  have G_d_parts := d_parts (P := P) (w := w) (base := base) (C := kOf K) Fparts o_refuse_nought_poly
  have k_d_parts := own_ofK (n := 1) (ks := ["prime"]) Fparts G_d_parts (glo_ok X G (c.t.d.fact 34 (f := .glo "parts") rfl)) (fun _ _ _ _ _ _ us ws hl hk => match us, hl, ws, hk with | [_], _, [_], _ => rfl)
  have o_d_parts := own_of0 Fparts G_d_parts (glo_ok X G (c.t.d.fact 34 (f := .glo "parts") rfl)) 1 (by intro z; cases z) rfl (fun D _ _ _ _ _ us ks hl hk => match us, hl, ks, hk with | [_], _, [_], _ => ⟨_, _, _, _, _, _, rfl, rfl, rfl⟩)
  have G_d_rest_roots := d_rest_roots (P := P) (w := w) (base := base) (C := kOf K) Frest_roots o_refuse_nought_poly
  have k_d_rest_roots := own_ofK (n := 1) (ks := ["prime"]) Frest_roots G_d_rest_roots (glo_ok X G (c.t.d.fact 35 (f := .glo "rest_roots") rfl)) (fun _ _ _ _ _ _ us ws hl hk => match us, hl, ws, hk with | [_], _, [_], _ => rfl)
  have o_d_rest_roots := own_of0 Frest_roots G_d_rest_roots (glo_ok X G (c.t.d.fact 35 (f := .glo "rest_roots") rfl)) 1 (by intro z; cases z) rfl (fun D _ _ _ _ _ us ks hl hk => match us, hl, ks, hk with | [_], _, [_], _ => ⟨_, _, _, _, _, _, rfl, rfl, rfl⟩)
  have G_d_paper := d_paper (P := P) (w := w) (base := base) (C := kOf K) Fpaper o_refuse_low
  have k_d_paper := own_ofK (n := 1) (ks := ["prime"]) Fpaper G_d_paper (glo_ok X G (c.t.d.fact 38 (f := .glo "paper") rfl)) (fun _ _ _ _ _ _ us ws hl hk => match us, hl, ws, hk with | [_], _, [_], _ => rfl)
  have o_d_paper := own_of0 Fpaper G_d_paper (glo_ok X G (c.t.d.fact 38 (f := .glo "paper") rfl)) 1 (by intro z; cases z) rfl (fun D _ _ _ _ _ us ks hl hk => match us, hl, ks, hk with | [_], _, [_], _ => ⟨_, _, _, _, _, _, rfl, rfl, rfl⟩)
  have G_d_paper_holds := d_paper_holds (P := P) (w := w) (base := base) (C := kOf K) Fpaper_holds o_refuse_low
  have k_d_paper_holds := own_ofK (n := 2) (ks := ["prime"]) Fpaper_holds G_d_paper_holds (glo_ok X G (c.t.d.fact 39 (f := .glo "paper_holds") rfl)) (fun _ _ _ _ _ _ us ws hl hk => match us, hl, ws, hk with | [_, _], _, [_], _ => rfl)
  have o_d_paper_holds := own_of0 Fpaper_holds G_d_paper_holds (glo_ok X G (c.t.d.fact 39 (f := .glo "paper_holds") rfl)) 2 (by intro z; cases z) rfl (fun D _ _ _ _ _ us ks hl hk => match us, hl, ks, hk with | [_, _], _, [_], _ => ⟨_, _, _, _, _, _, rfl, rfl, rfl⟩)
  have G_poly_plus := ok_poly_plus (P := P) (w := w) (base := base)  Fpoly_plus o_refuse_polys o_raw_plus
  have k_poly_plus := own_ofK (n := 2) (ks := ["prime"]) Fpoly_plus G_poly_plus (glo_ok X G (c.t.d.fact 23 (f := .glo "poly_plus") rfl)) (fun _ _ _ _ _ _ us ws hl hk => match us, hl, ws, hk with | [_, _], _, [_], _ => rfl)
  have o_poly_plus := own_of0 Fpoly_plus G_poly_plus (glo_ok X G (c.t.d.fact 23 (f := .glo "poly_plus") rfl)) 2 (by intro z; cases z) rfl (fun D _ _ _ _ _ us ks hl hk => match us, hl, ks, hk with | [_, _], _, [_], _ => ⟨_, _, _, _, _, _, rfl, rfl, rfl⟩)
  have G_read_poly := d_read_poly (P := P) (w := w) (base := base) (C := kOf K) Fread_poly o_refuse_prime
  have k_read_poly := own_ofK (n := 1) (ks := ["prime"]) Fread_poly G_read_poly (glo_ok X G (c.t.d.fact 33 (f := .glo "read_poly") rfl)) (fun _ _ _ _ _ _ us ws hl hk => match us, hl, ws, hk with | [_], _, [_], _ => rfl)
  have G_law_why := ok_why (P := P) (w := w) (base := base) (kl := 7) Flaw_why (glo_ok X G (c.t.d.fact 44 (f := .glo "_law_why") rfl)) M8
  have G_law_word := ok_word (P := P) (w := w) (base := base) (kl := 7) Flaw_word (glo_ok X G (c.t.d.fact 45 (f := .glo "_law_word") rfl)) G_law_why
  have o_law_doors := own_of Flaw_doors (ok_law_doors (P := P) (w := w) (base := base) (C := kOf K) (c := cOf K) Flaw_doors (code_of (p := ("_law_doors", none)) Flaw_doors) TB_law_doors hne_law_law_doors KK G_law_word k_d_poly_plus k_d_poly_minus k_d_poly_times k_d_poly_parted k_d_poly_common k_d_poly_value k_d_poly_put k_d_poly_left k_d_poly_slope k_d_poly_text k_d_is_whole k_d_parts k_d_rest_roots k_d_paper k_d_paper_holds) (glo_ok X G (c.t.d.fact 53 (f := .glo "_law_doors") rfl)) (fun _ _ _ _ _ _ us hl => match us, hl with | [_, _], _ => rfl)
  exact ok_law (C := kOf K) Flaw (code_of (p := ("law", none)) Flaw) TB_law T hne_law_law_doors KK o_law_begin o_law_of o_law_any_prime o_law_poly o_law_bad_prime o_law_far o_law_doors G_law_word k_read_poly o_d_parts o_d_rest_roots o_d_paper o_d_paper_holds o_poly_plus
end
end Xk
end
set_option Elab.async false
set_option linter.all false
set_option maxRecDepth 100000
set_option maxHeartbeats 0
open PySem PySem.W PySem.Calls PyProof.Rows
theorem PySem.Challenge.cw_rungfields_k08_doors_of_polynomials_holds : PySem.Challenge.rw_rungfields_k08_doors_of_polynomials.Holds := by
  w_on; o_law
  refine HandSHeadRun.head_any (r := OpenLaw.row PySem.Challenge.rw_rungfields_k08_doors_of_polynomials) (q := view (OpenLaw.row PySem.Challenge.rw_rungfields_k08_doors_of_polynomials).prog [112]) (H := Xk.hk) (ob := Xk.ob) (M := 16000) (loose := Xk.loL) (d := HandSHeadRun.topDef (OpenLaw.row PySem.Challenge.rw_rungfields_k08_doors_of_polynomials).prog 112) (kwd := []) Xk.ob_eq
    (by kernel_rfl) (fun s => by kernel_rfl) Xk.run (by kernel_rfl) (by kernel_rfl) (by kernel_rfl) (by rfl) (by first | assumption | decide +kernel) (by decide +kernel) ⟨rfl, rfl, rfl, rfl, rfl, by decide +kernel⟩ ?hw ?hc
  case hw => w_witness2
  case hc =>
    refine LamX.walk_ofTsE (l := PySem.Challenge.rw_rungfields_k08_doors_of_polynomials) (n := 63) (k := 12) (x := "_law_script") (CX := fun _ => L2.CX0) rfl (by decide) (by kernel_rfl) ⟨rfl, by decide, by decide⟩ ?F (fun _ _ _ _ _ z => z)
    intro w mg fa h Y G hmg0
    obtain ⟨K, KX, c⟩ := Y
    have hmg : mg ("law" : PySem.Str) = some (.ref fa) := by
      have e : (HandSHeadRun.topDef (OpenLaw.row PySem.Challenge.rw_rungfields_k08_doors_of_polynomials).prog 112).name = ("law" : PySem.Str) := by kernel_rfl
      rw [← e]
      exact hmg0
    obtain ⟨fd, hb, hF⟩ := Xk.facts (P := (PySem.Challenge.rw_rungfields_k08_doors_of_polynomials).prog) (w := w) KX G hmg c
    have m1 : (("law", none) : He.Defn) ∈ ([("law", none), ("_law_doors", none)] : List He.Defn) := List.mem_cons_self
    have m2 : (("_law_doors", none) : He.Defn) ∈ ([("law", none), ("_law_doors", none)] : List He.Defn) := List.mem_cons_of_mem _ ((List.mem_singleton.mpr rfl))
    refine ⟨K, KX, fd, [He.cT K ("law", none), He.cT K ("_law_doors", none)], Xk.spLaw K (He.cT K ("law", none)).2 (He.cT K ("_law_doors", none)).2, ?_, ?_, ?_, hb, ?_, ?_⟩
    · intro p hp
      rcases List.mem_cons.mp hp with rfl | hp
      · exact c.empty _ m1
      rw [List.mem_singleton.mp hp]
      exact c.empty _ m2
    · intro p hp
      rcases List.mem_cons.mp hp with rfl | hp
      · exact c.out _ m1
      rw [List.mem_singleton.mp hp]
      exact c.out _ m2
    · intro p hp
      rcases List.mem_cons.mp hp with rfl | hp
      · exact PySem.W.codeHd_of_K KX (c.hd _ m1)
      rw [List.mem_singleton.mp hp]
      exact PySem.W.codeHd_of_K KX (c.hd _ m2)
    · intro H a ns hl _ hT hS
      refine ⟨a, ns, rfl, hS, fun p hp => ?_, fun _ => rfl⟩
      rcases List.mem_cons.mp hp with rfl | hp
      · exact LamX.TabS.nil (hT _ (List.mem_cons_self))
      rw [List.mem_singleton.mp hp]
      exact LamX.TabS.nil (hT _ (List.mem_cons_of_mem _ ((List.mem_singleton.mpr rfl))))
    · intro base _ _ hTB
      exact hF base (hTB _ (List.mem_cons_self)) (hTB _ (List.mem_cons_of_mem _ ((List.mem_singleton.mpr rfl))))
