import PyProof.Rows.All
import Wide.All
import OpenK.AllK
import Wide.FinOn
import KE.KTypeName
import KE.KTryMore
import HandS.ForMost
import HandS.ForExc
import HandS.ExcInit
import HandS.ExcIs
import HandS.ExcField
import HandS.Star
import HandS.Defaults
import HandS.TryMany
import HandS.Lambda
import HandS.EndTab
import HandS.IsInst
import HandS.Wide
import HandS.WideMore
import HandS.Codes
import HandS.Flow
import HandS.Zip
import HandS.Walk
import HandS.Iter
import KE.GoesEnum
import PySem.Challenge.RW_rungfields_k09_whole_parts_found
import HandS.Nested
import KE.KEqSeq
import HandS.RevRange
import HandS.Rev
import HandS.Style
import HandS.TupMul
import HandS.TupAny
import KE.GoesMore
import HandS.More
import HandS.Comp
import HandS.DictComp
import HandS.Dict
import HandS.SortKw
import HandS.ClsMeth
import HandS.NamedTupSort
import KE.KSortTup
import KE.KSortKeyAny
import KE.DataEq
import KE.DataMinMax
import HandS.List
import PyProof.Rows.RowBridgeK
import KE.DataFind
import HandS.Deep
import HandS.Head0
import HandS.Head1
import HandS.Head2
import HandS.HeadHook1
import HandS.HeadHook2
import HandS.HeadHook3
import HandS.HeadHook4
import HandS.HeadWalk
import HandS.HeadEnd
section
set_option Elab.async false
set_option linter.all false
set_option maxRecDepth 100000
set_option maxHeartbeats 2000000
/-! An own exception in the making: `self.__class__.__name__`. -/
namespace Xh
open PySem PySem.W PySem.Calls PyProof.Rows PySem.HandSPX Builtin Builtin.ObjectAttr Builtin.Getset_descriptor
section
variable {prog : Program} {w : World} {A : Around} {E : Value → Shared → Prop} {R : Result → Shared → Prop} {s : Shared} {K : Frag} {x D : Addr} {ox : Obj}
/-- x.__class__ of an exception without a dict of its own as yet -/
theorem exc_class {expr : Bool} {Q : Value → Shared → Prop} (hga : findIn K (.ref D) "__getattribute__" = some (some (.builtin "BaseException.__getattribute__"))) (hgt : findIn K (.ref D) "__getattr__" = some none) (hsub : subIn K (.ref D) (.type "BaseException") = some true)
    (hdct : hasDictIn K D = true) (ha : findIn K (.ref D) "__class__" = some (some (.builtin "object.__class__")))
    (hn : specialIn K (.builtin "object.__class__") "__get__" = some (some (.builtin "getset_descriptor.__get__"))) (htk : takesIn K (.builtin "object.__class__") = some true) (hm : mroIn K D (.type "object") = some true)
    (X : K.In s.heap) (I : InstAt s.heap x ox D none) (h : Q (.ref D) { s with toks := s.toks + 1 }) : wpAny (model prog w) A (getAttr (.ref x) "__class__" expr) Q E s := by
  have hf : findObj K D none "__class__" = some (.bind (.builtin "getset_descriptor.__get__") (.builtin "object.__class__")) := findObj_dataN (by obtain ⟨cd, hc, _⟩ := any_some hdct; rw [hc]; rfl) ha hn htk
  obtain ⟨hp, g, d, t, os⟩ := s
  have L0 := I.type (M := model prog w)
  have L1 := looks_findIn (M := model prog w) X hga
  have L2 := looks_findIn (M := model prog w) X hgt
  have L3 := looks_find (M := model prog w) X I hf
  have sub : Looks (model prog w) hp (isInstance (.ref x) (.type "BaseException")) true := L0.andThen (looks_subIn X hsub)
  have hx0 : (expr && onTheHeap (Value.builtin "BaseException.__getattribute__")) = false := by cases expr <;> rfl
  have hx2 : (Value.builtin "BaseException.__getattribute__" == Value.builtin "object.__getattribute__") = false := by decide +kernel
  have hx1 : (onTheHeap (Value.ref D) && Value.builtin "BaseException.__getattribute__" == Value.builtin "object.__getattribute__") = false := by rw [hx2]; rfl
  unfold getAttr getAttrBy
  refine wpAny_bind (wpAny_mkText (wpAny_holding (wpAny_bind (L0.at (wpAny_bind (L1.at ?_))))))
  show wpAny _ _ (if (onTheHeap (Value.ref D) && Value.builtin "BaseException.__getattribute__" == Value.builtin "object.__getattribute__") = true then _ else _) _ _ _
  rw [hx1, if_neg Bool.false_ne_true]
  unfold getAttrByItsOwn hookBefore
  refine wpAny_bind ?_
  rw [if_pos (show onTheHeap (Value.ref D) = true from rfl)]
  refine L2.at ?_
  refine wpAny_bind (wpAny_attempt (wpAny_holding ?_))
  unfold callGetattribute
  rw [hx0, if_neg Bool.false_ne_true]
  unfold boundAndCalled
  rw [PySem.F.excAttr_ValueError.ga.bind (.ref x)]
  refine wpAny_bind (wpAny_pure ?_)
  show wpAny _ _ (call (.builtin "BaseException.__getattribute__") [.ref x, .str "__class__" t]) _ _ _
  refine wpAny_call (codeAny_call_builtin PySem.F.excAttr_ValueError.ga.plain PySem.F.entry_bexc_ga ?_)
  refine @check_slot (model prog w) _ _ ⟨hp, g, d, t + 1, os⟩ "BaseException.__getattribute__" "BaseException" "__getattribute__" (.ref x) [.str "__class__" t] [] _ (by decide +kernel) (by decide +kernel) sub (PySem.F.args_bexc_ga (.ref x) (.str "__class__" t)) ?_
  unfold Builtin.«object.__getattribute__»
  refine wpAny_bind (wpAny_of_eq (a := ((Value.ref x : Value), [Value.str "__class__" t])) (by first | rfl | (simp only [slotArgs]; rfl)) ?_)
  refine wpAny_bind (wpAny_pure (wpAny_bind (L0.at (wpAny_bind (L3.at ?_)))))
  show wpAny _ _ (holding [Value.builtin "object.__class__"] (call (.builtin "getset_descriptor.__get__") [.builtin "object.__class__", .ref x, .ref D]) >>= ret) _ _ _
  refine wpAny_bind (wpAny_holding (wpAny_call (class_get (s := ⟨hp, g, d, t + 1, os⟩) (ox := ox) (od := none) X I hm ?_)))
  refine wpAny_pure ?_
  show wpAny _ _ (handedOut (.ref D)) _ _ _
  rw [handedOut_of (v := .ref D) rfl]
  exact wpAny_pure h
/-- type.__name__ of an own class: what its third slot holds -/
theorem name_get {C : Addr} {tp : Value} {cd : ClassData} {dd : Option Addr} {sl : Array (Option Value)} {v : Value} (hC : K.lookup C = some ⟨.type "type", dd, .cls cd, sl⟩) (hs : (sl[2]?).join = some v) (X : K.In s.heap)
    (h : R (.ok (.ret v)) s) : codeAny (model prog w) A (.call (.builtin "getset_descriptor.__get__") ⟨[.builtin "type.__name__", .ref C, tp], []⟩) R s := by
  obtain ⟨hh, g, dr, t, os⟩ := s
  have hg := X _ _ hC
  have L0 : Looks (model prog w) hh (typeOf (.ref C)) (.type "type") := fun A Q E s k q => wpAny_typeOf_ref (k _ _ hg) q
  have L1 : Looks (model prog w) hh (isSubtype (.type "type") (.type "type")) true := Looks.of_pure (by rw [isSubtype_type]; kernel_rfl)
  refine codeAny_call_builtin KF.slot_gs.plain KF.entry_gs (KF.slot_gs.check _ _ _ _ _ _ _ _ ktyn_type (KF.args_gs _ _ _) ?_)
  unfold Builtin.«getset_descriptor.__get__» descrGet
  rw [dga_obj]
  refine wpAny_bind (wpAny_pure ?_)
  unfold descrGetter descrCheckInstance descrNameAndClass isInstance
  simp only [ktyn_owner]
  repeat lk
  refine ⟨Code.quiet_builtin _ (by decide +kernel), codeAny_builtin ktyn_entry ?_⟩
  unfold Builtin.«type.__name__»
  dsimp only
  unfold keptObject slotAt
  dsimp only
  refine wpAny_bind (wpAny_bind (wpAny_loadPart hg ?_))
  refine wpAny_pure ?_
  dsimp only
  rw [hs]
  dsimp only
  exact wpAny_pure h
/-- C.__name__, C an own class -/
theorem cls_name {C : Addr} {cd : ClassData} {dd : Option Addr} {sl : Array (Option Value)} {v : Value} {expr : Bool} {Q : Value → Shared → Prop} (hC : K.lookup C = some ⟨.type "type", dd, .cls cd, sl⟩) (hs : (sl[2]?).join = some v) (hv : handedIn v = true)
    (hr : readsIn K C (.type "type") = true) (e : findCls K (.ref C) (.type "type") "__name__" = some (.get (.builtin "getset_descriptor.__get__") (.builtin "type.__name__") (.ref C) (.type "type")))
    (X : K.In s.heap) (h : Q v { s with toks := s.toks + 1 }) : wpAny (model prog w) A (getAttr (.ref C) "__name__" expr) Q E s :=
  cls_bind X hr e (wpAny_call (name_get hC hs X (handed_on hv h)))
end
end Xh
namespace L2
open PySem PySem.Spec PyProof.Rows
/-- what the written part says of an own exception class C of the name nm -/
structure RC (K : PySem.W.Frag) (C : Addr) (nm : Str) : Prop where
  o : OexC K C
  x : ExcC K C
  rd : PySem.W.readsIn K C (.type "type") = true
  fn : PySem.W.findCls K (.ref C) (.type "type") "__name__" = some (.get (.builtin "getset_descriptor.__get__") (.builtin "type.__name__") (.ref C) (.type "type"))
  nm : ∃ cd dd sl t, K.lookup C = some ⟨.type "type", dd, .cls cd, sl⟩ ∧ (sl[2]?).join = some (.str nm t)
section
variable {X : Cx} {o : Expr} {to : TE} {p q : Pos}
/-- e.__class__.__name__, e an exception in the making, without a dict as yet -/
def tClsNm (K : PySem.W.Frag) (to : TE) : TE := fun σ H Q => to σ H fun x H1 => ∃ (a C : Addr) (nm : Str), x = .ref a ∧ RC K C nm ∧ H1 a = some (exo a C none) ∧ Q (.str nm) H1
theorem pe_clsnm (ho : PE X o to) (h1 : attributeBase o "__class__" X.env (eval o X.env) = eval o X.env := by rfl)
    (h2 : attributeBase (.Attribute o "__class__" p) "__name__" X.env (eval (.Attribute o "__class__" p) X.env) = eval (.Attribute o "__class__" p) X.env := by rfl) :
    PE X (.Attribute (.Attribute o "__class__" p) "__name__" q) (tClsNm X.K to) := by
  refine ⟨fun pins s σ H Q I h => ?_⟩
  refine attr_of h2 (attr_of h1 (thn (ho.run pins s σ H _ I h) fun u s1 hh => ?_))
  obtain ⟨x, H1, I1, rx, a, C, nm, ex, T, ha, q⟩ := hh
  subst ex
  obtain rfl : u = Value.ref a := rx
  obtain ⟨t1, hg⟩ := exo_at I1.hok ha
  obtain ⟨cd, dd, sl, t, hC, hs⟩ := T.nm
  have J : PySem.W.InstAt s1.heap a { cls := .ref C, dict := none, data := .fields #[.ref t1, .none, .none, .none, .bool false, .none] } C none := ⟨hg, rfl, rfl, trivial⟩
  refine Xh.exc_class T.x.hg T.x.hk T.x.hs T.x.hd T.x.ha T.x.hn T.x.ht T.x.hm I1.kIn J ?_
  have I2 := I1.tok (s1.toks + 1)
  refine Xh.cls_name hC hs rfl T.rd T.fn I2.kIn ?_
  exact ⟨.str nm, H1, I2.tok _, ⟨t, rfl⟩, q⟩
end
end L2
end
section
set_option Elab.async false
set_option linter.all false
set_option maxRecDepth 100000
set_option maxHeartbeats 2000000
namespace L2
open PySem PySem.Spec PyProof.Rows
/-! ### RungError.__init__(self, *told): self.word = self.__class__.__name__ -/
/-- C() where C's __init__ takes only what is left over -/
def tMkO0 (C : Addr) (sp : Sp) : St → Hp → XK → Prop := fun σ H Q => ∀ a, H a = none → sp [.ref a] (upd H a (exo a C none))
  (fun v H2 => v = .non ∧ ∃ (d : Addr) (fs : List (Str × V)), H2 a = some (exo a C (some d)) ∧ H2 d = some (exd d fs) ∧ H d = none ∧ Q (.ref C) (some d) (upd (del H2 a) d (.xd fs))) (fun _ _ _ => False)
section
variable {X : Cx} {p pos : Pos}
theorem pmk_oex0 {CX : CXT} {x : Str} {C fI : Addr} {k : Nat} {sp : Sp} (T : OexC X.K C) (iC : PySem.W.findIn X.K (.ref C) "__init__" = some (some (.ref fI))) (tI : PySem.W.typeIn X.K (.ref fI) = some (.type "function"))
    (F1 : FnR X.prog X.w X.K X.mg X.base CX k fI sp) (hr : Room (k + 1) X.A) (hx : Passes CX X (fun _ _ _ => False)) (hg : Gl X x) (hm : X.mg x = some (.ref C))
    (hdb : (x == ("__debug__" : Str)) = false := by decide) :
    PMk X (.Call (.Name x p) [] [] pos) (tMkO0 C sp) := by
  intro pins s σ H Q I h
  obtain ⟨nm, q, N, bs, bm, sn, sub, ab, col, dd, k0, k1, k2, k3, k5, hC, hbm⟩ := T.cls
  refine wpAny_Call_Name_kw (ld_glob I hg hm ?_ hdb)
  refine PySem.W.callWith_K0 I.kIn T.kC ?_
  show wpAny _ _ (call (.ref C) []) _ _ _
  obtain ⟨hp, g, dr, tk, os⟩ := s
  have hsz : hp.objs.size ≤ hp.objs.size + 1 := Nat.le_succ _
  have hn : H (hp.objs.size + 1) = none := I.hok.fresh hsz
  have hq := h (hp.objs.size + 1) hn
  have kk : ∀ b o, hp.get? b = some o → ((hp.push (PySem.W.kdv_tup [])).push (PySem.HandSPX.excO C hp.objs.size)).get? b = some o := fun b o e => Heap.get?_push_of_some _ (Heap.get?_push_of_some _ e)
  have hget : ((hp.push (PySem.W.kdv_tup [])).push (PySem.HandSPX.excO C hp.objs.size)).get? (hp.objs.size + 1) = some (PySem.HandSPX.excO C hp.objs.size) := by heap_get
  have I2 : Inv X pins σ (upd H (hp.objs.size + 1) (exo (hp.objs.size + 1) C none)) ⟨(hp.push (PySem.W.kdv_tup [])).push (PySem.HandSPX.excO C hp.objs.size), g, dr, tk, os⟩ :=
    I.laid (t' := tk) (a := hp.objs.size + 1) (o := exo (hp.objs.size + 1) C none) (h' := (hp.push (PySem.W.kdv_tup [])).push (PySem.HandSPX.excO C hp.objs.size)) kk hsz (exo_ok hget)
  have r2 : Vals [V.ref (hp.objs.size + 1)] [Value.ref (hp.objs.size + 1)] := .cons rfl .nil
  refine wpAny_call (PySem.HandSPX.call_own F.excBase_ValueError (fun Y => PySem.HandSPX.refsVE_contains Y bm hbm) (I.kIn _ _ hC) (PySem.W.looks_findIn I.kIn iC) (fun self => PySem.W.bind_fn I.kIn self tI) (by rw [sizeLine_eq]; exact Nat.zero_le _)
    (codeAny_mono (F1 _ X.stack _ _ [Value.ref (hp.objs.size + 1)] [V.ref (hp.objs.size + 1)] _ (fun _ _ _ => False) (hr.make C [] []) (I2.env0.make C [] []) r2 hq) fun r s' hq' => ?_))
  cases r with
  | error er => exact hx pins σ _ _ er s' I2 hq'
  | ok fl =>
    cases fl with
    | ret u =>
      obtain ⟨v, H2, os2, bare2, un2, hok2, rv, ev, d, fs, ea, ed, hd1, q2⟩ := hq'
      subst ev
      obtain ⟨h2, g2, d2, t2, os'⟩ := s'
      exact ⟨rv, mk_end (raises_own T.exC T.tyC) I hsz kk un2 hok2 os2 bare2 ea ed hd1 q2⟩
    | next => exact False.elim hq'
    | brk => exact False.elim hq'
    | cont => exact False.elim hq'
end
end L2
namespace Xh
open PySem PySem.Spec PyProof.Rows L2
/-- what RungError.__init__ promises: self an exception in the making, told a new tuple -/
def spRI (K : PySem.W.Frag) : Sp := fun vs H Q E => ∃ (a p C : Addr) (nm : Str), vs = [.ref a, .ref p] ∧ RC K C nm ∧ PySem.W.findIn K (.ref C) "word" = some none ∧ H a = some (exo a C none) ∧
  ∀ dx, H dx = none → dx ≠ a → Q .non (upd (upd H dx (exd dx [("word", .str nm)])) a (exo a C (some dx)))
/-- .. as it is called -/
def spRI1 (K : PySem.W.Frag) : Sp := fun vs H Q E => ∃ (a C : Addr) (nm : Str), vs = [.ref a] ∧ RC K C nm ∧ PySem.W.findIn K (.ref C) "word" = some none ∧ H a = some (exo a C none) ∧
  ∀ H1 dx, H dx = none → dx ≠ a → Same H H1 → H1 dx = none → Q .non (upd (upd H1 dx (exd dx [("word", .str nm)])) a (exo a C (some dx)))
section
variable {P : Program} {w : World} {K : PySem.W.Frag} {mg : Str → Option Value} {base : Heap}
theorem ok_rinit {st : Stmt} {f : Addr} {fd : FuncData} (F : FunD K "__init__" "RungError.__init__" (defArgs st) (defBody st) (defScope st) [] [] f fd) (S : FnScope (["self", "told"] : List Str) ["self", "told"] (defScope st))
    (hb : ∀ (kV doc pm : Value) (an : Option Addr) (cdv ct : Value) (us rest : List Value), us.length = ["self"].length → bindArgs (PySem.W.fnOf "__init__" "RungError.__init__" (defArgs st) (defBody st) (defScope st) .none kV doc pm an cdv ct) ⟨us ++ rest, []⟩ = (newTuple rest >>= fun t => pure ((["self"] : List Str).zip us ++ [(("told" : Str), t)])))
    (body : ∀ X : Cx, X.K = K → X.N = (["self", "told"] : List Str) → X.env.scope = defScope st → PSs X (defBody st) (tOst K "word" (tVar 0) (tClsNm K (tVar 0)))) : FnR P w K mg base (L2.CX P w) 1 f (spRI1 K) := by
  obtain ⟨oc, od, dV, kV, doc, pm, an, cdv, ct, osl, rfl, lk, hcd, hD, _⟩ := F.ex
  rcases hD with ⟨_, rfl⟩ | ⟨e, _⟩
  case inr => exact absurd rfl e
  have G := StX.fn_star (CX := L2.CX P w) (P := P) (w := w) (mg := mg) (base := base) (k := 0) (ps := ["self"]) (pv := "told") (N := ["self", "told"]) (sp := spRI K) lk hcd S StX.cxUp (hb kV doc pm an cdv ct) (fun A outer s H vs Q E hr h => ?_)
  · intro A outer s H us vs Q E hr e0 r h
    obtain ⟨a, C, nm, rfl, T, hw, ha, k⟩ := h
    refine G A outer s H us _ Q E hr e0 r ⟨[.ref a], [], rfl, rfl, by rw [sizeLine_eq]; exact Nat.zero_le _, fun p hp => ⟨a, p, C, nm, rfl, T, hw, by rw [upd_ne (ne_of_none ha hp)]; exact ha, fun dx hdx hne => ?_⟩⟩
    have hdp : dx ≠ p := fun z => by rw [z, upd_same] at hdx; cases hdx
    refine k _ dx (by rw [upd_ne hdp] at hdx; exact hdx) hne (fun b o e => by rw [upd_ne (ne_of_none e hp)]; exact e) hdx
  · obtain ⟨a, p, C, nm, rfl, T, hw, ha, k⟩ := h
    refine ⟨_, body _ rfl rfl rfl, ?_⟩
    refine ⟨_, rfl, a, C, nm, rfl, T, ha, _, rfl, a, C, rfl, T.o, hw, .inl ⟨ha, fun dx hdx hne => k dx hdx hne⟩⟩
/-- a class whose objects RungError.__init__ alone makes -/
structure RX (K : PySem.W.Frag) (mg : Str → Option Value) (C fI : Addr) (nm : Str) : Prop where
  c : RC K C nm
  w : PySem.W.findIn K (.ref C) "word" = some none
  i : PySem.W.findIn K (.ref C) "__init__" = some (some (.ref fI))
  t : PySem.W.typeIn K (.ref fI) = some (.type "function")
  g : mg nm = some (.ref C)
/-- raise C(): its word -/
def tMkR (C : Addr) (nm : Str) : L2.St → Hp → XK → Prop := fun _ H Q => ∀ (d : Addr) (H' : Hp), Same H H' → H' d = some (.xd [("word", .str nm)]) → H d = none → Q (.ref C) (some d) H'
theorem pmk_rung {X : Cx} {C fI : Addr} {nm : Str} {p pos : Pos} (T : RX X.K X.mg C fI nm) (F : FnR X.prog X.w X.K X.mg X.base (L2.CX X.prog X.w) 1 fI (spRI1 X.K)) (hr : Room 2 X.A) (hg : Gl X nm) (hdb : (nm == ("__debug__" : Str)) = false := by decide) :
    PMk X (.Call (.Name nm p) [] [] pos) (tMkR C nm) := by
  intro pins s σ H Q I h
  refine pmk_oex0 T.c.o T.i T.t F hr passL hg T.g hdb pins s σ H Q I fun a ha => ?_
  refine ⟨a, C, nm, rfl, T.c, T.w, upd_same, fun H1 dx hdx hne hs h1 => ⟨rfl, dx, _, upd_same, by rw [upd_ne hne, upd_same], by rw [upd_ne hne] at hdx; exact hdx, ?_⟩⟩
  have hdx' : H dx = none := by rw [upd_ne hne] at hdx; exact hdx
  refine h dx _ (fun b o e => ?_) upd_same hdx'
  have h2 : b ≠ a := ne_of_none e ha
  have h3 : b ≠ dx := ne_of_none e hdx'
  rw [upd_ne h3, del_ne h2, upd_ne h2, upd_ne h3]
  exact hs b o (by rw [upd_ne h2]; exact e)
end
end Xh
end
section
set_option Elab.async false
set_option linter.all false
set_option maxRecDepth 100000
set_option maxHeartbeats 2000000
/-! several except clauses, each with a class or a tuple of classes, with or without a name -/
namespace Xh
open PySem PySem.Spec PyProof.Rows L2
/-- what a clause's test tells: its classes -/
def TestE (X : Cx) (te : Expr) (cs : List Value) : Prop :=
  ∀ (a : Addr) (pn : List (Addr × Obj)) (s : Shared) (σ : L2.St) (H : Hp) (cls : Value) (b : Bool), Inv (X.suite a pn) [] σ H s → PySem.W.Looks (model X.prog X.w) s.heap (typeOf (.ref a)) cls → PySem.W.exmAny X.K cls cs = some b →
    ∀ (Q : Bool → Shared → Prop) (E : Value → Shared → Prop), (∀ (h' : Heap) (tk : Nat), (∀ c o, s.heap.get? c = some o → h'.get? c = some o) → Q b { s with heap := h', toks := tk }) →
      wpAny (model X.prog X.w) (X.A.mark (some (.ref a))) (eval te X.env) (fun c s₁ => wpAny (model X.prog X.w) (X.A.mark (some (.ref a))) (excMatches (.ref a) c) Q E s₁) E s
theorem testName {X : Cx} {x : Str} {c : Value} {np : Pos} (hc : Names X x c) : TestE X (.Name x np) [c] := by
  intro a pn s σ H cls b I LT hx Q E hq
  obtain ⟨b1, d1, h1, h2, h3⟩ := PySem.W.exmAny_cons hx
  have e2 : d1 = false := (Option.some.inj h2).symm
  subst e2
  rw [Bool.or_false] at h3
  subst h3
  have LM := PySem.W.exm_one (M := model X.prog X.w) I.kIn LT h1
  have q : Q b s := by
    obtain ⟨hp, g, d, tk, os⟩ := s
    exact hq hp tk fun _ _ e => e
  obtain ⟨hg, hdbg, hm | ⟨hm, hv, hnn⟩⟩ := hc
  · exact ld_glob (X := X.suite a pn) I hg hm (LM.here q) hdbg
  · exact ld_blt (X := X.suite a pn) I hg hm hv (LM.here q) hnn hdbg
theorem testTup2 {X : Cx} {x y : Str} {C D : Addr} {p1 p2 pos : Pos} {k} (hx : Gl X x) (hmx : X.mg x = some (.ref C)) (hy : Gl X y) (hmy : X.mg y = some (.ref D)) (hdx : (x == ("__debug__" : Str)) = false := by decide) (hdy : (y == ("__debug__" : Str)) = false := by decide) :
    TestE X (.Tuple [.Name x p1, .Name y p2] k pos) [.ref C, .ref D] := by
  intro a pn s σ H cls b I LT hb Q E hq
  obtain ⟨hp, g, d, tk, os⟩ := s
  refine wpAny_Tuple_spliced ?_
  show wpAny _ _ (spliced ((false, eval (.Name x p1) X.env) :: (false, eval (.Name y p2) X.env) :: [])) _ _ _
  refine Calls.spliced_cons (ld_glob (X := X.suite a pn) I hx hmx (Calls.spliced_cons (ld_glob (X := X.suite a pn) I hy hmy (Calls.spliced_nil ⟨by rw [sizeLine_eq]; exact (by decide : 2 ≤ 16777216), ?_⟩) hdy)) hdx)
  have kk : ∀ b o, hp.get? b = some o → (hp.push ({ cls := .type "tuple", data := .seq [Value.ref C, Value.ref D].toArray } : Obj)).get? b = some o := fun b o e => Heap.get?_push_of_some _ e
  have LM := PySem.W.exm_tup2 (M := model X.prog X.w) (K := X.K) (I.kIn.keeps kk) (LT.keeps kk) (Heap.get?_push_size _ rfl) hb
  exact LM.here (hq _ tk kk)
/-- a clause: its test, its name's slot (if any), its suite -/
abbrev Cl : Type := List Value × Option Nat × (Addr → Value → Option Addr → TS)
/-- the ends behind a suite: the clause's name is gone -/
def outOf (D : Ends) : Option Nat → Ends
  | none => D
  | some i => { nx := fun σ' H' => D.nx (σ'.set i none) H', rt := D.rt, bk := fun σ' H' => D.bk (σ'.set i none) H', ct := fun σ' H' => D.ct (σ'.set i none) H' }
def intoS (σ : L2.St) (a : Addr) : Option Nat → L2.St
  | none => σ
  | some i => σ.set i (some (.ref a))
/-- what the clauses wish of an exception of the body, one after the other -/
def wClauses (K : PySem.W.Frag) (Wout : WX) (D : Ends) : List Cl → WX
  | [] => Wout
  | (cs, n, ts) :: r => fun cls d σ H => ∃ b, PySem.W.exmAny K cls cs = some b ∧ (b = true → ∀ a, H a = none → ts a cls d (outOf D n) (intoS σ a n) H) ∧ (b = false → wClauses K Wout D r cls d σ H)
inductive ClsOk (X : Cx) : List ExceptHandler → List Cl → Prop
  | nil : ClsOk X [] []
  | cons {te : Expr} {cs : List Value} {ts : Addr → Value → Option Addr → TS} {b₀ : Stmt} {suite : List Stmt} {pos' : Pos} {hds : List ExceptHandler} {l : List Cl} (hc : TestE X te cs)
      (hsu : ∀ (a : Addr) (oe : Obj) (cls : Value) (d : Option Addr) (pn : List (Addr × Obj)), Zc cls d oe → (∃ vs, oe.data = .fields vs) → PSs (X.suite a ((a, oe) :: pn)) (b₀ :: suite) (ts a cls d)) (r : ClsOk X hds l) :
      ClsOk X (.ExceptHandler (some te) none (b₀ :: suite) pos' :: hds) ((cs, none, ts) :: l)
  | as {te : Expr} {cs : List Value} {ts : Addr → Value → Option Addr → TS} {b₀ : Stmt} {suite : List Stmt} {pos' : Pos} {hds : List ExceptHandler} {l : List Cl} {n : Str} {i : Nat} (hc : TestE X te cs) (hi : X.N[i]? = some n) (hln : X.env.kindOf n = some .local)
      (hsu : ∀ (a : Addr) (oe : Obj) (cls : Value) (d : Option Addr) (pn : List (Addr × Obj)), Zc cls d oe → (∃ vs, oe.data = .fields vs) → PSs (X.suite a ((a, oe) :: pn)) (b₀ :: suite) (ts a cls d)) (r : ClsOk X hds l) :
      ClsOk X (.ExceptHandler (some te) (some n) (b₀ :: suite) pos' :: hds) ((cs, some i, ts) :: l)
theorem flying_keeps {base h h' : Heap} {l : List Env} {e : Addr} {Z : Obj → Prop} (x : HandSPX.FlyingZ base l e Z h) (k : ∀ b o, h.get? b = some o → h'.get? b = some o) : HandSPX.FlyingZ base l e Z h' := by
  obtain ⟨f1, f2, f3, oe, vs, T, oT, ts, g1, g2, g3, g4, g5, g6, g7, g8, g9⟩ := x
  exact ⟨fun b o e => k b o (f1 b o e), f2, f3.of_keeps fun b o e _ => ⟨o, k b o e, rfl⟩, oe, vs, T, oT, ts, k _ _ g1, g2, g3, g4, g5, g6, k _ _ g7, g8, g9⟩
section
variable {X : Cx} {body : List Stmt} {h₀ : ExceptHandler} {hds : List ExceptHandler} {l : List Cl} {pos : Pos} {tb : WX → TS} {Wout : WX}
theorem ps_try_cls (hs : X.stack = X.env :: X.outer) (hf : X.env.frame = some X.env.locals) (hN : X.N.Nodup) (tk : Takes X Wout)
    (hb : ∀ (W : WX) (pn : List (Addr × Obj)) (xe : Value → Shared → Prop), Takes (X.tr pn xe) W → PassesOwn (model X.prog X.w) X.A X.env xe → PSs (X.tr pn xe) body (tb W))
    (hh : ClsOk X (h₀ :: hds) l) : PS X (.Try body (h₀ :: hds) [] [] pos) (fun D σ H => tb (wClauses X.K Wout D l) D σ H) := by
  refine ⟨fun pins s σ H D I h => ?_⟩
  have ok := I.ok
  have hfr : X.A.frames = some (X.env :: X.outer) := by rw [ok.frames, hs]
  refine wpAny_Try_except ?_
  refine wpAny_mono ((hb (wClauses X.K Wout D l) (X.pn ++ pins) (fun e s₁ => wpAny (model X.prog X.w) X.A (noteFrame e X.env) (fun _ s₂ => wpAny (model X.prog X.w) X.A (setFlight e none) (fun _ s₃ =>
    wpAny (model X.prog X.w) X.A (handleBy e X.env (h₀ :: hds)) (SP X pins D) X.xe s₃) X.xe s₂) X.xe s₁) (fun u s' xx => ?_) PassesOwn.looking).run [] s σ H D (I.toTry _) h) (fun f s1 hsp => ?_) (fun e s1 he => he)
  · -- the catch
    obtain ⟨a, B, sI, pins', σ', H', cls, d, rfl, J', nb, up, sky, na, os, ag, w⟩ := xx
    have J : Inv X pins σ' H' sI := J'.ofTry ok
    have sky' : Sky B (X.env :: X.outer) a (Zc cls d) X.env.locals s'.heap := by rw [← hs]; exact sky
    show wpAny (model X.prog X.w) X.A (noteFrame (.ref a) X.env) _ _ _
    refine Sky.land Zc.steady hfr hf sky' fun h3 fl3 up3 => ?_
    have notFr : ∀ {h : Heap} {o : Obj} {vs : Array Value}, h.FunFrames B (X.env :: X.outer) → h.get? a = some o → o.data = .fields vs → a ∉ frs (X.env :: X.outer) := fun {h o vs} ff e dd hm => by
      obtain ⟨_, o', e', hnf⟩ := ff.mem hm
      rw [e] at e'; cases e'
      exact hnf _ dd
    have go : ∀ {hds' : List ExceptHandler} {l' : List Cl}, ClsOk X hds' l' → ∀ (h3 : Heap) (t3 : Nat), HandSPX.FlyingZ B (X.env :: X.outer) a (Zc cls d) h3 → sI.heap.UpToSlots h3 → wClauses X.K Wout D l' cls d σ' H' →
        wpAny (model X.prog X.w) X.A (handleBy (.ref a) X.env hds') (SP X pins D) X.xe { s' with heap := h3, toks := t3 } := by
      intro hds' l' hk
      induction hk with
      | nil =>
        intro h3 t3 fl3 up3 w
        refine wpAny_handleBy_nil ?_
        obtain ⟨k1, k2, k3, oe, vs, T, oT, ts', he, hz, hd, h1, hr⟩ := id fl3
        unfold PySem.passOn
        refine wpAny_bind (wpAny_field he hd h1 ?_)
        rw [if_neg (show ¬ ((Value.ref T == Value.none) = true) from by simp)]
        have fin : wpAny (model X.prog X.w) X.A (setFlight (.ref a) X.env.frame) (fun _ s4 => wpAny (model X.prog X.w) X.A (throw (.ref a) : Sem Flow) (SP X pins D) X.xe s4) X.xe { s' with heap := h3, toks := t3 } := by
          rw [hf]
          refine HandSPX.setFlight_upZ fl3 fun h4 hh4 up4 => wpAny_throw (tk _ _ ?_)
          exact ⟨a, B, sI, pins, σ', H', cls, d, rfl, J, nb, up3.trans up4, .inr (.inr (by rw [hs]; exact hh4)), na, os, ag, w⟩
        first
          | exact wpAny_bind (wpAny_pure (wpAny_bind fin))
          | exact wpAny_bind fin
      | @cons te cs ts b₀ suite pos' hds2 l2 hc hsu r ih =>
        intro h3 t3 fl3 up3 w
        obtain ⟨b, hb1, hyes, hno⟩ := w
        have J3 : Inv X pins σ' H' { s' with heap := h3, toks := t3 } := J.landed nb fl3.1 up3 os ag
        obtain ⟨oe3, vs3, he3, hz3, hd3⟩ := fl3.there
        have nfr := notFr fl3.2.2.1 he3 hd3
        have nL : a ≠ X.env.locals := fun z => nfr (List.mem_filterMap.mpr ⟨X.env, List.mem_cons_self, by rw [hf, z]⟩)
        have nF : a ∉ X.fs := fun hm => by
          obtain ⟨e, he, q⟩ := List.mem_filterMap.mp hm
          exact nfr (List.mem_filterMap.mpr ⟨e, List.mem_cons_of_mem _ he, q⟩)
        have S3 := J3.suite he3 hd3 na nL nF
        refine wpAny_handleBy_cons (codeAny_handlers_test ?_) (by intro q; cases q)
        have LT : PySem.W.Looks (model X.prog X.w) h3 (typeOf (.ref a)) cls := fun A Q E s k q => wpAny_typeOf_ref (k _ _ he3) (by rw [hz3.1]; exact q)
        refine hc a _ _ _ _ cls b S3 LT hb1 _ _ fun h5 t5 k5 => ?_
        have fl5 := flying_keeps fl3 k5
        have up5 : sI.heap.UpToSlots h5 := up3.trans (Heap.UpToSlots.of_keeps k5)
        cases b with
        | true =>
          refine codeAny_handlers_suite ?_
          refine HandSPX.lands_againZ fl5 fun h4 fl4 up4 => ?_
          have J4 : Inv X pins σ' H' { s' with heap := h4, toks := t5 } := J.landed nb fl4.1 (up5.trans up4) os ag
          obtain ⟨oe4, vs4, he4, hz4, hd4⟩ := fl4.there
          have S4 := J4.suite he4 hd4 na nL nF
          refine wpAny_mono ((hsu a oe4 cls d (X.pn ++ pins) hz4 ⟨_, hd4⟩).run [] _ _ H' _ S4 (hyes rfl a na)) (fun f s6 hsp => ?_) (fun _ _ z => False.elim z)
          cases f with
          | next =>
            obtain ⟨σ6, H6, S6, q6⟩ := hsp
            exact ⟨_, _, S6.unsuite ok, q6⟩
          | brk =>
            obtain ⟨σ6, H6, S6, q6⟩ := hsp
            exact ⟨_, _, S6.unsuite ok, q6⟩
          | cont =>
            obtain ⟨σ6, H6, S6, q6⟩ := hsp
            exact ⟨_, _, S6.unsuite ok, q6⟩
          | ret u =>
            obtain ⟨v6, σ6, H6, S6, r6, q6⟩ := hsp
            exact ⟨_, _, _, S6.unsuite ok, r6, q6⟩
        | false =>
          show wpAny _ X.A (handleBy (.ref a) X.env hds2) _ _ _
          exact ih h5 t5 fl5 up5 (hno rfl)
      | @as te cs ts b₀ suite pos' hds2 l2 n i hc hi hln hsu r ih =>
        intro h3 t3 fl3 up3 w
        obtain ⟨b, hb1, hyes, hno⟩ := w
        have J3 : Inv X pins σ' H' { s' with heap := h3, toks := t3 } := J.landed nb fl3.1 up3 os ag
        obtain ⟨oe3, vs3, he3, hz3, hd3⟩ := fl3.there
        have nfr := notFr fl3.2.2.1 he3 hd3
        have nL : a ≠ X.env.locals := fun z => nfr (List.mem_filterMap.mpr ⟨X.env, List.mem_cons_self, by rw [hf, z]⟩)
        have nF : a ∉ X.fs := fun hm => by
          obtain ⟨e, he, q⟩ := List.mem_filterMap.mp hm
          exact nfr (List.mem_filterMap.mpr ⟨e, List.mem_cons_of_mem _ he, q⟩)
        have S3 := J3.suite he3 hd3 na nL nF
        refine wpAny_handleBy_cons (codeAny_handlers_test ?_) (by intro q; cases q)
        have LT : PySem.W.Looks (model X.prog X.w) h3 (typeOf (.ref a)) cls := fun A Q E s k q => wpAny_typeOf_ref (k _ _ he3) (by rw [hz3.1]; exact q)
        refine hc a _ _ _ _ cls b S3 LT hb1 _ _ fun h5 t5 k5 => ?_
        have fl5 := flying_keeps fl3 k5
        have up5 : sI.heap.UpToSlots h5 := up3.trans (Heap.UpToSlots.of_keeps k5)
        cases b with
        | true =>
          refine codeAny_handlers_suite_as ?_
          refine HandSPX.lands_againZ fl5 fun h4 fl4 up4 => ?_
          have J4 : Inv X pins σ' H' { s' with heap := h4, toks := t5 } := J.landed nb fl4.1 (up5.trans up4) os ag
          obtain ⟨oe4, vs4, he4, hz4, hd4⟩ := fl4.there
          have S4 := J4.suite he4 hd4 na nL nF
          refine store_ok (X := X.suite a ((a, oe4) :: (X.pn ++ pins))) (v := .ref a) S4 hN hi (.inl hln) rfl (fun s5 S5 => ?_) (.inr hln)
          refine wpAny_mono ((hsu a oe4 cls d (X.pn ++ pins) hz4 ⟨_, hd4⟩).run [] s5 _ H' _ S5 (hyes rfl a na)) (fun f s6 hsp => ?_) (fun _ _ z => False.elim z)
          have end_ : ∀ {σ6 : L2.St} {H6 : Hp} {Q : Shared → Prop}, Inv (X.suite a ((a, oe4) :: (X.pn ++ pins))) [] σ6 H6 s6 → (∀ s7, Inv X pins (σ6.set i none) H6 s7 → Q s7) →
              wpAny (model X.prog X.w) X.A (do bindName X.env n .none; unbindBehindTheSuite X.env n pos') (fun _ s7 => Q s7) X.xe s6 := fun {σ6 H6 Q} S6 hq => gone_ok (S6.unsuite ok) hN hi hln hq
          cases f with
          | next =>
            obtain ⟨σ6, H6, S6, q6⟩ := hsp
            exact end_ S6 fun s7 J7 => ⟨_, _, J7, q6⟩
          | brk =>
            obtain ⟨σ6, H6, S6, q6⟩ := hsp
            exact end_ S6 fun s7 J7 => ⟨_, _, J7, q6⟩
          | cont =>
            obtain ⟨σ6, H6, S6, q6⟩ := hsp
            exact end_ S6 fun s7 J7 => ⟨_, _, J7, q6⟩
          | ret u =>
            obtain ⟨v6, σ6, H6, S6, r6, q6⟩ := hsp
            exact end_ S6 fun s7 J7 => ⟨_, _, _, J7, r6, q6⟩
        | false =>
          show wpAny _ X.A (handleBy (.ref a) X.env hds2) _ _ _
          exact ih h5 t5 fl5 up5 (hno rfl)
    exact go hh h3 s'.toks fl3 (up.trans up3) w
  · cases f with
    | next =>
      obtain ⟨σ', H', J', q⟩ := hsp
      exact wpAny_execs_nil ⟨σ', H', J'.ofTry ok, q⟩
    | brk =>
      obtain ⟨σ', H', J', q⟩ := hsp
      exact ⟨σ', H', J'.ofTry ok, q⟩
    | cont =>
      obtain ⟨σ', H', J', q⟩ := hsp
      exact ⟨σ', H', J'.ofTry ok, q⟩
    | ret u =>
      obtain ⟨v, σ', H', J', r, q⟩ := hsp
      exact ⟨v, σ', H', J'.ofTry ok, r, q⟩
end
end Xh
end
section
set_option Elab.async false
set_option linter.all false
set_option maxRecDepth 100000
set_option maxHeartbeats 2000000
/-! a lambda handed on from def to def -/
namespace Xh
open PySem PySem.Spec PyProof.Rows L2 LamX
section
variable {X : Cx} {pins : List (Addr × Obj)} {σ : L2.St} {H HZ : Hp} {s s1 : Shared}
theorem lam_startG {fs : List Addr} {A : Around} {outer : List Env} {E : XK} {scope : Scope} {f c' : Addr} {h₁ : Heap} {tk : Nat} (I : Inv X pins σ H s) (L : LamS X.env.scope scope) (e0 : Env0 X.prog X.w X.K X.mg X.base A outer s1 HZ) (hd : A.handled = none)
    (un : Un fs [] H HZ s.heap s1.heap) (hns : h₁.Ns s1.heap.objs.size fun y => ([] : List (Str × Value)).reverse.lookup y) (kp : ∀ b o, s1.heap.get? b = some o → h₁.get? b = some o) :
    Inv (lamCx X A outer s1 HZ E scope f c') [] σ HZ { s1 with heap := h₁, toks := tk } := by
  have hfree := L.has I.ok
  have cm : ∀ {y c}, (cloFrom X.env.cells scope.names []).lookup y = some c → X.env.cells.lookup y = some c := fun {y c} e => by
    rcases cloFrom_mem (PySem.mem_of_lookup e) with hm | ⟨h1, h2⟩
    · cases hm
    · obtain ⟨c1, hc⟩ := hfree _ h1 rfl
      have hc : X.env.cells.lookup y = some c1 := hc
      have e2 : c = c1 := by
        rw [h2, hc] <;> rfl
      rw [e2]
      exact hc
  have look : ∀ {y}, scope.names.lookup y = some .free → ∃ c, (cloFrom X.env.cells scope.names []).lookup y = some c := fun {y} hl => by
    have hy : (y, NameKind.free) ∈ scope.names := PySem.mem_of_lookup hl
    exact mem_lookup (cloFrom_has (cells := X.env.cells) (acc := []) hy)
  have cellK : ∀ {c : Addr} {v : Option Value}, H c = none → s.heap.IsCell c v → h₁.IsCell c v := fun {c v} n ⟨o, ho, hd⟩ => by
    obtain ⟨sl, q⟩ := un.any ho n (by simp)
    exact ⟨_, kp _ _ q, hd⟩
  have noA : ∀ b : Addr, b ∉ (lamCx X A outer s1 HZ E scope f c').ex := fun b z => absurd (show b ∈ ([] : List Addr) from z) (by simp)
  refine ⟨⟨e0.mod, L.kind, rfl, rfl, Nat.le_refl _, fun y z c e1 e2 => I.ok.inj y z c (cm e1) (cm e2), fun y hy => ?_, fun y c z _ => ?_, fun _ => hd, Around.frames_deeper e0.frames, .inr ⟨rfl, rfl⟩, fun b z => absurd z (noA b), e0.bs, e0.bsz, fun b _ _ => noA b,
      fun b z => absurd z (noA b), e0.funs, e0.frf⟩,
    rfl, e0.bare, Un.kept kp, ⟨_, hns, fun i y v e1 e2 e3 => ?_⟩, fun y c e => ?_, e0.hok.fresh (Nat.le_refl _), fun y c e => ?_, fun q hq => absurd (show q ∈ ([] : List (Addr × Obj)) ++ [] from hq) (by simp), e0.hok.kept kp, I.len⟩
  · have hy : scope.names.lookup y = some .cell ∨ scope.names.lookup y = some .free := hy
    rcases hy with hy | hy
    · exact absurd rfl (L.own _ (PySem.mem_of_lookup hy)).2
    · exact look hy
  · have z : false = true := z
    cases z
  · have e3 : Vis scope y := e3
    rcases e3 with k | k | k
    · exact absurd rfl (L.own _ (PySem.mem_of_lookup k)).1
    · exact absurd rfl (L.own _ (PySem.mem_of_lookup k)).2
    · obtain ⟨m, hn, hl⟩ := I.loc
      have hvis : Vis X.env.scope y := (L.free _ (PySem.mem_of_lookup k) rfl).elim (fun k => .inr (.inl k)) (fun k => .inr (.inr k))
      obtain ⟨w', r, q⟩ := hl i y v e1 e2 hvis
      obtain ⟨c2, h2⟩ := look k
      refine ⟨w', r, .inr ⟨.inr k, c2, h2, ?_⟩⟩
      have c1 := cm h2
      rcases q with ⟨k', _⟩ | ⟨_, c3, e', z⟩
      · have k' : X.env.scope.names.lookup y = some .local := k'
        rcases L.free _ (PySem.mem_of_lookup k) rfl with k2 | k2 <;> rw [show X.env.scope.names.lookup y = _ from k2] at k' <;> cases k'
      · rw [c1] at e'
        cases e'
        exact cellK (I.freeC y _ c1) z
  · obtain ⟨w', z⟩ := I.cell y c (cm e)
    exact ⟨w', cellK (I.freeC y c (cm e)) z⟩
  · obtain ⟨v, o, ho, hd⟩ := I.cell y c (cm e)
    exact un.free c o ho (I.freeC y c (cm e)) (by simp)
end
/-- the thing at f can be called, without arguments, from whatever runs behind the state s (abstract heap H): tl tells its reading, q its code's name -/
def CanAct (P : Program) (w : World) (K : PySem.W.Frag) (mg : Str → Option Value) (base : Heap) (k : Nat) (q : Str) (f c' : Addr) (tl : XK → Hp → VK → Prop) (s : Shared) (H : Hp) : Prop :=
  ∀ (fs : List Addr) (CXg : CXT) (Ng : List Str) (qg : Str) (sg : Scope) (g : Addr) (cdg : Value) (A : Around) (outer : List Env) (sZ : Shared) (HZ0 : Hp) (Eg : XK), Un fs [] H HZ0 s.heap sZ.heap → f ∉ fs → (∀ b ∈ frs outer, b ∈ fs) → Room (k + 1) (A.deeper (envOfC qg sg sZ.heap.objs.size g cdg)) →
    ∀ (i : Nat) (a : Str) (W : WX) (pn : List (Addr × Obj)) (xe : Value → Shared → Prop) (E : XK) (p1 p2 : Pos), Ng[i]? = some a → Vis sg a → (a == ("__debug__" : Str)) = false → (a == ("__classdict__" : Str)) = false →
      Takes ((cxOf CXg P w K mg base Ng qg sg g cdg A outer sZ HZ0 Eg).tr pn xe) W → (∀ cls d σ' H', E cls d H' → W cls d σ' H') →
      PE ((cxOf CXg P w K mg base Ng qg sg g cdg A outer sZ HZ0 Eg).tr pn xe) (.Call (.Name a p1) [] [] p2) (fun σZ HZ Q => σZ[i]? = some (some (.ref f)) ∧ HZ c' = some (CodeO c' q) ∧ tl E HZ Q)
theorem CanAct.later {P : Program} {w : World} {K : PySem.W.Frag} {mg : Str → Option Value} {base : Heap} {k : Nat} {q : Str} {f c' : Addr} {tl : XK → Hp → VK → Prop} {s s1 : Shared} {H H1 : Hp} {fs0 : List Addr} (c : CanAct P w K mg base k q f c' tl s H) (un : Un fs0 [] H H1 s.heap s1.heap) (hf : f ∉ fs0) :
    CanAct P w K mg base k q f c' tl s1 H1 := fun fs CXg Ng qg sg g cdg A outer sZ HZ0 Eg un1 hf1 ho hr i a W pn xe E p1 p2 => by
  refine c (fs0 ++ fs) CXg Ng qg sg g cdg A outer sZ HZ0 Eg ((un.mono (fun b hb => List.mem_append_left _ hb) (fun _ z => z)).trans (un1.mono (fun b hb => List.mem_append_right _ hb) (fun _ z => z))) (fun z => ?_) (fun b hb => List.mem_append_right _ (ho b hb)) hr i a W pn xe E p1 p2
  rcases List.mem_append.mp z with z | z
  · exact hf z
  · exact hf1 z
section
variable {X : Cx} {pins : List (Addr × Obj)} {σ : L2.St} {H : Hp} {s : Shared}
/-- a lambda just made can be called -/
theorem canAct_of {f c' : Addr} {pm ctv : Value} {params : Arguments} {body : Expr} {scope : Scope} {k : Nat} {tb : XK → TE}
    (I : Inv X pins σ H s) (L : LamS X.env.scope scope) (hf : s.heap.get? f = some (PySem.W.kla_obj "<lambda>" (X.env.qual ++ "<lambda>") params body scope (cloFrom X.env.cells scope.names []) pm c' ctv)) (hfn : H f = none)
    (hbind : bindArgs (PySem.W.kla_fn "<lambda>" (X.env.qual ++ "<lambda>") params body scope (cloFrom X.env.cells scope.names []) pm (.ref c') ctv) ⟨[], []⟩ = pure [])
    (hbody : ∀ (A : Around) (outer : List Env) (s : Shared) (H : Hp) (E : XK), Room k (A.deeper (lamEnv X scope s.heap.objs.size f c')) → PE (lamCx X A outer s H E scope f c') body (tb E)) :
    CanAct X.prog X.w X.K X.mg X.base k (X.env.qual ++ "<lambda>") f c' (fun E H' Q => tb E σ H' Q) s H := by
  intro fs CXg Ng qg sg g cdg A outer sZ HZ0 Eg un0 hff ho hr i a W pn xe E p1 p2 hN hv hd hcd tk hW
  refine ⟨fun pinsZ s0 σZ HZ Q IZ h => ?_⟩
  obtain ⟨hs, hc, ht⟩ := h
  refine wpAny_Call_Name_kw (thn ((pe_var (pos := p1) (i := i) hN hv hd hcd).run pinsZ s0 σZ HZ (fun v H1 => v = .ref f ∧ H1 = HZ) IZ ⟨.ref f, hs, rfl, rfl⟩) fun u s1 ⟨v, H1, I1, r1, q1⟩ => ?_)
  obtain ⟨ev, eH⟩ := q1
  subst ev
  rw [eH] at I1
  obtain rfl : u = Value.ref f := r1
  have un : Un fs [] H HZ s.heap s1.heap := un0.trans (I1.base.mono ho fun _ z => z)
  have of1 : s1.heap.get? f = some (PySem.W.kla_obj "<lambda>" (X.env.qual ++ "<lambda>") params body scope (cloFrom X.env.cells scope.names []) pm c' ctv) := un.keep f _ hf hfn hff (fun z => nomatch (show f ∈ ([] : List Addr) from z))
  refine PySem.W.callWith_F0 ⟨_, _, _, _, of1⟩ ?_
  obtain ⟨⟨oc, vs, t, hoc, hdc, hvc⟩, _, _⟩ := I1.hok c' _ hc
  have rc : codeAny (model X.prog X.w) (A.deeper (envOfC qg sg sZ.heap.objs.size g cdg)) (.call (.ref f) ⟨[], []⟩) (CR (L2.CX X.prog X.w) (envOfC qg sg sZ.heap.objs.size g cdg :: outer) X.prog X.w HZ s1 Q E) s1 := by
    refine PySem.W.kla_callFunE hr.depth of1 rfl L.co L.gen rfl ⟨c', oc, vs, t, rfl, hoc, hdc, hvc⟩ ?_
    rw [hbind]
    refine wpAny_pure (wpAny_newFunctionEnv (fun y hy => (L.own y hy).2) (fun y hy => absurd hy (by simp)) (fun h₁ hns hsb => ⟨I1.nolimit.fresh _ hsb, ?_⟩) L.kind)
    show codeAny _ _ (.expr body (lamEnv X scope s1.heap.objs.size f c')) _ _
    have kp : ∀ b o, s1.heap.get? b = some o → h₁.get? b = some o := fun b o e => hsb.extBut b o (Nat.ne_of_lt (Heap.lt_size e)) (Heap.get?_push_of_some _ e)
    have J : Inv (lamCx X (A.deeper (envOfC qg sg sZ.heap.objs.size g cdg)) (envOfC qg sg sZ.heap.objs.size g cdg :: outer) s1 HZ E scope f c') [] σ HZ { s1 with heap := h₁, toks := s1.toks + ([] : List (Str × Value)).length } :=
      lam_startG I L I1.env0 hr.hd un hns kp
    refine PySem.W.kla_codeExpr (wpAny_mono ((hbody _ _ s1 HZ E (hr.deeper _)).run [] _ _ HZ Q J ht) (fun v s' hq => ?_) fun e s' hq => hq)
    obtain ⟨w', H', J', rv, q⟩ := hq
    exact ⟨w', H', J'.os, J'.bare, J'.base, J'.hok, rv, q⟩
  have hx : Passes (L2.CX X.prog X.w) ((cxOf CXg X.prog X.w X.K X.mg X.base Ng qg sg g cdg A outer sZ HZ0 Eg).tr pn xe) E := passes_call tk hW
  refine wpAny_call (codeAny_mono rc fun r s' hq => ?_)
  cases r with
  | error e => exact hx pinsZ σZ HZ s1 e s' I1 hq
  | ok fl =>
    cases fl with
    | ret u => exact I1.after hq
    | next => exact False.elim hq
    | brk => exact False.elim hq
    | cont => exact False.elim hq
end
/-- a def of one parameter (Ng: its names, the parameter first) that gets something to call: TT its promise; what the callee raises is caught within -/
structure Gives (P : Program) (w : World) (K : PySem.W.Frag) (mg : Str → Option Value) (base : Heap) (k kl : Nat) (x : Str) (g : Addr) (TT : (XK → Hp → VK → Prop) → Hp → VK → Prop) : Prop where
  m : mg x = some (.ref g)
  kp : PySem.W.keepIn K (.ref g) = true
  run : ∀ (q : Str) (A : Around) (outer : List Env) (f c' : Addr) (s : Shared) (H : Hp) (Q : VK) (tl : XK → Hp → VK → Prop), Room k A → Env0 P w K mg base A outer s H → CanAct P w K mg base kl q f c' tl s H → f ∉ frs outer → f < s.heap.objs.size → H c' = some (CodeO c' q) → TT tl H Q →
    codeAny (model P w) A (.call (.ref g) ⟨[.ref f], []⟩) (CR CX0 outer P w H s Q E0) s
theorem gives_of {P : Program} {w : World} {K : PySem.W.Frag} {mg : Str → Option Value} {base : Heap} {k kl : Nat} {x a : Str} {g : Addr} {fd : FuncData} {pg : Arguments} {bg : List Stmt} {sg : Scope} {Ng : List Str} {TT : (XK → Hp → VK → Prop) → Hp → VK → Prop}
    (F : FunD K x x pg bg sg [] [] g fd) (hm : mg x = some (.ref g)) (Sg : FnScope Ng [a] sg)
    (hb : ∀ (kV doc pm : Value) (an : Option Addr) (cdv ct : Value) (us : List Value), us.length = [a].length → bindArgs (PySem.W.fnOf x x pg bg sg .none kV doc pm an cdv ct) ⟨us, []⟩ = pure ([a].zip us))
    (hG : ∀ (q : Str) (cdg : Value) (A : Around) (outer : List Env) (f c' : Addr) (s : Shared) (H : Hp) (Q : VK) (tl : XK → Hp → VK → Prop), Room k (A.deeper (envOfC x sg s.heap.objs.size g cdg)) → CanAct P w K mg base kl q f c' tl s H → f ∉ frs outer → f < s.heap.objs.size → H c' = some (CodeO c' q) → TT tl H Q →
      ∃ t, PSs (cxOf CX0 P w K mg base Ng x sg g cdg A outer s H E0).nox bg t ∧ t { nx := fun _ H' => Q .non H', rt := Q } (L2.start Ng [.ref f]) H) : Gives P w K mg base (k + 1) kl x g TT := by
  have b := FunD.bindsN F hb
  refine ⟨hm, F.kp, fun q A outer f c' s H Q tl hr e0 act hfo hfs hc hT => ?_⟩
  obtain ⟨oc, od, dV, kV, doc, pm, an, cdv, ct, osl, rfl, lk, hcd, _, _⟩ := F.ex
  refine run_ofS (N := Ng) (ps := [a]) (us := [.ref f]) (vs := [.ref f]) lk hcd Sg hr e0 (b s [.ref f] (e0.mod.kin.keeps fun c o e => (e0.bs c o e).1) rfl) (.cons rfl .nil) rfl fun hr' => ?_
  obtain ⟨t, h1, h2⟩ := hG q cdv A outer f c' s H Q tl hr' act hfo hfs hc hT
  exact ⟨t, h1.nox, h2⟩
section
variable {X : Cx}
/-- x(lambda: body) -/
theorem pe_lam {T : List (Addr × Str)} {TT : (XK → Hp → VK → Prop) → Hp → VK → Prop} {x : Str} {g c P : Addr} {k kl : Nat}
    {params : Arguments} {body : Expr} {scope : Scope} {t : XK → TE} {p lpos pos : Pos} (G : Gives X.prog X.w X.K X.mg X.base k kl x g TT) (hg : Gl X x)
    (TB : TabB X.base X.mg c P) (hcode : X.env.code = .ref c) (hmT : (P, X.env.qual ++ "<lambda>") ∈ T) (hu : ∀ p ∈ T, p.1 = P → p.2 = X.env.qual ++ "<lambda>") (hr : Room k X.A) (L : LamS X.env.scope scope) (hdef : defaultsOf params X.env = ([], []))
    (hbind : ∀ (q : Str) (cl : List (Str × Addr)) (pm cv ctv : Value), bindArgs (PySem.W.kla_fn "<lambda>" q params body scope cl pm cv ctv) ⟨[], []⟩ = pure [])
    (hbody : ∀ (A : Around) (outer : List Env) (s : Shared) (H : Hp) (E : XK) (f c' : Addr), Room kl (A.deeper (lamEnv X scope s.heap.objs.size f c')) → PE (lamCx X A outer s H E scope f c') body (t E))
    (hdb : (x == ("__debug__" : Str)) = false := by decide) :
    PE X (.Call (.Name x p) [.Lambda params body scope lpos] [] pos) (tLam T TT t) := by
  refine ⟨fun pins s σ H Q I h => ?_⟩
  obtain ⟨hT, h⟩ := h
  refine wpAny_Call_Name_kw (ld_glob I hg G.m ?_ hdb)
  refine PySem.W.callWith_K (h₀ := X.base) I.ok.mod.kin G.kp ?_ (by rfl) (by rfl)
  show wpAny _ _ (spliced ((false, eval (.Lambda params body scope lpos) X.env) :: backTo pos (starEach [] X.env))) _ _ s
  refine Calls.spliced_cons (lam_make2 I TB hcode hmT hu hT hdef (L.has I.ok) fun f c' pm' ctv H1 s' I1 eN T1 hf hfn hfr hco => ?_)
  refine Calls.spliced_nil ⟨I1.kIn, ?_⟩
  have act := canAct_of (tb := t) I1 L hf hfn (hbind _ _ _ _ _) (fun A outer s H E hr2 => hbody A outer s H E f c' hr2)
  have rc := G.run _ X.A X.stack f c' s' H1 Q _ hr I1.env0 act hfr (Heap.lt_size hf) hco (h H1 eN T1)
  refine wpAny_call (codeAny_mono rc fun r s2 hq => ?_)
  cases r with
  | error e => exact (show False from hq).elim
  | ok fl =>
    cases fl with
    | ret u => exact I1.after hq
    | next => exact False.elim hq
    | brk => exact False.elim hq
    | cont => exact False.elim hq
end
/-- y(a) in a def that got something to call, y such a def too -/
theorem pe_passOn {P : Program} {w : World} {K : PySem.W.Frag} {mg : Str → Option Value} {base : Heap} {k kl : Nat} {q a y x : Str} {f c' gy g : Addr} {tl : XK → Hp → VK → Prop} {TT : (XK → Hp → VK → Prop) → Hp → VK → Prop} {s : Shared} {H : Hp} {A : Around} {outer : List Env} {Ng : List Str} {sg : Scope} {cdg : Value} {p1 p2 pos : Pos} {i : Nat}
    (G : Gives P w K mg base k kl y gy TT) (act : CanAct P w K mg base kl q f c' tl s H) (hfo : f ∉ frs outer) (hfs : f < s.heap.objs.size) (hr : Room k (A.deeper (envOfC x sg s.heap.objs.size g cdg)))
    (hgy : sg.names.lookup y = some .globalImplicit) (hN : Ng[i]? = some a) (hv : Vis sg a) (hdy : (y == ("__debug__" : Str)) = false := by decide) (hd : (a == ("__debug__" : Str)) = false := by decide) (hcd : (a == ("__classdict__" : Str)) = false := by decide) :
    PE (cxOf CX0 P w K mg base Ng x sg g cdg A outer s H E0).nox (.Call (.Name y p1) [.Name a p2] [] pos) (fun σZ HZ Q => σZ[i]? = some (some (.ref f)) ∧ HZ c' = some (CodeO c' q) ∧ TT tl HZ Q) := by
  refine ⟨fun pins s1 σZ HZ Q I h => ?_⟩
  obtain ⟨hs, hc, hT⟩ := h
  refine wpAny_Call_Name_kw (ld_glob (X := (cxOf CX0 P w K mg base Ng x sg g cdg A outer s H E0).nox) I hgy G.m ?_ hdy)
  refine PySem.W.callWith_K (h₀ := base) I.ok.mod.kin G.kp (thn ((pa_cons (X := (cxOf CX0 P w K mg base Ng x sg g cdg A outer s H E0).nox) (pe_var (pos := p2) (i := i) hN hv hd hcd) pa_nil).run pos pins s1 σZ HZ (fun vs H1 => vs = [.ref f] ∧ H1 = HZ) I ⟨.ref f, hs, rfl, rfl⟩) fun us s2 ⟨vs, H2, I2, r, q2⟩ => ⟨I2.kIn, ?_⟩) (by rfl) (by rfl)
  obtain ⟨ev, eH⟩ := q2
  subst ev
  rw [eH] at I2
  have eu : us = [Value.ref f] := by
    cases r with
    | cons r0 rr =>
      cases rr
      obtain rfl := (show _ = Value.ref f from r0)
      rfl
  subst eu
  have un : Un (frs outer) [] H HZ s.heap s2.heap := I2.base
  have lt2 : s.heap.objs.size ≤ s2.heap.objs.size := I2.sz
  have nfr : f ∉ frs (envOfC x sg s.heap.objs.size g cdg :: outer) := fun z => by
    unfold frs at z
    rw [List.filterMap_cons] at z
    have z' : f ∈ s.heap.objs.size :: frs outer := z
    rcases List.mem_cons.mp z' with e | e
    · exact absurd hfs (by rw [e]; exact Nat.lt_irrefl _)
    · exact hfo e
  have rc := G.run q (A.deeper (envOfC x sg s.heap.objs.size g cdg)) (envOfC x sg s.heap.objs.size g cdg :: outer) f c' s2 HZ Q tl hr I2.env0 (act.later un hfo) nfr (Nat.lt_of_lt_of_le hfs lt2) hc hT
  refine wpAny_call (codeAny_mono rc fun r s3 hq => ?_)
  cases r with
  | error e => exact (show False from hq).elim
  | ok fl =>
    cases fl with
    | ret u => exact I2.after hq
    | next => exact False.elim hq
    | brk => exact False.elim hq
    | cont => exact False.elim hq
end Xh
end
section
set_option Elab.async false
set_option linter.all false
set_option maxRecDepth 100000
set_option maxHeartbeats 2000000
namespace Xh
open PySem PySem.Spec PyProof.Rows L2
/-- a def of the module, called by its name: its promise, its defaults -/
structure Own (P : Program) (w : World) (K : PySem.W.Frag) (mg : Str → Option Value) (base : Heap) (CX : CXT) (k : Nat) (x : Str) (ps : List Str) (dvs : List V) (sp : Sp) : Prop where
  ex : ∃ (f : Addr) (fd : FuncData) (ds : List Value), FnOk P w K mg base CX k f fd ps sp ∧ mg x = some (.ref f) ∧ PySem.W.keepIn K (.ref f) = true ∧ Binds K fd ps ds ∧ Vals dvs ds
/-- .. called with its last parameter by keyword -/
structure OwnK (P : Program) (w : World) (K : PySem.W.Frag) (mg : Str → Option Value) (base : Heap) (CX : CXT) (k n : Nat) (x : Str) (ps ks : List Str) (sp : Sp) : Prop where
  ex : ∃ (f : Addr) (fd : FuncData), FnOk P w K mg base CX k f fd ps sp ∧ mg x = some (.ref f) ∧ PySem.W.keepIn K (.ref f) = true ∧ KBn K fd ps n ks (fun us ws => us ++ ws) (fun vs zs => vs ++ zs)
section
variable {P : Program} {w : World} {K : PySem.W.Frag} {mg : Str → Option Value} {base : Heap} {CX : CXT} {j k n : Nat} {x : Str} {ps ks : List Str} {dvs : List V} {sp sp' : Sp}
theorem Own.mono (O : Own P w K mg base CX j x ps dvs sp) (h : j ≤ k) : Own P w K mg base CX k x ps dvs sp := by
  obtain ⟨f, fd, ds, F, m, kp, b, r⟩ := O.ex
  exact ⟨f, fd, ds, F.mono h, m, kp, b, r⟩
theorem OwnK.mono (O : OwnK P w K mg base CX j n x ps ks sp) (h : j ≤ k) : OwnK P w K mg base CX k n x ps ks sp := by
  obtain ⟨f, fd, F, m, kp, b⟩ := O.ex
  exact ⟨f, fd, F.mono h, m, kp, b⟩
theorem own_of {q : Str} {params : Arguments} {body : List Stmt} {scope : Scope} {f : Addr} {fd : FuncData} (F : FunD K x q params body scope [] [] f fd) (G : FnOk P w K mg base CX k f fd ps sp) (m : mg x = some (.ref f))
    (h : ∀ (kV doc pm : Value) (an : Option Addr) (cdv ct : Value) (us : List Value), us.length = ps.length → bindArgs (PySem.W.fnOf x q params body scope .none kV doc pm an cdv ct) ⟨us, []⟩ = pure (ps.zip us)) : Own P w K mg base CX k x ps [] sp :=
  ⟨f, fd, [], G, m, F.kp, FunD.bindsN F h, .nil⟩
theorem own_ofK {q : Str} {params : Arguments} {body : List Stmt} {scope : Scope} {f : Addr} {fd : FuncData} {kws : List (Str × V)} (F : FunD K x q params body scope [] kws f fd) (G : FnOk P w K mg base CX k f fd ps sp) (m : mg x = some (.ref f))
    (h : ∀ (kV doc pm : Value) (an : Option Addr) (cdv ct : Value) (us ws : List Value), us.length = n → ws.length = ks.length → bindArgs (PySem.W.fnOf x q params body scope .none kV doc pm an cdv ct) ⟨us, ks.zip ws⟩ = pure (ps.zip (us ++ ws))) : OwnK P w K mg base CX k n x ps ks sp := by
  have kp := F.kp
  obtain ⟨oc, od, dV, kV, doc, pm, an, cdv, ct, osl, rfl, lk, hcd, hD, hK⟩ := F.ex
  rcases hD with ⟨_, rfl⟩ | ⟨e, _⟩
  · exact ⟨f, _, G, m, kp, ⟨fun s us ws X l1 l2 => .of_eq (h kV doc pm an cdv ct us ws l1 l2), fun r1 r2 => r1.append r2⟩⟩
  · exact absurd rfl e
theorem own_of0 {q : Str} {params : Arguments} {body : List Stmt} {scope : Scope} {f : Addr} {fd : FuncData} {kws : List (Str × V)} (F : FunD K x q params body scope [] kws f fd) (G : FnOk P w K mg base CX k f fd ps sp) (m : mg x = some (.ref f)) (n : Nat) (hk : kws ≠ []) (hn : n + kws.length = ps.length)
    (h : ∀ (D : Addr) (doc pm : Value) (an : Option Addr) (cdv ct : Value) (us ks : List Value), us.length = n → ks.length = kws.length →
      KwChain D ((kws.map (·.1)).zip ks) (bindArgs (PySem.W.fnOf x q params body scope .none (.ref D) doc pm an cdv ct) ⟨us, []⟩) (ps.zip (us ++ ks))) : Own P w K mg base CX k x ps (kws.map (·.2)) sp := by
  obtain ⟨ds, r, b⟩ := FunD.binds0 F n hk hn h
  exact ⟨f, fd, ds, G, m, F.kp, b, r⟩
end
section
variable {X : Cx} {CX : CXT} {k n : Nat} {x : Str} {ps ks : List Str} {dvs : List V} {sp : Sp} {E : XK} {p pos : Pos} {e : Expr} {es : List Expr} {kws : List Keyword} {t tk : TA}
theorem pe_own (O : Own X.prog X.w X.K X.mg X.base CX k x ps dvs sp) (hr : Room k X.A) (hg : Gl X x) (hx : Passes CX X E) (ha : PA X (e :: es) t) (hdb : (x == ("__debug__" : Str)) = false := by decide)
    (he : starEach (e :: es) X.env = (false, eval e X.env) :: starEach es X.env := by rfl) (hpl : (backTo pos (starEach es X.env)).any (·.1) = false := by rfl) : PE X (.Call (.Name x p) (e :: es) [] pos) (tCall sp dvs E t) := by
  obtain ⟨f, fd, ds, F, m, kp, b, r⟩ := O.ex
  exact pe_call F hr hg m kp b r hx ha hdb he hpl
theorem pe_own0 (O : Own X.prog X.w X.K X.mg X.base CX k x ps dvs sp) (hr : Room k X.A) (hg : Gl X x) (hx : Passes CX X E) (hdb : (x == ("__debug__" : Str)) = false := by decide) : PE X (.Call (.Name x p) [] [] pos) (tCall sp dvs E tNil) := by
  obtain ⟨f, fd, ds, F, m, kp, b, r⟩ := O.ex
  exact pe_call0 F hr hg m kp b r hx hdb
theorem pe_ownK (O : OwnK X.prog X.w X.K X.mg X.base CX k n x ps ks sp) (hr : Room k X.A) (hg : Gl X x) (hx : Passes CX X E)
    (ha : PA X (e :: es) t) (hkw : PK X kws tk) (hall : (backToKw pos (keywordEach kws X.env)).all (·.1.isSome) = true := by rfl) (hks : (backToKw pos (keywordEach kws X.env)).filterMap (·.1) = ks := by rfl)
    (hdb : (x == ("__debug__" : Str)) = false := by decide) (he : starEach (e :: es) X.env = (false, eval e X.env) :: starEach es X.env := by rfl)
    (hpl : ((backTo pos (starEach (e :: es) X.env)).any (·.1) || (backToKw pos (keywordEach kws X.env)).any (·.1.isNone)) = false := by rfl) :
    PE X (.Call (.Name x p) (e :: es) kws pos) (tCallN n ks.length sp (fun vs zs => vs ++ zs) E t tk) := by
  obtain ⟨f, fd, F, m, kp, b⟩ := O.ex
  exact pe_callN F hr hg m kp b hx ha hkw hall hks hdb he hpl
end
end Xh
end
section
set_option Elab.async false
set_option linter.all false
set_option maxRecDepth 100000
set_option maxHeartbeats 2000000
namespace Xh
open PySem PySem.Spec PyProof.Rows L2
/-! ### enumerate of a tuple -/
theorem meets_enum1 {v : Value} {o : Obj} {H : Heap → Prop} (B : Begins v o H) :
    Meets (Builtin.«enumerate.__new__» ⟨[.type "enumerate", v], []⟩) (fun _ R s => H s.heap ∧
      R (.ok (.ret (.ref (s.heap.push o).objs.size))) { s with heap := (s.heap.push o).push { cls := .type "enumerate", data := .fields #[.none, .bool false, .ref s.heap.objs.size, rawInt 0, .none, .none] } }) :=
  .of_wp fun prog w A R s h => by
    obtain ⟨hp, g, d, tk, os⟩ := s
    obtain ⟨h1, h⟩ := h
    have hsub := sub_enumerate
    have q1 : ∀ {A' : Around} {E : Value → Shared → Prop} {Q : Value → Shared → Prop}, Q (.ref hp.objs.size) ⟨hp.push o, g, d, tk, os⟩ → wpAny (model prog w) A' (pyIter v) Q E ⟨hp, g, d, tk, os⟩ :=
      fun q => B.iter prog w _ _ ⟨hp, g, d, tk, os⟩ _ h1 q
    wp_walk using q1
    refine wpAny_stack_any fun st => wpAny_pure ?_
    split
    · rename_i c _ _ _ _ _
      cases (c == Value.type "enumerate")
      · wp_walk using q1
        exact ⟨_, rfl, h⟩
      · wp_walk using q1
        exact ⟨_, rfl, h⟩
    · wp_walk using q1
      exact ⟨_, rfl, h⟩
theorem call_enum1 {prog : Program} {w : World} {A : Around} {E : Value → Shared → Prop} {s : Shared} {v : Value} {o : Obj} {H : Heap → Prop} {Q : Value → Shared → Prop} (B : Begins v o H) (h1 : H s.heap)
    (h : ∀ h', IsEnum h' (s.heap.objs.size + 1) s.heap.objs.size 0 .none → h'.get? s.heap.objs.size = some o → h'.objs.size = s.heap.objs.size + 2 →
      (∀ b o, s.heap.get? b = some o → h'.get? b = some o) → Q (.ref (s.heap.objs.size + 1)) { s with heap := h' }) :
    wpAny (model prog w) A (call (.type "enumerate") [v]) Q E s := by
  refine callType_new F.called_enumerate (by decide) (F.typeCall_enumerate_1 _) (F.newCall_enumerate_1 _) (fun obj => F.args_object_init_2 obj _) F.entry_enumerate_new (meets_enum1 B) ⟨h1, ?_⟩
  have hz : (s.heap.push o).objs.size = s.heap.objs.size + 1 := Heap.size_push ..
  show _ ∧ _
  rw [hz]
  have he := Heap.get?_push_size (s.heap.push o) (o := { cls := .type "enumerate", data := .fields #[.none, .bool false, .ref s.heap.objs.size, rawInt 0, .none, .none] }) rfl
  rw [hz] at he
  exact ⟨⟨_, he, rfl⟩, h _ he (Heap.get?_push_of_some _ (Heap.get?_push_size _ B.free)) (by rw [Heap.size_push, hz]) fun b o x => Heap.get?_push_of_some _ (Heap.get?_push_of_some _ x)⟩
/-- the tuple at a, each item in a new pair with its place -/
def IteT (K : PySem.W.Frag) (a : Addr) : It :=
  ⟨fun i H => ∃ (xs : List V) (x : V), SqT K H a xs ∧ xs[i]? = some x, fun i H v H' => ∃ T x, v = .ref T ∧ H T = none ∧ H' = upd H T (.tup [.int (i : Nat), x]) ∧ ∀ xs, SqT K H a xs → xs[i]? = some x, fun i H => ∃ xs : List V, SqT K H a xs ∧ xs.length ≤ i⟩
theorem next_enum_endT {prog : Program} {w : World} {A : Around} {E : Value → Shared → Prop} {s : Shared} {e it l : Addr} {i : Nat} {items : Array Value} {c : Int} {old : Value} {Q : Option Value → Shared → Prop} (hh : A.handled = none)
    (he : IsEnum s.heap e it c old) (hit : s.heap.IsTupleIter it l i) (hl : s.heap.IsTuple l items) (hx : items[i]? = none) (hQ : ∀ h', Heap.ExtBut it s.heap h' → Q none { s with heap := h' }) : wpAny (model prog w) A (pyNext (.ref e)) Q E s := by
  unfold pyNext
  refine wpAny_bind (wpAny_attempt (wpAny_callSpecial?_slot (name := Str.ofString "__next__") ⟨_, he, rfl⟩ F.slot_enumerate_next (wpAny_call_entry F.slot_enumerate_next ⟨_, he, rfl⟩ F.entry_enumerate_next ?_ (F.args_enumerate_next_1 _))))
  show wpAny _ _ (field (.ref e) 2 >>= _) _ _ _
  refine wpAny_bind (wpAny_field he rfl (x := .ref it) rfl (wpAny_bind (wpAny_nextOf_tuple_end hh hit hl hx fun h' x he' hx' => ?_)))
  obtain ⟨o, ho, hc⟩ := hx'
  exact wpAny_bind (wpAny_isInstance (T := "StopIteration") (b := true) ⟨o, ho, hc⟩ isSubtype_stop (wpAny_pure (hQ _ he')))
theorem turn_enumT {P : Program} {w : World} {K : PySem.W.Frag} {elts : List Expr} {kk : Nat} {tpos : Pos} {a e it : Addr} (hai : a ≠ it) (hea : e ≠ a) :
    Turn P w K (.Tuple elts kk tpos) (IteT K a) [e, it] e (fun i h => (∃ old, IsEnum h e it ((i : Nat) : Int) old) ∧ h.IsTupleIter it a i ∧ e ≠ it) where
  mem := by simp
  obj := fun i h st b hb => by
    obtain ⟨⟨old, he⟩, ⟨o, ho, hc, hd⟩, _⟩ := st
    rcases (show b = e ∨ b = it by simpa using hb) with rfl | rfl
    · exact ⟨_, he, fun v q => nomatch q⟩
    · exact ⟨o, ho, fun v q => by rw [hd] at q; cases q⟩
  keep := fun i h h' st k => let ⟨⟨old, he⟩, hi, hne⟩ := st; ⟨⟨old, k e (by simp) _ he⟩, hi.at fun o q => k it (by simp) o q, hne⟩
  item := by
    intro X hP hw hK hc i pins s σ H E I hf st hg
    subst hP hw hK
    obtain ⟨⟨old, he⟩, hit, hne⟩ := st
    obtain ⟨xs, x, hq, hx⟩ := hg
    obtain ⟨its, rv, p, hz⟩ := I.tuple hq
    obtain ⟨u, hu, ru⟩ := rv.get hx
    have hel : e < s.heap.objs.size := Heap.lt_size he
    have hil : it < s.heap.objs.size := by obtain ⟨_, q, _⟩ := hit; exact Heap.lt_size q
    have hlt : i < its.toArray.size := by
      obtain ⟨z, _⟩ := List.getElem?_eq_some_iff.mp hu
      simpa using z
    have D := Draws.tuple (prog := X.prog) (w := X.w) (A := X.A.in1) (I.ok.hd hc) it a hai its.toArray
    refine wpAny_pyNext_enum_itemD D he ⟨hit, p⟩ hlt hne (by simp [hne, hea]) fun x' h' tk hx' ho hs' hT hsz hk => ?_
    have ex : x' = u := by
      have z : its[i]? = some x' := by simpa using hx'
      rw [hu] at z
      exact (Option.some.inj z).symm
    subst ex
    refine ⟨_, rfl, wpAny_letOwnedTupleGo_enum (s := { s with heap := h', toks := tk + 1 }) ho fun h'' he' sb => ?_⟩
    have hT2 := (sb.2 _ (Nat.ne_of_gt hel)).trans hT
    have new : ObjOk X.prog X.w (upd H s.heap.objs.size (.tup [.int (i : Nat), x])) h'' s.heap.objs.size (.tup [.int (i : Nat), x]) :=
      ⟨by show 2 ≤ sizeLine; decide, [.int i tk, x'], .cons ⟨_, rfl⟩ (.cons ru .nil), ⟨_, hT2, rfl, _, rfl⟩⟩
    have I1 : Inv X pins σ (upd H s.heap.objs.size (.tup [.int (i : Nat), x])) { s with heap := h'', toks := tk + 1 } :=
      I.turnedNew (ch := [e, it]) (fun b ob hb q => (sb.2 b (fun z => hb (by simp [z]))).trans (hk b ob (fun z => hb (by simp [z])) (fun z => hb (by simp [z])) q)) hf (Nat.le_refl _) new
    refine ⟨.ref s.heap.objs.size, _, I1, rfl, ⟨_, x, rfl, I.hok.fresh (Nat.le_refl _), rfl, fun ys hy => by rw [I.tuple_inj hy hq]; exact hx⟩, ⟨⟨x', ?_⟩, hs'.1.at fun o q => (sb.2 it (Ne.symm hne)).trans q, hne⟩, fun b hb => ?_⟩
    · rw [show ((i + 1 : Nat) : Int) = (i : Int) + 1 by omega]
      exact he'
    · have hb' : b < s.heap.objs.size := by
        rcases (show b = e ∨ b = it by simpa using hb) with rfl | rfl
        · exact hel
        · exact hil
      rw [upd_ne (Nat.ne_of_lt hb')]
      exact (hf b hb).1
  done := by
    intro X hP hw hK hc i pins s σ H E I hf st hg
    subst hP hw hK
    obtain ⟨⟨old, he⟩, hit, hne⟩ := st
    obtain ⟨xs, hq, hx⟩ := hg
    obtain ⟨its, rv, p, hz⟩ := I.tuple hq
    obtain ⟨f0, f1, f2, f3, f4, f5⟩ := hf it (by simp)
    have hl := rv.length
    exact next_enum_endT (I.ok.hd hc) he hit p (by simp; omega) fun h' eb => ⟨rfl, I.turned (t' := s.toks) (fun b o hb q => eb b o hb q) f0 f1 f3 f4 f5⟩
  self := fun A i s Q E st h => let ⟨⟨_, he⟩, _⟩ := st; wpAny_pyIter_enum he h
def iEnT (K : PySem.W.Frag) (ta : TA) : TI := fun σ H R => ta σ H fun vs H1 => ∃ a xs, vs = [.ref a] ∧ SqT K H1 a xs ∧ R (IteT K a) H1
theorem pi_enT {X : Cx} {e : Expr} {ta : TA} {p pos tpos : Pos} {elts : List Expr} {kk : Nat} (hg : Gl X "enumerate") (hm : X.mg "enumerate" = none) (ha : PA X [e] ta) (hs : starEach [e] X.env = [(false, eval e X.env)] := by rfl) :
    PI X (.Tuple elts kk tpos) (.Call (.Name "enumerate" p) [e] [] pos) (iEnT X.K ta) := by
  refine ⟨fun pins s σ H R I h => ?_⟩
  refine Call_ (ld_blt I hg hm boot_enumerate (PyProof.Rows.callWith_type1 (thn (ha.run pos pins s σ H _ I h) fun us s1 ⟨vs, H1, I1, r1, q1⟩ => ?_) hs rfl))
  obtain ⟨a, xs, rfl, hq, q⟩ := q1
  cases r1 with
  | cons r rr =>
    cases rr
    cases r
    obtain ⟨its, rv, p', hz⟩ := I1.tuple hq
    have al : a < s1.heap.objs.size := by
      obtain ⟨o, q', _⟩ := p'
      exact Heap.lt_size q'
    refine call_enum1 (begins_tuple a its.toArray) p' fun h' he hit hsz hk => wpAny_pyIter_enum he ?_
    have I2 : Inv X pins σ H1 { s1 with heap := h' } := I1.kept (t' := s1.toks) hk
    refine ⟨s1.heap.objs.size + 1, [s1.heap.objs.size + 1, s1.heap.objs.size], _, _, H1, rfl, I2, turn_enumT (Nat.ne_of_lt al) (Nat.ne_of_gt (Nat.lt_succ_of_lt al)), ⟨⟨.none, he⟩, ⟨_, hit, rfl, rfl⟩, Nat.succ_ne_self _⟩, fun b hb => ?_, q⟩
    have hle : s1.heap.objs.size ≤ b := by
      rcases (show b = s1.heap.objs.size + 1 ∨ b = s1.heap.objs.size by simpa using hb) with rfl | rfl
      · exact Nat.le_add_right _ _
      · exact Nat.le_refl _
    exact I1.fpOk hle (I1.hok.fresh hle)
theorem walk_enT {K : PySem.W.Frag} {a : Addr} {xs : List V} : Walk (IteT K a) xs.length (fun H => SqT K H a xs) (YPair (fun i => some (.int (i : Nat))) (fun i => xs[i]?)) :=
  ⟨fun i H hi h => ⟨xs, xs[i], h, by simp [hi]⟩, fun H h => ⟨xs, h, Nat.le_refl _⟩,
    fun i H x H' hi h y => by
      obtain ⟨T, u, e1, e2, e3, q⟩ := y
      exact ⟨T, _, u, e1, e2, e3, rfl, q xs h⟩⟩
end Xh
namespace Xh
open PySem PySem.Spec PyProof.Rows L2
/-- xs[i] of a list, i not below 0, for `xs[i] op= e` -/
theorem get_list {X : Cx} : PGet X (rIxL X.K) := by
  intro pins s σ H o i ov iv Q I ro ri h
  obtain ⟨p, xs, k, z, rfl, rfl, hq, he, q⟩ := h
  cases ro
  obtain ⟨t, rfl⟩ := ri
  obtain ⟨its, r, pl, hz⟩ := I.list hq
  obtain ⟨j, h1, h2, h3, h4, h5⟩ := atI_get he
  obtain ⟨w, ew, rw'⟩ := r.get h2
  have hl := r.length
  have hn := line63
  have fin : EP X pins σ Q w s := ⟨z, H, I, rw', q⟩
  by_cases h0 : 0 ≤ k
  · have hj : k.toNat = j := by
      rw [seqIndex_of h0 h5] at h1
      exact Option.some.inj h1
    exact wpAny_getItem_list pl.isList h0 (by omega) (by rw [hj]; simpa using ew) fin
  · have hj : (k + (its.toArray.size : Int)).toNat = j := by
      rw [seqIndex_neg (by omega) h4] at h1
      rw [List.size_toArray, ← hl]
      exact Option.some.inj h1
    exact wpAny_getItem_list_neg pl.isList (by omega) (by rw [List.size_toArray] <;> omega) (by omega) (by rw [hj]; simpa using ew) fin
end Xh
end
section
set_option Elab.async false
set_option linter.all false
set_option maxRecDepth 100000
set_option maxHeartbeats 2000000
/-! a lambda as a thing that is handed about: with parameters, kept, called in another def -/
namespace Xh
open PySem PySem.Spec PyProof.Rows L2 LamX NdefX
/-- at f stands the lambda of the words F and the body b -/
def LamO (f : Addr) (F : NF) (b : Expr) : HO := .ext fun h => ∃ pm ctv : Value, h.get? f = some (PySem.W.kla_obj "<lambda>" F.qual F.params b F.scope F.cl pm F.c ctv)
theorem lamO_ne {f : Addr} {F : NF} {b : Expr} (ps : Array Value) : LamO f F b ≠ .tbl ps := fun z => by
  unfold LamO at z
  cases z
theorem lamO_at {P : Program} {w : World} {H : Hp} {h : Heap} {f : Addr} {F : NF} {b : Expr} (hok : HOk P w H h) (e : H f = some (LamO f F b)) : ∃ pm ctv : Value, h.get? f = some (PySem.W.kla_obj "<lambda>" F.qual F.params b F.scope F.cl pm F.c ctv) := (hok f _ e).1
/-- all but the tables stays, nothing tracked is lost, the tables are tables -/
structure Gr (T : List (Addr × Str)) (H H' : Hp) : Prop where
  x : ExtN H H'
  n : ∀ b, H' b = none → H b = none
  t : Tabs T H'
section
variable {T : List (Addr × Str)} {H H1 H2 : Hp}
theorem Gr.refl (t : Tabs T H) : Gr T H H := ⟨ExtN.refl H, fun _ e => e, t⟩
theorem Gr.trans (a : Gr T H H1) (b : Gr T H1 H2) : Gr T H H2 := ⟨a.x.trans b.x, fun c e => a.n c (b.n c e), b.t⟩
theorem Gr.of (t : Tabs T H) (s : Same H H1) : Gr T H H1 := ⟨ExtN.of s, fun b e => s.free e, t.ext s⟩
theorem Gr.same (a : Gr T H H1) (s : Same H1 H2) : Gr T H H2 := a.trans (.of a.t s)
end
section
variable {X : Cx} {pins : List (Addr × Obj)} {σ : L2.St} {H : Hp} {s : Shared}
theorem inv_lamO {F : NF} {b : Expr} {pm ctv : Value} {t' : Nat} (I : Inv X pins σ H s) :
    Inv X pins σ (upd H s.heap.objs.size (LamO s.heap.objs.size F b)) { s with heap := s.heap.push (PySem.W.kla_obj "<lambda>" F.qual F.params b F.scope F.cl pm F.c ctv), toks := t' } := by
  have e : (s.heap.push (PySem.W.kla_obj "<lambda>" F.qual F.params b F.scope F.cl pm F.c ctv)).get? s.heap.objs.size = some (PySem.W.kla_obj "<lambda>" F.qual F.params b F.scope F.cl pm F.c ctv) := Heap.get?_push_size _ rfl
  exact I.laid (fun c u q => Heap.get?_push_of_some _ q) (Nat.le_refl _) ⟨⟨pm, ctv, e⟩, ⟨_, e⟩, fun g1 g2 ⟨u, v, z⟩ st => ⟨u, v, st _ z⟩⟩
/-- the lambda's words, by the maker's context -/
def lamF (X : Cx) (params : Arguments) (scope : Scope) (c' : Addr) : NF := ⟨"<lambda>", X.env.qual ++ "<lambda>", params, [], scope, cloFrom X.env.cells scope.names [], c'⟩
theorem lamV_make {T : List (Addr × Str)} {c P : Addr} {params : Arguments} {body : Expr} {scope : Scope} {pos : Pos} {E : Value → Shared → Prop} {Q : Value → Shared → Prop} (I : Inv X pins σ H s) (TB : TabB X.base X.mg c P) (hcode : X.env.code = .ref c)
    (hm : (P, X.env.qual ++ "<lambda>") ∈ T) (hu : ∀ p ∈ T, p.1 = P → p.2 = X.env.qual ++ "<lambda>") (hT : Tabs T H) (hdef : defaultsOf params X.env = ([], [])) (hfree : ∀ y ∈ scope.names, y.2 = .free → ∃ c, X.env.cells.lookup y.1 = some c)
    (fin : ∀ (f c' : Addr) (H1 : Hp) (s' : Shared), Inv X pins σ H1 s' → Gr T H H1 → H f = none → H1 f = some (LamO f (lamF X params scope c') body) → H1 c' = some (CodeO c' (X.env.qual ++ "<lambda>")) → f ∉ frs X.stack → Q (.ref f) s') :
    wpAny (model X.prog X.w) X.A (eval (.Lambda params body scope pos) X.env) Q E s := by
  obtain ⟨tb, onP, good, known⟩ := hT _ hm
  have inHeap : s.heap.get? P = some { cls := .none, data := .fields tb } := I.hok P _ onP
  have bt : s.heap.BuiltinsAt X.mg P := TB.bm.keeps I.bk
  have off : ∀ f, s.heap.objs.size ≤ f → f ∉ frs X.stack := fun f le z => by
    rcases List.mem_cons.mp (I.stkSub _ z) with e | e
    · exact absurd I.lt (by rw [← e]; exact Nat.not_lt_of_le le)
    · exact I.nofs le e
  refine PySem.W.kla_eval hdef ?_
  cases look : codeAmong pos tb.toList with
  | some cv =>
    obtain ⟨c', rfl, co⟩ := known pos cv look
    refine PySem.W.kla_makeFunctionHit (mg := X.mg) (c := c) (P := P) (ps := tb) (closure_ok hfree) I.ok.glob (I.mod.glob.keeps I.bk) hcode (TB.code.keeps I.bk) inHeap good look bt fun ctv g tk up le => ?_
    have J : Inv X pins σ H { s with heap := g, toks := tk } := I.kept up
    have nw : H g.objs.size = none := J.hok.fresh (Nat.le_refl _)
    have sm : Same H (upd H g.objs.size (LamO g.objs.size (lamF X params scope c') body)) := fun b u e => by rw [upd_ne (ne_of_none e nw)]; exact e
    exact fin g.objs.size c' _ _ (inv_lamO (F := lamF X params scope c') (b := body) (pm := (X.mg "__name__").getD .none) (ctv := ctv) (t' := tk) J) (.of hT sm) nw upd_same (sm _ _ co) (off _ le)
  | none =>
    refine PySem.W.kla_makeFunction (mg := X.mg) (c := c) (P := P) (ps := tb) (closure_ok hfree) I.ok.glob (I.mod.glob.keeps I.bk) hcode (TB.code.keeps I.bk) inHeap good look TB.gP bt fun c' ctv g tk but le lt rec tab => ?_
    obtain ⟨c2, oc, vs, t, e2, g1, g2, g3⟩ := rec
    cases e2
    have nC : H c' = none := I.hok.fresh le
    have J := inv_table (t' := tk) (more := #[rawInt pos.line, rawInt pos.col, .ref c']) (h' := g) I onP (fun b o hb e => but b o hb e) tab le ⟨oc, vs, t, g1, g2, g3⟩
    have ex : ExtN H (upd (upd H P (.tbl (tb ++ #[rawInt pos.line, rawInt pos.col, .ref c']))) c' (CodeO c' (X.env.qual ++ "<lambda>"))) := fun b o e no => by
      have b1 : b ≠ P := fun z => by
        rw [z, onP] at e
        exact no tb (Option.some.inj e).symm
      rw [upd_ne (ne_of_none e nC), upd_ne b1]
      exact e
    have nn : ∀ b, upd (upd H P (.tbl (tb ++ #[rawInt pos.line, rawInt pos.col, .ref c']))) c' (CodeO c' (X.env.qual ++ "<lambda>")) b = none → H b = none := fun b e => upd_none (upd_none e)
    have lst : (tb ++ #[rawInt pos.line, rawInt pos.col, .ref c']).toList = tb.toList ++ [rawInt pos.line, rawInt pos.col, .ref c'] := by simp
    have tabs : Tabs T (upd (upd H P (.tbl (tb ++ #[rawInt pos.line, rawInt pos.col, .ref c']))) c' (CodeO c' (X.env.qual ++ "<lambda>"))) := fun p hp => by
      by_cases same : p.1 = P
      · refine ⟨_, by rw [same, upd_ne (ne_of_none onP nC), upd_same], by rw [lst]; exact PySem.TriplesOk_snoc _ _ _ _ good, fun p' cv q => ?_⟩
        rw [lst] at q
        rw [hu p hp same]
        rcases among_app _ good q with z | z
        · obtain ⟨c0, a1, a2⟩ := known p' cv z
          exact ⟨c0, a1, ex _ _ a2 codeO_ne⟩
        · exact ⟨c', z, upd_same⟩
      · obtain ⟨tb2, a1, a2, a3⟩ := hT p hp
        refine ⟨tb2, by rw [upd_ne (ne_of_none a1 nC), upd_ne same]; exact a1, a2, fun p' cv q => ?_⟩
        obtain ⟨c0, d1, d2⟩ := a3 p' cv q
        exact ⟨c0, d1, ex _ _ d2 codeO_ne⟩
    have nw := J.hok.fresh (Nat.le_refl g.objs.size)
    have sm := fun (o : HO) => (show Same _ (upd _ g.objs.size o) from fun b u e => by rw [upd_ne (ne_of_none e nw)]; exact e)
    exact fin g.objs.size c' _ _ (inv_lamO (F := lamF X params scope c') (b := body) (pm := (X.mg "__name__").getD .none) (ctv := ctv) (t' := tk) J) ((Gr.mk ex nn tabs).same (sm _)) (nn _ nw) upd_same (sm _ _ _ upd_same) (off _ (Nat.le_trans le (Nat.le_of_lt lt)))
end
/-- the lambda as a value -/
def tLamV (X : Cx) (T : List (Addr × Str)) (params : Arguments) (scope : Scope) (body : Expr) : TE := fun _ H Q => Tabs T H ∧ ∀ (f c' : Addr) (H1 : Hp), Gr T H H1 → H f = none → H1 f = some (LamO f (lamF X params scope c') body) → H1 c' = some (CodeO c' (X.env.qual ++ "<lambda>")) → f ∉ frs X.stack → Q (.ref f) H1
theorem pe_lamV {X : Cx} {T : List (Addr × Str)} {c P : Addr} {params : Arguments} {body : Expr} {scope : Scope} {pos : Pos} (TB : TabB X.base X.mg c P) (hcode : X.env.code = .ref c) (hm : (P, X.env.qual ++ "<lambda>") ∈ T) (hu : ∀ p ∈ T, p.1 = P → p.2 = X.env.qual ++ "<lambda>")
    (hdef : defaultsOf params X.env = ([], [])) (hfree : ∀ y ∈ scope.names, y.2 = .free → X.env.scope.names.lookup y.1 = some .cell ∨ X.env.scope.names.lookup y.1 = some .free) : PE X (.Lambda params body scope pos) (tLamV X T params scope body) := by
  refine ⟨fun pins s σ H Q I h => ?_⟩
  obtain ⟨hT, h⟩ := h
  have hfr : ∀ y ∈ scope.names, y.2 = .free → ∃ c, X.env.cells.lookup y.1 = some c := fun y hy e => (hfree y hy e).elim (fun z => I.ok.has _ (.inl z)) fun z => I.ok.has _ (.inr z)
  exact lamV_make I TB hcode hm hu hT hdef hfr fun f c' H1 s' J g n e1 e2 e3 => ⟨.ref f, H1, J, rfl, h f c' H1 g n e1 e2 e3⟩
/-! ### its promise -/
structure NOkL (P : Program) (w : World) (K : PySem.W.Frag) (mg : Str → Option Value) (base : Heap) (CX : CXT) (k : Nat) (f : Addr) (F : NF) (b : Expr) (ps fr : List Str) (sp : List (Option V) → Sp) : Prop where
  run : ∀ (A : Around) (outer : List Env) (s : Shared) (H : Hp) (us : List Value) (vs : List V) (ws : List (Option V)) (Q : VK) (E : XK), Room k A → Env0 P w K mg base A outer s H → H f = some (LamO f F b) → H F.c = some (CodeO F.c F.qual) →
    CellsAt F.cl fr ws s.heap H → Vals vs us → sp ws vs H Q E → codeAny (model P w) A (.call (.ref f) ⟨us, []⟩) (CR CX outer P w H s Q E) s
section
variable {CX : CXT} {P : Program} {w : World} {K : PySem.W.Frag} {mg : Str → Option Value} {base : Heap} {N ps fr : List Str} {F : NF} {b : Expr} {f : Addr} {k : Nat} {sp : List (Option V) → Sp}
theorem nokL_of (S : NScope N ps fr F.scope) (hb : ∀ (pm ctv : Value) (us : List Value), us.length = ps.length → bindArgs (PySem.W.kla_fn "<lambda>" F.qual F.params b F.scope F.cl pm (.ref F.c) ctv) ⟨us, []⟩ = pure (ps.zip us)) (len : ∀ ws vs H Q E, sp ws vs H Q E → vs.length = ps.length)
    (hbody : ∀ (A : Around) (outer : List Env) (s : Shared) (H : Hp) (vs : List V) (ws : List (Option V)) (Q : VK) (E : XK), Room k (A.deeper (envF F f s.heap.objs.size)) → ws.length = fr.length → sp ws vs H Q E →
      ∃ t, PE (ncx CX P w K mg base N F f A outer s H E) b t ∧ t (startF N vs ws) H Q) : NOkL P w K mg base CX (k + 1) f F b ps fr sp := by
  refine ⟨fun A outer s H us vs ws Q E room e0 hf hc C r hsp => ?_⟩
  have many := len _ _ _ _ _ hsp
  obtain ⟨pm, ctv, onF⟩ := lamO_at e0.hok hf
  have lim : s.heap.NoLimit := e0.mod.nolimit.keeps fun c o e => (e0.bs c o e).1
  refine PySem.W.kla_callFunE room.depth onF rfl S.co S.gen rfl (codeO_at e0.hok hc) ?_
  rw [hb pm ctv us (by rw [← r.length]; exact many)]
  refine wpAny_pure (wpAny_newFunctionEnv S.nocell (fun ⟨n, _⟩ hy => S.par n (List.of_mem_zip hy).1) (fun h₁ hns hsb => ⟨lim.fresh _ hsb, ?_⟩) S.kind)
  show codeAny _ _ (.expr b (envF F f s.heap.objs.size)) _ _
  have up : ∀ c o, s.heap.get? c = some o → h₁.get? c = some o := fun c o e => hsb.extBut c o (Nat.ne_of_lt (Heap.lt_size e)) (Heap.get?_push_of_some _ e)
  obtain ⟨t, ht, q⟩ := hbody A outer s H vs ws Q E (room.deeper _) C.len hsp
  have I : Inv (ncx CX P w K mg base N F f A outer s H E) [] (startF N vs ws) H { s with heap := h₁, toks := s.toks + (ps.zip us).length } := inv_startN S room.hd e0 many r C hns up
  refine PySem.W.kla_codeExpr (wpAny_mono (ht.run [] _ _ H Q I q) (fun u s' z => ?_) fun e s' z => z)
  obtain ⟨v, H', J, rv, y⟩ := z
  exact ⟨v, H', J.os, J.bare, J.base, J.hok, rv, y⟩
/-- the cells hold what they held -/
theorem cells_on {cl : List (Str × Addr)} {ws : List (Option V)} {fs : List Addr} {H H1 : Hp} {h h1 : Heap} (C : CellsAt cl fr ws h H) (un : Un fs [] H H1 h h1) : CellsAt cl fr ws h1 H1 := by
  have kp : ∀ y c, cl.lookup y = some c → ∀ v, h.IsCell c v → h1.IsCell c v := fun y c e v ⟨o, a1, a2⟩ => by
    obtain ⟨sl, q⟩ := un.any a1 (C.all y c e).1 (fun z => nomatch z)
    exact ⟨_, q, a2⟩
  refine ⟨C.len, fun y c e => ?_, C.inj, fun i y e => ?_⟩
  · obtain ⟨no, v, z⟩ := C.all y c e
    obtain ⟨o, ho, _⟩ := id z
    exact ⟨un.free c o ho no (fun z => nomatch z), v, kp y c e v z⟩
  · obtain ⟨c, a1, a2⟩ := C.has i y e
    refine ⟨c, a1, fun v ev => ?_⟩
    obtain ⟨u, r, z⟩ := a2 v ev
    exact ⟨u, r, kp y c a1 _ z⟩
end
/-- what is known of the thing at f, and of what it does with what its cells hold -/
def spGot (f : Addr) (F : NF) (b : Expr) (ws : List (Option V)) (sp : List (Option V) → Sp) : Sp := fun vs H Q E => H f = some (LamO f F b) ∧ H F.c = some (CodeO F.c F.qual) ∧ sp ws vs H Q E
section
variable {X : Cx} {CX : CXT} {F : NF} {b : Expr} {ps fr : List Str} {ws : List (Option V)} {i j k : Nat} {f : Addr} {x : Str} {sp : List (Option V) → Sp} {E : XK} {t : TA} {e : Expr} {es : List Expr} {p pos : Pos}
/-- x(..), x a name that holds a lambda of another frame -/
theorem pe_callP (Fn : NOkL X.prog X.w X.K X.mg X.base CX k f F b ps fr sp) (C : CellsAt F.cl fr ws X.s_0.heap X.H_0) (hex : X.ex = []) (hr : Room j X.A) (hk : k ≤ j) (hx : Passes CX X E) (hN : X.N[i]? = some x) (hv : Vis X.env.scope x) (ha : PA X (e :: es) t)
    (hd : (x == ("__debug__" : Str)) = false := by decide) (hcd : (x == ("__classdict__" : Str)) = false := by decide)
    (he : starEach (e :: es) X.env = (false, eval e X.env) :: starEach es X.env := by rfl) (hpl : (backTo pos (starEach es X.env)).any (·.1) = false := by rfl) :
    PE X (.Call (.Name x p) (e :: es) [] pos) (fun σ H Q => σ[i]? = some (some (.ref f)) ∧ H f = some (LamO f F b) ∧ t σ H fun vs H1 => spGot f F b ws sp vs H1 Q E) := by
  refine ⟨fun pins s σ H Q I h => ?_⟩
  obtain ⟨hs, hf, ht⟩ := h
  have at_ : ∀ {H : Hp} {s : Shared}, Inv X pins σ H s → H f = some (LamO f F b) → PySem.W.FnAt f s.heap := fun J e => by
    obtain ⟨pm, ctv, o⟩ := lamO_at J.hok e
    exact ⟨_, _, _, _, o⟩
  refine wpAny_Call_Name_kw (thn ((pe_var (pos := p) hN hv hd hcd).run pins s σ H (fun v H1 => v = .ref f ∧ H1 = H) I ⟨.ref f, hs, rfl, rfl⟩) fun u s1 ⟨v, H1, I1, r1, q1⟩ => ?_)
  obtain ⟨ev, eH⟩ := q1
  subst ev
  rw [eH] at I1
  obtain rfl : u = Value.ref f := r1
  refine PySem.W.callWith_F (first := []) (at_ I1 hf) (thn (ha.run pos pins s1 σ H _ I1 ht) fun us s2 ⟨vs, H2, I2, r, h1, h2, q⟩ => ⟨at_ I2 h1, ?_⟩) he hpl
  show wpAny _ _ (call (.ref f) us) _ _ _
  have un := I2.base
  rw [hex] at un
  refine wpAny_call (codeAny_mono (Fn.run X.A X.stack s2 H2 us vs _ Q E (hr.mono hk) I2.env0 h1 h2 (cells_on C un) r q) fun r s' hq => ?_)
  cases r with
  | error e => exact hx pins σ H2 s2 e s' I2 hq
  | ok fl =>
    cases fl with
    | ret u => exact I2.after hq
    | next => exact False.elim hq
    | brk => exact False.elim hq
    | cont => exact False.elim hq
end
/-! ### a def that gets a lambda to call -/
structure GivesV (P : Program) (w : World) (K : PySem.W.Frag) (mg : Str → Option Value) (base : Heap) (k kl : Nat) (x : Str) (g : Addr) (TT : Addr → Sp → Sp) : Prop where
  m : mg x = some (.ref g)
  kp : PySem.W.keepIn K (.ref g) = true
  run : ∀ (A : Around) (outer : List Env) (f : Addr) (F : NF) (b : Expr) (lps fr : List Str) (ws : List (Option V)) (spl : List (Option V) → Sp) (s : Shared) (H : Hp) (us : List Value) (vs : List V) (Q : VK), Room k A → Env0 P w K mg base A outer s H → NOkL P w K mg base CX0 kl f F b lps fr spl → CellsAt F.cl fr ws s.heap H → H f = some (LamO f F b) → Vals vs us → TT f (spGot f F b ws spl) vs H Q E0 →
    codeAny (model P w) A (.call (.ref g) ⟨us, []⟩) (CR CX0 outer P w H s Q E0) s
theorem givesV_of {P : Program} {w : World} {K : PySem.W.Frag} {mg : Str → Option Value} {base : Heap} {k kl : Nat} {x : Str} {g : Addr} {fd : FuncData} {pg : Arguments} {bg : List Stmt} {sg : Scope} {Ng ps : List Str} {TT : Addr → Sp → Sp}
    (F : FunD K x x pg bg sg [] [] g fd) (hm : mg x = some (.ref g)) (Sg : FnScope Ng ps sg)
    (hb : ∀ (kV doc pm : Value) (an : Option Addr) (cdv ct : Value) (us : List Value), us.length = ps.length → bindArgs (PySem.W.fnOf x x pg bg sg .none kV doc pm an cdv ct) ⟨us, []⟩ = pure (ps.zip us))
    (len : ∀ f c vs H Q E, TT f c vs H Q E → vs.length = ps.length)
    (hG : ∀ (cdg : Value) (A : Around) (outer : List Env) (f : Addr) (F : NF) (b : Expr) (lps fr : List Str) (ws : List (Option V)) (spl : List (Option V) → Sp) (s : Shared) (H : Hp) (vs : List V) (Q : VK), Room k (A.deeper (envOfC x sg s.heap.objs.size g cdg)) → NOkL P w K mg base CX0 kl f F b lps fr spl → CellsAt F.cl fr ws s.heap H → H f = some (LamO f F b) → TT f (spGot f F b ws spl) vs H Q E0 →
      ∃ t, PSs (cxOf CX0 P w K mg base Ng x sg g cdg A outer s H E0).nox bg t ∧ t { nx := fun _ H' => Q .non H', rt := Q } (L2.start Ng vs) H) : GivesV P w K mg base (k + 1) kl x g TT := by
  have bd := FunD.bindsN F hb
  refine ⟨hm, F.kp, fun A outer f FF b lps fr ws spl s H us vs Q room e0 Fn C hf r hT => ?_⟩
  have many := len _ _ _ _ _ _ hT
  obtain ⟨oc, od, dV, kV, doc, pm, an, cdv, ct, osl, rfl, lk, hcd, _, _⟩ := F.ex
  refine run_ofS (N := Ng) (ps := ps) (us := us) (vs := vs) lk hcd Sg room e0 (by
      have z := bd s us (e0.mod.kin.keeps fun c o e => (e0.bs c o e).1) (by rw [List.append_nil, ← r.length]; exact many)
      rw [List.append_nil] at z
      exact z) r many fun room' => ?_
  obtain ⟨t, h1, h2⟩ := hG cdv A outer f FF b lps fr ws spl s H vs Q room' Fn C hf hT
  exact ⟨t, h1.nox, h2⟩
/-- g(lambda, ..): the call -/
def tGiveV (mk : Addr → NF) (b : Expr) (js : List Nat) (TT : Addr → Sp → Sp) (sp : List (Option V) → Sp) (t : TA) : TE := fun σ H Q => t σ H fun vs H1 => ∃ f c', H1 f = some (LamO f (mk c') b) ∧ TT f (spGot f (mk c') b (js.map (slotAt σ)) sp) vs H1 Q E0
theorem pe_giveV {X : Cx} {k kl : Nat} {g : Addr} {TT : Addr → Sp → Sp} {mk : Addr → NF} {cl : List (Str × Addr)} {lps fr : List Str} {js : List Nat} {x : Str} {sp : List (Option V) → Sp} {t : TA} {b e : Expr} {es : List Expr} {p pos : Pos}
    (G : GivesV X.prog X.w X.K X.mg X.base k kl x g TT) (Fn : ∀ f c', NOkL X.prog X.w X.K X.mg X.base CX0 kl f (mk c') b lps fr sp) (hcl : ∀ c', (mk c').cl = cl) (cp : X.Ok → Caps X cl fr js) (hr : Room k X.A) (hg : Gl X x) (ha : PA X (e :: es) t)
    (hdb : (x == ("__debug__" : Str)) = false := by decide) (he : starEach (e :: es) X.env = (false, eval e X.env) :: starEach es X.env := by rfl) (hpl : (backTo pos (starEach es X.env)).any (·.1) = false := by rfl) :
    PE X (.Call (.Name x p) (e :: es) [] pos) (tGiveV mk b js TT sp t) := by
  refine ⟨fun pins s σ H Q I h => ?_⟩
  refine wpAny_Call_Name_kw (ld_glob I hg G.m ?_ hdb)
  refine PySem.W.callWith_K (h₀ := X.base) I.ok.mod.kin G.kp (thn (ha.run pos pins s σ H _ I h) fun us s2 ⟨vs, H2, I2, r, q2⟩ => ⟨I2.kIn, ?_⟩) he hpl
  obtain ⟨f, c', h1, hT⟩ := q2
  have C : CellsAt (mk c').cl fr (js.map (slotAt σ)) s2.heap H2 := by
    rw [hcl c']
    exact cells_of I2 (cp I2.ok)
  show wpAny _ _ (call (.ref g) us) _ _ _
  refine wpAny_call (codeAny_mono (G.run X.A X.stack f (mk c') b lps fr _ sp s2 H2 us vs Q hr I2.env0 (Fn f c') C h1 r hT) fun r s3 hq => ?_)
  cases r with
  | error e => exact (show False from hq).elim
  | ok fl =>
    cases fl with
    | ret u => exact I2.after hq
    | next => exact False.elim hq
    | brk => exact False.elim hq
    | cont => exact False.elim hq
/-- a def whose own code object is known -/
theorem FunD_okC {P : Program} {w : World} {K : PySem.W.Frag} {mg : Str → Option Value} {base : Heap} {x qual : Str} {params : Arguments} {body : List Stmt} {scope : Scope} {dvs : List V} {kws : List (Str × V)} {f c : Addr} {fd : FuncData} {CX : CXT} {N ps : List Str} {k : Nat} {sp : Sp} (F : FunD K x qual params body scope dvs kws f fd) (hc : fd.code = .ref c) (S : FnScope N ps scope) (len : ∀ vs H Q E, sp vs H Q E → vs.length = ps.length)
    (hbody : ∀ (A : Around) (outer : List Env) (s : Shared) (H : Hp) (vs : List V) (Q : VK) (E : XK), Room k (A.deeper (envOfC qual scope s.heap.objs.size f (.ref c))) → sp vs H Q E →
      ∃ t, PSs (cxOf CX P w K mg base N qual scope f (.ref c) A outer s H E) body t ∧ t { nx := fun _ H' => Q .non H', rt := Q } (start N vs) H) : FnOk P w K mg base CX (k + 1) f fd ps sp := by
  obtain ⟨oc, od, dV, kV, doc, pm, an, cdv, ct, osl, rfl, lk, hcd, _, _⟩ := F.ex
  obtain rfl : cdv = .ref c := hc
  exact fn_of lk hcd S len fun A outer s H vs Q E hr hsp => hbody A outer s H vs Q E hr hsp
end Xh
end
section
set_option Elab.async false
set_option linter.all false
set_option maxRecDepth 100000
set_option maxHeartbeats 4000000
/-! t * k of a tuple, k from 1: one time is the very tuple -/
namespace Xh
open PySem PySem.Spec PyProof.Rows L2
theorem tup_once (l : Addr) (items : Array Value) (n : Nat) (dd : Option Addr) (sl : Array (Option Value)) (u : Tok) :
    Meets (Builtin.«tuple.__mul__» ⟨[.ref l, .int 1 u], []⟩) (fun _ R s => s.heap.get? l = some { cls := .type "tuple", dict := dd, data := .seq items n, slots := sl } ∧ R (.ok (.ret (.ref l))) s) :=
  .of_wp fun prog w A R s h => by
    obtain ⟨hp, g, d, tk, os⟩ := s
    obtain ⟨hl, h⟩ := h
    have f1 := AutoSeq1.idx_int
    have c0 : (decide ((1 : Int) < -(2 ^ 63)) || decide ((1 : Int) ≥ 2 ^ 63)) = false := by decide
    have c1 : (items.isEmpty || (1 : Int) == 1) = true := by simp
    wp_walk using wpAny_loadPart' hl
    repeat (first
      | (refine wpAny_ite_false (decide_eq_false (by rw [c0]; exact Bool.false_ne_true)) ?_; wp_walk using wpAny_loadPart' hl)
      | (refine wpAny_ite_true (decide_eq_true c1) ?_; wp_walk using wpAny_loadPart' hl))
    exact ⟨_, rfl, h⟩
def rRepP (K : PySem.W.Frag) : R2 := fun x y H Q => ∃ l k xs, x = .ref l ∧ y = .int k ∧ SqT K H l xs ∧ xs ≠ [] ∧ 1 ≤ k ∧ k ≤ 1000 ∧ xs.length ≤ 1000 ∧ (k = 1 → Q (.ref l) H) ∧ (2 ≤ k → ∀ p, H p = none → Q (.ref p) (upd H p (.tup (List.replicate k.toNat xs).flatten)))
theorem op_repP {X : Cx} : OpR X (binaryOp .Mult) (rRepP X.K) := by
  intro pins s σ H x y v u Q I rx ry h
  obtain ⟨l, k, xs, ex, ey, hT, hne, h1, h2, hz, q1, q2⟩ := h
  by_cases hk : k = 1
  · subst hk
    subst ex
    subst ey
    cases rx
    obtain ⟨t, rfl⟩ := ry
    obtain ⟨its, r, ⟨⟨cls, dd, data, sl⟩, ho, hc, n, hd⟩, hs⟩ := I.tuple hT
    simp only at hc hd
    subst hc hd
    exact wpAny_binaryOp_repeat_ref (T := "tuple") (U := "int") (by decide) ⟨_, ho, rfl⟩ (fun s' => typeIs_int s' 1 t) noFill_tuple_mul F.fills_int_mul F.slot_int_rmul repeat_tuple F.slot_int_index.lookup
      (call_meets F.slot_int_rmul (typeIs_int s 1 t) F.entry_int_rmul (F.args_int_rmul_2 _ _) (int_rmul_tuple 1 t l its.toArray n dd sl)
        ⟨ho, rfl, ⟨_, ho, rfl⟩, call_meets F.slot_tuple_mul ⟨_, ho, rfl⟩ F.entry_tuple_mul (F.args_tuple_mul_2 _ _) (tup_once l its.toArray n dd sl t) ⟨ho, ⟨.ref l, H, I, rfl, q1 rfl⟩⟩⟩)
  · exact op_repT pins s σ H x y v u Q I rx ry ⟨l, k, xs, ex, ey, hT, hne, by omega, h2, hz, q2 (by omega)⟩
theorem tup_none (l : Addr) (items : Array Value) (n : Nat) (dd : Option Addr) (sl : Array (Option Value)) (x : Int) (u : Tok) (h0 : x ≤ 0) (h1 : -1000 ≤ x) (ne : items.isEmpty = false) :
    Meets (Builtin.«tuple.__mul__» ⟨[.ref l, .int x u], []⟩) (fun _ R s => s.heap.get? l = some { cls := .type "tuple", dict := dd, data := .seq items n, slots := sl } ∧ R (.ok (.ret (.ref s.heap.objs.size))) { s with heap := s.heap.push { cls := Value.type "tuple", data := Data.seq #[] }, toks := s.toks }) :=
  .of_wp fun prog w A R s h => by
    obtain ⟨hp, g, d, tk, os⟩ := s
    obtain ⟨hl, h⟩ := h
    have f1 := AutoSeq1.idx_int
    have c0 : (decide (x < -(2 ^ 63)) || decide (x ≥ 2 ^ 63)) = false := by rw [decide_eq_false (by omega), decide_eq_false (by omega)]; rfl
    have c1 : (items.isEmpty || x == 1) = false := by rw [ne, Bool.false_or]; exact beq_eq_false_iff_ne.mpr (by omega)
    have c2 : (decide (x ≤ 0) || items.isEmpty) = true := by rw [decide_eq_true h0]; rfl
    wp_walk using wpAny_loadPart' hl
    repeat (first
      | (refine wpAny_ite_false (decide_eq_false (by rw [c0]; exact Bool.false_ne_true)) ?_; wp_walk using wpAny_loadPart' hl)
      | (refine wpAny_ite_false (decide_eq_false (by rw [c1]; exact Bool.false_ne_true)) ?_; wp_walk using wpAny_loadPart' hl)
      | (refine wpAny_ite_true (decide_eq_true c2) ?_; wp_walk using wpAny_loadPart' hl))
    exact ⟨_, rfl, h⟩
def rRepZ (K : PySem.W.Frag) : R2 := fun x y H Q => ∃ l k xs, x = .ref l ∧ y = .int k ∧ SqT K H l xs ∧ xs ≠ [] ∧ -1000 ≤ k ∧ k ≤ 1000 ∧ xs.length ≤ 1000 ∧ (k = 1 → Q (.ref l) H) ∧ (k ≠ 1 → ∀ p, H p = none → Q (.ref p) (upd H p (.tup (List.replicate k.toNat xs).flatten)))
/-- t * k, any k -/
theorem op_repZ {X : Cx} : OpR X (binaryOp .Mult) (rRepZ X.K) := by
  intro pins s σ H x y v u Q I rx ry h
  obtain ⟨l, k, xs, ex, ey, hT, hne, h1, h2, hz, q1, q2⟩ := h
  by_cases hk : k ≤ 0
  · have q := q2 (by omega)
    rw [show k.toNat = 0 by omega] at q
    subst ex
    subst ey
    cases rx
    obtain ⟨t, rfl⟩ := ry
    obtain ⟨its, r, ⟨⟨cls, dd, data, sl⟩, ho, hc, n, hd⟩, hs⟩ := I.tuple hT
    simp only at hc hd
    subst hc hd
    have hi : its.toArray.isEmpty = false := by
      cases its with
      | nil =>
        have := r.length
        exact absurd (List.eq_nil_of_length_eq_zero this) hne
      | cons a b => rfl
    refine wpAny_binaryOp_repeat_ref (T := "tuple") (U := "int") (by decide) ⟨_, ho, rfl⟩ (fun s' => typeIs_int s' k t) noFill_tuple_mul F.fills_int_mul F.slot_int_rmul repeat_tuple F.slot_int_index.lookup
      (call_meets F.slot_int_rmul (typeIs_int s k t) F.entry_int_rmul (F.args_int_rmul_2 _ _) (int_rmul_tuple k t l its.toArray n dd sl)
        ⟨ho, rfl, ⟨_, ho, rfl⟩, call_meets F.slot_tuple_mul ⟨_, ho, rfl⟩ F.entry_tuple_mul (F.args_tuple_mul_2 _ _) (tup_none l its.toArray n dd sl k t hk h1 hi) ⟨ho, ?_⟩⟩)
    refine ⟨.ref s.heap.objs.size, _, I.laid (t' := s.toks) (o := .tup []) (fun b ob q => Heap.get?_push_of_some _ q) (Nat.le_refl _) ?_, rfl, q _ (I.hok.fresh (Nat.le_refl _))⟩
    exact ⟨Nat.zero_le _, _, .nil, IsTup.new _ _⟩
  · exact op_repP pins s σ H x y v u Q I rx ry ⟨l, k, xs, ex, ey, hT, hne, by omega, h2, hz, q1, fun h => q2 (by omega)⟩
end Xh
end
section
set_option Elab.async false
set_option linter.all false
set_option maxRecDepth 100000
set_option maxHeartbeats 1000000
/-! zip of a tuple and a list -/
namespace Xh
open PySem PySem.Spec PyProof.Rows L2
/-- a tuple's items beside a list's, as they stand -/
def ItTL (K : PySem.W.Frag) (a b : Addr) : It where
  go i H := ∃ (xs ys : List V) (x y : V), SqT K H a xs ∧ SqL K H b ys ∧ xs[i]? = some x ∧ ys[i]? = some y
  yld i H v H' := ∃ T x y, v = .ref T ∧ H T = none ∧ H' = upd H T (.tup [x, y]) ∧ (∀ xs, SqT K H a xs → xs[i]? = some x) ∧ ∀ ys, SqL K H b ys → ys[i]? = some y
  stop i H := ∃ xs ys : List V, SqT K H a xs ∧ SqL K H b ys ∧ i = min xs.length ys.length
theorem sepTL {z TI TO i1 i2 a b : Addr} (D : ZipApart z TI TO i1 i2 a b) : ZipSep2 z TI TO i1 i2 [i1, a] [i2, b] where
  TIz := D.TIz
  TOz := D.TOz
  TITO := D.TITO
  TIi1 := D.TIi1
  TIi2 := D.TIi2
  mem1 := List.mem_cons_self
  mem2 := List.mem_cons_self
  zf1 := by simp [D.i1z.symm, D.l1z.symm]
  zf2 := by simp [D.i2z.symm, D.l2z.symm]
  Tf1 := by simp [D.TOi1, D.l1TO.symm]
  Tf2 := by simp [D.TOi2, D.l2TO.symm]
  sep1_2 := by simp [D.i12, D.l2i1.symm]
  sep2_1 := by simp [D.i12.symm, D.l1i2.symm]
/-- how a zip of the two stands -/
structure StTL (a b z TI TO i1 i2 : Addr) (i : Nat) (h : Heap) : Prop where
  z0 : IsZip h z TI TO .none
  ti : IsTupOf2 h TI (.ref i1) (.ref i2)
  to_ : ∃ x y, IsTupOf2 h TO x y
  i1 : h.IsTupleIter i1 a i
  i2 : h.IsListIter i2 b i
theorem StTL.cell {a b z TI TO i1 i2 : Addr} {i : Nat} {h : Heap} (S : StTL a b z TI TO i1 i2 i h) {c : Addr} (hc : c ∈ [z, TI, TO, i1, i2]) : ∃ o, h.get? c = some o ∧ ∀ v, o.data ≠ .cell v := by
  obtain ⟨x, y, h3⟩ := S.to_
  obtain ⟨o1, e1, _, d1⟩ := S.i1
  obtain ⟨o2, e2, _, d2⟩ := S.i2
  simp only [List.mem_cons, List.not_mem_nil, or_false] at hc
  rcases hc with rfl | rfl | rfl | rfl | rfl
  · exact ⟨_, S.z0, fun v q => nomatch q⟩
  · exact ⟨_, S.ti, fun v q => nomatch q⟩
  · exact ⟨_, h3, fun v q => nomatch q⟩
  · exact ⟨o1, e1, fun v q => by rw [d1] at q; cases q⟩
  · exact ⟨o2, e2, fun v q => by rw [d2] at q; cases q⟩
theorem turnTL {P : Program} {w : World} {K : PySem.W.Frag} {elts : List Expr} {kk : Nat} {tpos : Pos} {a b z TI TO i1 i2 : Addr} (D : ZipApart z TI TO i1 i2 a b) :
    Turn P w K (.Tuple elts kk tpos) (ItTL K a b) [z, TI, TO, i1, i2] z (StTL a b z TI TO i1 i2) where
  mem := List.mem_cons_self
  obj i h st c hc := st.cell hc
  keep i h h' st k := by
    obtain ⟨x, y, h3⟩ := st.to_
    exact ⟨k z (by simp) _ st.z0, k TI (by simp) _ st.ti, ⟨x, y, k TO (by simp) _ h3⟩, st.i1.at fun o q => k i1 (by simp) o q, st.i2.at fun o q => k i2 (by simp) o q⟩
  item := by
    rintro X rfl rfl rfl hc i pins s σ H E I hf st ⟨xs, ys, x, y, qa, qb, ex, ey⟩
    obtain ⟨us, rv, pa, _⟩ := I.tuple qa
    obtain ⟨vs, rw', pb, _⟩ := I.list qb
    obtain ⟨u, hu, ru⟩ := rv.get ex
    obtain ⟨v, hv, rv2⟩ := rw'.get ey
    have hh : X.A.in1.handled = none := I.ok.hd hc
    have D1 := Draws.tuple (prog := X.prog) (w := X.w) hh i1 a D.l1i1 us.toArray
    have D2 := Draws.list (prog := X.prog) (w := X.w) hh i2 b D.l2i2 vs.toArray
    obtain ⟨x0, y0, h3⟩ := st.to_
    have l1 : i < us.toArray.size := by
      rw [List.size_toArray]
      exact (List.getElem?_eq_some_iff.mp hu).1
    have l2 : i < vs.toArray.size := by
      rw [List.size_toArray]
      exact (List.getElem?_eq_some_iff.mp hv).1
    have zl : z < s.heap.objs.size := Heap.lt_size st.z0
    refine wpAny_pyNext_zipD2_item (sepTL D) D1 D2 st.z0 st.ti h3 ⟨st.i1, pa⟩ ⟨st.i2, pb.isList⟩ l1 l2 fun x1 x2 h' tk p1 p2 b1 b2 s1 s2 b5 sz hk => ?_
    have e1 : x1 = u := by
      have q : us.toArray[i]? = some x1 := p1
      rw [List.getElem?_toArray, hu] at q
      exact (Option.some.inj q).symm
    have e2 : x2 = v := by
      have q : vs.toArray[i]? = some x2 := p2
      rw [List.getElem?_toArray, hv] at q
      exact (Option.some.inj q).symm
    subst e1 e2
    refine ⟨_, rfl, wpAny_letOwnedTupleGo_zip (s := { s with heap := h', toks := tk }) b1 fun h2 z2 sb => ?_⟩
    have hT : h2.get? s.heap.objs.size = some { cls := .type "tuple", data := .seq #[x1, x2] } := (sb.2 _ (Nat.ne_of_gt zl)).trans b5
    have new : ObjOk X.prog X.w (upd H s.heap.objs.size (.tup [x, y])) h2 s.heap.objs.size (.tup [x, y]) := ⟨by show 2 ≤ sizeLine; decide, [x1, x2], .cons ru (.cons rv2 .nil), ⟨_, hT, rfl, _, rfl⟩⟩
    have I1 : Inv X pins σ (upd H s.heap.objs.size (.tup [x, y])) { s with heap := h2, toks := tk } :=
      I.turnedNew (t' := tk) (ch := [z, TI, TO, i1, i2]) (fun c o hb q => (sb.2 c fun e => hb (by simp [e])).trans (hk c o (fun e => hb (by simp [e])) (fun e => hb (by simp [e])) (fun e => hb (by simp [e])) (fun e => hb (by simp [e])) q)) hf (Nat.le_refl _) new
    refine ⟨.ref s.heap.objs.size, _, I1, rfl, ⟨_, x, y, rfl, I.hok.fresh (Nat.le_refl _), rfl, fun l hl => by rw [I.tuple_inj hl qa]; exact ex, fun l hl => by rw [I.list_inj hl qb]; exact ey⟩,
      ⟨z2, (sb.2 _ D.TIz).trans (hk _ _ D.TIz D.TITO D.TIi1 D.TIi2 st.ti), ⟨x1, x2, (sb.2 _ D.TOz).trans b2⟩, s1.1.at fun o q => (sb.2 _ D.i1z).trans q, s2.1.at fun o q => (sb.2 _ D.i2z).trans q⟩, fun c hcm => ?_⟩
    obtain ⟨o, ho, _⟩ := st.cell hcm
    rw [upd_ne (Nat.ne_of_lt (Heap.lt_size ho))]
    exact (hf c hcm).1
  done := by
    rintro X rfl rfl rfl hc i pins s σ H E I hf st ⟨xs, ys, qa, qb, hend⟩
    obtain ⟨us, rv, pa, _⟩ := I.tuple qa
    obtain ⟨vs, rw', pb, _⟩ := I.list qb
    have hh : X.A.in1.handled = none := I.ok.hd hc
    have D1 := Draws.tuple (prog := X.prog) (w := X.w) hh i1 a D.l1i1 us.toArray
    have D2 := Draws.list (prog := X.prog) (w := X.w) hh i2 b D.l2i2 vs.toArray
    obtain ⟨x0, y0, h3⟩ := st.to_
    have l1 := rv.length
    have l2 := rw'.length
    refine wpAny_pyNext_zipD2_end (sepTL D) D1 D2 st.z0 st.ti h3 ⟨st.i1, pa⟩ ⟨st.i2, pb.isList⟩ (by rw [List.size_toArray]; omega) (by rw [List.size_toArray]; omega) (by rw [List.size_toArray, List.size_toArray]; omega) fun h' tk hk => ⟨rfl, ?_⟩
    exact I.turnedL (t' := tk) (ch := [z, TI, TO, i1, i2]) (fun c o hb q => hk c o (fun e => hb (by simp [e])) (fun e => hb (by simp [e])) (fun e => hb (by simp [e])) (fun e => hb (by simp [e])) q) hf
  self A i s Q E st h := wpAny_pyIter_zip st.z0 h
/-- zip(a tuple, a list) -/
def iZipTL (K : PySem.W.Frag) (ta : TA) : TI := fun σ H R => ta σ H fun vs H1 => ∃ a b xs ys, vs = [.ref a, .ref b] ∧ SqT K H1 a xs ∧ SqL K H1 b ys ∧ R (ItTL K a b) H1
theorem pi_zipTL {X : Cx} {e e2 : Expr} {ta : TA} {p pos tpos : Pos} {elts : List Expr} {kk : Nat} (hg : Gl X "zip") (hm : X.mg "zip" = none) (ha : PA X [e, e2] ta)
    (hs : starEach [e, e2] X.env = (false, eval e X.env) :: starEach [e2] X.env := by rfl) (hpl : (backTo pos (starEach [e2] X.env)).any (·.1) = false := by rfl) : PI X (.Tuple elts kk tpos) (.Call (.Name "zip" p) [e, e2] [] pos) (iZipTL X.K ta) := by
  refine ⟨fun pins s σ H R I h => Call_ (ld_blt I hg hm PyProof.Rows.boot_zip (PyProof.Rows.callWith_type1 (thn (ha.run pos pins s σ H _ I h) fun us s1 ⟨vs, H1, I1, r1, q1⟩ => ?_) hs hpl))⟩
  obtain ⟨a, b, xs, ys, rfl, qa, qb, q⟩ := q1
  obtain ⟨u1, u2, rfl, ra, rb⟩ : ∃ u1 u2, us = [u1, u2] ∧ RelV (.ref a) u1 ∧ RelV (.ref b) u2 := by
    cases r1 with
    | cons r rr => cases rr with
      | cons r' rr =>
        cases rr
        exact ⟨_, _, rfl, r, r'⟩
  cases ra
  cases rb
  obtain ⟨us, rv, pa, _⟩ := I1.tuple qa
  obtain ⟨vs, rw', pb, _⟩ := I1.list qb
  obtain ⟨oa, ga, _⟩ := id pa
  have fr : ∀ c, s1.heap.objs.size ≤ c → FpOk X pins H1 c := fun c hc => I1.fpOk hc (I1.hok.fresh hc)
  refine zip_begins2 (begins_tuple a us.toArray) (begins_list b vs.toArray) pa pb.isList fun h' hz hTI hTO h1 h2 hsz hk => wpAny_pyIter_zip hz ?_
  have I2 : Inv X pins σ H1 { s1 with heap := h' } := I1.kept (t' := s1.toks) hk
  refine ⟨s1.heap.objs.size + 4, [s1.heap.objs.size + 4, s1.heap.objs.size + 2, s1.heap.objs.size + 3, s1.heap.objs.size, s1.heap.objs.size + 1], _, _, H1, rfl, I2, turnTL (PySem.W.ktu_apart s1.heap.objs.size a b (Heap.lt_size ga) pb.lt), ⟨hz, hTI, ⟨_, _, hTO⟩, ⟨_, h1, rfl, rfl⟩, ⟨_, h2, rfl, rfl⟩⟩, fun c hc => fr c ?_, q⟩
  simp only [List.mem_cons, List.not_mem_nil, or_false] at hc
  rcases hc with e | e | e | e | e <;> (rw [e]; first | exact Nat.le_add_right _ _ | exact Nat.le_refl _)
theorem walk_zipTL {K : PySem.W.Frag} {a b : Addr} {xs ys : List V} {n : Nat} (hn : n = min xs.length ys.length) : Walk (ItTL K a b) n (fun H => SqT K H a xs ∧ SqL K H b ys) (YPair (fun i => xs[i]?) fun i => ys[i]?) where
  goes i H hi q := ⟨xs, ys, xs[i]'(by omega), ys[i]'(by omega), q.1, q.2, List.getElem?_eq_getElem (by omega), List.getElem?_eq_getElem (by omega)⟩
  stops H q := ⟨xs, ys, q.1, q.2, hn⟩
  yields i H v H' _ q y := by
    obtain ⟨T, x, z, h1, h2, h3, h4, h5⟩ := y
    exact ⟨T, x, z, h1, h2, h3, h4 xs q.1, h5 ys q.2⟩
end Xh
end
section
set_option Elab.async false
set_option linter.all false
set_option maxRecDepth 100000
set_option maxHeartbeats 2000000
/-! t[::-1] of a tuple -/
namespace HT
open PySem PySem.Spec PyProof.Rows
section
variable {prog : Program} {w : World} {A : Around} {E : Value → Shared → Prop} {s : Shared}
theorem adjust_rev (n : Nat) : Builtin.Slice.sliceAdjust none none (-1) (n : Int) = ((n : Int) - 1, -1) := rfl
theorem places_rev (n : Nat) : Builtin.Slice.slicePlaces ((n : Int) - 1) (-1) (-1) = n := by
  unfold Builtin.Slice.slicePlaces
  rw [if_neg (by decide)]
  split
  · rw [show -(-1 : Int) = 1 from rfl, Int.ediv_one]; omega
  · omega
theorem sliceApplied_rev {sl : Addr} {vs : Value} {n : Nat} {Q : Int × Int × Nat → Shared → Prop} (hs : s.heap.IsSliceOf sl .none .none vs) (ps : IsPart vs (some (-1)))
    (h : Q ((n : Int) - 1, -1, n) s) : wpAny (model prog w) A (Builtin.Slice.sliceApplied (.ref sl) (pure (n : Int))) Q E s := by
  obtain ⟨os, hos, hcs, hds⟩ := id hs
  unfold Builtin.Slice.sliceApplied Builtin.Slice.sliceFields
  refine wpAny_bind (wpAny_bind (wpAny_field hos hds (x := .none) rfl (wpAny_bind (wpAny_field hos hds (x := .none) rfl (wpAny_bind (wpAny_field hos hds (x := vs) rfl (wpAny_pure ?_)))))))
  refine wpAny_bind (slicePart_ ps ?_)
  show wpAny _ _ (if ((-1 : Int) == 0) = true then _ else _) _ _ s
  rw [if_neg (by decide)]
  refine wpAny_bind (slicePart_none (wpAny_bind (slicePart_none (wpAny_bind (wpAny_pure ?_)))))
  show wpAny _ _ (match Builtin.Slice.sliceAdjust none none (-1) (n : Int) with | (lo, hi) => pure (lo, (-1 : Int), Builtin.Slice.slicePlaces lo hi (-1))) _ _ s
  rw [adjust_rev]
  show wpAny _ _ (pure ((n : Int) - 1, (-1 : Int), Builtin.Slice.slicePlaces ((n : Int) - 1) (-1) (-1))) _ _ s
  rw [places_rev]
  exact wpAny_pure h
theorem pick_rev (xs : Array Value) : ((List.range xs.size).filterMap fun (m : Nat) => xs[(((xs.size : Nat) : Int) - 1 + (m : Int) * (-1)).toNat]?) = xs.toList.reverse := by
  have e : (fun (m : Nat) => xs[(((xs.size : Nat) : Int) - 1 + (m : Int) * (-1)).toNat]?) = (fun k => xs[k]?) ∘ fun m => xs.size - 1 - m := by
    funext m
    show _ = xs[xs.size - 1 - m]?
    have : (((xs.size : Nat) : Int) - 1 + (m : Int) * (-1)).toNat = xs.size - 1 - m := by omega
    rw [this]
  rw [e, ← List.filterMap_map, PySem.W.krv_range, List.filterMap_reverse, PySem.W.krv_all]
theorem getItem_tuple_rev {t sl : Addr} {items : Array Value} {vs : Value} {Q : Value → Shared → Prop} (ht : IsTup s.heap t items) (hs : s.heap.IsSliceOf sl .none .none vs) (ps : IsPart vs (some (-1)))
    (h : Q (.ref s.heap.objs.size) { s with heap := s.heap.push { cls := .type "tuple", data := .seq items.toList.reverse.toArray } })
    (hsz : items.size ≤ sizeLine) : wpAny (model prog w) A (getItem (.ref t) (.ref sl)) Q E s := by
  have htake : sizeOk (.seq items.toList.reverse.toArray) := by
    show items.toList.reverse.toArray.size ≤ sizeLine
    rw [List.size_toArray, List.length_reverse, Array.length_toList]
    exact hsz
  obtain ⟨os, hos, hcs, hds⟩ := id hs
  have hTs : s.TypeIs (.ref sl) "slice" := ⟨os, hos, hcs⟩
  unfold getItem
  try with_reducible refine wpAny_holding ?_
  first | refine wpAny_bind (wpAny_pure ?_) | skip
  refine wpAny_bind (wpAny_sequenceKey ht.typeIs (by decide) ?_)
  refine wpAny_bind (wpAny_callSpecial?_slot (name := Str.ofString "__getitem__") ht.typeIs PyProof.Rows.slot_tuple_getitem
    (wpAny_call_entry PyProof.Rows.slot_tuple_getitem ht.typeIs entry_tuple_getitem ?_ (args_tuple_getitem _ _)))
  show wpAny _ _ (Builtin.Tuple.tupleItemsOf (.ref t) >>= _) _ _ s
  refine wpAny_bind (tupleItemsOf_ ht ?_)
  refine wpAny_bind (wpAny_typeOf hTs ?_)
  rw [if_pos (by decide)]
  refine wpAny_bind (sliceApplied_rev hs ps ?_)
  have hno : ¬ (((((items.size : Nat) : Int) - 1) == 0 && (-1 : Int) == 1 && items.size == items.size) = true) := by
    intro q
    rw [Bool.and_eq_true, Bool.and_eq_true] at q
    exact absurd q.1.2 (by decide)
  show wpAny _ _ (if ((((items.size : Nat) : Int) - 1) == 0 && (-1 : Int) == 1 && items.size == items.size) = true then _ else _) _ _ s
  rw [if_neg hno, pick_rev]
  first
    | exact wpAny_bind (m := Builtin.Tuple.tupleExact _) (wpAny_newObj_type (wpAny_pure ⟨_, rfl, wpAny_pure h⟩) htake)
    | exact wpAny_bind (m := Builtin.Tuple.tupleExact _) (wpAny_newObj_type (wpAny_bind (wpAny_pure (wpAny_pure ⟨_, rfl, wpAny_pure h⟩))) htake)
    | exact wpAny_bind (wpAny_bind (m := Builtin.Tuple.tupleExact _) (wpAny_newObj_type (wpAny_pure (wpAny_pure ⟨_, rfl, wpAny_pure h⟩)) htake))
    | exact wpAny_bind (wpAny_bind (m := Builtin.Tuple.tupleExact _) (wpAny_newObj_type (wpAny_pure ⟨_, rfl, wpAny_pure h⟩) htake))
end
end HT
namespace Xh
open PySem PySem.Spec PyProof.Rows L2
section
variable {X : Cx}
def tRevT (K : PySem.W.Frag) (te : TE) : TE := fun σ H Q => te σ H fun x H1 => ∃ a xs, x = .ref a ∧ SqT K H1 a xs ∧ ∀ p, H1 p = none → Q (.ref p) (upd H1 p (.tup xs.reverse))
theorem pe_revT {e : Expr} {te : TE} {k : Nat} {p1 p2 p3 pos : Pos} (he : PE X e te) : PE X (.Subscript e (.Slice none none (some (.UnaryOp .USub (.Constant (.int 1) k p1) p2)) p3) pos) (tRevT X.K te) := by
  refine ⟨fun pins s σ H Q I h => ?_⟩
  refine Subscript_ (thn (he.run pins s σ H _ I h) fun v s1 ⟨x, H1, I1, r1, q1⟩ => ?_)
  obtain ⟨a, xs, ex, hx, q⟩ := q1
  subst ex
  cases r1
  have hst : PO X (some (.UnaryOp .USub (.Constant (.int 1) k p1) p2)) (tPart (tUn (rU fun i => .int (-i)) (tC (.int 1)))) := po_some (pe_un un_neg pe_int)
  refine wpAny_Slice (thn (po_none.run pins s1 σ H1 (fun o H2 => o = none ∧ H2 = H1) I1 ⟨rfl, rfl⟩) fun vl s2 ⟨l, H2, I2, pl, el, e2⟩ => ?_)
  subst el e2
  refine thn (po_none.run pins s2 σ H2 (fun o H3 => o = none ∧ H3 = H2) I2 ⟨rfl, rfl⟩) fun vu s3 ⟨u, H3, I3, pu, eu, e3⟩ => ?_
  subst eu e3
  refine thn (hst.run pins s3 σ H3 (fun o H4 => o = some (-1) ∧ H4 = H3) I3 ⟨1, rfl, -1, rfl, rfl, rfl⟩) fun vs s4 ⟨o, H4, I4, ps, eo, e4⟩ => ?_
  subst eo e4
  cases pl
  cases pu
  have I5 : Inv X pins σ H4 { s4 with heap := s4.heap.push { cls := .type "slice", data := .fields #[.none, .none, vs] } } := I4.kept (t' := s4.toks) fun b ob q => Heap.get?_push_of_some _ q
  obtain ⟨its, r, ht, hz⟩ := I5.tuple hx
  have hlen := r.length
  show wpAny (model X.prog X.w) X.A (subscriptTail e (.Slice none none (some (.UnaryOp .USub (.Constant (.int 1) k p1) p2)) p3) (.ref a) (.ref s4.heap.objs.size)) (EP X pins σ Q) X.xe { s4 with heap := s4.heap.push { cls := .type "slice", data := .fields #[.none, .none, vs] } }
  refine tail_any (ops := [.ref a, .ref s4.heap.objs.size]) ht.typeIs (PyProof.Rows.slot_tuple_getitem.lookup) ?_ (by with_unfolding_all rfl)
  refine HT.getItem_tuple_rev ht (Heap.IsSliceOf.new _ .none .none vs) ps ?_ (by rw [List.size_toArray]; omega)
  refine ⟨.ref _, _, I5.laid (t' := s4.toks) (o := .tup xs.reverse) (fun b ob q => Heap.get?_push_of_some _ q) (Nat.le_refl _) ?_, rfl, q _ (I5.hok.fresh (Nat.le_refl _))⟩
  exact ⟨by rw [List.length_reverse]; exact hz, _, by simpa using r.reverse, IsTup.new _ _⟩
end
end Xh
end
section
set_option Elab.async false
set_option linter.all false
set_option maxRecDepth 100000
set_option maxHeartbeats 4000000
/-! y = {k: v for ..} of a local name -/
namespace Xh
open PySem PySem.Spec PyProof.Rows L2
theorem sw_trueD {kx vx : Expr} {gs : List Comprehension} {scope : Scope} {pos py : Pos} {y : Str} {l : Nat} {env : Env} (hk : env.scope.kind = .function) (hy : env.scope.names.lookup y = some .local) (hl : (py.line == pos.line) = true)
    (ha : (scope.names.any fun (n, k) => n == y && (k == .local || k == .cell)) = false) : swapsWith (.DictComp kx vx gs scope pos) (some (.Name y py)) l env = pure true := by
  have e1 : env.kindOf y = some .local := hy
  have e2 : env.blockKind = .function := by
    unfold Env.blockKind
    rw [hk]
    rfl
  unfold swapsWith
  simp only [e2, e1, ha, Expr.pos, hl]
  rfl
theorem ps_setDc {X : Cx} {i : Nat} {y : Str} {py : Pos} {kx vx tg iter : Expr} {ifs : List Expr} {scope : Scope} {own : List (Str × Nat)} {pos spos : Pos} {wi : TI} {g : TG} {tt : TT} {tk tv : TE} (hc : X.calm = true) (hN : X.N.Nodup) (hy : X.N[i]? = some y) (hyl : X.env.scope.names.lookup y = some .local)
    (hsw : swapsWith (.DictComp kx vx [⟨tg, iter, ifs, 0⟩] scope pos) (some (.Name y py)) spos.line X.env = pure true) (hi : PI X tg iter wi) (ok : BlkOk X.N X.env.scope scope own)
    (hg : ∀ (s : Shared) (H : Hp) (C : Addr) (cl : List (Str × Addr)) (fp : List Addr), PG (X.blk s H scope (compEnvC scope cl C X.env) fp) tg g) (ht : ∀ (s : Shared) (H : Hp) (C : Addr) (cl : List (Str × Addr)) (fp : List Addr), PTs (X.blk s H scope (compEnvC scope cl C X.env) fp) ifs tt)
    (hk : ∀ (s : Shared) (H : Hp) (C : Addr) (cl : List (Str × Addr)) (fp : List Addr), PE (X.blk s H scope (compEnvC scope cl C X.env) fp) kx tk)
    (he : ∀ (s : Shared) (H : Hp) (C : Addr) (cl : List (Str × Addr)) (fp : List Addr), PE (X.blk s H scope (compEnvC scope cl C X.env) fp) vx tv) (hs : ∀ x, foldedSetIterable iter X.env x = pure x := by intro _; rfl) :
    PS X (.Assign [.Name y py] (.DictComp kx vx [⟨tg, iter, ifs, 0⟩] scope pos) spos) (tAsg (tDc wi g tt tk tv (own.map (·.2))) (gName i)) := by
  refine ⟨fun pins s σ H D I h => ?_⟩
  rw [exec_Assign_Name_used _ _ _ _ hsw]
  refine wpAny_bind (wpAny_standAt (wpAny_bind ?_))
  show wpAny _ X.A (do let _ ← comprehension (.DictComp kx vx [⟨tg, iter, ifs, 0⟩] scope pos) scope X.env (firstIterPos [⟨tg, iter, ifs, 0⟩] pos) newDict false (eval iter X.env) (some (assign (.Name y py) X.env))) _ _ s
  have h : tDc wi g tt tk tv (own.map (·.2)) σ H (fun x H1 => gName i x σ H1 D.nx) := h
  refine wpAny_bind (thn (dc_core (Qf := fun _ s' => SP X pins D .next s') hc hN I hi ok hg ht hk he hs h fun L C s' m H' I' q hn f => ?_) fun _ s' hq => wpAny_pure (wpAny_pure hq))
  show wpAny _ _ (assign (.Name y py) X.env (.ref L)) _ _ _
  refine wpAny_assign_Name (store_ok2 (v := V.ref L) I' hN hy (.inl hyl) rfl (fun s2 I2 ⟨a, sb, ha⟩ => ?_) (.inr hyl))
  obtain ⟨f0, f1, f2, f3, f4, f5⟩ := f
  have apart : C ≠ a := ha.elim (fun z => by rw [z]; exact f1) fun z e => f4 y a z e.symm
  refine ⟨m, hn.sameBut sb apart, fun h3 sb3 => ?_⟩
  exact ⟨_, H', I2.turned (t' := s2.toks) (fun b o hb e => (sb3.2 b hb).trans e) f0 f1 f3 f4 f5, q⟩
end Xh
end
section
set_option Elab.async false
set_option linter.all false
set_option maxRecDepth 100000
set_option maxHeartbeats 2000000
/-! t[::k] of a tuple, k from 2 -/
namespace HT
open PySem PySem.Spec PyProof.Rows
/-- how many -/
def stN (n k : Nat) : Nat := if n = 0 then 0 else (n - 1) / k + 1
section
variable {prog : Program} {w : World} {A : Around} {E : Value → Shared → Prop} {s : Shared}
theorem adjust_step {k : Nat} (n : Nat) : Builtin.Slice.sliceAdjust none none (k : Int) (n : Int) = (0, (n : Int)) := by
  have h1 : ¬ ((k : Int) < 0) := by omega
  unfold Builtin.Slice.sliceAdjust
  simp only [h1, if_false]
theorem places_step {k : Nat} (hk : 2 ≤ k) (n : Nat) : Builtin.Slice.slicePlaces 0 (n : Int) (k : Int) = stN n k := by
  unfold Builtin.Slice.slicePlaces stN
  rw [if_pos (by omega)]
  by_cases h : n = 0
  · subst h
    rw [if_neg (by decide), if_pos rfl]
    rfl
  · rw [if_pos (by omega), if_neg h]
    have e : ((n : Int) - 0 - 1) = ((n - 1 : Nat) : Int) := by omega
    have z : (((n - 1 : Nat) : Int) / (k : Int)) = (((n - 1) / k : Nat) : Int) := (Int.natCast_ediv _ _).symm
    rw [e, z]
    generalize (n - 1) / k = q
    omega
theorem sliceApplied_step {sl : Addr} {vs : Value} {n k : Nat} (hk : 2 ≤ k) {Q : Int × Int × Nat → Shared → Prop} (hs : s.heap.IsSliceOf sl .none .none vs) (ps : IsPart vs (some (k : Int)))
    (h : Q (0, (k : Int), stN n k) s) : wpAny (model prog w) A (Builtin.Slice.sliceApplied (.ref sl) (pure (n : Int))) Q E s := by
  obtain ⟨os, hos, hcs, hds⟩ := id hs
  unfold Builtin.Slice.sliceApplied Builtin.Slice.sliceFields
  refine wpAny_bind (wpAny_bind (wpAny_field hos hds (x := .none) rfl (wpAny_bind (wpAny_field hos hds (x := .none) rfl (wpAny_bind (wpAny_field hos hds (x := vs) rfl (wpAny_pure ?_)))))))
  refine wpAny_bind (slicePart_ ps ?_)
  show wpAny _ _ (if ((k : Int) == 0) = true then _ else _) _ _ s
  rw [if_neg (by
    intro z
    have := eq_of_beq z
    omega)]
  refine wpAny_bind (slicePart_none (wpAny_bind (slicePart_none (wpAny_bind (wpAny_pure ?_)))))
  show wpAny _ _ (match Builtin.Slice.sliceAdjust none none (k : Int) (n : Int) with | (lo, hi) => pure (lo, (k : Int), Builtin.Slice.slicePlaces lo hi (k : Int))) _ _ s
  rw [adjust_step]
  show wpAny _ _ (pure ((0 : Int), (k : Int), Builtin.Slice.slicePlaces 0 (n : Int) (k : Int))) _ _ s
  rw [places_step hk]
  exact wpAny_pure h
/-- what stands there -/
def stL {α : Type} (xs : List α) (k : Nat) : List α := (List.range (stN xs.length k)).filterMap fun m => xs[m * k]?
theorem pick_step (xs : Array Value) (k : Nat) : ((List.range (stN xs.size k)).filterMap fun (m : Nat) => xs[((0 : Int) + (m : Int) * (k : Int)).toNat]?) = stL xs.toList k := by
  unfold stL
  rw [Array.length_toList]
  have e : (fun (m : Nat) => xs[((0 : Int) + (m : Int) * (k : Int)).toNat]?) = fun m => xs.toList[m * k]? := by
    funext m
    have : ((0 : Int) + (m : Int) * (k : Int)).toNat = m * k := by
      rw [Int.zero_add, ← Int.natCast_mul, Int.toNat_natCast]
    rw [this, Array.getElem?_toList]
  rw [e]
theorem stL_le {α : Type} {xs : List α} {k : Nat} (hk : 2 ≤ k) : (stL xs k).length ≤ xs.length := by
  unfold stL
  refine Nat.le_trans (List.length_filterMap_le _ _) ?_
  rw [List.length_range]
  unfold stN
  split
  · omega
  · have : (xs.length - 1) / k ≤ xs.length - 1 := Nat.div_le_self _ _
    omega
theorem getItem_tuple_step {t sl : Addr} {items : Array Value} {vs : Value} {k : Nat} (hk : 2 ≤ k) {Q : Value → Shared → Prop} (ht : IsTup s.heap t items) (hs : s.heap.IsSliceOf sl .none .none vs) (ps : IsPart vs (some (k : Int)))
    (h : Q (.ref s.heap.objs.size) { s with heap := s.heap.push { cls := .type "tuple", data := .seq (stL items.toList k).toArray } })
    (hsz : items.size ≤ sizeLine) : wpAny (model prog w) A (getItem (.ref t) (.ref sl)) Q E s := by
  have htake : sizeOk (.seq (stL items.toList k).toArray) := by
    show (stL items.toList k).toArray.size ≤ sizeLine
    rw [List.size_toArray]
    refine Nat.le_trans (stL_le hk) ?_
    rw [Array.length_toList]
    exact hsz
  obtain ⟨os, hos, hcs, hds⟩ := id hs
  have hTs : s.TypeIs (.ref sl) "slice" := ⟨os, hos, hcs⟩
  unfold getItem
  try with_reducible refine wpAny_holding ?_
  first | refine wpAny_bind (wpAny_pure ?_) | skip
  refine wpAny_bind (wpAny_sequenceKey ht.typeIs (by decide) ?_)
  refine wpAny_bind (wpAny_callSpecial?_slot (name := Str.ofString "__getitem__") ht.typeIs PyProof.Rows.slot_tuple_getitem
    (wpAny_call_entry PyProof.Rows.slot_tuple_getitem ht.typeIs entry_tuple_getitem ?_ (args_tuple_getitem _ _)))
  show wpAny _ _ (Builtin.Tuple.tupleItemsOf (.ref t) >>= _) _ _ s
  refine wpAny_bind (tupleItemsOf_ ht ?_)
  refine wpAny_bind (wpAny_typeOf hTs ?_)
  rw [if_pos (by decide)]
  refine wpAny_bind (sliceApplied_step hk hs ps ?_)
  have hno : ¬ (((0 : Int) == 0 && (k : Int) == 1 && stN items.size k == items.size) = true) := by
    intro q
    rw [Bool.and_eq_true, Bool.and_eq_true] at q
    have := eq_of_beq q.1.2
    omega
  show wpAny _ _ (if ((0 : Int) == 0 && (k : Int) == 1 && stN items.size k == items.size) = true then _ else _) _ _ s
  rw [if_neg hno, pick_step]
  first
    | exact wpAny_bind (m := Builtin.Tuple.tupleExact _) (wpAny_newObj_type (wpAny_pure ⟨_, rfl, wpAny_pure h⟩) htake)
    | exact wpAny_bind (m := Builtin.Tuple.tupleExact _) (wpAny_newObj_type (wpAny_bind (wpAny_pure (wpAny_pure ⟨_, rfl, wpAny_pure h⟩))) htake)
    | exact wpAny_bind (wpAny_bind (m := Builtin.Tuple.tupleExact _) (wpAny_newObj_type (wpAny_pure (wpAny_pure ⟨_, rfl, wpAny_pure h⟩)) htake))
    | exact wpAny_bind (wpAny_bind (m := Builtin.Tuple.tupleExact _) (wpAny_newObj_type (wpAny_pure ⟨_, rfl, wpAny_pure h⟩) htake))
end
end HT
namespace Xh
open PySem PySem.Spec PyProof.Rows L2
section
variable {X : Cx}
theorem vals_atS {xs : List V} {us : List Value} (r : Vals xs us) : ∀ i : Nat, (xs[i]? = none ∧ us[i]? = none) ∨ ∃ x u, xs[i]? = some x ∧ us[i]? = some u ∧ RelV x u := by
  induction r with
  | nil => exact fun i => .inl ⟨rfl, rfl⟩
  | @cons x u xs us h r ih =>
    intro i
    cases i with
    | zero => exact .inr ⟨x, u, rfl, rfl, h⟩
    | succ i => exact ih i
theorem vals_lenS {xs : List V} {us : List Value} (r : Vals xs us) : xs.length = us.length := r.length
theorem vals_pick {xs : List V} {us : List Value} (r : Vals xs us) (k : Nat) : ∀ l : List Nat, Vals (l.filterMap fun m => xs[m * k]?) (l.filterMap fun m => us[m * k]?)
  | [] => .nil
  | m :: l => by
    rw [List.filterMap_cons, List.filterMap_cons]
    rcases vals_atS r (m * k) with ⟨e1, e2⟩ | ⟨x, u, e1, e2, h⟩
    · rw [e1, e2]
      exact vals_pick r k l
    · rw [e1, e2]
      exact .cons h (vals_pick r k l)
def tStepT (K : PySem.W.Frag) (te tk : TE) : TE := fun σ H Q => te σ H fun x H1 => ∃ a xs, x = .ref a ∧ SqT K H1 a xs ∧ tPart tk σ H1 fun y H2 => ∃ k : Nat, y = some (k : Int) ∧ 2 ≤ k ∧ SqT K H2 a xs ∧ ∀ p, H2 p = none → Q (.ref p) (upd H2 p (.tup (HT.stL xs k)))
theorem pe_stepT {e e2 : Expr} {te tk : TE} {p3 pos : Pos} (he : PE X e te) (hk : PE X e2 tk) : PE X (.Subscript e (.Slice none none (some e2) p3) pos) (tStepT X.K te tk) := by
  refine ⟨fun pins s σ H Q I h => ?_⟩
  refine Subscript_ (thn (he.run pins s σ H _ I h) fun v s1 ⟨x, H1, I1, r1, q1⟩ => ?_)
  obtain ⟨a, xs, ex, hx, q⟩ := q1
  subst ex
  cases r1
  have hst : PO X (some e2) (tPart tk) := po_some hk
  refine wpAny_Slice (thn (po_none.run pins s1 σ H1 (fun o H2 => o = none ∧ H2 = H1) I1 ⟨rfl, rfl⟩) fun vl s2 ⟨l, H2, I2, pl, el, e2'⟩ => ?_)
  subst el e2'
  refine thn (po_none.run pins s2 σ H2 (fun o H3 => o = none ∧ H3 = H2) I2 ⟨rfl, rfl⟩) fun vu s3 ⟨u, H3, I3, pu, eu, e3⟩ => ?_
  subst eu e3
  refine thn (hst.run pins s3 σ H3 (fun o H4 => ∃ k : Nat, o = some (k : Int) ∧ 2 ≤ k ∧ SqT X.K H4 a xs ∧ ∀ p, H4 p = none → Q (.ref p) (upd H4 p (.tup (HT.stL xs k)))) I3 q) fun vs s4 ⟨o, H4, I4, ps, q4⟩ => ?_
  obtain ⟨k, rfl, k2, hx, q⟩ := q4
  cases pl
  cases pu
  have I5 : Inv X pins σ H4 { s4 with heap := s4.heap.push { cls := .type "slice", data := .fields #[.none, .none, vs] } } := I4.kept (t' := s4.toks) fun b ob q => Heap.get?_push_of_some _ q
  obtain ⟨its, r, ht, hz⟩ := I5.tuple hx
  have hlen := r.length
  show wpAny (model X.prog X.w) X.A (subscriptTail e (.Slice none none (some e2) p3) (.ref a) (.ref s4.heap.objs.size)) (EP X pins σ Q) X.xe { s4 with heap := s4.heap.push { cls := .type "slice", data := .fields #[.none, .none, vs] } }
  refine tail_any (ops := [.ref a, .ref s4.heap.objs.size]) ht.typeIs (PyProof.Rows.slot_tuple_getitem.lookup) ?_ (by with_unfolding_all rfl)
  refine HT.getItem_tuple_step k2 ht (Heap.IsSliceOf.new _ .none .none vs) ps ?_ (by rw [List.size_toArray]; omega)
  refine ⟨.ref _, _, I5.laid (t' := s4.toks) (o := .tup (HT.stL xs k)) (fun b ob q => Heap.get?_push_of_some _ q) (Nat.le_refl _) ?_, rfl, q _ (I5.hok.fresh (Nat.le_refl _))⟩
  refine ⟨Nat.le_trans (HT.stL_le k2) hz, HT.stL its k, ?_, IsTup.new _ _⟩
  unfold HT.stL
  rw [hlen]
  exact vals_pick r k _
end
end Xh
end
section
set_option Elab.async false
set_option linter.all false
set_option maxRecDepth 100000
set_option maxHeartbeats 2000000
/-! things of a number and a tuple of numbers: their order, sorted() of them -/
namespace KnO
open PySem PySem.Spec PyProof.Rows Srt SrtO
/-- the first, then the tuples -/
def lx (a b : Int × List Int) : Bool := if a.1 = b.1 then HT.lexLt a.2 b.2 else decide (a.1 < b.1)
theorem lx_eq {a b : Int × List Int} (h : a.1 = b.1) : lx a b = HT.lexLt a.2 b.2 := if_pos h
theorem lx_ne {a b : Int × List Int} (h : a.1 ≠ b.1) : lx a b = decide (a.1 < b.1) := if_neg h
theorem swo {α : Type} (k : α → Int × List Int) : Swo fun v u : α => lx (k v) (k u) := by
  have S := NtL.swo_lexL (fun u : α => (k u).2)
  refine ⟨fun x y h => ?_, fun z y x h2 h1 => ?_⟩
  · show lx (k y) (k x) = false
    have h : lx (k x) (k y) = true := h
    by_cases e : (k x).1 = (k y).1
    · rw [lx_eq e] at h
      rw [lx_eq e.symm]
      exact S.asym x y h
    · rw [lx_ne e] at h
      rw [lx_ne (Ne.symm e)]
      have := of_decide_eq_true h
      exact decide_eq_false (by omega)
  · have h1 : lx (k x) (k y) = false := h1
    have h2 : lx (k y) (k z) = false := h2
    show lx (k x) (k z) = false
    by_cases e1 : (k x).1 = (k y).1
    · by_cases e2 : (k y).1 = (k z).1
      · rw [lx_eq e1] at h1
        rw [lx_eq e2] at h2
        rw [lx_eq (e1.trans e2)]
        exact S.tr z y x h2 h1
      · rw [lx_ne e2] at h2
        have := of_decide_eq_false h2
        rw [lx_ne (by rw [e1]; exact e2)]
        exact decide_eq_false (by omega)
    · rw [lx_ne e1] at h1
      have := of_decide_eq_false h1
      by_cases e2 : (k y).1 = (k z).1
      · rw [lx_ne (by rw [← e2]; exact e1)]
        exact decide_eq_false (by omega)
      · rw [lx_ne e2] at h2
        have := of_decide_eq_false h2
        rw [lx_ne (by omega)]
        exact decide_eq_false (by omega)
/-- v is a tuple of a number and of a tuple of numbers -/
def IsKN (h : Heap) (v : Value) (k : Int × List Int) : Prop := ∃ (a b : Addr) (o : Obj) (t : Tok) (n : Nat) (its : Array Value), v = .ref a ∧ h.get? a = some o ∧ o.cls = .type "tuple" ∧ o.data = .seq #[.int k.1 t, .ref b] n ∧ IsTup h b its ∧ IntsAre its.toList k.2
theorem IsKN.keeps {h h' : Heap} {v : Value} {k : Int × List Int} (p : IsKN h v k) (kp : ∀ b o, h.get? b = some o → o.cls = .type "tuple" → h'.get? b = some o) : IsKN h' v k := by
  obtain ⟨a, b, o, t, n, its, e, ho, hc, hd, ⟨o2, ho2, hc2, n2, hd2⟩, hi⟩ := p
  exact ⟨a, b, o, t, n, its, e, kp _ _ ho hc, hc, hd, ⟨o2, kp _ _ ho2 hc2, hc2, n2, hd2⟩, hi⟩
theorem ints_at {vs : List Value} {ns : List Int} (h : IntsAre vs ns) : ∀ {j : Nat} (hj : j < vs.length), ∃ t, vs[j] = Value.int (ns.getD j 0) t := by
  induction h with
  | nil => intro j hj; exact absurd hj (Nat.not_lt_zero _)
  | @cons n t vs ns r ih =>
    intro j hj
    cases j with
    | zero => exact ⟨_, rfl⟩
    | succ j =>
      obtain ⟨t, e⟩ := ih (j := j) (Nat.lt_of_succ_lt_succ hj)
      exact ⟨t, e⟩
section
variable {prog : Program} {w : World} {A : Around} {s : Shared}
open PySem.SeqAt in
/-- two tuples of numbers are equal or not -/
theorem eq_tups {b c : Addr} {its jts : Array Value} {ns ms : List Int} (hb : IsTup s.heap b its) (hc : IsTup s.heap c jts) (hi : IntsAre its.toList ns) (hj : IntsAre jts.toList ms) (hu : A.units < cLine) : EqAt A s (.ref b) (.ref c) (decide (ns = ms)) := by
  by_cases e : b = c
  · subst e
    obtain ⟨o, ho, _, n, hd⟩ := hb
    obtain ⟨o2, ho2, _, n2, hd2⟩ := hc
    have eo : o = o2 := Option.some.inj (ho.symm.trans ho2)
    subst eo
    rw [hd] at hd2
    injection hd2 with e1 e2
    subst e1
    have en : ns = ms := by
      have z1 := hi
      have z2 := hj
      clear hd ho ho2
      revert z2
      generalize its.toList = l at z1
      clear hi hj
      intro z2
      induction z1 generalizing ms with
      | nil => cases z2; rfl
      | cons n t r ih =>
        cases z2 with
        | cons m u r2 =>
          rw [ih r2]
    rw [decide_eq_true en]
    exact EqAt.same _
  · have z := RcAt.tuples (A := A) (e := fun j => ns.getD j 0 == ms.getD j 0) hb hc hu (fun j h1 h2 => by
      obtain ⟨t, et⟩ := ints_at hi (j := j) (by rw [Array.length_toList]; exact h1)
      obtain ⟨u, eu⟩ := ints_at hj (j := j) (by rw [Array.length_toList]; exact h2)
      rw [Array.getElem_toList] at et eu
      rw [et, eu]
      exact EqAt.int_int _ _ _ _)
    have l1 : its.size = ns.length := by rw [← hi.length, Array.length_toList]
    have l2 : jts.size = ms.length := by rw [← hj.length, Array.length_toList]
    have eb : ((List.range (min its.size jts.size)).all (fun j => ns.getD j 0 == ms.getD j 0) && its.size == jts.size) = decide (ns = ms) := by
      rw [l1, l2]
      by_cases en : ns = ms
      · subst en
        simp
      · rw [decide_eq_false en]
        by_cases el : ns.length = ms.length
        · have : ((List.range (min ns.length ms.length)).all (fun j => ns.getD j 0 == ms.getD j 0)) = false := by
            rw [Bool.eq_false_iff]
            intro h
            rw [List.all_eq_true] at h
            refine en (List.ext_getElem el fun j h1 h2 => ?_)
            have z := h j (List.mem_range.mpr (by omega))
            have z := eq_of_beq z
            rw [List.getD_eq_getElem?_getD, List.getD_eq_getElem?_getD, List.getElem?_eq_getElem h1, List.getElem?_eq_getElem h2] at z
            exact z
          rw [this]
          rfl
        · rw [show (ns.length == ms.length) = false from by simpa using el, Bool.and_false]
    rw [eb] at z
    exact .of_refs e z
theorem lx_self (a : List Int) : HT.lexLt a a = false := (NtL.swo_lexL (fun u : List Int => u)).refl a
/-- how two of them compare -/
theorem kn_cmp {vs : List Value} {k : Value → Int × List Int} (hu : A.units < cLine) (hp : ∀ v ∈ vs, IsKN s.heap v (k v)) : Cmp prog w A s (tuples' true) (fun p => p.1 ∈ vs) (lt2 fun v u => lx (k v) (k u)) := by
  intro p q hm hm'
  have h1 := hp _ hm
  have h2 := hp _ hm'
  show wpAny (model prog w) A (keyLt' (tuples' true) p.1 q.1) (fun r s' => s' = s ∧ r = lx (k p.1) (k q.1)) (fun _ _ => False) s
  generalize k p.1 = x at h1 ⊢
  generalize k q.1 = y at h2 ⊢
  obtain ⟨a, b, o, t, n, its, e, ho, hc, hd, hT, hi⟩ := h1
  obtain ⟨a', b', o', t', n', its', e', ho', hc', hd', hT', hi'⟩ := h2
  rw [e, e']
  refine PySem.W.kat_lt ho hd ho' hd' ?_
  show PySem.W.KatLex prog w A true (decide (2 < 2)) _ [(.int x.1 t, .int y.1 t'), (.ref b, .ref b')] 0 s
  refine PySem.W.kat_cons (SeqAt.EqAt.int_int x.1 t y.1 t' prog w _ _ ?_)
  refine PySem.W.kat_go (fun e1 => ?_) (fun e1 => ?_)
  · have ex : x.1 = y.1 := by simpa using e1
    rw [lx_eq ex]
    refine PySem.W.kat_yes (PySem.W.kat_cons (eq_tups hT hT' hi hi' hu prog w _ _ ?_))
    refine PySem.W.kat_go (fun e2 => ?_) (fun e2 => ?_)
    · have ey : x.2 = y.2 := of_decide_eq_true e2
      rw [ey, lx_self]
      exact PySem.W.kat_yes (PySem.W.kat_nil ⟨rfl, rfl⟩)
    · exact PySem.W.kat_no (PySem.W.kat_one _ _ (HT.lt_tupInts hT hT' hi hi' hu ⟨rfl, rfl⟩))
  · have ex : ¬ x.1 = y.1 := by simpa using e1
    rw [lx_ne ex]
    exact PySem.W.kat_no (oneLt_int ⟨rfl, rfl⟩)
theorem kn_firsts {h : Heap} : ∀ {vs : List Value}, (∀ v ∈ vs, ∃ k, IsKN h v k) → ∃ fs : List Value, PySem.W.KatTups h vs fs ∧ fs.length = vs.length ∧ ∀ f ∈ fs, ∃ x t, f = Value.int x t
  | [], _ => ⟨[], PySem.W.KatTups.nil, rfl, fun _ hm => by simp at hm⟩
  | v :: vs, hp => by
    obtain ⟨fs, h1, h2, h3⟩ := kn_firsts (vs := vs) fun v' hm => hp v' (List.mem_cons_of_mem _ hm)
    obtain ⟨k, a, b, o, t, n, its, e, ho, hc, hd, _⟩ := hp v (List.mem_cons_self ..)
    subst e
    refine ⟨.int k.1 t :: fs, PySem.W.KatTups.cons ho hc hd rfl h1, by rw [List.length_cons, List.length_cons, h2], fun f hm => ?_⟩
    rcases List.mem_cons.mp hm with rfl | hm
    · exact ⟨k.1, t, rfl⟩
    · exact h3 f hm
/-- their kind as keys -/
theorem kn_kind {vs : List Value} {k : Value → Int × List Int} {Q : SortKind → Shared → Prop} {E : Value → Shared → Prop} (h0 : 0 < vs.length) (hp : ∀ v ∈ vs, IsKN s.heap v (k v)) (hq : Q (tuples' true) s) : wpAny (model prog w) A (keyKind' vs.toArray) Q E s := by
  obtain ⟨fs, h1, h2, h3⟩ := kn_firsts fun v hm => ⟨_, hp v hm⟩
  refine PySem.W.kat_kind (T := .type "int") h1 (by omega) (fun f hm => ?_) (by rfl) ?_
  · obtain ⟨x, t, rfl⟩ := h3 f hm
    exact PySem.W.Looks.now
  · have e : (Value.type "int" != Value.type "tuple") = true := by first | decide +kernel | rfl | decide
    rw [e]
    exact hq
theorem kn_sortable {a : Addr} {vs : List Value} {k : Value → Int × List Int} (h0 : 0 < vs.length) (hu : A.units < cLine) (hp : ∀ v ∈ vs, IsKN s.heap v (k v)) (ha : ∀ o, s.heap.get? a = some o → o.cls ≠ .type "tuple") : SortableO prog w A s a vs fun v u => lx (k v) (k u) := by
  intro h' keep
  have hp' : ∀ v ∈ vs, IsKN h' v (k v) := fun v hm => (hp v hm).keeps fun b o e c => keep b o (fun z => by subst z; exact ha o e c) e
  exact ⟨tuples' true, fun Q E hq => kn_kind (s := { s with heap := h' }) h0 hp' hq, kn_cmp (s := { s with heap := h' }) hu hp'⟩
/-- sorted(l) of them -/
theorem sorted_kn {l : Addr} {vs : List Value} {k : Value → Int × List Int} {E : Value → Shared → Prop} {Q : Value → Shared → Prop} (hl : s.heap.IsList l vs.toArray) (hz : vs.length ≤ sizeLine) (hu : A.units + 2 < cLine) (hp : ∀ v ∈ vs, IsKN s.heap v (k v))
    (h : ∀ (h' : Heap) (d : Addr) (out : List Value), Srtd (fun v u => lx (k v) (k u)) out → Stb (fun v u => lx (k v) (k u)) out vs → (∀ b o, s.heap.get? b = some o → h'.get? b = some o) → s.heap.objs.size ≤ d → (∃ n, h'.get? d = some (seqObj "list" out.toArray n)) → Q (.ref d) { s with heap := h' }) :
    wpAny (model prog w) A (call (.builtin "sorted") [.ref l]) Q E s := by
  refine sorted_ord (swo k) hl hz (fun h2 h₁ a ha kp => ?_) fun out h1 h2 => ?_
  · refine kn_sortable (s := { s with heap := h₁ }) (by omega) (by show A.units + 1 + 1 < cLine; omega) (fun v hm => (hp v hm).keeps fun b o e _ => (kp b o e).2) fun o e => ?_
    have e' : some o = some (seqObj "list" vs.toArray 0) := e.symm.trans ha
    cases e'
    intro c
    exact absurd (Value.type.inj c) (by decide)
  · exact h _ _ out h1 h2 (fun b o e => sortedAll_old e) (Nat.le_succ _) (sortedAll_at s.heap vs out.toArray)
end
end KnO
end
section
set_option Elab.async false
set_option linter.all false
set_option maxRecDepth 100000
set_option maxHeartbeats 2000000
/-! sorted(xs, key=lambda t: (len(t), t)) of tuples of numbers -/
namespace KnO
open PySem PySem.Spec PyProof.Rows Srt SrtO
theorem ints_uniq : ∀ {vs : List Value} {ns ms : List Int}, IntsAre vs ns → IntsAre vs ms → ns = ms
  | _, _, _, .nil, .nil => rfl
  | _, _, _, .cons n t r, h => by
    cases h with
    | cons m u r2 => rw [ints_uniq r r2]
theorem IsKN.uniq {h : Heap} {v : Value} {k l : Int × List Int} (x : IsKN h v k) (y : IsKN h v l) : k = l := by
  obtain ⟨a, b, o, t, n, its, e, ho, hc, hd, ⟨o2, ho2, hc2, n2, hd2⟩, hi⟩ := x
  obtain ⟨a', b', o', t', n', its', e', ho', hc', hd', ⟨o2', ho2', hc2', n2', hd2'⟩, hi'⟩ := y
  rw [e] at e'
  cases e'
  rw [ho] at ho'
  cases ho'
  rw [hd] at hd'
  injection hd' with e1 e2
  have e1 := congrArg Array.toList e1
  injection e1 with e3 e4
  injection e4 with e5 e6
  injection e3 with e7 e8
  cases e5
  rw [ho2] at ho2'
  cases ho2'
  rw [hd2] at hd2'
  injection hd2' with e9 e10
  cases e9
  exact Prod.ext e7 (ints_uniq hi hi')
open Classical in
/-- what a thing is as a key -/
noncomputable def kn (h : Heap) (v : Value) : Int × List Int := if x : ∃ k, IsKN h v k then x.choose else (0, [])
theorem kn_eq {h : Heap} {v : Value} {k : Int × List Int} (x : IsKN h v k) : kn h v = k := by
  have e : ∃ k, IsKN h v k := ⟨k, x⟩
  unfold kn
  rw [dif_pos e]
  exact e.choose_spec.uniq x
end KnO
namespace Xh
open PySem PySem.Spec PyProof.Rows L2 LamX NdefX Srt SrtO
theorem sameT0 {K : PySem.W.Frag} {H H' : Hp} {a : Addr} {xs : List V} (e : Same H H') (h : SqT K H a xs) : SqT K H' a xs := by
  rcases h with (h | ⟨o, h⟩) | h
  · exact .inl (.inl (e _ _ h))
  · exact .inl (.inr ⟨o, e _ _ h⟩)
  · exact .inr h
theorem same_upd0 {H : Hp} {p : Addr} {o : HO} (n : H p = none) : Same H (L2.upd H p o) := fun b u e => by
  rw [L2.upd_ne (fun z => by rw [z, n] at e; cases e)]
  exact e
/-- the key's promise: a new pair, of the length and the tuple -/
def spKeyL (K : PySem.W.Frag) : List (Option V) → Sp := fun _ vs H Q _ => ∃ (t : Addr) (ns : List Int), vs = [.ref t] ∧ SqT K H t (ns.map V.int) ∧ ∀ p, H p = none → Q (.ref p) (L2.upd H p (.tup [.int (ns.length : Nat), .ref t]))
/-- ours: laid behind the start, no cell, no pin -/
structure Ours (X : Cx) (pins : List (Addr × Obj)) (a : Addr) : Prop where
  sz : X.s_0.heap.objs.size ≤ a
  loc : a ≠ X.env.locals
  fs : a ∉ X.fs
  cell : ∀ x c, X.env.cells.lookup x = some c → c ≠ a
  pin : ∀ p ∈ X.pn ++ pins, p.1 ≠ a
section
variable {X : Cx} {pins : List (Addr × Obj)} {σ : L2.St} {H : Hp} {s : Shared} {a : Addr} {o o' : Obj} {h' : Heap}
theorem ours_new (I : Inv X pins σ H s) (ha : s.heap.objs.size ≤ a) : Ours X pins a := by
  refine ⟨Nat.le_trans I.sz ha, Nat.ne_of_gt (Nat.lt_of_lt_of_le I.lt ha), I.nofs ha, fun x c e z => ?_, fun p hp z => ?_⟩
  · obtain ⟨v, o, ho, _⟩ := I.cell x c e
    rw [z] at ho
    exact absurd (Heap.lt_size ho) (Nat.not_lt_of_le ha)
  · have := (I.pin p hp).1
    rw [z] at this
    exact absurd (Heap.lt_size this) (Nat.not_lt_of_le ha)
theorem pin_set {t' : Nat} (W : Ours X pins a) (I : Inv X ((a, o) :: pins) σ H s) (k : ∀ b u, b ≠ a → s.heap.get? b = some u → h'.get? b = some u) (ho : h'.get? a = some o') (hc : ∀ v, o'.data ≠ .cell v) : Inv X ((a, o') :: pins) σ H { s with heap := h', toks := t' } := by
  have n := ClX.pin_un I
  have J := (ClX.unpin I).turned (t' := t') k n W.loc (.inr W.sz) W.cell W.pin
  refine J.pins_of fun p hp => ?_
  rcases List.mem_cons.mp hp with e | e
  · subst e
    exact ⟨ho, n, W.loc, W.fs, hc⟩
  · exact J.pin p (List.mem_append_right _ e)
theorem adopt {t' : Nat} {u : HO} (W : Ours X pins a) (I : Inv X ((a, o) :: pins) σ H s) (k : ∀ b v, b ≠ a → s.heap.get? b = some v → h'.get? b = some v) (new : ObjOk X.prog X.w (L2.upd H a u) h' a u) : Inv X pins σ (L2.upd H a u) { s with heap := h', toks := t' } := by
  have n := ClX.pin_un I
  have hne : ∀ b v, H b = some v → b ≠ a := fun b v e z => by rw [z, n] at e; cases e
  refine (ClX.unpin I).step (g' := s.gens) (d' := s.drawn) (ch := [a]) (fun b hb => ?_) (fun b o _ _ hc e _ => k b o (fun z => hc (by simp [z])) e) (fun b o _ _ hc e _ => ⟨o.slots, k b o (fun z => hc (by simp [z])) e⟩)
    (fun b o hc e m => by rw [L2.upd_ne (fun z => hc (by simp [z]))]; exact m) (fun b o hc e => ⟨o, k b o (fun z => hc (by simp [z])) e⟩) (fun b xs e => by rw [L2.upd_ne (hne b _ e)]; exact e) (fun b o u e => by rw [L2.upd_ne (hne b _ e)]; exact e)
    (fun b ps e => ⟨#[], by rw [L2.upd_ne (hne b _ e), e]; simp⟩) (fun m hm => ?_) (fun b v e => ?_) I.bare
  · have e : b = a := by simpa using hb
    subst e
    exact ⟨.inr W.sz, W.loc, W.cell, W.pin⟩
  · obtain ⟨o, es, ep, ho, r⟩ := hm
    exact ⟨o, es, ep, k _ o (Ne.symm W.loc) ho, r⟩
  · by_cases hb : b = a
    · subst hb
      rw [L2.upd_same] at e
      cases e
      exact new
    · rw [L2.upd_ne hb] at e
      refine (I.hok b v e).stay (fun c w hc q => k c w ?_ q) (fun c q => by rw [L2.upd_ne (hne c _ q)]; exact q) fun c xs q => by rw [L2.upd_ne (hne c _ q)]; exact q
      rcases hc with z | z
      · rw [z]
        exact hb
      · exact hne c _ z
end
section
variable {X : Cx} {pins : List (Addr × Obj)} {σ : L2.St} {H : Hp} {s : Shared}
/-- the key called -/
theorem key_call {kl : Nat} {f : Addr} {F : NF} {b : Expr} {lps : List Str} {t : Addr} {ns : List Int} (Fn : NOkL X.prog X.w X.K X.mg X.base CX0 kl f F b lps [] (spKeyL X.K)) (hcl : F.cl = []) (hr : Room (kl + 2) X.A) (I : Inv X pins σ H s) (ef : H f = some (LamO f F b)) (ec : H F.c = some (CodeO F.c F.qual)) (ht : SqT X.K H t (ns.map V.int)) :
    wpAny (model X.prog X.w) X.A.in1.in1 (call (.ref f) [.ref t]) (fun u s' => ∃ p, u = .ref p ∧ H p = none ∧ Inv X pins σ (L2.upd H p (.tup [.int (ns.length : Nat), .ref t])) s') (fun _ _ => False) s := by
  have e0 : Env0 X.prog X.w X.K X.mg X.base X.A.in1.in1 X.stack s H := I.env0.in1.in1
  have C : CellsAt F.cl [] [] s.heap H := by
    rw [hcl]
    exact ⟨rfl, fun y c e => (by cases e), fun x y c e => (by cases e), fun i y e => (by cases e)⟩
  refine wpAny_call (codeAny_mono (Fn.run X.A.in1.in1 X.stack s H [.ref t] [.ref t] [] (fun v H' => ∃ p, v = .ref p ∧ H p = none ∧ H' = L2.upd H p (.tup [.int (ns.length : Nat), .ref t])) E0 hr.in1.in1 e0 ef ec C (.cons rfl .nil) ⟨t, ns, rfl, ht, fun p hp => ⟨p, rfl, hp, rfl⟩⟩) fun r s' hq => ?_)
  cases r with
  | error e => exact (show False from hq).elim
  | ok fl =>
    cases fl with
    | ret u =>
      obtain ⟨v, H', I', rv, p, rfl, hp, rfl⟩ := I.after hq
      cases rv
      exact ⟨p, rfl, hp, I'⟩
    | next => exact False.elim hq
    | brk => exact False.elim hq
    | cont => exact False.elim hq
end
def adV : Value → Addr
  | .ref a => a
  | _ => 0
def kk (k : Addr → List Int) (t : Addr) : Int × List Int := (((k t).length : Nat), k t)
/-- before, as sorted by the key -/
def Ksd (k : Addr → List Int) (ys : List Addr) : Prop := ys.Pairwise fun t u => KnO.lx (kk k u) (kk k t) = false
section
variable {X : Cx} {pins : List (Addr × Obj)} {σ : L2.St} {H : Hp} {s : Shared}
theorem refs_map {as : List Addr} : (as.map Value.ref).map adV = as := by
  rw [List.map_map]
  exact (List.map_congr_left fun _ _ => rfl).trans (List.map_id as)
theorem vals_refs : ∀ as : List Addr, Vals (as.map V.ref) (as.map Value.ref)
  | [] => .nil
  | _ :: as => .cons rfl (vals_refs as)
/-- the sorted arrangement is put in place -/
theorem key_tail {D kS : Addr} {e e1 : Nat} {as ks : List Addr} {k : Addr → List Int} {st : SortSt} {P : PySem.Fin → Shared → Prop} {E : Value → Shared → Prop} (WD : Ours X pins D) (WK : Ours X ((D, seqObj "list" #[] e1) :: pins) kS)
    (I : Inv X ((kS, seqObj "list" (ks.map Value.ref).toArray e) :: (D, seqObj "list" #[] e1) :: pins) σ H s) (hz : as.length ≤ sizeLine) (lk : ks.length = as.length)
    (hkey : ∀ (j : Nat) (t p : Addr), as[j]? = some t → ks[j]? = some p → KnO.IsKN s.heap (.ref p) (kk k t))
    (hs : Srtd (lt2 fun v u => KnO.lx (KnO.kn s.heap v) (KnO.kn s.heap u)) (arrOf st).toList) (hp : (arrOf st).toList.Perm ((ks.map Value.ref).zip (as.map Value.ref))) (hf : failedOf st = none)
    (h : ∀ (ys : List Addr) (s' : Shared), Inv X pins σ (L2.upd H D (.lst (ys.map V.ref))) s' → ys.Perm as → Ksd k ys → P (.done (.ret .none)) s') :
    wpAny (model X.prog X.w) X.A.in1.in1 (ksk_tail D false e1 (.ref kS) st) P E s := by
  have nk := ClX.pin_at I
  have na := ClX.pin_at (ClX.unpin I)
  have hka : kS ≠ D := fun z => WK.pin (D, seqObj "list" #[] e1) (List.mem_append_right _ List.mem_cons_self) z.symm
  have nk : s.heap.get? kS = some (seqObj "list" (ks.map Value.ref).toArray e) := nk
  have na : s.heap.get? D = some (seqObj "list" #[] e1) := na
  have s1 := Heap.SameBut.update s.heap kS (Obj.mapSeq fun _ => (#[] : Array Value))
  have na1 : (s.heap.update kS (Obj.mapSeq fun _ => (#[] : Array Value))).get? D = some (seqObj "list" #[] e1) := (s1.2 D hka.symm).trans na
  obtain ⟨c1, hc1⟩ : ∃ c, (s.heap.update kS (Obj.mapSeq fun _ => (#[] : Array Value))).get? kS = some (seqObj "list" #[] c) := ⟨_, get?_update_seq nk fun _ => #[]⟩
  have lst : (arrOf st).toList.length = as.length := by
    rw [hp.length_eq, List.length_zip, List.length_map, List.length_map, lk, Nat.min_self]
  have lkz : (ks.map Value.ref).toArray.size ≤ sizeLine := by
    rw [List.size_toArray, List.length_map, lk]
    exact hz
  unfold ksk_tail
  try dsimp only
  refine wpAny_bind (listUpdate_at nk rfl ?_ lkz (Nat.zero_le _))
  refine wpAny_bind (wpAny_letGo ?_)
  refine wpAny_bind (seqEpoch_at na1 rfl ?_)
  have hmem : ∀ q ∈ (arrOf st).toList, ∃ (j : Nat) (t p : Addr), as[j]? = some t ∧ ks[j]? = some p ∧ q = (Value.ref p, Value.ref t) := fun q hq => by
    have hq := hp.mem_iff.mp hq
    obtain ⟨j, hj⟩ := List.mem_iff_getElem?.mp hq
    rw [List.getElem?_zip_eq_some] at hj
    obtain ⟨h1, h2⟩ := hj
    rw [List.getElem?_map] at h1 h2
    obtain ⟨p, e1, e2⟩ := Option.map_eq_some_iff.mp h1
    obtain ⟨t, e3, e4⟩ := Option.map_eq_some_iff.mp h2
    exact ⟨j, t, p, e3, e1, Prod.ext e2.symm e4.symm⟩
  -- the items in their new order
  have hy : (((arrOf st).map (·.2)).toList) = (((arrOf st).toList.map fun q => adV q.2).map Value.ref) := by
    rw [Array.toList_map, List.map_map]
    refine List.map_congr_left fun q hq => ?_
    obtain ⟨j, t, p, _, _, e⟩ := hmem q hq
    rw [e]
    rfl
  have hperm : ((arrOf st).toList.map fun q => adV q.2).Perm as := by
    refine (hp.map _).trans ?_
    have e : ((ks.map Value.ref).zip (as.map Value.ref)).map (fun q => adV q.2) = (((ks.map Value.ref).zip (as.map Value.ref)).map Prod.snd).map adV := by rw [List.map_map] <;> rfl
    rw [e, List.map_snd_zip (by rw [List.length_map, List.length_map, lk]; exact Nat.le_refl _), refs_map]
  have hksd : Ksd k ((arrOf st).toList.map fun q => adV q.2) := by
    refine List.pairwise_map.mpr ?_
    refine List.Pairwise.imp_of_mem (fun {x y} hx hy z => ?_) hs
    obtain ⟨j, t, p, a1, a2, e⟩ := hmem x hx
    obtain ⟨j', t', p', b1, b2, e'⟩ := hmem y hy
    have z : KnO.lx (KnO.kn s.heap y.1) (KnO.kn s.heap x.1) = false := z
    rw [e, e', KnO.kn_eq (hkey j t p a1 a2), KnO.kn_eq (hkey j' t' p' b1 b2)] at z
    rw [e, e']
    exact z
  have lys : ((arrOf st).toList.map fun q => adV q.2).length = as.length := by rw [List.length_map, lst]
  generalize ((arrOf st).toList.map fun q => adV q.2) = ys at hy hperm hksd lys
  refine wpAny_bind (listUpdate_at na1 rfl ?_ (Nat.zero_le _) (by rw [if_neg (by decide), ← Array.length_toList, hy, List.length_map, lys]; exact Nat.le_trans hz (Nat.le_succ _)))
  rw [hf]
  simp only [bne_self_eq_false, Bool.false_eq_true, if_false]
  have s2 := Heap.SameBut.update (s.heap.update kS (Obj.mapSeq fun _ => (#[] : Array Value))) D (Obj.mapSeq fun _ => (arrOf st).map (·.2))
  obtain ⟨c2, hc2⟩ : ∃ c, ((s.heap.update kS (Obj.mapSeq fun _ => (#[] : Array Value))).update D (Obj.mapSeq fun _ => (arrOf st).map (·.2))).get? D = some (seqObj "list" ((arrOf st).map (·.2)) c) := ⟨_, get?_update_seq na1 fun _ => (arrOf st).map (·.2)⟩
  have I1 := pin_set (t' := s.toks) WK I (fun b u hb q => (s1.2 b hb).trans q) hc1 (fun v z => by cases z)
  have I2 := adopt (t' := s.toks) (u := .lst (ys.map V.ref)) WD (ClX.unpin I1) (fun b u hb q => (s2.2 b hb).trans q) (by
    refine ⟨by rw [List.length_map, lys]; exact hz, ys.map Value.ref, c2, vals_refs ys, ?_⟩
    rw [← hy, Array.toArray_toList]
    exact hc2)
  exact wpAny_pure (h ys _ I2 hperm hksd)
/-- the keys are told, one after another, then sorted by -/
theorem key_rest {kl : Nat} {f D kS : Addr} {F : NF} {b : Expr} {lps : List Str} {e1 : Nat} {as : List Addr} {k : Addr → List Int} {P : PySem.Fin → Shared → Prop} {E : Value → Shared → Prop} (Fn : NOkL X.prog X.w X.K X.mg X.base CX0 kl f F b lps [] (spKeyL X.K)) (hcl : F.cl = []) (hr : Room (kl + 2) X.A)
    (WD : Ours X pins D) (WK : Ours X ((D, seqObj "list" #[] e1) :: pins) kS) (I : Inv X ((kS, seqObj "list" #[] 0) :: (D, seqObj "list" #[] e1) :: pins) σ H s) (ef : H f = some (LamO f F b)) (ec : H F.c = some (CodeO F.c F.qual)) (hk : ∀ t ∈ as, SqT X.K H t ((k t).map V.int)) (hz : as.length ≤ sizeLine)
    (h : ∀ (ys : List Addr) (H1 : Hp) (s' : Shared), Inv X pins σ (L2.upd H1 D (.lst (ys.map V.ref))) s' → Same H H1 → H1 D = none → ys.Perm as → Ksd k ys → P (.done (.ret .none)) s') :
    wpAny (model X.prog X.w) X.A.in1.in1 (ksk_rest D (.ref f) false (as.map Value.ref).toArray e1 (.ref kS)) P E s := by
  unfold ksk_rest
  refine wpAny_bind (wpAny_rule ?_)
  first
    | rw [List.forIn_toArray]
    | (rw [← Array.forIn_toList]; simp only [List.toList_toArray])
    | rw [← Array.forIn_toList]
  refine wpAny_bind (ksk_fold (fun i s' => ∃ (H1 : Hp) (ks : List Addr) (e : Nat), Inv X ((kS, seqObj "list" (ks.map Value.ref).toArray e) :: (D, seqObj "list" #[] e1) :: pins) σ H1 s' ∧ Same H H1 ∧ ks.length = i ∧ ∀ (j : Nat) (t p : Addr), as[j]? = some t → ks[j]? = some p → H1 p = some (.tup [.int ((k t).length : Nat), .ref t])) (as.map Value.ref) 0 s
    ⟨H, [], 0, I, fun _ _ q => q, rfl, fun j t p _ q => by cases q⟩ ?step ?done)
  case step =>
    rintro j x s' hx ⟨H1, ks, e, I1, sm, lk, hk1⟩
    rw [Nat.zero_add] at lk ⊢
    rw [List.getElem?_map] at hx
    obtain ⟨t, ht, rfl⟩ := Option.map_eq_some_iff.mp hx
    have jl : j < as.length := (List.getElem?_eq_some_iff.mp ht).1
    have hst := sameT0 sm (hk t (List.mem_of_getElem? ht))
    refine wpAny_bind (wpAny_attempt (wpAny_mono (key_call Fn hcl hr I1 (sm _ _ ef) (sm _ _ ec) hst) (fun v s'' he => ?_) fun _ _ hF => hF.elim))
    obtain ⟨p, rfl, hp, I2⟩ := he
    try dsimp only
    have nk : s''.heap.get? kS = some (seqObj "list" (ks.map Value.ref).toArray e) := ClX.pin_at I2
    have hc2 := get?_update_seq nk (·.push (.ref p))
    have sb := Heap.SameBut.update s''.heap kS (Obj.mapSeq (·.push (.ref p)))
    have lz : (ks.map Value.ref).toArray.size ≤ sizeLine := by
      rw [List.size_toArray, List.length_map, lk]
      omega
    have sp : Same H1 (L2.upd H1 p (.tup [.int ((k t).length : Nat), .ref t])) := same_upd0 hp
    refine wpAny_bind (listUpdate_at nk rfl ?_ lz (by rw [Array.size_push, List.size_toArray, List.length_map, lk]; omega))
    have ek : ((ks.map Value.ref).toArray.push (Value.ref p)) = ((ks ++ [p]).map Value.ref).toArray := by simp
    rw [ek] at hc2
    refine wpAny_pure ⟨rfl, _, ks ++ [p], _, pin_set (t' := s''.toks) WK I2 (fun b u hb q => (sb.2 b hb).trans q) hc2 (fun v z => by cases z), sm.trans sp, by rw [List.length_append, lk]; rfl, fun i t' p' a1 a2 => ?_⟩
    by_cases hi : i < ks.length
    · rw [List.getElem?_append_left hi] at a2
      exact sp _ _ (hk1 i t' p' a1 a2)
    · have ei : i = ks.length := by
        have := (List.getElem?_eq_some_iff.mp a2).1
        rw [List.length_append] at this
        have : i < ks.length + 1 := this
        omega
      rw [ei, List.getElem?_append_right (Nat.le_refl _), Nat.sub_self] at a2
      cases a2
      rw [ei, lk] at a1
      rw [ht] at a1
      cases a1
      exact L2.upd_same
  case done =>
    rintro s' ⟨H1, ks, e, I1, sm, lk, hk1⟩
    rw [Nat.zero_add, List.length_map] at lk
    have nk : s'.heap.get? kS = some (seqObj "list" (ks.map Value.ref).toArray e) := ClX.pin_at I1
    try dsimp only
    refine wpAny_bind (listItems_at nk rfl ?_)
    have hkey : ∀ (j : Nat) (t p : Addr), as[j]? = some t → ks[j]? = some p → KnO.IsKN s'.heap (.ref p) (kk k t) := fun j t p a1 a2 => by
      have hp := I1.hok p _ (hk1 j t p a1 a2)
      obtain ⟨z, its, r, o, ho, hc, n, hd⟩ := hp
      obtain ⟨u1, u2, rfl, ri, rj⟩ := vals2 r
      obtain ⟨t1, rfl⟩ := ri
      obtain rfl : u2 = Value.ref t := rj
      obtain ⟨its2, r2, p2, _⟩ := I1.tuple (sameT0 sm (hk t (List.mem_of_getElem? a1)))
      exact ⟨p, t, o, t1, n, its2.toArray, rfl, ho, hc, hd, p2, intsAre_of r2⟩
    have hin : ∀ v ∈ ks.map Value.ref, KnO.IsKN s'.heap v (KnO.kn s'.heap v) := fun v hv => by
      obtain ⟨p, hp, rfl⟩ := List.mem_map.mp hv
      obtain ⟨j, hj⟩ := List.mem_iff_getElem?.mp hp
      have jl := (List.getElem?_eq_some_iff.mp hj).1
      obtain ⟨t, ht⟩ : ∃ t, as[j]? = some t := ⟨_, List.getElem?_eq_getElem (by omega)⟩
      have z := hkey j t p ht hj
      rw [KnO.kn_eq z]
      exact z
    have ez : ((ks.map Value.ref).toArray.zip (as.map Value.ref).toArray).toList = (ks.map Value.ref).zip (as.map Value.ref) := by simp
    unfold ksk_end
    try dsimp only
    simp only [Bool.false_eq_true, if_false]
    by_cases h2 : (as.map Value.ref).toArray.size < 2
    · rw [if_pos h2, if_pos h2]
      refine wpAny_bind (wpAny_pure ?_)
      rw [StateT.run_pure]
      refine wpAny_bind (wpAny_pure ?_)
      try dsimp only
      refine key_tail (as := as) (k := k) (st := SortSt.mk' general' ((ks.map Value.ref).toArray.zip (as.map Value.ref).toArray) #[] 7 none) WD WK I1 hz lk hkey ?_ ?_ rfl fun ys s2 J p1 p2 => h ys H1 s2 J sm (ClX.pin_un (ClX.unpin I1)) p1 p2
      · show Srtd _ ((ks.map Value.ref).toArray.zip (as.map Value.ref).toArray).toList
        rw [ez]
        have l2 : ((ks.map Value.ref).zip (as.map Value.ref)).length < 2 := by
          rw [List.size_toArray] at h2
          rw [List.length_zip]
          omega
        match ((ks.map Value.ref).zip (as.map Value.ref)), l2 with
        | [], _ => exact List.Pairwise.nil
        | [v], _ => exact List.pairwise_singleton _ _
        | _ :: _ :: l, h => exact absurd h (by rw [List.length_cons, List.length_cons]; omega)
      · show ((ks.map Value.ref).toArray.zip (as.map Value.ref).toArray).toList.Perm _
        rw [ez]
    · rw [if_neg h2, if_neg h2]
      have l2 : 2 ≤ (ks.map Value.ref).length := by
        rw [List.size_toArray, List.length_map] at h2
        rw [List.length_map]
        omega
      refine wpAny_bind (KnO.kn_kind (k := KnO.kn s'.heap) (by omega) hin ?_)
      have hcmp := KnO.kn_cmp (prog := X.prog) (w := X.w) (A := X.A.in1.in1) (s := s') (k := KnO.kn s'.heap) (by have := hr.units; show X.A.units + 1 + 1 < cLine; omega) hin
      refine wpAny_bind (wpAny_mono (wpS_sortO (st0 := SortSt.mk' (tuples' true) ((ks.map Value.ref).toArray.zip (as.map Value.ref).toArray) #[] 7 none)
        (Q := fun _ st' => Srtd (lt2 fun v u => KnO.lx (KnO.kn s'.heap v) (KnO.kn s'.heap u)) (arrOf st').toList ∧ (arrOf st').toList.Perm ((ks.map Value.ref).zip (as.map Value.ref)) ∧ failedOf st' = none) (swo2 (KnO.swo _)) hcmp rfl (fun q hq => ?_) rfl rfl fun st' a1 a2 a3 => ⟨a1, ?_, a3⟩) ?_ fun _ _ e => e)
      · have hq : q ∈ ((ks.map Value.ref).toArray.zip (as.map Value.ref).toArray).toList := hq
        rw [ez] at hq
        exact (List.of_mem_zip hq).1
      · have z := a2.perm
        have e3 : (arrOf (SortSt.mk' (tuples' true) ((ks.map Value.ref).toArray.zip (as.map Value.ref).toArray) #[] 7 none)).toList = (ks.map Value.ref).zip (as.map Value.ref) := ez
        rw [e3] at z
        exact z
      · rintro ⟨⟨⟩, st'⟩ s3 ⟨rfl, hp1, hp2, hf⟩
        try dsimp only
        exact key_tail (as := as) (k := k) WD WK I1 hz lk hkey hp1 hp2 hf fun ys s2 J p1 p2 => h ys H1 s2 J sm (ClX.pin_un (ClX.unpin I1)) p1 p2
/-- sorted(xs, key=f) -/
def rSortKL (K : PySem.W.Frag) (mk : Addr → NF) (b : Expr) : List V → List V → Hp → VK → Prop := fun vs zs H Q => ∃ (a f c' : Addr) (as : List Addr) (k : Addr → List Int), vs = [V.ref a] ∧ zs = [V.ref f] ∧ SqL K H a (as.map V.ref) ∧ H f = some (LamO f (mk c') b) ∧ H (mk c').c = some (CodeO (mk c').c (mk c').qual) ∧ (∀ t ∈ as, SqT K H t ((k t).map V.int)) ∧
  ∀ (ys : List Addr) (p : Addr) (H' : Hp), Same H H' → H p = none → H' p = some (.lst (ys.map V.ref)) → ys.Perm as → Ksd k ys → Q (.ref p) H'
theorem cr_sortKL {kl : Nat} {mk : Addr → NF} {b : Expr} {lps : List Str} (Fn : ∀ f c', NOkL X.prog X.w X.K X.mg X.base CX0 kl f (mk c') b lps [] (spKeyL X.K)) (hcl : ∀ c', (mk c').cl = []) (hr : Room (kl + 2) X.A) : CallRK X (.builtin "sorted") [Str.ofString "key"] (rSortKL X.K mk b) := by
  intro pins s σ H vs zs us ws Q I r rz h
  obtain ⟨a, f, c', as, k, rfl, rfl, hs, ef, ec, hk, q⟩ := h
  obtain rfl := Vals.ref1 r
  obtain ⟨w1, rfl, e1⟩ := vals1 rz
  obtain rfl : w1 = Value.ref f := e1
  obtain ⟨its, rv, hl, hz⟩ := I.list hs
  have ei : its = as.map Value.ref := L2.nts_of rv
  subst ei
  rw [List.length_map] at hz
  have hlen : (as.map Value.ref).length ≤ sizeLine := by rw [List.length_map]; exact hz
  refine call_function_entry_kw kind_sorted plain_sorted entry_sorted (ksk_s1 _ _) ?_
  unfold Builtin.«sorted»
  refine wpAny_bind (m := checkCount "sorted" 1 1 _) (wpAny_pure ?_)
  refine wpAny_bind (collect_list hl.isList ?_ hlen)
  refine wpAny_bind (wpAny_newList ?_ hlen)
  have hsz : ((s.heap.push (seqObj "list" #[] 0)).update s.heap.objs.size (Obj.mapSeq (· ++ (as.map Value.ref).toArray))).objs.size = s.heap.objs.size + 1 := by
    rw [Heap.size_update, size_push']
  have hoL : (((s.heap.push (seqObj "list" #[] 0)).update s.heap.objs.size (Obj.mapSeq (· ++ (as.map Value.ref).toArray))).push (seqObj "list" (as.map Value.ref).toArray 0)).get? (s.heap.objs.size + 1) = some (seqObj "list" (as.map Value.ref).toArray 0) := by
    rw [← hsz]; exact Heap.get?_push_size _ rfl
  have keep : ∀ b o, s.heap.get? b = some o → (((s.heap.push (seqObj "list" #[] 0)).update s.heap.objs.size (Obj.mapSeq (· ++ (as.map Value.ref).toArray))).push (seqObj "list" (as.map Value.ref).toArray 0)).get? b = some o := fun b o q => by
    have hlt : b < s.heap.objs.size := Heap.lt_size q
    rw [Heap.get?_push_ne _ _ _ (by rw [hsz]; exact Nat.ne_of_lt (Nat.lt_succ_of_lt hlt)), Heap.get?_update_ne _ _ _ _ (Nat.ne_of_lt hlt), Heap.get?_push_ne _ _ _ (Nat.ne_of_lt hlt)]
    exact q
  show wpAny _ _ _ _ _ { s with heap := ((s.heap.push (seqObj "list" #[] 0)).update s.heap.objs.size (Obj.mapSeq (· ++ (as.map Value.ref).toArray))).push (seqObj "list" (as.map Value.ref).toArray 0) }
  rw [hsz]
  generalize ((s.heap.push (seqObj "list" #[] 0)).update s.heap.objs.size (Obj.mapSeq (· ++ (as.map Value.ref).toArray))).push (seqObj "list" (as.map Value.ref).toArray 0) = h3 at hoL keep
  have WD : Ours X pins (s.heap.objs.size + 1) := ours_new I (Nat.le_succ _)
  have nD : H (s.heap.objs.size + 1) = none := I.hok.fresh (Nat.le_succ _)
  obtain ⟨D, eD⟩ : ∃ D, s.heap.objs.size + 1 = D := ⟨_, rfl⟩
  rw [eD] at hoL WD nD ⊢
  refine wpAny_bind (wpAny_holding (wpAny_call_entry_kw slot_list_sort ⟨_, hoL, rfl⟩ entry_list_sort ?body (ksk_l1 _ _)))
  case body =>
    show wpAny (model X.prog X.w) X.A.in1.in1 (Builtin.«list.sort» ⟨[.ref D], [(Str.ofString "key", .ref f)]⟩) _ _ _
    rw [ksk_t1]
    unfold ksk_tree
    refine wpAny_bind (listItems_at hoL rfl ?_)
    refine wpAny_bind (listUpdate_at hoL rfl ?_ (by rw [List.size_toArray]; exact hlen) (Nat.zero_le _))
    obtain ⟨e1, ho1⟩ : ∃ e1, (h3.update D (Obj.mapSeq fun _ => #[])).get? D = some (seqObj "list" #[] e1) := ⟨_, get?_update_seq hoL (fun _ => #[])⟩
    refine wpAny_bind (seqEpoch_at ho1 rfl ?_)
    refine wpAny_bind (wpAny_newTuple ?_ (by show (as.map Value.ref).length ≤ _; exact hlen))
    refine wpAny_bind (wpAny_newList ?_ (Nat.zero_le _))
    refine wpAny_holding ?_
    have ltD : ∀ b o, s.heap.get? b = some o → b ≠ D := fun b o e z => absurd (Heap.lt_size e) (by
      rw [z, ← eD]
      exact Nat.not_lt_of_le (Nat.le_succ _))
    have kp2 : ∀ b o, s.heap.get? b = some o → (((h3.update D (Obj.mapSeq fun _ => #[])).push (seqObj "tuple" (as.map Value.ref).toArray 0)).push (seqObj "list" #[] 0)).get? b = some o := fun b o e =>
      Heap.get?_push_of_some _ (Heap.get?_push_of_some _ ((Heap.get?_update_ne _ _ _ _ (ltD b o e)).trans (keep b o e)))
    have ho6 : (((h3.update D (Obj.mapSeq fun _ => #[])).push (seqObj "tuple" (as.map Value.ref).toArray 0)).push (seqObj "list" #[] 0)).get? D = some (seqObj "list" #[] e1) :=
      Heap.get?_push_of_some _ (Heap.get?_push_of_some _ ho1)
    have hK : (((h3.update D (Obj.mapSeq fun _ => #[])).push (seqObj "tuple" (as.map Value.ref).toArray 0)).push (seqObj "list" #[] 0)).get? ((h3.update D (Obj.mapSeq fun _ => #[])).push (seqObj "tuple" (as.map Value.ref).toArray 0)).objs.size = some (seqObj "list" #[] 0) := Heap.get?_push_size _ rfl
    have szK : D < ((h3.update D (Obj.mapSeq fun _ => #[])).push (seqObj "tuple" (as.map Value.ref).toArray 0)).objs.size := by
      rw [size_push', Heap.size_update]
      exact Nat.lt_succ_of_lt (Heap.lt_size hoL)
    show wpAny (model X.prog X.w) X.A.in1.in1 (ksk_rest D (.ref f) false (as.map Value.ref).toArray e1 (.ref ((h3.update D (Obj.mapSeq fun _ => #[])).push (seqObj "tuple" (as.map Value.ref).toArray 0)).objs.size)) _ _ _
    generalize ((h3.update D (Obj.mapSeq fun _ => #[])).push (seqObj "tuple" (as.map Value.ref).toArray 0)).objs.size = kS at hK szK
    generalize ((h3.update D (Obj.mapSeq fun _ => #[])).push (seqObj "tuple" (as.map Value.ref).toArray 0)).push (seqObj "list" #[] 0) = h6 at kp2 ho6 hK
    have I1 : Inv X ((D, seqObj "list" #[] e1) :: pins) σ H { s with heap := h6 } := ClX.pin_new (t' := s.toks) I kp2 (by omega) ho6 (fun v z => by cases z)
    have WK : Ours X ((D, seqObj "list" #[] e1) :: pins) kS := by
      have z : Ours X pins kS := ours_new I (by omega)
      refine ⟨z.sz, z.loc, z.fs, z.cell, fun p hp => ?_⟩
      rcases List.mem_append.mp hp with hp | hp
      · exact z.pin p (List.mem_append_left _ hp)
      · rcases List.mem_cons.mp hp with rfl | hp
        · show D ≠ kS
          omega
        · exact z.pin p (List.mem_append_right _ hp)
    have nK : H kS = none := I.hok.fresh (by omega)
    have I2 : Inv X ((kS, seqObj "list" #[] 0) :: (D, seqObj "list" #[] e1) :: pins) σ H { s with heap := h6 } := by
      refine I1.pins_of fun p hp => ?_
      rcases List.mem_cons.mp hp with e | e
      · subst e
        exact ⟨hK, nK, WK.loc, WK.fs, fun v z => by cases z⟩
      · exact I1.pin p (List.mem_append_right _ e)
    refine key_rest (as := as) (k := k) (Fn f c') (hcl c') hr WD WK I2 ef ec hk hz fun ys H1 s' J sm nD1 p1 p2 => ⟨_, rfl, ?_⟩
    exact wpAny_pure ⟨_, rfl, .ref D, _, J, rfl, q ys D _ (sm.trans (same_upd0 nD1)) nD L2.upd_same p1 p2⟩
end
end Xh
end
section
set_option Elab.async false
set_option linter.all false
set_option maxRecDepth 100000
set_option maxHeartbeats 2000000
/-! sorted(xs) of pairs of a number and a tuple of numbers that stand in their order -/
namespace Xh
open PySem PySem.Spec PyProof.Rows L2 LamX NdefX Srt SrtO
def rSortedKN (K : PySem.W.Frag) : List V → Hp → VK → Prop := fun vs H Q => ∃ (a : Addr) (ts : List Addr) (k : Addr → Int × List Int), vs = [V.ref a] ∧ SqL K H a (ts.map V.ref) ∧ (∀ t ∈ ts, ∃ u, H t = some (.tup [.int (k t).1, .ref u]) ∧ SqT K H u ((k t).2.map V.int)) ∧
  ts.Pairwise (fun t u => KnO.lx (k u) (k t) = false) ∧ ∀ p, H p = none → Q (.ref p) (L2.upd H p (.lst (ts.map V.ref)))
section
variable {X : Cx}
theorem cr_sortedKN (hu : X.A.units + 65 < cLine) : CallR X (.builtin "sorted") (rSortedKN X.K) := by
  intro pins s σ H vs us Q I r h
  obtain ⟨a, ts, k, rfl, hs, hk, hp, q⟩ := h
  obtain rfl := Vals.ref1 r
  obtain ⟨its, rv, hl, hz⟩ := I.list hs
  have ei : its = ts.map Value.ref := L2.nts_of rv
  subst ei
  have hz' : (ts.map Value.ref).length ≤ sizeLine := by
    rw [List.length_map] at hz ⊢
    exact hz
  have hv : ∀ v ∈ ts.map Value.ref, KnO.IsKN s.heap v (k (adV v)) := fun v hm => by
    obtain ⟨t, ht, rfl⟩ := List.mem_map.mp hm
    obtain ⟨u, eu, hu2⟩ := hk t ht
    obtain ⟨z, its, r, o, ho, hc, n, hd⟩ := I.hok t _ eu
    obtain ⟨u1, u2, rfl, ri, rj⟩ := vals2 r
    obtain ⟨t1, rfl⟩ := ri
    obtain rfl : u2 = Value.ref u := rj
    obtain ⟨its2, r2, p2, _⟩ := I.tuple hu2
    exact ⟨t, u, o, t1, n, its2.toArray, rfl, ho, hc, hd, p2, intsAre_of r2⟩
  have srt : Srtd (fun v u => KnO.lx (k (adV v)) (k (adV u))) (ts.map Value.ref) := List.pairwise_map.mpr hp
  refine KnO.sorted_kn hl.isList hz' (by omega) hv fun h' d out h1 h2 keep hd e => ?_
  have eo : out = ts.map Value.ref := stb_uniq (KnO.swo fun v => k (adV v)) h1 srt h2
  subst eo
  obtain ⟨n, ho⟩ := e
  exact ⟨.ref d, L2.upd H d (.lst (ts.map V.ref)), I.laid (t' := s.toks) keep hd ⟨hz, ts.map Value.ref, n, vals_refs ts, ho⟩, rfl, q d (I.hok.fresh hd)⟩
end
end Xh
end
section
set_option Elab.async false
set_option linter.all false
set_option maxRecDepth 100000
set_option maxHeartbeats 2000000
/-! min of a list of tuples of whole numbers, by content -/
namespace Xh
open PySem PySem.Spec PyProof.Rows L2
section
variable {X : Cx}
/-- min(l): the first of the least -/
def rMinD (K : PySem.W.Frag) : List V → Hp → VK → Prop := fun vs H Q => ∃ (a : Addr) (xs : List V) (d : PyData) (ds : List PyData), vs = [.ref a] ∧ SqL K H a xs ∧ DpAll K H xs (d :: ds) ∧ PySem.W.AlikeAll (d :: ds) ∧ PyData.depthAll (d :: ds) ≤ 60 ∧
  ∀ (i : Nat) (v : V), xs[i]? = some v → (d :: ds)[i]? = some (PySem.W.minD d ds) → Q v H
theorem vals_at : ∀ {vs : List V} {us : List Value} {i : Nat} {u : Value}, Vals vs us → us[i]? = some u → ∃ v, vs[i]? = some v ∧ RelV v u
  | _ :: _, _ :: _, 0, _, .cons r _, e => by
    cases e
    exact ⟨_, rfl, r⟩
  | _ :: _, _ :: _, i + 1, _, .cons _ t, e => vals_at (i := i) t e
  | [], _, _, _, .nil, e => by cases e
theorem readsAll_i {h : Heap} : ∀ {vs : List Value} {ds : List PyData} {as : List Addr} {i : Nat} {v : Value}, ReadsAll h vs ds as → vs[i]? = some v → ∃ d bs, ds[i]? = some d ∧ Reads h v d bs
  | _, _, _, 0, _, .cons r _, e => by
    cases e
    exact ⟨_, _, rfl, r⟩
  | _, _, _, i + 1, _, .cons _ t, e => readsAll_i (i := i) t e
theorem call_minD (hc : X.calm = true) (hu : X.A.units + 64 < cLine) : CallR X (.builtin "min") (rMinD X.K) := by
  intro pins s σ H vs us Q I r h
  obtain ⟨a, xs, d, ds, rfl, hs, hd, hal, hdep, q⟩ := h
  obtain ⟨its, rv, hl, _⟩ := I.list hs
  rw [Vals.ref1 r]
  obtain ⟨as, hr⟩ := Dp.readsAll I _ _ _ hd rv
  refine PySem.W.min_list_data (I.ok.hd hc) hl.isList hr hal (by omega) fun i v h' tk bs hv rd hk => ?_
  have hv2 : its[i]? = some v := by simpa using hv
  obtain ⟨x, hx, rx⟩ := vals_at rv hv2
  obtain ⟨d2, bs2, e2, r2⟩ := readsAll_i hr hv2
  have := reads_det (fun b o e _ => hk b o e) r2 rd
  exact ⟨x, H, I.kept hk, rx, q i x hx (by rw [e2, this.1])⟩
end
end Xh
end
section
set_option Elab.async false
set_option linter.all false
set_option maxRecDepth 100000
set_option maxHeartbeats 2000000
/-! l.count(x) of a list of tuples of whole numbers, by content -/
namespace Xh
open PySem PySem.Spec PyProof.Rows L2
def rCntD (K : PySem.W.Frag) : V → List V → Hp → VK → Prop := fun x vs H Q => ∃ (a : Addr) (xs : List V) (y : V) (ds : List PyData) (d : PyData), x = .ref a ∧ vs = [y] ∧ SqL K H a xs ∧ DpAll K H xs ds ∧ Dp K H y d ∧ PyData.plainAll ds = true ∧ d.plain = true ∧ d.depth ≤ 60 ∧ Q (.int ((ds.countP fun z => PyData.eqv z d : Nat) : Int)) H
section
variable {X : Cx}
theorem mt_countD (hu : X.A.units + 65 < cLine) : MtR X "list.count" (rCntD X.K) := by
  intro pins s σ H x xs v us Q I rx rv h
  obtain ⟨a, zs, y, ds, d, rfl, rfl, hs, hd, hy, pa, pd, dp, q⟩ := h
  obtain ⟨its, rz, hl, _⟩ := I.list hs
  cases rx
  obtain ⟨u, rfl, ru⟩ := rv.one
  obtain ⟨as, hr⟩ := Dp.readsAll I _ _ _ hd rz
  obtain ⟨bs, rx⟩ := Dp.reads I _ _ _ hy ru
  exact PySem.SeqAt.count_list_data hl.isList hr rx pa pd (by omega) ⟨.int _, H, I.tok _, ⟨_, rfl⟩, q⟩
end
end Xh
end
section
set_option Elab.async false
set_option linter.all false
set_option maxRecDepth 100000
set_option maxHeartbeats 0
namespace Xh
open PySem PySem.Spec PyProof.Rows L2 He
/-- where the written part looks: what the names reach in n steps, and the statics -/
def asS (g : Addr → Option Obj) (n : Nat) : List Addr := cStatics :: asD g n
def obsZ (n : Nat) (fa : List Fa) (fn : List DefD) (tf : List Defn) (ex : PySem.W.Frag → Bool) (g : Addr → Option Obj) : AlX :=
  let K := frT g (asS g n)
  (obsT fa fn [] K, ex K && tabsB g tf K)
theorem saysZ {n : Nat} {fa : List Fa} {fn : List DefD} {tf : List Defn} {ex : PySem.W.Frag → Bool} {w : World} {h : Heap} (e : obsZ n fa fn tf ex h.get? = valX fn [] w) :
    SaysX fa fn [] tf ex w h (frT h.get? (asS h.get? n)) := by
  generalize hK : frT h.get? (asS h.get? n) = K
  have e' : (obsT fa fn [] K, ex K && tabsB h.get? tf K) = valX fn [] w := by rw [← hK]; exact e
  injection e' with e1 e2
  rw [Bool.and_eq_true] at e2
  have key : ∀ p ∈ tf, PySem.W.codeHdIn K (cT K p).1 (cT K p).2 = true ∧ ∃ o, h.get? (cT K p).2 = some o ∧ emptyTab o = true := by
    intro p hp
    have z := List.all_eq_true.mp e2.2 p hp
    rw [Bool.and_eq_true] at z
    refine ⟨z.1, ?_⟩
    have z2 := z.2
    split at z2
    · exact ⟨_, ‹_›, z2⟩
    · cases z2
  refine ⟨e1, e2.1, fun p hp => (key p hp).1, fun p hp => ?_, fun p hp => ?_⟩
  · obtain ⟨_, o, q, z⟩ := key p hp
    rw [← hK] at q ⊢
    exact frT_none q z
  · obtain ⟨_, o, q, z⟩ := key p hp
    rw [q, emptyTab_eq z]
def hookZ (n : Nat) (fa : List Fa) (fn : List DefD) (tf : List Defn) (ex : PySem.W.Frag → Bool) : PySem.W.Hook where
  α := AlX
  obs := fun s => obsZ n fa fn tf ex s.heap.get?
  val := fun w => valX fn [] w
  says := fun w h => ∃ K : PySem.W.Frag, K.In h ∧ SaysX fa fn [] tf ex w h K
  of := fun _ _ e => ⟨_, frT_in, saysZ e⟩
  keeps := fun _ _ _ ⟨K, hK, c⟩ k => ⟨K, PySem.W.Frag.In.keeps hK k, ⟨c.t, c.more, c.hd, c.out, fun p hp => k _ _ (c.empty p hp)⟩⟩
theorem obsZ_eq {n : Nat} {fa : List Fa} {fn : List DefD} {tf : List Defn} {ex : PySem.W.Frag → Bool} {g : Addr → Option Obj} {s : Shared} (h : ∀ a, g a = s.heap.get? a) :
    obsZ n fa fn tf ex g = (hookZ n fa fn tf ex).obs s := by
  have e : g = s.heap.get? := funext h
  subst e
  rfl
end Xh
end
section
set_option Elab.async false
set_option linter.all false
set_option maxRecDepth 100000
set_option maxHeartbeats 0
namespace Xh
open PySem PySem.Spec PyProof.Rows L2 He
/-! The same hook, its addresses found layer by layer, each once: what was seen is a mask. -/
/-- those of a row that the mask has not, each once, and the mask then -/
def freshB {β : Type} : List Addr → Nat → List Addr → (List Addr → Nat → β) → β
  | [], m, acc, k => k acc m
  | a :: r, m, acc, k => match Nat.beq (Nat.mod (Nat.shiftRight m a) 2) 1 with
    | true => freshB r m acc k
    | false => freshB r (Nat.add m (Nat.pow 2 a)) (a :: acc) k
def refsB (g : Addr → Option Obj) (as : List Addr) : List Addr := as.flatMap fun a => match g a with
  | some o => refsD o
  | none => []
def bfsB (g : Addr → Option Obj) : Nat → List Addr → Nat → List Addr
  | 0, fr, _ => fr
  | n + 1, fr, m => fr ++ freshB (refsB g fr) m [] fun new m' => bfsB g n new m'
def asB (n : Nat) (g : Addr → Option Obj) : List Addr := mainGlobals :: cStatics :: freshB (refsB g [mainGlobals]) (2 ^ mainGlobals + 2 ^ cStatics) [] fun new m => bfsB g n new m
/-- over any row of addresses -/
def obsA (as : (Addr → Option Obj) → List Addr) (fa : List Fa) (fn : List DefD) (tf : List Defn) (ex : PySem.W.Frag → Bool) (g : Addr → Option Obj) : AlX :=
  let K := frT g (as g)
  (obsT fa fn [] K, ex K && tabsB g tf K)
theorem saysA {as : (Addr → Option Obj) → List Addr} {fa : List Fa} {fn : List DefD} {tf : List Defn} {ex : PySem.W.Frag → Bool} {w : World} {h : Heap} (e : obsA as fa fn tf ex h.get? = valX fn [] w) :
    SaysX fa fn [] tf ex w h (frT h.get? (as h.get?)) := by
  generalize hK : frT h.get? (as h.get?) = K
  have e' : (obsT fa fn [] K, ex K && tabsB h.get? tf K) = valX fn [] w := by rw [← hK]; exact e
  injection e' with e1 e2
  rw [Bool.and_eq_true] at e2
  have key : ∀ p ∈ tf, PySem.W.codeHdIn K (cT K p).1 (cT K p).2 = true ∧ ∃ o, h.get? (cT K p).2 = some o ∧ emptyTab o = true := by
    intro p hp
    have z := List.all_eq_true.mp e2.2 p hp
    rw [Bool.and_eq_true] at z
    refine ⟨z.1, ?_⟩
    have z2 := z.2
    split at z2
    · exact ⟨_, ‹_›, z2⟩
    · cases z2
  refine ⟨e1, e2.1, fun p hp => (key p hp).1, fun p hp => ?_, fun p hp => ?_⟩
  · obtain ⟨_, o, q, z⟩ := key p hp
    rw [← hK] at q ⊢
    exact frT_none q z
  · obtain ⟨_, o, q, z⟩ := key p hp
    rw [q, emptyTab_eq z]
def hookA (as : (Addr → Option Obj) → List Addr) (fa : List Fa) (fn : List DefD) (tf : List Defn) (ex : PySem.W.Frag → Bool) : PySem.W.Hook where
  α := AlX
  obs := fun s => obsA as fa fn tf ex s.heap.get?
  val := fun w => valX fn [] w
  says := fun w h => ∃ K : PySem.W.Frag, K.In h ∧ SaysX fa fn [] tf ex w h K
  of := fun _ _ e => ⟨_, frT_in, saysA e⟩
  keeps := fun _ _ _ ⟨K, hK, c⟩ k => ⟨K, PySem.W.Frag.In.keeps hK k, ⟨c.t, c.more, c.hd, c.out, fun p hp => k _ _ (c.empty p hp)⟩⟩
theorem obsA_eq {as : (Addr → Option Obj) → List Addr} {fa : List Fa} {fn : List DefD} {tf : List Defn} {ex : PySem.W.Frag → Bool} {g : Addr → Option Obj} {s : Shared} (h : ∀ a, g a = s.heap.get? a) :
    obsA as fa fn tf ex g = (hookA as fa fn tf ex).obs s := by
  have e : g = s.heap.get? := funext h
  subst e
  rfl
end Xh
end
section
set_option Elab.async false
set_option linter.all false
set_option maxRecDepth 100000
namespace Xk
open PySem PySem.Spec PyProof.Rows L2 Xh
def topS (i : Nat) : Stmt := PySem.Challenge.pw_rungfields_k09_whole_parts_found.main.body.getD i (.Pass ⟨0, 0, 0, 0⟩)
def primes : List Int := [2, 3, 5, 7, 11, 13, 17, 19, 23, 29, 31, 37, 41, 43, 47, 53, 59, 61, 67, 71, 73, 79, 83, 89, 97]
abbrev s_law_begin : Stmt := topS 51
abbrev s_law_take : Stmt := topS 52
abbrev s_law_of : Stmt := topS 53
abbrev s_law_same : Stmt := topS 54
abbrev s_power_by : Stmt := topS 5
abbrev s_rest_power : Stmt := topS 13
abbrev s_is_prime : Stmt := topS 9
abbrev s_is_number : Stmt := topS 10
abbrev s_is_rest : Stmt := topS 11
abbrev s_refuse_prime : Stmt := topS 12
abbrev s_trimmed : Stmt := topS 21
abbrev s_law_trim : Stmt := topS 55
abbrev s_raw_scaled : Stmt := topS 22
abbrev s_raw_plus : Stmt := topS 23
abbrev s_raw_minus : Stmt := topS 24
abbrev s_raw_times : Stmt := topS 25
abbrev s_is_poly : Stmt := topS 37
abbrev s_refuse_polys : Stmt := topS 38
abbrev s_law_rests : Stmt := topS 56
abbrev s_law_poly : Stmt := topS 57
abbrev s_law_conv : Stmt := topS 58
abbrev s_law_mul : Stmt := topS 59
abbrev s_law_back : Stmt := topS 60
abbrev s_raw_parted : Stmt := topS 26
abbrev s_law_cut_by : Stmt := topS 61
abbrev s_raw_left : Stmt := topS 27
abbrev s_raw_power : Stmt := topS 29
abbrev s_raw_level : Stmt := topS 31
abbrev s_raw_greatest : Stmt := topS 32
abbrev s_padded : Stmt := topS 33
abbrev s_turn_rows : Stmt := topS 34
abbrev s_raw_value : Stmt := topS 28
abbrev s_raw_slope : Stmt := topS 30
abbrev s_law_pairs : Stmt := topS 65
abbrev s_law_tuples : Stmt := topS 64
abbrev s_law_rem : Stmt := topS 62
abbrev s_law_first_part : Stmt := topS 66
abbrev s_law_is_whole : Stmt := topS 67
abbrev s_cleared : Stmt := topS 16
abbrev s_raw_stepped : Stmt := topS 15
abbrev s_head_place : Stmt := topS 17
abbrev s_unit_row : Stmt := topS 18
abbrev s_raw_kernel : Stmt := topS 19
abbrev s_half_mask : Stmt := topS 49
abbrev s_taken_out : Stmt := topS 44
abbrev s_split_by : Stmt := topS 48
abbrev s_steady_polys : Stmt := topS 47
abbrev s_single_parts : Stmt := topS 46
abbrev s_whole_parts : Stmt := topS 45
abbrev s_raw_parts : Stmt := topS 43
abbrev s_refuse_nought_poly : Stmt := topS 42
abbrev s_parts : Stmt := topS 40
abbrev s_rest_roots : Stmt := topS 41
abbrev s_law_worth : Stmt := topS 63
abbrev s_law : Stmt := topS 68
abbrev s_RungError___init : Stmt := inClass (topS 1) 0
end Xk
end
section
set_option Elab.async false
set_option linter.all false
set_option maxRecDepth 100000
set_option maxHeartbeats 0
namespace Xk
open PySem PySem.Spec PyProof.Rows L2 Xh LamX NdefX
theorem sc_RungError___init : FnScope (["self", "told"] : List Str) ["self", "told"] (defScope s_RungError___init) := ⟨rfl, rfl, rfl, by decide +kernel, rfl, by decide +kernel, by decide +kernel⟩
/-! ### the head: what of the written part is looked at -/
open He
/-- the class at C, an own exception over ValueError, called nm; f: how it is made -/
def clsB (K : PySem.W.Frag) (C fI : Addr) (nm : Str) : Bool := (match K.lookup C with
    | some ⟨.type c, _, .cls cd, sl⟩ => decide (c = "type") && ((match cd.mro with
      | .ref a :: bm => decide (a = C) && PySem.HandSPX.refsVE bm
      | _ => false) && (cd.hasDict && (!cd.hasDel && ((match sl.toList with
      | [_, _, some (.str x _), _, some (.builtin n), _] => decide (x = nm) && decide (n = "ValueError.__new__")
      | _ => false)))))
    | _ => false) &&
  (eqO (PySem.W.findIn K (.ref C) "__setattr__") (some (some (.builtin "object.__setattr__"))) && (decide (PySem.W.subIn K (.ref C) (.type "BaseException") = some true) && (decide (PySem.W.typeIn K (.ref C) = some (.type "type")) && (PySem.W.keepIn K (.ref C) &&
  (eqO (PySem.W.findIn K (.ref C) "__getattribute__") (some (some (.builtin "BaseException.__getattribute__"))) && (eqO (PySem.W.findIn K (.ref C) "__getattr__") (some none) && (PySem.W.hasDictIn K C && (eqO (PySem.W.findIn K (.ref C) "__class__") (some (some (.builtin "object.__class__"))) &&
  (eqO (PySem.W.specialIn K (.builtin "object.__class__") "__get__") (some (some (.builtin "getset_descriptor.__get__"))) && (decide (PySem.W.takesIn K (.builtin "object.__class__") = some true) && (decide (PySem.W.mroIn K C (.type "object") = some true) && (PySem.W.readsIn K C (.type "type") &&
  ((match PySem.W.findCls K (.ref C) (.type "type") "__name__" with
    | some (.get (.builtin g) (.builtin n) (.ref c) (.type t)) => decide (g = "getset_descriptor.__get__") && (decide (n = "type.__name__") && (decide (c = C) && decide (t = "type")))
    | _ => false) && (eqO (PySem.W.findIn K (.ref C) "word") (some none) && (eqO (PySem.W.findIn K (.ref C) "__init__") (some (some (.ref fI))) && decide (PySem.W.typeIn K (.ref fI) = some (.type "function")))))))))))))))))
theorem clsB_ok {K : PySem.W.Frag} {C fI : Addr} {nm : Str} (h : clsB K C fI nm = true) : RC K C nm ∧ PySem.W.findIn K (.ref C) "word" = some none ∧ PySem.W.findIn K (.ref C) "__init__" = some (some (.ref fI)) ∧ PySem.W.typeIn K (.ref fI) = some (.type "function") := by
  obtain ⟨h0, h⟩ := ba h
  obtain ⟨h1, h⟩ := ba h
  obtain ⟨h2, h⟩ := ba h
  obtain ⟨h3, h⟩ := ba h
  obtain ⟨h4, h⟩ := ba h
  obtain ⟨h5, h⟩ := ba h
  obtain ⟨h6, h⟩ := ba h
  obtain ⟨h7, h⟩ := ba h
  obtain ⟨h8, h⟩ := ba h
  obtain ⟨h9, h⟩ := ba h
  obtain ⟨h10, h⟩ := ba h
  obtain ⟨h11, h⟩ := ba h
  obtain ⟨h12, h⟩ := ba h
  obtain ⟨h13, h⟩ := ba h
  obtain ⟨h14, h⟩ := ba h
  obtain ⟨h15, h16⟩ := ba h
  have fn : PySem.W.findCls K (.ref C) (.type "type") "__name__" = some (.get (.builtin "getset_descriptor.__get__") (.builtin "type.__name__") (.ref C) (.type "type")) := by
    revert h13
    split
    · rename_i g n c t e
      intro z
      obtain ⟨z1, z⟩ := ba z
      obtain ⟨z2, z⟩ := ba z
      obtain ⟨z3, z4⟩ := ba z
      rw [e, of_decide_eq_true z1, of_decide_eq_true z2, of_decide_eq_true z3, of_decide_eq_true z4]
    · intro z
      cases z
  revert h0
  split
  · rename_i c dd cd sl e
    intro z
    obtain ⟨z1, z⟩ := ba z
    obtain ⟨z2, z⟩ := ba z
    obtain ⟨z3, z⟩ := ba z
    obtain ⟨z4, z5⟩ := ba z
    have c1 : c = "type" := of_decide_eq_true z1
    subst c1
    obtain ⟨cn, cb, cm, cns, cq, chd, csn, csub, cab, ccol, cdel⟩ := cd
    revert z2
    split
    · rename_i a bm em
      intro z2
      obtain ⟨y1, y2⟩ := ba z2
      have y1' := of_decide_eq_true y1
      have em' : cm = .ref a :: bm := em
      subst em'
      subst y1'
      revert z5
      split
      · rename_i s0 s1 x t s3 n s5 es
        intro z5
        obtain ⟨x1, x2⟩ := ba z5
        have x1' := of_decide_eq_true x1
        have x2' := of_decide_eq_true x2
        subst x1' x2'
        have esl : sl = #[s0, s1, some (.str x t), s3, some (.builtin "ValueError.__new__"), s5] := by
          rw [← es]
        have d1 : chd = true := z3
        have d2 : cdel = false := by
          have z4' : (!cdel) = true := z4
          cases cdel with
          | true => cases z4'
          | false => rfl
        subst d1 d2 esl
        exact ⟨⟨⟨⟨_, _, _, _, _, _, _, _, _, _, _, _, _, _, _, e, y2⟩, eqO_ok h1, of_decide_eq_true h2, of_decide_eq_true h3, h4⟩, ⟨eqO_ok h5, eqO_ok h6, of_decide_eq_true h2, h7, eqO_ok h8, eqO_ok h9, of_decide_eq_true h10, of_decide_eq_true h11⟩, h12, fn, ⟨_, _, _, t, e, rfl⟩⟩, eqO_ok h14, eqO_ok h15, of_decide_eq_true h16⟩
      · intro z5
        cases z5
    · intro z2
      cases z2
  · intro z
    cases z

def fnL : List DefD := [⟨("RungError", some "__init__"), "__init__", "RungError.__init__", defArgs s_RungError___init, defBody s_RungError___init, defScope s_RungError___init, [], []⟩, ⟨("power_by", none), "power_by", "power_by", defArgs s_power_by, defBody s_power_by, defScope s_power_by, [], []⟩, ⟨("is_prime", none), "is_prime", "is_prime", defArgs s_is_prime, defBody s_is_prime, defScope s_is_prime, [], []⟩, ⟨("is_number", none), "is_number", "is_number", defArgs s_is_number, defBody s_is_number, defScope s_is_number, [], []⟩, ⟨("is_rest", none), "is_rest", "is_rest", defArgs s_is_rest, defBody s_is_rest, defScope s_is_rest, [], []⟩, ⟨("refuse_prime", none), "refuse_prime", "refuse_prime", defArgs s_refuse_prime, defBody s_refuse_prime, defScope s_refuse_prime, [], []⟩, ⟨("rest_power", none), "rest_power", "rest_power", defArgs s_rest_power, defBody s_rest_power, defScope s_rest_power, [], []⟩, ⟨("raw_stepped", none), "raw_stepped", "raw_stepped", defArgs s_raw_stepped, defBody s_raw_stepped, defScope s_raw_stepped, [], []⟩, ⟨("cleared", none), "cleared", "cleared", defArgs s_cleared, defBody s_cleared, defScope s_cleared, [], []⟩, ⟨("head_place", none), "head_place", "head_place", defArgs s_head_place, defBody s_head_place, defScope s_head_place, [], []⟩, ⟨("unit_row", none), "unit_row", "unit_row", defArgs s_unit_row, defBody s_unit_row, defScope s_unit_row, [], []⟩, ⟨("raw_kernel", none), "raw_kernel", "raw_kernel", defArgs s_raw_kernel, defBody s_raw_kernel, defScope s_raw_kernel, [], []⟩, ⟨("trimmed", none), "trimmed", "trimmed", defArgs s_trimmed, defBody s_trimmed, defScope s_trimmed, [], []⟩, ⟨("raw_scaled", none), "raw_scaled", "raw_scaled", defArgs s_raw_scaled, defBody s_raw_scaled, defScope s_raw_scaled, [], []⟩, ⟨("raw_plus", none), "raw_plus", "raw_plus", defArgs s_raw_plus, defBody s_raw_plus, defScope s_raw_plus, [], []⟩, ⟨("raw_minus", none), "raw_minus", "raw_minus", defArgs s_raw_minus, defBody s_raw_minus, defScope s_raw_minus, [], []⟩, ⟨("raw_times", none), "raw_times", "raw_times", defArgs s_raw_times, defBody s_raw_times, defScope s_raw_times, [], []⟩, ⟨("raw_parted", none), "raw_parted", "raw_parted", defArgs s_raw_parted, defBody s_raw_parted, defScope s_raw_parted, [], []⟩, ⟨("raw_left", none), "raw_left", "raw_left", defArgs s_raw_left, defBody s_raw_left, defScope s_raw_left, [], []⟩, ⟨("raw_value", none), "raw_value", "raw_value", defArgs s_raw_value, defBody s_raw_value, defScope s_raw_value, [], []⟩, ⟨("raw_power", none), "raw_power", "raw_power", defArgs s_raw_power, defBody s_raw_power, defScope s_raw_power, [], []⟩, ⟨("raw_slope", none), "raw_slope", "raw_slope", defArgs s_raw_slope, defBody s_raw_slope, defScope s_raw_slope, [], []⟩, ⟨("raw_level", none), "raw_level", "raw_level", defArgs s_raw_level, defBody s_raw_level, defScope s_raw_level, [], []⟩, ⟨("raw_greatest", none), "raw_greatest", "raw_greatest", defArgs s_raw_greatest, defBody s_raw_greatest, defScope s_raw_greatest, [], []⟩, ⟨("padded", none), "padded", "padded", defArgs s_padded, defBody s_padded, defScope s_padded, [], []⟩, ⟨("turn_rows", none), "turn_rows", "turn_rows", defArgs s_turn_rows, defBody s_turn_rows, defScope s_turn_rows, [], []⟩, ⟨("is_poly", none), "is_poly", "is_poly", defArgs s_is_poly, defBody s_is_poly, defScope s_is_poly, [], []⟩, ⟨("refuse_polys", none), "refuse_polys", "refuse_polys", defArgs s_refuse_polys, defBody s_refuse_polys, defScope s_refuse_polys, [], []⟩, ⟨("parts", none), "parts", "parts", defArgs s_parts, defBody s_parts, defScope s_parts, [], [("prime", .int 2)]⟩, ⟨("rest_roots", none), "rest_roots", "rest_roots", defArgs s_rest_roots, defBody s_rest_roots, defScope s_rest_roots, [], [("prime", .int 2)]⟩, ⟨("refuse_nought_poly", none), "refuse_nought_poly", "refuse_nought_poly", defArgs s_refuse_nought_poly, defBody s_refuse_nought_poly, defScope s_refuse_nought_poly, [], []⟩, ⟨("raw_parts", none), "raw_parts", "raw_parts", defArgs s_raw_parts, defBody s_raw_parts, defScope s_raw_parts, [], []⟩, ⟨("taken_out", none), "taken_out", "taken_out", defArgs s_taken_out, defBody s_taken_out, defScope s_taken_out, [], []⟩, ⟨("whole_parts", none), "whole_parts", "whole_parts", defArgs s_whole_parts, defBody s_whole_parts, defScope s_whole_parts, [], []⟩, ⟨("single_parts", none), "single_parts", "single_parts", defArgs s_single_parts, defBody s_single_parts, defScope s_single_parts, [], []⟩, ⟨("steady_polys", none), "steady_polys", "steady_polys", defArgs s_steady_polys, defBody s_steady_polys, defScope s_steady_polys, [], []⟩, ⟨("split_by", none), "split_by", "split_by", defArgs s_split_by, defBody s_split_by, defScope s_split_by, [], []⟩, ⟨("half_mask", none), "half_mask", "half_mask", defArgs s_half_mask, defBody s_half_mask, defScope s_half_mask, [], []⟩, ⟨("_law_begin", none), "_law_begin", "_law_begin", defArgs s_law_begin, defBody s_law_begin, defScope s_law_begin, [], []⟩, ⟨("_law_take", none), "_law_take", "_law_take", defArgs s_law_take, defBody s_law_take, defScope s_law_take, [], []⟩, ⟨("_law_of", none), "_law_of", "_law_of", defArgs s_law_of, defBody s_law_of, defScope s_law_of, [], []⟩, ⟨("_law_same", none), "_law_same", "_law_same", defArgs s_law_same, defBody s_law_same, defScope s_law_same, [], []⟩, ⟨("_law_trim", none), "_law_trim", "_law_trim", defArgs s_law_trim, defBody s_law_trim, defScope s_law_trim, [], []⟩, ⟨("_law_rests", none), "_law_rests", "_law_rests", defArgs s_law_rests, defBody s_law_rests, defScope s_law_rests, [], []⟩, ⟨("_law_poly", none), "_law_poly", "_law_poly", defArgs s_law_poly, defBody s_law_poly, defScope s_law_poly, [], []⟩, ⟨("_law_conv", none), "_law_conv", "_law_conv", defArgs s_law_conv, defBody s_law_conv, defScope s_law_conv, [], []⟩, ⟨("_law_mul", none), "_law_mul", "_law_mul", defArgs s_law_mul, defBody s_law_mul, defScope s_law_mul, [], []⟩, ⟨("_law_back", none), "_law_back", "_law_back", defArgs s_law_back, defBody s_law_back, defScope s_law_back, [], []⟩, ⟨("_law_cut_by", none), "_law_cut_by", "_law_cut_by", defArgs s_law_cut_by, defBody s_law_cut_by, defScope s_law_cut_by, [], []⟩, ⟨("_law_rem", none), "_law_rem", "_law_rem", defArgs s_law_rem, defBody s_law_rem, defScope s_law_rem, [], []⟩, ⟨("_law_worth", none), "_law_worth", "_law_worth", defArgs s_law_worth, defBody s_law_worth, defScope s_law_worth, [], []⟩, ⟨("_law_tuples", none), "_law_tuples", "_law_tuples", defArgs s_law_tuples, defBody s_law_tuples, defScope s_law_tuples, [], []⟩, ⟨("_law_pairs", none), "_law_pairs", "_law_pairs", defArgs s_law_pairs, defBody s_law_pairs, defScope s_law_pairs, [], []⟩, ⟨("_law_first_part", none), "_law_first_part", "_law_first_part", defArgs s_law_first_part, defBody s_law_first_part, defScope s_law_first_part, [], []⟩, ⟨("_law_is_whole", none), "_law_is_whole", "_law_is_whole", defArgs s_law_is_whole, defBody s_law_is_whole, defScope s_law_is_whole, [], []⟩, ⟨("law", none), "law", "law", defArgs s_law, defBody s_law, defScope s_law, [], []⟩]
def faL : List Fa := [.glo "RungError", .glo "BadPrime", .glo "BadPoly", .glo "PRIMES", .glo "power_by", .glo "is_prime", .glo "is_number", .glo "is_rest", .glo "refuse_prime", .glo "rest_power", .glo "raw_stepped", .glo "cleared", .glo "head_place", .glo "unit_row", .glo "raw_kernel", .glo "trimmed", .glo "raw_scaled", .glo "raw_plus", .glo "raw_minus", .glo "raw_times", .glo "raw_parted", .glo "raw_left", .glo "raw_value", .glo "raw_power", .glo "raw_slope", .glo "raw_level", .glo "raw_greatest", .glo "padded", .glo "turn_rows", .glo "is_poly", .glo "refuse_polys", .glo "parts", .glo "rest_roots", .glo "refuse_nought_poly", .glo "raw_parts", .glo "taken_out", .glo "whole_parts", .glo "single_parts", .glo "steady_polys", .glo "split_by", .glo "half_mask", .glo "_law_begin", .glo "_law_take", .glo "_law_of", .glo "_law_same", .glo "_law_trim", .glo "_law_rests", .glo "_law_poly", .glo "_law_conv", .glo "_law_mul", .glo "_law_back", .glo "_law_cut_by", .glo "_law_rem", .glo "_law_worth", .glo "_law_tuples", .glo "_law_pairs", .glo "_law_first_part", .glo "_law_is_whole", .glo "law", .int "MOST_RESTS" 25, .free "len", .free "abs", .free "list", .free "tuple", .free "int", .free "bool", .free "str", .free "isinstance", .free "range", .free "all", .free "zip", .free "enumerate", .free "max", .free "reversed", .free "any", .free "sorted", .free "set"]
def exL (K : PySem.W.Frag) : Bool := tupB K "PRIMES" (primes.map Dv.int) && (clsB K (ga K "BadPrime") (ma K (ga K "RungError") "__init__") "BadPrime" && (clsB K (ga K "BadPoly") (ma K (ga K "RungError") "__init__") "BadPoly" && (decide ((cT K ("rest_power", none)).2 ≠ (cT K ("raw_power", none)).2) && (decide ((cT K ("rest_power", none)).2 ≠ (cT K ("raw_parts", none)).2) && (decide ((cT K ("raw_power", none)).2 ≠ (cT K ("raw_parts", none)).2))))))
abbrev R : PySem.W.OpenRow := PySem.W.OpenLaw.row PySem.Challenge.rw_rungfields_k09_whole_parts_found
abbrev hk : PySem.W.Hook := hookA (asB 3) faL fnL [("rest_power", none), ("raw_power", none), ("raw_parts", none)] exL
def ob (s : PySem.W.SharedT) : AlX := obsA (asB 3) faL fnL [("rest_power", none), ("raw_power", none), ("raw_parts", none)] exL (HandSHeadRun.getT s)
theorem ob_eq (s : PySem.W.SharedT) : ob s = hk.obs s.abs := obsA_eq (HandSHeadRun.getT_eq s)
def loL : List Str := (["RungError", "BadPrime", "BadPoly", "power_by", "PRIMES", "LEAST", "is_prime", "is_number", "is_rest", "refuse_prime"] : List Str) ++ (["rest_power", "raw_stepped", "cleared", "head_place", "unit_row", "raw_kernel", "trimmed", "raw_scaled", "raw_plus", "raw_minus"] : List Str) ++ (["raw_times", "raw_parted", "raw_left", "raw_value", "raw_power", "raw_slope", "raw_level", "raw_greatest", "padded", "turn_rows"] : List Str) ++ (["MOST_RESTS", "is_poly", "refuse_polys", "parts", "rest_roots", "refuse_nought_poly", "raw_parts", "taken_out", "whole_parts", "single_parts"] : List Str) ++ (["steady_polys", "split_by", "half_mask", "_law_begin", "_law_take", "_law_of", "_law_same", "_law_trim", "_law_rests", "_law_poly"] : List Str) ++ (["_law_conv", "_law_mul", "_law_back", "_law_cut_by", "_law_rem", "_law_worth", "_law_tuples", "_law_pairs", "_law_first_part", "_law_is_whole"] : List Str)
theorem run (w : World) : HandSHeadRun.RunEq R (PySem.W.view R.prog [68]) hk ob 14000 loL w := by
  intro os
  kernel_rfl
end Xk
end
section
set_option Elab.async false
set_option linter.all false
set_option maxRecDepth 100000
set_option maxHeartbeats 4000000
namespace Xk
open PySem PySem.Spec PyProof.Rows L2 Xh
/-- names that are the built-in ones still -/
structure Fre (mg : Str → Option Value) : Prop where
  f_len : mg "len" = none
  f_abs : mg "abs" = none
  f_list : mg "list" = none
  f_tuple : mg "tuple" = none
  f_int : mg "int" = none
  f_bool : mg "bool" = none
  f_str : mg "str" = none
  f_isinstance : mg "isinstance" = none
  f_range : mg "range" = none
  f_all : mg "all" = none
  f_zip : mg "zip" = none
  f_enumerate : mg "enumerate" = none
  f_max : mg "max" = none
  f_reversed : mg "reversed" = none
  f_any : mg "any" = none
  f_sorted : mg "sorted" = none
  f_set : mg "set" = none
/-! ### what is drawn -/
/-- a row of draws stands at d -/
def Draw (H : Hp) (d : Addr) : Prop := ∃ (c : Addr) (ns : List Int) (i : Nat) (r g : Int), H d = some (.lst [.ref c, .int i, .int r, .int g]) ∧ H c = some (.lst (ns.map V.int)) ∧ 0 ≤ g ∧ g < 2147483647
/-- all but what stands at d is as it was -/
structure But (d : Addr) (H H' : Hp) : Prop where
  f : ∀ b o, b ≠ d → H b = some o → H' b = some o
  c : ∀ c r, H d = some (.lst (.ref c :: r)) → ∃ r', H' d = some (.lst (.ref c :: r'))
instance {d : Addr} {H H' : Hp} : CoeFun (But d H H') (fun _ => ∀ b o, b ≠ d → H b = some o → H' b = some o) := ⟨But.f⟩
theorem But.refl (d : Addr) (H : Hp) : But d H H := ⟨fun _ _ _ e => e, fun _ r e => ⟨r, e⟩⟩
theorem But.trans {d : Addr} {H H1 H2 : Hp} (a : But d H H1) (b : But d H1 H2) : But d H H2 := ⟨fun c o h e => b.f c o h (a.f c o h e), fun c r e => by
  obtain ⟨r1, e1⟩ := a.c c r e
  exact b.c c r1 e1⟩
theorem But.same {d : Addr} {H H1 : Hp} (a : Same H H1) : But d H H1 := ⟨fun c o _ e => a c o e, fun c r e => ⟨r, a _ _ e⟩⟩
theorem But.upd {d c : Addr} {H : Hp} {r r' : List V} (h : H d = some (.lst (.ref c :: r))) : But d H (upd H d (.lst (.ref c :: r'))) := ⟨fun b u h e => by rw [upd_ne h]; exact e, fun c' r2 e => by
  rw [h] at e
  cases e
  exact ⟨r', upd_same⟩⟩
theorem But.updN {d p : Addr} {H : Hp} {o : HO} (h : H p = none) : But d H (L2.upd H p o) := ⟨fun b u _ e => by rw [upd_ne (ne_of_none e h)]; exact e, fun c r e => ⟨r, by rw [upd_ne (ne_of_none e h)]; exact e⟩⟩
theorem But.free {d p : Addr} {H H' : Hp} (a : But d H H') (h : H' p = none) (hd : p ≠ d) : H p = none := by
  cases q : H p with
  | none => rfl
  | some o =>
    rw [a p o hd q] at h
    cases h
theorem same_upd {p : Addr} {H : Hp} {o : HO} (h : H p = none) : Same H (L2.upd H p o) := fun b u e => by rw [upd_ne (ne_of_none e h)]; exact e
theorem Draw.there {H : Hp} {d : Addr} (D : Draw H d) : ∃ o, H d = some o := by
  obtain ⟨c, ns, i, r, g, h, _⟩ := D
  exact ⟨_, h⟩
theorem Draw.same {H H' : Hp} {d : Addr} (D : Draw H d) (s : Same H H') : Draw H' d := by
  obtain ⟨c, ns, i, r, g, h1, h2, h3⟩ := D
  exact ⟨c, ns, i, r, g, s _ _ h1, s _ _ h2, h3⟩
theorem Draw.ne {H : Hp} {d p : Addr} (D : Draw H d) (h : H p = none) : p ≠ d := fun z => by
  obtain ⟨o, e⟩ := D.there
  rw [z, e] at h
  cases h
theorem But.seq {K : PySem.W.Frag} {d a : Addr} {H H' : Hp} {xs : List V} (b : But d H H') (hd : a ≠ d) (h : SqL K H a xs) : SqL K H' a xs := by
  rcases h with (h | ⟨o, h⟩) | h
  · exact .inl (.inl (b _ _ hd h))
  · exact .inl (.inr ⟨o, b _ _ hd h⟩)
  · exact .inr h
/-- a row that is not the drawing one -/
theorem Draw.apart {H : Hp} {d p : Addr} {ns : List Int} (D : Draw H d) (h : H p = some (.lst (ns.map V.int))) : p ≠ d := fun z => by
  obtain ⟨c, ms, i, r, g, h1, h2, h3⟩ := D
  rw [z, h1] at h
  cases ns with
  | nil => cases h
  | cons n ns => cases h
/-- a list of the comprehension's own grows while draws go on -/
theorem Draw.updR {H0 H2 : Hp} {d D : Addr} {xs ys : List V} (D0 : Draw H0 d) (hD : H0 D = none) (b : But d H0 H2) (D2 : Draw H2 d) (e : H2 D = some (.lst xs)) : Draw (L2.upd H2 D (.lst ys)) d := by
  obtain ⟨c, ns, i, r, g, h1, h2, _⟩ := D0
  obtain ⟨c', ns', i', r', g', f1, f2, f3⟩ := D2
  obtain ⟨q, e1⟩ := b.c _ _ h1
  rw [f1] at e1
  cases e1
  exact ⟨_, ns', i', r', g', by rw [upd_ne (ne_of_none h1 hD)]; exact f1, by rw [upd_ne (ne_of_none h2 hD)]; exact f2, f3⟩
theorem cutV_ints (ns : List Int) (lo hi : Option Int) : ∃ ms : List Int, cutV (ns.map V.int) lo hi = ms.map V.int := by
  refine ⟨(ns.drop (HT.sIx ns.length 0 lo)).take (HT.sIx ns.length ns.length hi - HT.sIx ns.length 0 lo), ?_⟩
  unfold cutV
  rw [List.length_map, ← List.map_drop, ← List.map_take]
theorem ne_of_none' {H : Hp} {a b : Addr} {o : HO} (h : H a = none) (h' : H b = some o) : a ≠ b := fun z => by
  rw [z, h'] at h
  cases h
def spBegin (K : PySem.W.Frag) : Sp := fun vs H Q _ => ∃ (a : Addr) (ns : List Int), vs = [.ref a] ∧ SqL K H a (ns.map V.int) ∧ ∀ d H', Same H H' → H d = none → Draw H' d → Q (.ref d) H'
def spTake : Sp := fun vs H Q _ => ∃ (d : Addr) (n : Int), vs = [.ref d, .int n] ∧ Draw H d ∧ 1 ≤ n ∧ n.natAbs < 2 ^ 200 ∧ ∀ (m : Int) (H' : Hp), 0 ≤ m → m < n → Draw H' d → But d H H' → Q (.int m) H'
def spOf (K : PySem.W.Frag) : Sp := fun vs H Q _ => ∃ (d a : Addr) (xs : List V), vs = [.ref d, .ref a] ∧ Draw H d ∧ SqL K H a xs ∧ a ≠ d ∧ 0 < xs.length ∧ xs.length ≤ 1000 ∧ ∀ (x : V) (H' : Hp), x ∈ xs → Draw H' d → But d H H' → Q x H'
def spPrimes : Sp := fun vs H Q _ => vs = [] ∧ ∀ (p : Addr) (H' : Hp), Same H H' → H p = none → H' p = some (.lst (primes.map V.int)) → Q (.ref p) H'
def spAnyPrime : Sp := fun vs H Q _ => ∃ (d : Addr), vs = [.ref d] ∧ Draw H d ∧ ∀ (p : Int) (H' : Hp), p ∈ primes → Draw H' d → But d H H' → Q (.int p) H'
theorem big {n : Nat} (h : n ≤ 1000) : n < 2 ^ 200 := Nat.lt_of_le_of_lt h (by decide)
section
variable {P : Program} {w : World} {K : PySem.W.Frag} {mg : Str → Option Value} {base : Heap}
theorem sc_law_begin : FnScope (["_law_script"] : List Str) ["_law_script"] (defScope s_law_begin) := ⟨rfl, rfl, rfl, by decide +kernel, rfl, by decide +kernel, by decide +kernel⟩
theorem ok_begin {f : Addr} {fd : FuncData} (F : FunD K "_law_begin" "_law_begin" (defArgs s_law_begin) (defBody s_law_begin) (defScope s_law_begin) [] [] f fd) (T : Fre mg) : FnOk P w K mg base CX0 1 f fd ["_law_script"] (spBegin K) := by
  refine F.ok sc_law_begin (fun vs H Q E h => ?_) (fun cdv A outer s H vs Q E hr h => ?_)
  · obtain ⟨a, ns, rfl, _⟩ := h
    rfl
  · obtain ⟨a, ns, rfl, hS, k⟩ := h
    refine ⟨_, PSs.nox (pss_one (ps_ret (pe_lst (pa_cons (pe_callTy call_list_of (by rfl) T.f_list (by decide +kernel) (pa_cons (pe_slice sl_list (pv 0) po_none (po_some pe_int)) pa_nil)) (pa_cons pe_int (pa_cons pe_int (pa_cons pe_int pa_nil))))))) , ?_⟩
    refine ⟨_, rfl, 63, rfl, a, _, rfl, hS, fun p hp => ⟨p, _, rfl, .inl (SqL.of upd_same), fun l hl => ⟨(by show 4 ≤ sizeLine; decide), fun d hd => ?_⟩⟩⟩
    obtain ⟨ms, em⟩ := cutV_ints ns none (some 63)
    have h1 : H l = none := by rw [← upd_ne (H := H) (o := .lst (cutV (ns.map V.int) none (some 63))) (ne_of_none' hl upd_same)]; exact hl
    have s1 : Same H (L2.upd H p (.lst (cutV (ns.map V.int) none (some 63)))) := same_upd hp
    have s2 := s1.trans (same_upd (o := .lst (cutV (ns.map V.int) none (some 63))) hl)
    refine k d _ (s2.trans (same_upd hd)) (s2.free hd) ⟨l, ms, 0, 0, 37, upd_same, ?_, by decide, by decide⟩
    rw [upd_ne (ne_of_none upd_same hd), upd_same, em]
theorem sc_law_take : FnScope (["_law_draw", "_law_sides", "_law_cell", "_law_got"] : List Str) ["_law_draw", "_law_sides"] (defScope s_law_take) := ⟨rfl, rfl, rfl, by decide +kernel, rfl, by decide +kernel, by decide +kernel⟩
theorem ok_take {f : Addr} {fd : FuncData} (F : FunD K "_law_take" "_law_take" (defArgs s_law_take) (defBody s_law_take) (defScope s_law_take) [] [] f fd) (T : Fre mg) : FnOk P w K mg base CX0 1 f fd ["_law_draw", "_law_sides"] spTake := by
  refine F.ok sc_law_take (fun vs H Q E h => ?_) (fun cdv A outer s H vs Q E hr h => ?_)
  · obtain ⟨d, n, rfl, _⟩ := h
    rfl
  · obtain ⟨d, n, rfl, D, h1, h2, k⟩ := h
    obtain ⟨c, ns, i, r, g, e1, e2, g0, g1⟩ := id D
    have hcd : c ≠ d := D.apart e2
    refine ⟨_, PSs.nox (C8.pss_cut (ps_if (PW.pt (pw_and (pt_cmpR op_lt (pe_ix ix_list (pv 0) pe_int (fun _ _ => rfl)) (pv 1) (nomark _)) (pw_and1 (pt_cmpR op_lt (pe_ix ix_list (pv 0) pe_int (fun _ _ => rfl)) (pe_callB call_len_seq (by rfl) T.f_len PySem.boot_len (pa_cons (pe_ix ix_list (pv 0) pe_int (fun _ _ => rfl)) pa_nil)) (nomark _))))) (pss_cons (ps_set (i := 2) sc_law_take.nd rfl (Or.inl rfl) (pe_ix ix_list (pe_ix ix_list (pv 0) pe_int (fun _ _ => rfl)) (pe_ix ix_list (pv 0) pe_int (fun _ _ => rfl)) (fun _ _ => rfl)))
      (pss_cons (ps_asg (pe_op op_add (pe_ix ix_list (pv 0) pe_int (fun _ _ => rfl)) pe_int) (pg_sub (pv 0) pe_int set_list))
      (pss_cons (ps_asg pe_int (pg_sub (pv 0) pe_int set_list))
      (pss_one (ps_if (pt_cmpR op_ge (pe_callB call_abs (by rfl) T.f_abs (by decide +kernel) (pa_cons (pv 2) pa_nil)) (pe_op op_pow pe_int pe_int) (nomark _)) (pss_one (ps_asg (pe_callB call_abs (by rfl) T.f_abs (by decide +kernel) (pa_cons (pv 2) pa_nil)) (pg_sub (pv 0) pe_int set_list))) (pss_one (ps_asg (pe_op op_modN (pe_op op_add (pe_op op_add (pe_op op_mul (pe_ix ix_list (pv 0) pe_int (fun _ _ => rfl)) pe_int) (pe_op op_mul (pe_op op_modN (pv 2) pe_int) pe_int)) pe_int) pe_int) (pg_sub (pv 0) pe_int set_list)))))))) pss_nil)
      (pss_cons (ps_if (pt_cmpR op_ge (pe_ix ix_list (pv 0) pe_int (fun _ _ => rfl)) (pv 1) (nomark _)) (pss_cons (ps_set (i := 3) sc_law_take.nd rfl (Or.inl rfl) (pe_op op_modN (pe_ix ix_list (pv 0) pe_int (fun _ _ => rfl)) (pv 1)))
      (pss_cons (ps_asg (pe_op op_fdivW (pe_ix ix_list (pv 0) pe_int (fun _ _ => rfl)) (pv 1)) (pg_sub (pv 0) pe_int set_list))
      (pss_one (ps_ret (pv 3))))) pss_nil)
      (pss_cons (ps_asg (pe_op op_modN (pe_op op_add (pe_op op_add (pe_op op_mul (pe_op op_modN (pe_op op_mul (pe_ix ix_list (pv 0) pe_int (fun _ _ => rfl)) (pe_ix ix_list (pv 0) pe_int (fun _ _ => rfl))) pe_int) pe_int) (pe_op op_mul (pe_ix ix_list (pv 0) pe_int (fun _ _ => rfl)) pe_int)) pe_int) pe_int) (pg_sub (pv 0) pe_int set_list))
      (pss_one (ps_ret (pe_op op_modN (pe_op op_add (pe_op op_fdivW (pe_ix ix_list (pv 0) pe_int (fun _ _ => rfl)) pe_int) (pe_op op_mul (pe_op op_modN (pe_ix ix_list (pv 0) pe_int (fun _ _ => rfl)) pe_int) pe_int)) (pv 1))))))) , ?_⟩
    refine ⟨fun σ' H' => ∃ x, σ' = [some (.ref d), some (.int n), x, none] ∧ Draw H' d ∧ But d H H', ?_, ?_⟩
    · have same : ∃ x, L2.start ["_law_draw", "_law_sides", "_law_cell", "_law_got"] [V.ref d, V.int n] = [some (.ref d), some (.int n), x, none] ∧ Draw H d ∧ But d H H := ⟨none, rfl, D, But.refl d H⟩
      refine ⟨_, rfl, d, _, 2, _, rfl, rfl, SqL.of e1, rfl, _, rfl, _, _, rfl, rfl, _, rfl, ?_⟩
      refine ite2 (fun hc => ?_) (fun hc => ?_)
      · refine ⟨_, rfl, d, _, 1, _, rfl, rfl, SqL.of e1, rfl, _, rfl, d, _, 0, _, rfl, rfl, SqL.of e1, rfl, c, _, rfl, .inl (SqL.of e2), _, _, rfl, rfl, _, rfl, ?_⟩
        refine ite2 (fun hi => ?_) (fun hi => ?_)
        · have hi' : i < ns.length := by
            have z := of_decide_eq_true hi
            rw [List.length_map] at z
            omega
          have e1a : ∀ o : HO, L2.upd H d o d = some o := fun o => upd_same
          refine ⟨_, rfl, d, _, 0, _, rfl, rfl, SqL.of e1, rfl, _, rfl, d, _, 1, _, rfl, rfl, SqL.of e1, rfl, c, _, i, .int ns[i], rfl, rfl, SqL.of e2, atI_nat (by simp [hi']), ?_⟩
          refine ⟨_, rfl, d, _, 1, _, rfl, rfl, SqL.of e1, rfl, _, _, rfl, rfl, _, rfl, d, _, 1, 1, rfl, rfl, e1, rfl, ?_⟩
          refine ⟨_, rfl, d, _, 2, 2, rfl, rfl, upd_same, rfl, ?_⟩
          rw [upd_upd]
          refine ⟨_, rfl, _, rfl, _, _, rfl, rfl, ⟨by decide, by decide, by decide⟩, _, _, rfl, rfl, _, rfl, ?_⟩
          have fin : ∀ (r' g' : Int), 0 ≤ g' → g' < 2147483647 → ∃ x, [some (V.ref d), some (V.int n), some (V.int ns[i]), none] = [some (.ref d), some (.int n), x, none] ∧ Draw (L2.upd H d (.lst [.ref c, .int ((i : Int) + 1), .int r', .int g'])) d ∧ But d H (L2.upd H d (.lst [.ref c, .int ((i : Int) + 1), .int r', .int g'])) := fun r' g' a1 a2 =>
            ⟨_, rfl, ⟨c, ns, i + 1, r', g', upd_same, by rw [upd_ne hcd]; exact e2, a1, a2⟩, But.upd e1⟩
          refine ite2 (fun ha => ?_) (fun ha => ?_)
          · refine ⟨_, rfl, _, rfl, _, rfl, d, _, 2, 2, rfl, rfl, upd_same, rfl, ?_⟩
            rw [upd_upd]
            exact fin _ g g0 g1
          · refine ⟨_, rfl, d, _, 3, _, rfl, rfl, SqL.of upd_same, rfl, _, _, rfl, rfl, .inr ⟨by decide, by decide⟩, _, rfl, _, _, rfl, rfl, (fun z => absurd z (by decide)), _, _, rfl, rfl, .inr ⟨by decide, by decide⟩, _, _, rfl, rfl, _, _, rfl, rfl, _, _, rfl, rfl, (fun z => absurd z (by decide)), _, rfl, d, _, 3, 3, rfl, rfl, upd_same, rfl, ?_⟩
            rw [upd_upd]
            exact fin 0 _ (Int.fmod_nonneg_of_pos _ (by decide)) (Int.fmod_lt_of_pos _ (by decide))
        · exact same
      · exact same
    · rintro σ' H' ⟨x, rfl, ⟨c', ns', i', r', g', f1, f2, b0, b1⟩, hb⟩
      have D' : Draw H' d := ⟨c', ns', i', r', g', f1, f2, b0, b1⟩
      have hcd' : c' ≠ d := D'.apart f2
      have hwd : CDivW r' n := wide_div (b := 200) (by omega) h2 (by decide) (by decide)
      refine ⟨_, rfl, d, _, 2, _, rfl, rfl, SqL.of f1, rfl, _, rfl, _, _, rfl, rfl, _, rfl, ?_⟩
      refine ite2 (fun hc => ?_) (fun hc => ?_)
      · refine ⟨_, rfl, d, _, 2, _, rfl, rfl, SqL.of f1, rfl, _, rfl, _, _, rfl, rfl, (by show n ≠ 0; omega), ?_⟩
        refine ⟨_, rfl, d, _, 2, _, rfl, rfl, SqL.of f1, rfl, _, rfl, _, _, rfl, rfl, hwd, _, rfl, d, _, 2, 2, rfl, rfl, f1, rfl, _, rfl, ?_⟩
        refine k _ _ (Int.fmod_nonneg_of_pos _ (by omega)) (Int.fmod_lt_of_pos _ (by omega)) ⟨c', ns', i', _, g', upd_same, by rw [upd_ne hcd']; exact f2, b0, b1⟩ (hb.trans (But.upd f1))
      · refine ⟨_, rfl, d, _, 3, _, rfl, rfl, SqL.of f1, rfl, _, rfl, d, _, 3, _, rfl, rfl, SqL.of f1, rfl, _, _, rfl, rfl, .inl ⟨by omega, by omega⟩, _, _, rfl, rfl, (fun z => absurd z (by decide)), _, _, rfl, rfl, .inr ⟨by decide, by decide⟩, _, rfl, d, _, 3, _, rfl, rfl, SqL.of f1, rfl, _, _, rfl, rfl, .inr ⟨by decide, by decide⟩, _, _, rfl, rfl, _, _, rfl, rfl, _, _, rfl, rfl, (fun z => absurd z (by decide)), _, rfl, d, _, 3, 3, rfl, rfl, f1, rfl, ?_⟩
        refine ⟨_, rfl, d, _, 3, _, rfl, rfl, SqL.of upd_same, rfl, _, _, rfl, rfl, wide_div (b := 6) (by decide) (by decide) (by decide) (by decide), _, rfl, d, _, 3, _, rfl, rfl, SqL.of upd_same, rfl, _, _, rfl, rfl, (fun z => absurd z (by decide)), _, _, rfl, rfl, .inr ⟨by decide, by decide⟩, _, _, rfl, rfl, _, rfl, _, _, rfl, rfl, (by show n ≠ 0; omega), ?_⟩
        refine k _ _ (Int.fmod_nonneg_of_pos _ (by omega)) (Int.fmod_lt_of_pos _ (by omega)) ⟨c', ns', i', _, _, upd_same, by rw [upd_ne hcd']; exact f2, Int.fmod_nonneg_of_pos _ (by decide), Int.fmod_lt_of_pos _ (by decide)⟩ (hb.trans (But.upd f1))
theorem sc_law_of : FnScope (["_law_draw", "_law_row"] : List Str) ["_law_draw", "_law_row"] (defScope s_law_of) := ⟨rfl, rfl, rfl, by decide +kernel, rfl, by decide +kernel, by decide +kernel⟩
theorem ok_of {f : Addr} {fd : FuncData} (F : FunD K "_law_of" "_law_of" (defArgs s_law_of) (defBody s_law_of) (defScope s_law_of) [] [] f fd) (T : Fre mg) (o_law_take : Own P w K mg base CX0 1 "_law_take" ["_law_draw", "_law_sides"] [] spTake) : FnOk P w K mg base CX0 2 f fd ["_law_draw", "_law_row"] (spOf K) := by
  refine F.ok sc_law_of (fun vs H Q E h => ?_) (fun cdv A outer s H vs Q E hr h => ?_)
  · obtain ⟨d, a, xs, rfl, _⟩ := h
    rfl
  · obtain ⟨d, a, xs, rfl, D, hS, had, h1, h2, k⟩ := h
    refine ⟨_, PSs.nox (pss_one (ps_ret (pe_ix ix_list (pv 1) (pe_own o_law_take (hr.mono (by decide)) rfl pass0 (pa_cons (pv 0) (pa_cons (pe_callB call_len_seq (by rfl) T.f_len PySem.boot_len (pa_cons (pv 1) pa_nil)) pa_nil))) (fun _ _ => rfl)))) , ?_⟩
    refine ⟨_, rfl, _, rfl, _, rfl, a, _, rfl, .inl hS, d, _, rfl, D, (by show 1 ≤ ((xs.length : Nat) : Int); omega), (by show ((xs.length : Nat) : Int).natAbs < 2 ^ 200; exact big (by omega)), fun m H' m0 m1 D' B => ?_⟩
    obtain ⟨j, rfl⟩ := Int.eq_ofNat_of_zero_le m0
    have hj : j < xs.length := by omega
    refine ⟨a, xs, j, xs[j], rfl, rfl, B.seq had hS, atI_nat (by simp [hj]), k _ _ (List.getElem_mem hj) D' B⟩
end
end Xk
end
section
set_option Elab.async false
set_option linter.all false
set_option maxRecDepth 100000
set_option maxHeartbeats 4000000
namespace Xk
open PySem PySem.Spec PyProof.Rows L2 Xh LamX NdefX
/-! ### two things alike -/
theorem tyT {K : PySem.W.Frag} {H : Hp} {a : Addr} {xs : List V} (h : SqT K H a xs) : TyX K H (.ref a) (.type "tuple") := by
  rcases h with (h | ⟨o, h⟩) | ⟨o, its, n, h, c, _⟩
  · exact .base (.tup h)
  · exact .fTuple h
  · exact .kTuple h c
theorem tyL {K : PySem.W.Frag} {H : Hp} {a : Addr} {xs : List V} (h : SqL K H a xs) : TyX K H (.ref a) (.type "list") := by
  rcases h with (h | ⟨o, h⟩) | ⟨o, its, n, h, c, _⟩
  · exact .base (.lst h)
  · exact .base (.frz h)
  · exact .kList h c
theorem sameT {K : PySem.W.Frag} {H H' : Hp} {a : Addr} {xs : List V} (e : Same H H') (h : SqT K H a xs) : SqT K H' a xs := by
  rcases h with (h | ⟨o, h⟩) | h
  · exact .inl (.inl (e _ _ h))
  · exact .inl (.inr ⟨o, e _ _ h⟩)
  · exact .inr h
def tyF : V → String
  | .non => "NoneType"
  | .bl _ => "bool"
  | .int _ => "int"
  | _ => "str"
theorem flat_ty {K : PySem.W.Frag} {H : Hp} {x : V} (h : flatV x = true) : TyX K H x (.type (tyF x)) := by
  cases x with
  | non => exact .base .non
  | bl b => exact .base (.bl b)
  | int i => exact .base (.int i)
  | str s => exact .base (.str s)
  | _ => cases h
theorem flat_ty4 {x : V} (h : flatV x = true) : tyF x = "NoneType" ∨ tyF x = "bool" ∨ tyF x = "int" ∨ tyF x = "str" := by
  cases x with
  | non => exact .inl rfl
  | bl b => exact .inr (.inl rfl)
  | int i => exact .inr (.inr (.inl rfl))
  | str s => exact .inr (.inr (.inr rfl))
  | _ => cases h
theorem any_lt {K : PySem.W.Frag} : PySem.W.kitAny K (.type "list") [.type "list", .type "tuple"] = some true := kitAny_cons (b := true) (kit_ty (by decide +kernel)) (fun z => by cases z) (fun _ => rfl)
theorem any_tt {K : PySem.W.Frag} : PySem.W.kitAny K (.type "tuple") [.type "list", .type "tuple"] = some true := kitAny_cons (b := false) (kit_ty (by decide +kernel)) (fun _ => kitAny_cons (b := true) (kit_ty (by decide +kernel)) (fun z => by cases z) (fun _ => rfl)) (fun z => by cases z)
theorem any_f {K : PySem.W.Frag} {t : String} (h : t = "NoneType" ∨ t = "bool" ∨ t = "int" ∨ t = "str") : PySem.W.kitAny K (.type t) [.type "list", .type "tuple"] = some false := by
  have two : kitB t "list" = some false ∧ kitB t "tuple" = some false := by
    rcases h with rfl | rfl | rfl | rfl <;> exact ⟨by decide +kernel, by decide +kernel⟩
  exact kitAny_cons (b := false) (kit_ty two.1) (fun _ => kitAny_cons (b := false) (kit_ty two.2) (fun _ => kitAny_nil) (fun z => by cases z)) (fun z => by cases z)
theorem one_f {K : PySem.W.Frag} {t : String} (h : t = "NoneType" ∨ t = "bool" ∨ t = "int" ∨ t = "str") : (∃ b, PySem.W.kitOne K (.type t) (.type "bool") = some b) ∧ (∃ b, PySem.W.kitOne K (.type t) (.type "int") = some b) ∧ ∃ b, PySem.W.kitOne K (.type t) (.type "str") = some b := by
  rcases h with rfl | rfl | rfl | rfl
  · exact ⟨⟨_, kit_ty (r := false) (by decide +kernel)⟩, ⟨_, kit_ty (r := false) (by decide +kernel)⟩, ⟨_, kit_ty (r := false) (by decide +kernel)⟩⟩
  · exact ⟨⟨_, kit_ty (r := true) (by decide +kernel)⟩, ⟨_, kit_ty (r := true) (by decide +kernel)⟩, ⟨_, kit_ty (r := false) (by decide +kernel)⟩⟩
  · exact ⟨⟨_, kit_ty (r := false) (by decide +kernel)⟩, ⟨_, kit_ty (r := true) (by decide +kernel)⟩, ⟨_, kit_ty (r := false) (by decide +kernel)⟩⟩
  · exact ⟨⟨_, kit_ty (r := false) (by decide +kernel)⟩, ⟨_, kit_ty (r := false) (by decide +kernel)⟩, ⟨_, kit_ty (r := true) (by decide +kernel)⟩⟩
theorem walk_zipT {K : PySem.W.Frag} {a b : Addr} {xs ys : List V} (hn : xs.length = ys.length) : Walk (RZ.ItzT K a b) xs.length (fun H => SqT K H a xs ∧ SqT K H b ys) (YPair (fun i => xs[i]?) (fun i => ys[i]?)) :=
  ⟨fun i H hi h => ⟨xs, ys, xs[i], ys[i]'(by omega), h.1, h.2, by simp [hi], by simp [show i < ys.length by omega]⟩, fun H h => ⟨xs, ys, h.1, h.2, .inl (Nat.le_refl _)⟩,
    fun i H x H' hi h y => by
      obtain ⟨T, u, v, e1, e2, e3, q1, q2⟩ := y
      exact ⟨T, u, v, e1, e2, e3, q1 xs h.1, q2 ys h.2⟩⟩
/-- alike, to a depth -/
def SameAt (K : PySem.W.Frag) (H : Hp) : Nat → V → V → Prop
  | 0, v, u => flatV u = true ∧ v = u
  | n + 1, v, u => (flatV u = true ∧ v = u) ∨ ∃ (a b : Addr) (xs ys : List V), v = .ref a ∧ u = .ref b ∧ ((SqL K H a xs ∧ SqL K H b ys) ∨ (SqT K H a xs ∧ SqT K H b ys)) ∧ xs.length = ys.length ∧ xs.length ≤ 1000 ∧ ∀ (i : Nat) (x y : V), xs[i]? = some x → ys[i]? = some y → SameAt K H n x y
theorem SameAt.same {K : PySem.W.Frag} {H H' : Hp} (s : Same H H') : ∀ {n : Nat} {v u : V}, SameAt K H n v u → SameAt K H' n v u
  | 0, _, _, h => h
  | n + 1, _, _, .inl h => .inl h
  | n + 1, _, _, .inr ⟨a, b, xs, ys, e1, e2, h, l, l2, q⟩ => .inr ⟨a, b, xs, ys, e1, e2, h.imp (fun z => ⟨s.seq z.1, s.seq z.2⟩) (fun z => ⟨sameT s z.1, sameT s z.2⟩), l, l2, fun i x y hx hy => (q i x y hx hy).same s⟩
def spS (K : PySem.W.Frag) : Nat → Sp
  | 0 => fun _ _ _ _ => False
  | n + 1 => fun vs H Q _ => ∃ (v u : V), vs = [v, u] ∧ SameAt K H n v u ∧ ∀ H', Same H H' → Q (.bl true) H'
theorem spS_len {K : PySem.W.Frag} : ∀ (n : Nat) (vs : List V) (H : Hp) (Q : VK) (E : XK), spS K n vs H Q E → vs.length = (["_law_found", "_law_due"] : List Str).length
  | 0, _, _, _, _, h => h.elim
  | n + 1, _, _, _, _, ⟨v, u, e, _⟩ => by rw [e]; rfl
section
variable {P : Program} {w : World} {K : PySem.W.Frag} {mg : Str → Option Value} {base : Heap}
theorem sc_law_same : FnScope (["_law_found", "_law_due", "_law_one", "_law_other"] : List Str) ["_law_found", "_law_due"] (defScope s_law_same) := ⟨rfl, rfl, rfl, by decide +kernel, rfl, by decide +kernel, by decide +kernel⟩
theorem ok_same {f : Addr} {fd : FuncData} (F : FunD K "_law_same" "_law_same" (defArgs s_law_same) (defBody s_law_same) (defScope s_law_same) [] [] f fd) (T : Fre mg) (m : mg "_law_same" = some (.ref f)) : ∀ n : Nat, FnOk P w K mg base CX0 n f fd ["_law_found", "_law_due"] (spS K n) := by
  intro n
  induction n with
  | zero => exact ⟨fun _ _ _ _ h => h.elim, fun _ _ _ _ _ _ _ _ _ _ _ _ _ h => h.elim⟩
  | succ n ih =>
  have o_law_same : Own P w K mg base CX0 n "_law_same" ["_law_found", "_law_due"] [] (spS K n) := own_of F ih m fun _ _ _ _ _ _ us hl => match us, hl with | [_, _], _ => rfl
  refine F.ok sc_law_same (spS_len _) (fun cdv A outer s H vs Q E hr h => ?_)
  obtain ⟨v, u, rfl, hs, k⟩ := h
  refine ⟨_, PSs.nox (pss_cons (ps_if (pt_val (pe_callB call_isiT (by rfl) T.f_isinstance PyProof.Rows.boot_isinstance (pa_cons (pv 1) (pa_cons (pe_tup (pa_cons (pe_bltn (v := .ty "list") rfl T.f_list boot_list rfl) (pa_cons (pe_bltn (v := .ty "tuple") rfl T.f_tuple boot_tuple rfl) pa_nil))) pa_nil)))) (pss_cons (ps_if (PW.pt (pw_or (pt_cmpR op_ne (pe_callB call_isi (by rfl) T.f_isinstance PyProof.Rows.boot_isinstance (pa_cons (pv 0) (pa_cons (pe_bltn (v := .ty "list") rfl T.f_list boot_list rfl) pa_nil))) (pe_callB call_isi (by rfl) T.f_isinstance PyProof.Rows.boot_isinstance (pa_cons (pv 1) (pa_cons (pe_bltn (v := .ty "list") rfl T.f_list boot_list rfl) pa_nil))) (nomark _)) (pw_or1 (pt_not (pt_val (pe_callB call_isiT (by rfl) T.f_isinstance PyProof.Rows.boot_isinstance (pa_cons (pv 0) (pa_cons (pe_tup (pa_cons (pe_bltn (v := .ty "list") rfl T.f_list boot_list rfl) (pa_cons (pe_bltn (v := .ty "tuple") rfl T.f_tuple boot_tuple rfl) pa_nil))) pa_nil)))))))) (pss_one (ps_ret pe_bl)) pss_nil)
      (pss_one (ps_ret (pe_and (pe_cmpR op_eq (pe_callB call_len_seq (by rfl) T.f_len PySem.boot_len (pa_cons (pv 0) pa_nil)) (pe_callB call_len_seq (by rfl) T.f_len PySem.boot_len (pa_cons (pv 1) pa_nil)) (nomark _)) (pe_one (pe_callB (cr_all rfl) (by rfl) T.f_all (by decide +kernel) (pa_cons (pe_lc (own := [("_law_one", 2), ("_law_other", 3)]) (g := (gTup K 2 (gCons (gName 2) (gCons (gName 3) gNil)))) rfl sc_law_same.nd (RZ.pi_zipA (by rfl) T.f_zip (pa_cons (pv 0) (pa_cons (pv 1) pa_nil))) (blkOk_by (own := [("_law_one", 2), ("_law_other", 3)]) (N := ["_law_found", "_law_due", "_law_one", "_law_other"]) (sc := defScope s_law_same) (by decide +kernel)) (fun _ _ _ _ _ => pg_tup rfl (pgs_cons (pg_name (i := 2) sc_law_same.nd rfl (Or.inl rfl) (Or.inr rfl)) (pgs_cons (pg_name (i := 3) sc_law_same.nd rfl (Or.inl rfl) (Or.inr rfl)) pgs_nil))) (fun _ _ _ _ _ => pts_nil) (fun _ _ _ _ _ => (pe_own o_law_same hr rfl pass0 (pa_cons (pv 2) (pa_cons (pv 3) pa_nil))))) pa_nil))))))) pss_nil)
      (pss_cons (ps_if (pt_cmpR op_isN (pv 1) pe_non (nomark _)) (pss_one (ps_ret (pe_cmpR op_isN (pv 0) pe_non (nomark _)))) pss_nil)
      (pss_cons (ps_if (PW.pt (pw_or (pt_cmpR op_ne (pe_callB call_isi (by rfl) T.f_isinstance PyProof.Rows.boot_isinstance (pa_cons (pv 0) (pa_cons (pe_bltn (v := .ty "bool") rfl T.f_bool boot_bool rfl) pa_nil))) (pe_callB call_isi (by rfl) T.f_isinstance PyProof.Rows.boot_isinstance (pa_cons (pv 1) (pa_cons (pe_bltn (v := .ty "bool") rfl T.f_bool boot_bool rfl) pa_nil))) (nomark _)) (pw_or1 (pt_cmpR op_ne (pe_callB call_isi (by rfl) T.f_isinstance PyProof.Rows.boot_isinstance (pa_cons (pv 0) (pa_cons (pe_bltn (v := .ty "int") rfl T.f_int boot_int rfl) pa_nil))) (pe_callB call_isi (by rfl) T.f_isinstance PyProof.Rows.boot_isinstance (pa_cons (pv 1) (pa_cons (pe_bltn (v := .ty "int") rfl T.f_int boot_int rfl) pa_nil))) (nomark _))))) (pss_one (ps_ret pe_bl)) pss_nil)
      (pss_one (ps_ret (pe_and (pe_cmpR op_eq (pe_callB call_isi (by rfl) T.f_isinstance PyProof.Rows.boot_isinstance (pa_cons (pv 0) (pa_cons (pe_bltn (v := .ty "str") rfl T.f_str boot_str rfl) pa_nil))) (pe_callB call_isi (by rfl) T.f_isinstance PyProof.Rows.boot_isinstance (pa_cons (pv 1) (pa_cons (pe_bltn (v := .ty "str") rfl T.f_str boot_str rfl) pa_nil))) (nomark _)) (pe_one (pe_cmpR op_eq (pv 0) (pv 1) (nomark _))))))))) , ?_⟩
  have cs : (flatV u = true ∧ v = u) ∨ ∃ (a b : Addr) (xs ys : List V), v = .ref a ∧ u = .ref b ∧ ((SqL K H a xs ∧ SqL K H b ys) ∨ (SqT K H a xs ∧ SqT K H b ys)) ∧ xs.length = ys.length ∧ xs.length ≤ 1000 ∧ ∀ (H1 : Hp), Same H H1 → ∀ (i : Nat) (x y : V) (Q : VK) (E : XK), xs[i]? = some x → ys[i]? = some y → (∀ H2, Same H1 H2 → Q (.bl true) H2) → spS K n [x, y] H1 Q E := by
    cases n with
    | zero => exact .inl hs
    | succ m =>
      rcases hs with h | ⟨a, b, xs, ys, e1, e2, h, l, l2, q⟩
      · exact .inl h
      · exact .inr ⟨a, b, xs, ys, e1, e2, h, l, l2, fun H1 s1 i x y Q E hx hy k => ⟨x, y, rfl, (q i x y hx hy).same s1, k⟩⟩
  rcases cs with ⟨hf, rfl⟩ | ⟨a, b, xs, ys, rfl, rfl, hh, hl, hl2, hq⟩
  · have t4 := flat_ty4 hf
    obtain ⟨⟨b1, o1⟩, ⟨b2, o2⟩, ⟨b3, o3⟩⟩ := one_f (K := K) t4
    refine ⟨_, rfl, (by show 2 ≤ sizeLine; decide), fun p hp => ⟨v, p, [.ty "list", .ty "tuple"], _, [.type "list", .type "tuple"], false, rfl, upd_same, .cons (.ty _) (.cons (.ty _) .nil), flat_ty hf, any_f t4, _, rfl, iteF ?_⟩⟩
    refine ⟨_, rfl, rfl, _, rfl, ?_⟩
    refine ite2 (fun hc => ?_) (fun hc => ?_)
    · refine ⟨_, rfl, rfl, ?_⟩
      rw [hc]
      exact k _ (same_upd hp)
    · have ty : ∀ (H1 : Hp), TyX K H1 v (.type (tyF v)) := fun H1 => flat_ty hf
      have nb : (!decide (V.bl b1 = V.bl b1)) = false := by simp
      have nb2 : (!decide (V.bl b2 = V.bl b2)) = false := by simp
      have e3 : decide (V.bl b3 = V.bl b3) = true := by simp
      have ev : decide (v = v) = true := by simp
      have sc : scal v v = true := by
        cases v with
        | non => exact absurd (decide_eq_true rfl) hc
        | bl _ => rfl
        | int _ => rfl
        | str _ => rfl
        | _ => cases hf
      refine ⟨_, rfl, v, _, _, _, b1, rfl, .ty _, ty _, o1, _, rfl, v, _, _, _, b1, rfl, .ty _, ty _, o1, rfl, _, rfl, ?_⟩
      rw [nb]
      refine iteF ⟨_, rfl, v, _, _, _, b2, rfl, .ty _, ty _, o2, _, rfl, v, _, _, _, b2, rfl, .ty _, ty _, o2, rfl, _, rfl, ?_⟩
      rw [nb2]
      refine iteF ⟨_, rfl, v, _, _, _, b3, rfl, .ty _, ty _, o3, _, rfl, v, _, _, _, b3, rfl, .ty _, ty _, o3, rfl, _, rfl, ?_⟩
      rw [e3]
      refine iteT ⟨_, rfl, _, rfl, sc, ?_⟩
      rw [ev]
      exact k _ (same_upd hp)
  · have key : ∃ (t : String) (bl : Bool), PySem.W.kitOne K (.type t) (.type "list") = some bl ∧ PySem.W.kitAny K (.type t) [.type "list", .type "tuple"] = some true ∧ (∀ H1, Same H H1 → TyX K H1 (.ref a) (.type t) ∧ TyX K H1 (.ref b) (.type t)) := by
      rcases hh with ⟨ha, hb⟩ | ⟨ha, hb⟩
      · exact ⟨"list", true, kit_ty (by decide +kernel), any_lt, fun H1 s1 => ⟨tyL (s1.seq ha), tyL (s1.seq hb)⟩⟩
      · exact ⟨"tuple", false, kit_ty (by decide +kernel), any_tt, fun H1 s1 => ⟨tyT (sameT s1 ha), tyT (sameT s1 hb)⟩⟩
    obtain ⟨t, bl, o1, o2, ty⟩ := key
    have sq : ∀ H1, Same H H1 → (SqL K H1 a xs ∨ SqT K H1 a xs) ∧ (SqL K H1 b ys ∨ SqT K H1 b ys) := fun H1 s1 => by
      rcases hh with ⟨ha, hb⟩ | ⟨ha, hb⟩
      · exact ⟨.inl (s1.seq ha), .inl (s1.seq hb)⟩
      · exact ⟨.inr (sameT s1 ha), .inr (sameT s1 hb)⟩
    refine ⟨_, rfl, (by show 2 ≤ sizeLine; decide), fun p hp => ⟨.ref b, p, [.ty "list", .ty "tuple"], _, [.type "list", .type "tuple"], true, rfl, upd_same, .cons (.ty _) (.cons (.ty _) .nil), (ty _ (same_upd hp)).2, o2, _, rfl, iteT ?_⟩⟩
    have s1 : Same H (L2.upd H p (.tup [.ty "list", .ty "tuple"])) := same_upd hp
    refine ⟨_, rfl, .ref a, _, _, _, bl, rfl, .ty _, (ty _ s1).1, o1, _, rfl, .ref b, _, _, _, bl, rfl, .ty _, (ty _ s1).2, o1, rfl, _, rfl, ?_⟩
    rw [show (!decide (V.bl bl = V.bl bl)) = false from by simp]
    refine iteF ⟨_, rfl, (by show 2 ≤ sizeLine; decide), fun p2 hp2 => ⟨.ref a, p2, [.ty "list", .ty "tuple"], _, [.type "list", .type "tuple"], true, rfl, upd_same, .cons (.ty _) (.cons (.ty _) .nil), (ty _ (s1.trans (same_upd hp2))).1, o2, _, rfl, iteF ?_⟩⟩
    have s2 := s1.trans (same_upd (o := .tup [.ty "list", .ty "tuple"]) hp2)
    refine ⟨_, rfl, a, xs, rfl, (sq _ s2).1, _, rfl, b, ys, rfl, (sq _ s2).2, rfl, _, rfl, ?_⟩
    rw [hl, show decide (V.int (ys.length : Int) = V.int (ys.length : Int)) = true from decide_eq_true rfl]
    refine iteT ?_
    have core : ∀ (J : It) (G : Hp → Prop), Walk J xs.length G (YPair (fun i => xs[i]?) (fun i => ys[i]?)) → (∀ H1, Same H H1 → G H1) → ∀ D, (L2.upd (L2.upd H p (.tup [.ty "list", .ty "tuple"])) p2 (.tup [.ty "list", .ty "tuple"])) D = none → _ := fun J G w hG D hD =>
      lc_it w (vs := [2, 3]) (σ := [some (.ref a), some (.ref b), none, none]) (g := gTup K 2 (gCons (gName 2) (gCons (gName 3) gNil))) (tt := fun _ H Q => Q true H) (te := tCall (spS K n) [] E0 (tCons (tVar 2) (tCons (tVar 3) tNil))) (Qd := fun H1 => rAll K [.ref D] H1 Q)
        (fun i H1 => Same H H1 ∧ H D = none ∧ H1 D = some (.lst ((List.replicate i true).map V.bl)) ∧ i ≤ xs.length) ⟨s2.trans (same_upd hD), s2.free hD, upd_same, Nat.zero_le _⟩ (fun i H1 _ h => hG H1 h.1)
        (fun i v H1 H2 hi ⟨q1, q2, q3, q4⟩ ⟨Tp, x, y, e1, e2, e3, hx, hy⟩ => by
          subst e1 e3
          have q1' := q1.trans (same_upd (o := .tup [x, y]) e2)
          refine ⟨Tp, _, rfl, SqT.of upd_same, rfl, x, _, rfl, y, _, rfl, rfl, rfl, iteT ⟨_, rfl, _, rfl, hq _ q1' i x y _ _ hx hy fun H3 q5 => ?_⟩⟩
          have hD3 : H3 D = some (.lst ((List.replicate i true).map V.bl)) := q5 _ _ (by rw [upd_ne (ne_of_none q3 e2)]; exact q3)
          refine ⟨_, hD3, ?_, fun c o h => ?_, q2, ?_, hi⟩
          · rw [List.length_map, List.length_replicate]
            exact small1000 (by omega)
          · rw [upd_ne (ne_of_none h q2)]
            exact q5 _ _ (q1' _ _ h)
          · rw [upd_same, List.replicate_succ', List.map_append]
            rfl)
        (fun H1 ⟨q1, q2, q3, q4⟩ => ⟨D, List.replicate xs.length true, rfl, SqL.of q3, by rw [show (List.replicate xs.length true).all id = true from by simp]; exact k H1 q1⟩)
    rcases hh with ⟨ha, hb⟩ | ⟨ha, hb⟩
    · exact ⟨_, rfl, _, rfl, a, b, xs, ys, rfl, .inl ⟨s2.seq ha, s2.seq hb, core _ _ (walk_zip (by omega)) (fun H1 s => ⟨s.seq ha, s.seq hb⟩)⟩⟩
    · exact ⟨_, rfl, _, rfl, a, b, xs, ys, rfl, .inr ⟨sameT s2 ha, sameT s2 hb, core _ _ (walk_zipT hl) (fun H1 s => ⟨sameT s ha, sameT s hb⟩)⟩⟩
end
end Xk
end
section
set_option Elab.async false
set_option linter.all false
set_option maxRecDepth 100000
set_option maxHeartbeats 4000000
namespace Xk
open PySem PySem.Spec PyProof.Rows L2 Xh LamX NdefX
/-- N to the power e by P -/
def rpow (N : Nat) (e : Int) (P : Nat) : Nat := if N = 0 then (if e = 0 then 1 else 0) else N ^ (e.fmod ((P : Int) - 1)).toNat % P
def spRPow : Sp := fun vs H Q _ => ∃ (N P : Nat) (e : Int), vs = [.int N, .int e, .int P] ∧ 2 ≤ P ∧ P ≤ 1000 ∧ N < P ∧ Q (.int (rpow N e P)) H
theorem fmodN (a b : Nat) : (a : Int).fmod (b : Int) = ((a % b : Nat) : Int) := by
  rw [Int.fmod_eq_emod_of_nonneg _ (Int.natCast_nonneg b), Int.natCast_emod]
def slotN (i : Nat) (σ : L2.St) : Nat := match σ[i]? with
  | some (some (.int s)) => s.toNat
  | _ => 0
/-! ### powers by any multiplication -/
/-- c multiplies: Rel i x: x is the i-th power; what power_by promises by that -/
def TTpow : Addr → Sp → Sp := fun f c vs H Q E => ∃ (u o : V) (e : Nat) (Rel : Nat → V → Hp → Prop) (T : List (Addr × Str)), vs = [.ref f, u, o, .int e] ∧ Tabs T H ∧ Rel 0 u H ∧ Rel 1 o H ∧ (∀ i x H1 H2, Gr T H1 H2 → Rel i x H1 → Rel i x H2) ∧
  (∀ i j x y H1, Gr T H H1 → Rel i x H1 → Rel j y H1 → ∀ Q', (∀ z H2, Gr T H1 H2 → Rel (i + j) z H2 → Q' z H2) → c [x, y] H1 Q' E) ∧ ∀ z H1, Gr T H H1 → Rel e z H1 → Q z H1
/-- the lambda in a row `return g(lambda .., ..)` -/
def lamP (s : Stmt) : Arguments × Expr × Scope := match s with
  | .Return (some (.Call _ (.Lambda p b c _ :: _) _ _)) _ => (p, b, c)
  | s => (defArgs s, .Name "x" ⟨0, 0, 0, 0⟩, defScope s)
/-- of rests -/
def spMulP : List (Option V) → Sp := fun ws vs H Q _ => ∃ a b M : Nat, ws = [some (.int M)] ∧ vs = [.int a, .int b] ∧ a < M ∧ b < M ∧ 2 ≤ M ∧ M ≤ 1000 ∧ Q (.int ((a * b % M : Nat) : Int)) H
def rpQ : Str := (envOfC "rest_power" ⟨.function, [], false, false, []⟩ 0 0 .none).qual ++ "<lambda>"
def spRPowT (T : List (Addr × Str)) : Sp := fun vs H Q _ => ∃ (N P : Nat) (e : Int), vs = [.int N, .int e, .int P] ∧ 2 ≤ P ∧ P ≤ 1000 ∧ N < P ∧ Tabs T H ∧ ∀ H', Gr T H H' → Q (.int (rpow N e P)) H'
section
variable {P : Program} {w : World} {K : PySem.W.Frag} {mg : Str → Option Value} {base : Heap}
theorem sc_power_by : FnScope (["times", "unit", "one", "exponent", "power", "square", "steps"] : List Str) ["times", "unit", "one", "exponent"] (defScope s_power_by) := ⟨rfl, rfl, rfl, by decide +kernel, rfl, by decide +kernel, by decide +kernel⟩
theorem ok_power_by {g : Addr} {fd : FuncData} {kl : Nat} (F : FunD K "power_by" "power_by" (defArgs s_power_by) (defBody s_power_by) (defScope s_power_by) [] [] g fd) (m : mg "power_by" = some (.ref g)) : GivesV P w K mg base (kl + 1) kl "power_by" g TTpow := by
  refine givesV_of (Ng := ["times", "unit", "one", "exponent", "power", "square", "steps"]) (ps := ["times", "unit", "one", "exponent"]) F m sc_power_by (fun _ _ _ _ _ _ us hl => match us, hl with | [_, _, _, _], _ => rfl) (fun f c vs H Q E h => ?_) fun cdg A outer f FF b lps fr ws spl s H vs Q hr Fn C hf h => ?_
  · obtain ⟨u, o, e, Rel, TG, rfl, _⟩ := h
    rfl
  · obtain ⟨u, o, e, Rel, TG, rfl, hTG, r0, r1, stay, step, k⟩ := h
    have pf : ∀ {H1 : Hp}, Gr TG H H1 → H1 f = some (LamO f FF b) := fun g => g.x _ _ hf lamO_ne
    refine ⟨_, (pss_cons (ps_set (i := 4) sc_power_by.nd rfl (Or.inl rfl) (pv 1))
      (pss_cons (ps_set (i := 5) sc_power_by.nd rfl (Or.inl rfl) (pv 2))
      (pss_cons (ps_set (i := 6) sc_power_by.nd rfl (Or.inl rfl) (pv 3))
      (pss_cons (ps_while PassesOwn.never (pt_cmpR op_gt (pv 6) pe_int (nomark _)) (C8.pss_cut (ps_if (pt_cmpR op_eq (pe_op op_modN (pv 6) pe_int) pe_int (nomark _)) (pss_one (ps_set (i := 4) sc_power_by.nd rfl (Or.inl rfl) (pe_callP (i := 0) Fn C rfl hr (Nat.le_refl _) pass0 rfl (Or.inl rfl) (pa_cons (pv 4) (pa_cons (pv 5) pa_nil))))) pss_nil)
      (pss_cons (ps_aug (i := 6) sc_power_by.nd rfl (Or.inl rfl) pe_int iop_fdivW)
      (pss_one (ps_if (pt_cmpR op_gt (pv 6) pe_int (nomark _)) (pss_one (ps_set (i := 5) sc_power_by.nd rfl (Or.inl rfl) (pe_callP (i := 0) Fn C rfl hr (Nat.le_refl _) pass0 rfl (Or.inl rfl) (pa_cons (pv 5) (pa_cons (pv 5) pa_nil))))) pss_nil)))))
      (pss_one (ps_ret (pv 4))))))) , ?_⟩
    refine ⟨_, rfl, _, rfl, _, rfl, ?_⟩
    refine while_by (fun σ' H' => ∃ (i j n : Nat) (x y : V), σ' = [some (.ref f), some u, some o, some (.int e), some x, some y, some (.int n)] ∧ Gr TG H H' ∧ Rel i x H' ∧ Rel j y H' ∧ i + j * n = e) (fun σ' _ => slotN 6 σ')
      ⟨0, 1, e, u, o, rfl, Gr.refl hTG, r0, r1, by omega⟩ ?_ (fun σ H Q Q' m ⟨v, h1, i, j, h2, h3, k, h4, q⟩ => ⟨v, h1, i, j, h2, h3, k, h4, m _ _ q⟩)
    rintro σ' H1 ⟨i, j, n, x, y, rfl, s1, ri, rj, inv⟩
    have en : (n : Int) / 2 = ((n / 2 : Nat) : Int) := by omega
    have e3 : (n : Int).fmod 2 = ((n % 2 : Nat) : Int) := fmodN n 2
    refine ⟨_, rfl, _, _, rfl, rfl, _, rfl, ite2 (fun hc => ?_) (fun hc => ?_)⟩
    · have n0 : 0 < n := by
        have z := of_decide_eq_true hc
        omega
      refine ⟨fun σ' H' => ∃ (i' : Nat) (x' : V), σ' = [some (.ref f), some u, some o, some (.int e), some x', some y, some (.int n)] ∧ Gr TG H H' ∧ Rel i' x' H' ∧ Rel j y H' ∧ i' + j * (2 * (n / 2)) = e, ?_, ?_⟩
      · refine ⟨_, rfl, _, _, rfl, rfl, (fun z => absurd z (by decide)), rfl, _, rfl, ite2 (fun hb => ?_) (fun hb => ?_)⟩
        · have hb' : n % 2 = 1 := by
            have z := V.int.inj (of_decide_eq_true hb)
            rw [e3] at z
            omega
          refine ⟨rfl, pf s1, _, rfl, _, rfl, step i j x y H1 s1 ri rj _ fun z H2 s2 rz => ⟨i + j, z, rfl, s1.trans s2, rz, stay j y _ _ s2 rj, ?_⟩⟩
          have h2 : n = 2 * (n / 2) + 1 := by omega
          rw [← inv]
          conv => rhs; rw [h2, Nat.mul_add]
          omega
        · have hb' : n % 2 ≠ 1 := fun z => hb (decide_eq_true (by show V.int ((n : Int).fmod 2) = V.int 1; rw [e3, z]; rfl))
          have h2 : n = 2 * (n / 2) := by omega
          exact ⟨i, x, rfl, s1, ri, rj, by rw [← h2]; exact inv⟩
      · rintro σ' H2 ⟨i', x', rfl, s2, ri', rj', inv'⟩
        refine ⟨_, rfl, _, _, rfl, rfl, wide_div (b := 2) (by decide) (by decide) (by decide) (by decide), ?_⟩
        have less : (n / 2) < n := by omega
        refine ⟨_, rfl, _, _, rfl, rfl, _, rfl, ite2 (fun hd => ?_) (fun hd => ?_)⟩
        · refine ⟨rfl, pf s2, _, rfl, _, rfl, step j j y y H2 s2 rj' rj' _ fun z H3 s3 rz => ⟨⟨i', j + j, n / 2, x', z, by rw [← en]; rfl, s2.trans s3, stay i' x' _ _ s3 ri', rz, ?_⟩, ?_⟩⟩
          · rw [← inv', Nat.add_mul, ← Nat.mul_assoc, Nat.mul_comm j 2, Nat.two_mul, Nat.add_mul]
          · show ((n : Int) / 2).toNat < (n : Int).toNat
            omega
        · have z0 : n / 2 = 0 := by
            by_cases z : n / 2 = 0
            · exact z
            · exact absurd (decide_eq_true (show (0 : Int) < (n : Int) / 2 by omega)) hd
          refine ⟨⟨i', j, n / 2, x', y, by rw [← en]; rfl, s2, ri', rj', ?_⟩, ?_⟩
          · rw [← inv', z0]
          · show ((n : Int) / 2).toNat < (n : Int).toNat
            omega
    · have z0 : n = 0 := by
        by_cases z : n = 0
        · exact z
        · exact absurd (decide_eq_true (show (0 : Int) < (n : Int) by omega)) hc
      refine ⟨_, rfl, k x H1 s1 ?_⟩
      rw [z0, Nat.mul_zero, Nat.add_zero] at inv
      rw [← inv]
      exact ri
theorem sc_rest_power : FnScope (["rest", "exponent", "prime", "steps"] : List Str) ["rest", "exponent", "prime"] (defScope s_rest_power) := ⟨rfl, rfl, rfl, by decide +kernel, rfl, by decide +kernel, by decide +kernel⟩
abbrev lam_rpL : Arguments × Expr × Scope := (lamP ((defBody s_rest_power).getD 2 (.Pass ⟨0, 0, 0, 0⟩)))
theorem nb_rp : ndefB (defScope s_rest_power) lam_rpL.2.2 ["prime"] = true := by decide +kernel
theorem ns_rp : NScope ["first", "second", "prime"] ["first", "second"] ["prime"] lam_rpL.2.2 := nscope_by (by decide +kernel)
theorem lam_rp {f : Addr} {F : NF} (hp : F.params = lam_rpL.1) (hs : F.scope = lam_rpL.2.2) : NOkL P w K mg base CX0 1 f F lam_rpL.2.1 ["first", "second"] ["prime"] spMulP := by
  obtain ⟨fn, fq, fp, fb, fs, fc, fo⟩ := F
  have hp : fp = _ := hp
  have hs : fs = _ := hs
  subst hp hs
  refine nokL_of (N := ["first", "second", "prime"]) ns_rp (fun pm ctv us hl => match us, hl with | [_, _], _ => rfl) (fun ws vs H Q E h => ?_) fun A outer s H vs ws Q E hr hw h => ?_
  · obtain ⟨a, b, M, _, rfl, _⟩ := h
    rfl
  · obtain ⟨a, b, M, rfl, rfl, ha, hb, h2, h3, k⟩ := h
    refine ⟨_, (pe_op op_modN (pe_op op_mul (pv 0) (pv 1)) (pv 2)), ?_⟩
    refine ⟨_, rfl, _, rfl, _, _, rfl, rfl, .inl ⟨by omega, by omega⟩, _, rfl, _, _, rfl, rfl, (fun z => by omega), ?_⟩
    show Q (.int (((a : Int) * (b : Int)).fmod (M : Int))) H
    rw [← Int.natCast_mul, fmodN]
    exact k
theorem ok_rest_power {T : List (Addr × Str)} {f cR PR g : Addr} {fd : FuncData} (F : FunD K "rest_power" "rest_power" (defArgs s_rest_power) (defBody s_rest_power) (defScope s_rest_power) [] [] f fd) (hcd : fd.code = .ref cR) (TB : TabB base mg cR PR) (hmT : (PR, rpQ) ∈ T) (hu : ∀ p ∈ T, p.1 = PR → p.2 = rpQ)
    (G_power_by : GivesV P w K mg base 2 1 "power_by" g TTpow) : FnOk P w K mg base CX0 3 f fd ["rest", "exponent", "prime"] (spRPowT T) := by
  refine FunD_okC F hcd sc_rest_power (fun vs H Q E h => ?_) (fun A outer s H vs Q E hr h => ?_)
  · obtain ⟨N, p, e, rfl, _⟩ := h
    rfl
  · obtain ⟨N, M, e, rfl, h2, hM, hN, hT, k⟩ := h
    refine ⟨_, PSs.nox (pss_cons (ps_if (pt_cmpR op_eq (pv 0) pe_int (nomark _)) (pss_one (ps_ret (pe_ifExp (pt_cmpR op_eq (pv 1) pe_int (nomark _)) pe_int pe_int))) pss_nil)
      (pss_cons (ps_set (i := 3) sc_rest_power.nd rfl (Or.inl rfl) (pe_op op_modN (pv 1) (pe_op op_sub (pv 2) pe_int)))
      (pss_one (ps_ret (pe_giveV (mk := lamF _ lam_rpL.1 lam_rpL.2.2) (js := [2]) G_power_by (fun f c' => lam_rp rfl rfl) (fun _ => rfl) (fun ok => Caps.made ok (ndef_free nb_rp) (ndef_fr nb_rp) rfl) (hr.mono (by decide)) rfl (pa_cons (pe_lamV TB rfl hmT hu rfl (ndef_free nb_rp)) (pa_cons pe_int (pa_cons (pv 0) (pa_cons (pv 3) pa_nil))))))))) , ?_⟩
    refine ⟨_, rfl, rfl, _, rfl, ite2 (fun hc => ?_) (fun hc => ?_)⟩
    · have hN0 : N = 0 := by
        have z := V.int.inj (of_decide_eq_true hc)
        omega
      have k := k H (Gr.refl hT)
      refine ⟨_, rfl, rfl, _, rfl, ?_⟩
      by_cases he : e = 0
      · rw [decide_eq_true (by rw [he])]
        refine iteT ?_
        unfold rpow at k
        rw [if_pos hN0, if_pos he] at k
        exact k
      · rw [decide_eq_false (fun z => he (V.int.inj z))]
        refine iteF ?_
        unfold rpow at k
        rw [if_pos hN0, if_neg he] at k
        exact k
    · have hN0 : N ≠ 0 := fun z => hc (decide_eq_true (by rw [z]; rfl))
      refine ⟨_, rfl, _, rfl, _, _, rfl, rfl, _, _, rfl, rfl, (fun z => by omega), ?_⟩
      obtain ⟨s0, hs0⟩ := Int.eq_ofNat_of_zero_le (Int.fmod_nonneg_of_pos e (show (0 : Int) < (M : Int) - 1 by omega))
      have rk : rpow N e M = N ^ s0 % M := by
        unfold rpow
        rw [if_neg hN0, hs0, Int.toNat_natCast]
      refine ⟨hT, fun fl c' H1 g1 nf e1 e2 _ => ⟨_, rfl, _, rfl, fl, c', e1, ?_⟩⟩
      refine ⟨.int 1, .int N, s0, fun i v _ => v = .int ((N ^ i % M : Nat) : Int), T, (by show [V.ref fl, V.int 1, V.int N, V.int (e.fmod ((M : Int) - 1))] = _; rw [hs0]), g1.t, ?_, ?_, fun _ _ _ _ _ z => z, fun i j x y H2 s2 ri rj Q' q => ⟨s2.x _ _ e1 lamO_ne, s2.x _ _ e2 codeO_ne, N ^ i % M, N ^ j % M, M, rfl, by rw [ri, rj], Nat.mod_lt _ (by omega), Nat.mod_lt _ (by omega), h2, hM, q _ _ (Gr.refl s2.t) ?_⟩, fun z H2 s2 rz => ?_⟩
      · show V.int 1 = V.int ((N ^ 0 % M : Nat) : Int)
        rw [Nat.pow_zero, Nat.mod_eq_of_lt (show 1 < M by omega)]
        rfl
      · show V.int N = V.int ((N ^ 1 % M : Nat) : Int)
        rw [Nat.pow_one, Nat.mod_eq_of_lt hN]
      · show V.int ((N ^ i % M * (N ^ j % M) % M : Nat) : Int) = V.int ((N ^ (i + j) % M : Nat) : Int)
        rw [← Nat.mul_mod, ← Nat.pow_add]
      · have rz : z = V.int ((N ^ s0 % M : Nat) : Int) := rz
        rw [rz, ← rk]
        exact k _ (g1.trans s2)
end
end Xk
end
section
set_option Elab.async false
set_option linter.all false
set_option maxRecDepth 100000
set_option maxHeartbeats 4000000
namespace Xk
open PySem PySem.Spec PyProof.Rows L2 Xh LamX NdefX
/-! ### rests -/
/-- what is wanted of a refusal: an own exception of the class at C, its word alone -/
def Ex (H : Hp) (E : XK) (C : Addr) (nm : Str) : Prop := ∀ (d : Addr) (H' : Hp), Same H H' → H' d = some (.xd [("word", .str nm)]) → H d = none → E (.ref C) (some d) H'
theorem Ex.imp {H : Hp} {E E' : XK} {C : Addr} {nm : Str} (x : Ex H E C nm) (h : ∀ c d H', E c d H' → E' c d H') : Ex H E' C nm := fun d H' a b c => h _ _ _ (x d H' a b c)
def spIsPrime : Sp := fun vs H Q _ => ∃ p : Int, vs = [.int p] ∧ Q (.bl (decide (p ∈ primes))) H
def spIsNum : Sp := fun vs H Q _ => ∃ n : Int, vs = [.int n] ∧ Q (.bl true) H
def spIsRest : Sp := fun vs H Q _ => ∃ n p : Int, vs = [.int n, .int p] ∧ Q (.bl (decide (0 ≤ n ∧ n < p))) H
def spRefP (C : Addr) : Sp := fun vs H Q E => ∃ p : Int, vs = [.int p] ∧ (p ∈ primes → Q .non H) ∧ (p ∉ primes → Ex H E C "BadPrime")
theorem inV_ints (p : Int) : ∀ ns : List Int, inV (.int p) (ns.map V.int) = decide (p ∈ ns)
  | [] => rfl
  | n :: ns => by
    have ih := inV_ints p ns
    unfold inV at ih ⊢
    rw [List.map_cons, List.any_cons, ih]
    show ((n == p) || decide (p ∈ ns)) = decide (p ∈ n :: ns)
    by_cases h : n = p
    · subst h
      simp
    · have h' : p ≠ n := fun z => h z.symm
      simp [h, h']
theorem all_flat (ns : List Int) : (ns.map V.int).all flatV = true := by
  rw [List.all_eq_true]
  intro x hx
  obtain ⟨n, _, rfl⟩ := List.mem_map.mp hx
  rfl
section
variable {P : Program} {w : World} {K : PySem.W.Frag} {mg : Str → Option Value} {base : Heap}
theorem sc_is_prime : FnScope (["number"] : List Str) ["number"] (defScope s_is_prime) := ⟨rfl, rfl, rfl, by decide +kernel, rfl, by decide +kernel, by decide +kernel⟩
theorem ok_is_prime {f : Addr} {fd : FuncData} {cP : Addr} (F : FunD K "is_prime" "is_prime" (defArgs s_is_prime) (defBody s_is_prime) (defScope s_is_prime) [] [] f fd) (mP : mg "PRIMES" = some (.ref cP)) (hP : ∀ H, SqT K H cP (primes.map V.int)) : FnOk P w K mg base CX0 1 f fd ["number"] spIsPrime := by
  refine F.ok sc_is_prime (fun vs H Q E h => ?_) (fun cdv A outer s H vs Q E hr h => ?_)
  · obtain ⟨p, rfl, _⟩ := h
    rfl
  · obtain ⟨p, rfl, k⟩ := h
    refine ⟨_, PSs.nox (pss_one (ps_ret (pe_cmpR op_in_seq (pv 0) (pe_glob (v := .ref cP) rfl mP rfl) (by rfl)))) , ?_⟩
    refine ⟨_, rfl, cP, _, rfl, .inr (hP H), rfl, all_flat _, ?_⟩
    rw [if_neg (by decide), inV_ints]
    exact k
theorem sc_is_number : FnScope (["told"] : List Str) ["told"] (defScope s_is_number) := ⟨rfl, rfl, rfl, by decide +kernel, rfl, by decide +kernel, by decide +kernel⟩
theorem ok_is_number {f : Addr} {fd : FuncData} (F : FunD K "is_number" "is_number" (defArgs s_is_number) (defBody s_is_number) (defScope s_is_number) [] [] f fd) (T : Fre mg) : FnOk P w K mg base CX0 1 f fd ["told"] spIsNum := by
  refine F.ok sc_is_number (fun vs H Q E h => ?_) (fun cdv A outer s H vs Q E hr h => ?_)
  · obtain ⟨p, rfl, _⟩ := h
    rfl
  · obtain ⟨n, rfl, k⟩ := h
    refine ⟨_, PSs.nox (pss_one (ps_ret (pe_and (pe_callB call_isi (by rfl) T.f_isinstance PyProof.Rows.boot_isinstance (pa_cons (pv 0) (pa_cons (pe_bltn (v := .ty "int") rfl T.f_int boot_int rfl) pa_nil))) (pe_one (pe_not (pe_callB call_isi (by rfl) T.f_isinstance PyProof.Rows.boot_isinstance (pa_cons (pv 0) (pa_cons (pe_bltn (v := .ty "bool") rfl T.f_bool boot_bool rfl) pa_nil)))))))) , ?_⟩
    exact ⟨_, rfl, .int n, _, _, _, true, rfl, .ty _, .base (.int n), kit_ty (by decide +kernel), _, rfl, iteT ⟨_, rfl, .int n, _, _, _, false, rfl, .ty _, .base (.int n), kit_ty (by decide +kernel), _, rfl, k⟩⟩
theorem sc_is_rest : FnScope (["told", "prime"] : List Str) ["told", "prime"] (defScope s_is_rest) := ⟨rfl, rfl, rfl, by decide +kernel, rfl, by decide +kernel, by decide +kernel⟩
theorem ok_is_rest {f : Addr} {fd : FuncData} (F : FunD K "is_rest" "is_rest" (defArgs s_is_rest) (defBody s_is_rest) (defScope s_is_rest) [] [] f fd) (o_is_number : Own P w K mg base CX0 1 "is_number" ["told"] [] spIsNum) : FnOk P w K mg base CX0 2 f fd ["told", "prime"] spIsRest := by
  refine F.ok sc_is_rest (fun vs H Q E h => ?_) (fun cdv A outer s H vs Q E hr h => ?_)
  · obtain ⟨n, p, rfl, _⟩ := h
    rfl
  · obtain ⟨n, p, rfl, k⟩ := h
    refine ⟨_, PSs.nox (pss_one (ps_ret (pe_and (pe_own o_is_number (hr.mono (by decide)) rfl pass0 (pa_cons (pv 0) pa_nil)) (pe_one (pe_chain op_le op_lt pe_int (pv 0) (pv 1)))))) , ?_⟩
    refine ⟨_, rfl, n, rfl, _, rfl, iteT ⟨_, rfl, _, _, rfl, rfl, _, rfl, ?_⟩⟩
    by_cases h0 : 0 ≤ n
    · rw [decide_eq_true h0]
      refine iteT ⟨_, rfl, _, _, rfl, rfl, ?_⟩
      show Q (.bl (decide (n < p))) H
      rw [show decide (n < p) = decide (0 ≤ n ∧ n < p) from by simp [h0]]
      exact k
    · rw [decide_eq_false h0]
      refine iteF ?_
      rw [show decide (0 ≤ n ∧ n < p) = false from decide_eq_false fun z => h0 z.1] at k
      exact k
theorem sc_refuse_prime : FnScope (["prime"] : List Str) ["prime"] (defScope s_refuse_prime) := ⟨rfl, rfl, rfl, by decide +kernel, rfl, by decide +kernel, by decide +kernel⟩
theorem ok_refuse_prime {f C fI : Addr} {fd : FuncData} (F : FunD K "refuse_prime" "refuse_prime" (defArgs s_refuse_prime) (defBody s_refuse_prime) (defScope s_refuse_prime) [] [] f fd) (o_is_prime : Own P w K mg base CX0 1 "is_prime" ["number"] [] spIsPrime) (xP : RX K mg C fI "BadPrime") (o_init : FnR P w K mg base (L2.CX P w) 1 fI (spRI1 K)) : FnOk P w K mg base (L2.CX P w) 3 f fd ["prime"] (spRefP C) := by
  refine F.ok sc_refuse_prime (fun vs H Q E h => ?_) (fun cdv A outer s H vs Q E hr h => ?_)
  · obtain ⟨p, rfl, _⟩ := h
    rfl
  · obtain ⟨p, rfl, h1, h2⟩ := h
    refine ⟨_, (pss_one (ps_if (pt_not (pt_val (pe_own o_is_prime (hr.mono (by decide)) rfl pass0 (pa_cons (pv 0) pa_nil)))) (pss_one (ps_raise rfl (takes_of rfl rfl rfl rfl) (pmk_rung xP o_init hr rfl))) pss_nil)) , ?_⟩
    refine ⟨_, rfl, p, rfl, _, rfl, ?_⟩
    by_cases hp : p ∈ primes
    · rw [decide_eq_true hp]
      exact iteF (h1 hp)
    · rw [decide_eq_false hp]
      exact iteT fun d H' a b c => h2 hp d H' a b c
end
end Xk
end
section
set_option Elab.async false
set_option linter.all false
set_option maxRecDepth 100000
set_option maxHeartbeats 4000000
namespace Xk
open PySem PySem.Spec PyProof.Rows L2 Xh LamX NdefX
/-! ### polynomials: rests without a nought at their end -/
def trim : List Int → List Int
  | [] => []
  | x :: xs => if trim xs = [] ∧ x = 0 then [] else x :: trim xs
theorem trim_nil : ∀ {a : List Int}, (∀ i, a.getD i 0 = 0) → trim a = []
  | [], _ => rfl
  | x :: xs, h => by
    have h0 : x = 0 := h 0
    have h1 : trim xs = [] := trim_nil fun i => h (i + 1)
    unfold trim
    rw [if_pos ⟨h1, h0⟩]
theorem trim_congr : ∀ (a b : List Int), (∀ i, a.getD i 0 = b.getD i 0) → trim a = trim b
  | [], b, h => (trim_nil fun i => (h i).symm).symm
  | a, [], h => trim_nil fun i => h i
  | x :: xs, y :: ys, h => by
    have h0 : x = y := h 0
    have h1 : trim xs = trim ys := trim_congr xs ys fun i => h (i + 1)
    unfold trim
    rw [h0, h1]
theorem trim_getD : ∀ (a : List Int) (i : Nat), (trim a).getD i 0 = a.getD i 0
  | [], i => rfl
  | x :: xs, i => by
    unfold trim
    by_cases h : trim xs = [] ∧ x = 0
    · rw [if_pos h, h.2]
      cases i with
      | zero => rfl
      | succ i =>
        have z := trim_getD xs i
        rw [h.1] at z
        exact z
    · rw [if_neg h]
      cases i with
      | zero => rfl
      | succ i => exact trim_getD xs i
theorem trim_trim (a : List Int) : trim (trim a) = trim a := trim_congr _ _ fun i => trim_getD a i
theorem trim_length : ∀ a : List Int, (trim a).length ≤ a.length
  | [] => Nat.le_refl _
  | x :: xs => by
    unfold trim
    split
    · exact Nat.zero_le _
    · exact Nat.succ_le_succ (trim_length xs)
theorem trim_mem : ∀ {a : List Int} {x : Int}, x ∈ trim a → x ∈ a
  | y :: ys, x, h => by
    unfold trim at h
    split at h
    · cases h
    · rcases List.mem_cons.mp h with h | h
      · exact List.mem_cons.mpr (.inl h)
      · exact List.mem_cons.mpr (.inr (trim_mem h))
theorem trim_last : ∀ (a : List Int) (n : Nat), n + 1 = a.length → a.getD n 0 ≠ 0 → trim a = a
  | x :: xs, n, hn, hz => by
    have hn' : n = xs.length := Nat.succ.inj hn
    unfold trim
    cases n with
    | zero =>
      have : xs = [] := List.length_eq_zero_iff.mp hn'.symm
      subst this
      rw [if_neg (fun z => hz z.2)]
      rfl
    | succ n =>
      have ih := trim_last xs n hn' hz
      rw [if_neg (fun z => by rw [ih] at z; rw [z.1] at hn'; cases hn'), ih]
theorem trim_ne (a : List Int) (h : a ≠ []) (ht : trim a = a) : a.getD (a.length - 1) 0 ≠ 0 := by
  induction a with
  | nil => exact absurd rfl h
  | cons x xs ih =>
    unfold trim at ht
    split at ht
    · cases ht
    · rename_i hc
      have hx : trim xs = xs := (List.cons.inj ht).2
      cases xs with
      | nil => exact fun z => hc ⟨rfl, z⟩
      | cons y ys => exact ih (by intro z; cases z) hx
theorem take_getD (a : List Int) (n i : Nat) : (a.take n).getD i 0 = if i < n then a.getD i 0 else 0 := by
  rw [List.getD_eq_getElem?_getD, List.getD_eq_getElem?_getD, List.getElem?_take]
  split <;> rfl
/-- what the count from the end leaves -/
theorem take_trim {a : List Int} {n : Nat} (hn : n ≤ a.length) (hz : ∀ i, n ≤ i → a.getD i 0 = 0) (hl : n = 0 ∨ a.getD (n - 1) 0 ≠ 0) : a.take n = trim a := by
  have e : trim (a.take n) = trim a := trim_congr _ _ fun i => by
    rw [take_getD]
    split
    · rfl
    · rw [hz i (by omega)]
  rw [← e]
  rcases hl with rfl | hl
  · rfl
  · cases n with
    | zero => rfl
    | succ n => exact (trim_last _ n (by rw [List.length_take]; omega) (by rw [take_getD, if_pos (Nat.lt_succ_self n)]; exact hl)).symm
theorem cutV_take (ns : List Int) (n : Nat) : cutV (ns.map V.int) none (some (n : Int)) = (ns.take n).map V.int := by
  unfold cutV
  rw [HT.sIx_none, HT.sIx_nat, Nat.sub_zero, List.drop_zero, ← List.map_take]
  congr 1
  rw [List.length_map]
  by_cases h : n ≤ ns.length
  · rw [Nat.min_eq_left h]
  · rw [Nat.min_eq_right (by omega), List.take_length, List.take_of_length_le (by omega)]
theorem map_at (ns : List Int) (i : Nat) (h : i < ns.length) : (ns.map V.int)[i]? = some (.int (ns.getD i 0)) := by
  rw [List.getElem?_map, List.getD_eq_getElem?_getD, List.getElem?_eq_getElem h]
  rfl
/-- a new tuple of these -/
def NewT (H : Hp) (ms : List Int) (Q : VK) : Prop := ∀ (p : Addr) (H' : Hp), Same H H' → H p = none → H' p = some (.tup (ms.map V.int)) → Q (.ref p) H'
theorem out_take {H : Hp} {ns : List Int} {n : Nat} {Q : VK} (e : ns.take n = trim ns) (k : NewT H (trim ns) Q) {p l : Addr} (hp : H p = none) (hl : L2.upd H p (.lst (cutV (ns.map V.int) none (some (n : Int)))) l = none) :
    Q (.ref l) (L2.upd (L2.upd H p (.lst (cutV (ns.map V.int) none (some (n : Int))))) l (.tup (cutV (ns.map V.int) none (some (n : Int))))) := by
  refine k l _ ((same_upd hp).trans (same_upd hl)) ((same_upd hp).free hl) ?_
  rw [upd_same, cutV_take, e]
def spTrim (K : PySem.W.Frag) : Sp := fun vs H Q _ => ∃ (a : Addr) (ns : List Int), vs = [.ref a] ∧ SqL K H a (ns.map V.int) ∧ ns.length ≤ 1000 ∧ NewT H (trim ns) Q
section
variable {P : Program} {w : World} {K : PySem.W.Frag} {mg : Str → Option Value} {base : Heap}
theorem sc_trimmed : FnScope (["rests", "count"] : List Str) ["rests"] (defScope s_trimmed) := ⟨rfl, rfl, rfl, by decide +kernel, rfl, by decide +kernel, by decide +kernel⟩
theorem ok_trimmed {f : Addr} {fd : FuncData} (F : FunD K "trimmed" "trimmed" (defArgs s_trimmed) (defBody s_trimmed) (defScope s_trimmed) [] [] f fd) (T : Fre mg) : FnOk P w K mg base CX0 1 f fd ["rests"] (spTrim K) := by
  refine F.ok sc_trimmed (fun vs H Q E h => ?_) (fun cdv A outer s H vs Q E hr h => ?_)
  · obtain ⟨a, ns, rfl, _⟩ := h
    rfl
  · obtain ⟨a, ns, rfl, hS, hl, k⟩ := h
    refine ⟨_, PSs.nox (pss_cons (ps_set (i := 1) sc_trimmed.nd rfl (Or.inl rfl) (pe_callB call_len_seq (by rfl) T.f_len PySem.boot_len (pa_cons (pv 0) pa_nil)))
      (pss_cons (ps_while PassesOwn.never (PW.pt (pw_and (pt_cmpR op_gt (pv 1) pe_int (nomark _)) (pw_and1 (pt_cmpR op_eq (pe_ix ix_list (pv 0) (pe_op op_sub (pv 1) pe_int) (fun _ _ => rfl)) pe_int (nomark _))))) (pss_one (ps_aug (i := 1) sc_trimmed.nd rfl (Or.inl rfl) pe_int ip_sub)))
      (pss_one (ps_ret (pe_callTy call_tuple_of (by rfl) T.f_tuple (by decide +kernel) (pa_cons (pe_slice sl_list (pv 0) po_none (po_some (pv 1))) pa_nil)))))) , ?_⟩
    refine ⟨_, rfl, _, _, rfl, .inl hS, ?_⟩
    refine while_by (fun σ' H' => ∃ n : Nat, σ' = [some (.ref a), some (.int n)] ∧ H' = H ∧ n ≤ ns.length ∧ ∀ i, n ≤ i → ns.getD i 0 = 0) (fun σ' _ => slotN 1 σ') ⟨ns.length, by rw [List.length_map]; rfl, rfl, Nat.le_refl _, fun i hi => by rw [List.getD_eq_getElem?_getD, List.getElem?_eq_none hi]; rfl⟩ ?_ ?_
    · rintro σ' H' ⟨n, rfl, rfl, hn, hz⟩
      have fin : n = 0 ∨ ns.getD (n - 1) 0 ≠ 0 → ns.take n = trim ns := take_trim hn hz
      refine ⟨_, rfl, _, _, rfl, rfl, _, rfl, ite2 (fun hc => ?_) (fun hc => ?_)⟩
      · have h0 : 0 < n := by
          have z := of_decide_eq_true hc
          omega
        refine ⟨_, rfl, _, rfl, _, _, rfl, rfl, a, _, _, .int (ns.getD (n - 1) 0), rfl, rfl, hS, ?_, ?_⟩
        · rw [show (n : Int) - 1 = ((n - 1 : Nat) : Int) by omega]
          exact atI_nat (map_at ns (n - 1) (by omega))
        · refine ⟨rfl, _, rfl, ite2 (fun hb => ?_) (fun hb => ?_)⟩
          · have z := V.int.inj (of_decide_eq_true hb)
            refine ⟨_, rfl, _, _, rfl, rfl, ⟨n - 1, by rw [show ((n - 1 : Nat) : Int) = (n : Int) - 1 by omega]; rfl, rfl, by omega, fun i hi => ?_⟩, ?_⟩
            · by_cases hi2 : i = n - 1
              · rw [hi2]; exact z
              · exact hz i (by omega)
            · show ((n : Int) - 1).toNat < (n : Int).toNat
              omega
          · exact ⟨_, rfl, _, rfl, n, rfl, a, _, rfl, hS, fun p hp => ⟨p, _, rfl, .inl ⟨SqL.of upd_same, fun l hl => out_take (fin (.inr fun z => hb (decide_eq_true (by rw [z])))) k hp hl⟩⟩⟩
      · have h0 : n = 0 := by
          by_cases z : n = 0
          · exact z
          · exact absurd (decide_eq_true (show (0 : Int) < (n : Int) by omega)) hc
        exact ⟨_, rfl, _, rfl, n, rfl, a, _, rfl, hS, fun p hp => ⟨p, _, rfl, .inl ⟨SqL.of upd_same, fun l hl => out_take (fin (.inl h0)) k hp hl⟩⟩⟩
    · rintro σ H Q Q' m ⟨v, h1, i, j, h2, h3, b, h4, q⟩
      refine ⟨v, h1, i, j, h2, h3, b, h4, ?_⟩
      cases b with
      | true =>
        obtain ⟨x, e1, y, e2, i2, j2, e3, e4, p1, p2, p3, p4, e5, e6, e7, e8, e9, b2, e10, q⟩ := q
        exact ⟨x, e1, y, e2, i2, j2, e3, e4, p1, p2, p3, p4, e5, e6, e7, e8, e9, b2, e10, m _ _ q⟩
      | false => exact m _ _ q
end
end Xk
end
section
set_option Elab.async false
set_option linter.all false
set_option maxRecDepth 100000
set_option maxHeartbeats 4000000
namespace Xk
open PySem PySem.Spec PyProof.Rows L2 Xh LamX NdefX
/-- the coefficients of ms, without a nought at the end, at most n of them -/
structure Is (f : Nat → Int) (n : Nat) (ms : List Int) : Prop where
  at_ : ∀ j, ms.getD j 0 = f j
  tr : trim ms = ms
  len : ms.length ≤ n
theorem Is.uniq {f g : Nat → Int} {n m : Nat} {a b : List Int} (x : Is f n a) (y : Is g m b) (h : ∀ j, f j = g j) : a = b := by
  rw [← x.tr, ← y.tr]
  exact trim_congr _ _ fun i => by rw [x.at_, y.at_, h]
def NewP (H : Hp) (f : Nat → Int) (n : Nat) (Q : VK) : Prop := ∀ ms, Is f n ms → NewT H ms Q
theorem is_trim {f : Nat → Int} {n : Nat} {ms : List Int} (h : ∀ j, ms.getD j 0 = f j) (l : ms.length ≤ n) : Is f n (trim ms) := ⟨fun j => by rw [trim_getD, h], trim_trim _, Nat.le_trans (trim_length _) l⟩
theorem NewT.same {H H' : Hp} {ms : List Int} {Q : VK} (k : NewT H ms Q) (s : Same H H') : NewT H' ms Q := fun p H2 a b c => k p H2 (s.trans a) (s.free b) c
theorem NewP.same {H H' : Hp} {f : Nat → Int} {n : Nat} {Q : VK} (k : NewP H f n Q) (s : Same H H') : NewP H' f n Q := fun ms h => (k ms h).same s
/-- rests by p -/
def Rs (p : Int) (ms : List Int) : Prop := ∀ j, 0 ≤ ms.getD j 0 ∧ ms.getD j 0 < p
structure Pm (p : Int) : Prop where
  lo : 2 ≤ p
  hi : p ≤ 1000
theorem Pm.pos {p : Int} (h : Pm p) : 0 < p := by have := h.lo; omega
theorem fm_rs {p : Int} (h : Pm p) {ms : List Int} {f : Nat → Int} (e : ∀ j, ms.getD j 0 = (f j).fmod p) : Rs p ms := fun j => by
  rw [e]
  exact ⟨Int.fmod_nonneg_of_pos _ h.pos, Int.fmod_lt_of_pos _ h.pos⟩
theorem fm_id {x p : Int} (h0 : 0 ≤ x) (h1 : x < p) : x.fmod p = x := by rw [Int.fmod_eq_emod_of_nonneg _ (by omega), Int.emod_eq_of_lt h0 h1]
theorem getD_over {a : List Int} {i : Nat} (h : a.length ≤ i) : a.getD i 0 = 0 := by
  rw [List.getD_eq_getElem?_getD, List.getElem?_eq_none h]
  rfl
theorem getD_map {a : List Int} {i : Nat} {g : Int → Int} (h : g 0 = 0) : (a.map g).getD i 0 = g (a.getD i 0) := by
  rw [List.getD_eq_getElem?_getD, List.getD_eq_getElem?_getD, List.getElem?_map]
  cases a[i]? with
  | none => exact h.symm
  | some x => rfl
theorem lcs {H H2 : Hp} {D : Addr} {o : HO} (hD : H D = none) (s : Same H H2) : Same H (L2.upd H2 D o) := fun b o h => by
  rw [upd_ne (ne_of_none h hD)]
  exact s b o h
theorem take_map {ns : List Int} {i : Nat} (g : Int → Int) (hi : i < ns.length) : ((ns.take i).map g).map V.int ++ [V.int (g (ns.getD i 0))] = ((ns.take (i + 1)).map g).map V.int := by
  rw [List.take_succ, List.getD_eq_getElem?_getD, List.getElem?_eq_getElem hi, List.map_append, List.map_append]
  rfl
theorem take_len (ns : List Int) (g : Int → Int) (i : Nat) : (((ns.take i).map g).map V.int).length ≤ ns.length := by
  rw [List.length_map, List.length_map, List.length_take]
  omega
theorem ixN_nat {n i : Nat} (h : i < n) : ixN n (i : Int) = some i := by
  unfold ixN
  rw [if_pos (by omega), if_pos (by omega), Int.toNat_natCast]
theorem getD_set {a : List Int} {i j : Nat} {v : Int} (h : i < a.length) : (a.set i v).getD j 0 = if j = i then v else a.getD j 0 := by
  rw [List.getD_eq_getElem?_getD, List.getD_eq_getElem?_getD, List.getElem?_set]
  by_cases e : j = i
  · rw [if_pos e, if_pos e.symm, if_pos h]
    rfl
  · rw [if_neg e, if_neg (fun z => e z.symm)]
def spScale (K : PySem.W.Frag) : Sp := fun vs H Q _ => ∃ (a : Addr) (ns : List Int) (r p : Int), vs = [.ref a, .int r, .int p] ∧ SqT K H a (ns.map V.int) ∧ ns.length ≤ 100 ∧ Rs p ns ∧ Pm p ∧ NewP H (fun j => (ns.getD j 0 * r).fmod p) ns.length Q
def spPlus (K : PySem.W.Frag) : Sp := fun vs H Q _ => ∃ (a b : Addr) (xs ys : List Int) (p : Int), vs = [.ref a, .ref b, .int p] ∧ SqT K H a (xs.map V.int) ∧ SqT K H b (ys.map V.int) ∧ xs.length ≤ 100 ∧ ys.length ≤ 100 ∧ Rs p xs ∧ Rs p ys ∧ Pm p ∧
  NewP H (fun j => (xs.getD j 0 + ys.getD j 0).fmod p) (max xs.length ys.length) Q
def spMinus (K : PySem.W.Frag) : Sp := fun vs H Q _ => ∃ (a b : Addr) (xs ys : List Int) (p : Int), vs = [.ref a, .ref b, .int p] ∧ SqT K H a (xs.map V.int) ∧ SqT K H b (ys.map V.int) ∧ xs.length ≤ 100 ∧ ys.length ≤ 100 ∧ Rs p xs ∧ Rs p ys ∧ Pm p ∧
  NewP H (fun j => (xs.getD j 0 + (p - 1) * ys.getD j 0).fmod p) 100 Q
section
variable {P : Program} {w : World} {K : PySem.W.Frag} {mg : Str → Option Value} {base : Heap}
theorem sc_law_trim : FnScope (["_law_numbers", "_law_many", "_law_k"] : List Str) ["_law_numbers"] (defScope s_law_trim) := ⟨rfl, rfl, rfl, by decide +kernel, rfl, by decide +kernel, by decide +kernel⟩
theorem ok_law_trim {f : Addr} {fd : FuncData} (F : FunD K "_law_trim" "_law_trim" (defArgs s_law_trim) (defBody s_law_trim) (defScope s_law_trim) [] [] f fd) (T : Fre mg) : FnOk P w K mg base CX0 1 f fd ["_law_numbers"] (spTrim K) := by
  refine F.ok sc_law_trim (fun vs H Q E h => ?_) (fun cdv A outer s H vs Q E hr h => ?_)
  · obtain ⟨a, ns, rfl, _⟩ := h
    rfl
  · obtain ⟨a, ns, rfl, hS, hl, k⟩ := h
    refine ⟨_, PSs.nox (pss_cons (ps_set (i := 1) sc_law_trim.nd rfl (Or.inl rfl) (pe_callB call_len_seq (by rfl) T.f_len PySem.boot_len (pa_cons (pv 0) pa_nil)))
      (pss_cons (ps_for PassesOwn.never rfl (pi_range1 (by rfl) T.f_range (pa_cons (pe_callB call_len_seq (by rfl) T.f_len PySem.boot_len (pa_cons (pv 0) pa_nil)) pa_nil)) (pg_name (i := 2) sc_law_trim.nd rfl (Or.inl rfl)) (pss_one (ps_if (PW.pt (pw_and (pt_cmpR op_gt (pv 1) pe_int (nomark _)) (pw_and1 (pt_cmpR op_eq (pe_ix ix_list (pv 0) (pe_op op_sub (pv 1) pe_int) (fun _ _ => rfl)) pe_int (nomark _))))) (pss_one (ps_set (i := 1) sc_law_trim.nd rfl (Or.inl rfl) (pe_op op_sub (pv 1) pe_int))) pss_nil)))
      (pss_one (ps_ret (pe_callTy call_tuple_of (by rfl) T.f_tuple (by decide +kernel) (pa_cons (pe_slice sl_list (pv 0) po_none (po_some (pv 1))) pa_nil)))))) , ?_⟩
    refine ⟨_, rfl, _, _, rfl, .inl hS, ?_⟩
    refine ⟨_, rfl, _, _, rfl, .inl hS, (ns.length : Int), by rw [List.length_map], by omega, by omega, ?_⟩
    rw [Int.toNat_natCast]
    refine for_range (lo := 0) (n := ns.length) (fun i σ' H' => ∃ (n : Nat) (x : Option V), σ' = [some (.ref a), some (.int n), x] ∧ H' = H ∧ n ≤ ns.length ∧ (∀ j, n ≤ j → ns.getD j 0 = 0) ∧ (n + i ≤ ns.length ∨ n = 0 ∨ ns.getD (n - 1) 0 ≠ 0)) ⟨ns.length, none, by rw [List.length_map]; rfl, rfl, Nat.le_refl _, fun j hj => getD_over hj, .inl (Nat.le_refl _)⟩ ?_ ?_
    · rintro i σ' H' hi ⟨n, x, rfl, rfl, hn, hz, hq⟩
      refine ⟨_, rfl, _, _, rfl, rfl, _, rfl, ite2 (fun hc => ?_) (fun hc => ?_)⟩
      · have h0 : 0 < n := by
          have z := of_decide_eq_true hc
          omega
        refine ⟨_, rfl, _, rfl, _, _, rfl, rfl, a, _, _, .int (ns.getD (n - 1) 0), rfl, rfl, hS, ?_, ?_⟩
        · rw [show (n : Int) - 1 = ((n - 1 : Nat) : Int) by omega]
          exact atI_nat (map_at ns (n - 1) (by omega))
        · refine ⟨rfl, _, rfl, ite2 (fun hb => ?_) (fun hb => ?_)⟩
          · have z := V.int.inj (of_decide_eq_true hb)
            refine ⟨_, rfl, _, _, rfl, rfl, n - 1, _, by rw [show ((n - 1 : Nat) : Int) = (n : Int) - 1 by omega]; rfl, rfl, by omega, fun j hj => ?_, ?_⟩
            · by_cases hj2 : j = n - 1
              · rw [hj2]; exact z
              · exact hz j (by omega)
            · rcases hq with q | q | q
              · exact .inl (by omega)
              · omega
              · exact absurd z q
          · exact ⟨n, _, rfl, rfl, hn, hz, .inr (.inr fun z => hb (decide_eq_true (by rw [z])))⟩
      · have h0 : n = 0 := by
          by_cases z : n = 0
          · exact z
          · exact absurd (decide_eq_true (show (0 : Int) < (n : Int) by omega)) hc
        exact ⟨n, _, rfl, rfl, hn, hz, .inr (.inl h0)⟩
    · rintro σ' H' ⟨n, x, rfl, rfl, hn, hz, hq⟩
      have hq' : n = 0 ∨ ns.getD (n - 1) 0 ≠ 0 := by
        rcases hq with q | q
        · exact .inl (by omega)
        · exact q
      exact ⟨_, rfl, _, rfl, n, rfl, a, _, rfl, hS, fun p hp => ⟨p, _, rfl, .inl ⟨SqL.of upd_same, fun l hl => out_take (take_trim hn hz hq') k hp hl⟩⟩⟩
theorem sc_raw_scaled : FnScope (["one", "rest", "prime", "own"] : List Str) ["one", "rest", "prime"] (defScope s_raw_scaled) := ⟨rfl, rfl, rfl, by decide +kernel, rfl, by decide +kernel, by decide +kernel⟩
theorem ok_raw_scaled {f : Addr} {fd : FuncData} (F : FunD K "raw_scaled" "raw_scaled" (defArgs s_raw_scaled) (defBody s_raw_scaled) (defScope s_raw_scaled) [] [] f fd) (o_trimmed : Own P w K mg base CX0 1 "trimmed" ["rests"] [] (spTrim K)) : FnOk P w K mg base CX0 2 f fd ["one", "rest", "prime"] (spScale K) := by
  refine F.ok sc_raw_scaled (fun vs H Q E h => ?_) (fun cdv A outer s H vs Q E hr h => ?_)
  · obtain ⟨a, ns, r, p, rfl, _⟩ := h
    rfl
  · obtain ⟨a, ns, r, p, rfl, hS, hl, hR, hp, k⟩ := h
    refine ⟨_, PSs.nox (pss_one (ps_ret (pe_own o_trimmed (hr.mono (by decide)) rfl pass0 (pa_cons (pe_lc (own := [("own", 3)]) rfl sc_raw_scaled.nd (pi_tup (pv 0)) (blkOk_by (own := [("own", 3)]) (N := ["one", "rest", "prime", "own"]) (sc := defScope s_raw_scaled) (by decide +kernel)) (fun _ _ _ _ _ => pg_name (i := 3) sc_raw_scaled.nd rfl (Or.inl rfl) (Or.inr rfl)) (fun _ _ _ _ _ => pts_nil) (fun _ _ _ _ _ => (pe_op op_modN (pe_op op_mul (pv 3) (pv 1)) (pv 2)))) pa_nil)))) , ?_⟩
    refine ⟨_, rfl, a, rfl, ⟨_, hS⟩, fun D hD => ?_⟩
    refine lc_it (walk_tup (xs := ns.map V.int)) (fun i H1 => Same H H1 ∧ H1 D = some (.lst (((ns.take i).map fun x => (x * r).fmod p).map V.int))) ⟨same_upd hD, upd_same⟩ (fun i H1 _ h => sameT h.1 hS) ?_ ?_
    · rintro i x H1 H2 hi ⟨s1, e1⟩ ⟨rfl, hx⟩
      rw [List.length_map] at hi
      rw [map_at ns i hi] at hx
      cases hx
      obtain ⟨x0, x1⟩ := hR i
      have := hp.hi
      refine ⟨rfl, _, rfl, _, rfl, _, _, rfl, rfl, .inl ⟨by omega, by omega⟩, _, rfl, _, _, rfl, rfl, (fun z => by have := hp.lo; omega), _, e1, ?_, ?_⟩
      · exact small1000 (Nat.le_trans (take_len _ _ _) (by omega))
      · exact ⟨lcs hD s1, by rw [upd_same]; exact congrArg (fun z => some (HO.lst z)) (take_map (fun x => (x * r).fmod p) hi)⟩
    · rintro H1 ⟨s1, e1⟩
      rw [List.length_map, List.take_length] at e1
      refine ⟨D, _, rfl, SqL.of e1, by rw [List.length_map]; omega, (k _ (is_trim (fun j => ?_) (by rw [List.length_map]; exact Nat.le_refl _))).same s1⟩
      rw [getD_map (g := fun x => (x * r).fmod p) (by show (0 * r).fmod p = 0; rw [Int.zero_mul, Int.zero_fmod])]
theorem sc_raw_plus : FnScope (["one", "other", "prime", "longer", "shorter", "rests", "place", "rest"] : List Str) ["one", "other", "prime"] (defScope s_raw_plus) := ⟨rfl, rfl, rfl, by decide +kernel, rfl, by decide +kernel, by decide +kernel⟩
theorem ok_raw_plus {f : Addr} {fd : FuncData} (F : FunD K "raw_plus" "raw_plus" (defArgs s_raw_plus) (defBody s_raw_plus) (defScope s_raw_plus) [] [] f fd) (T : Fre mg) (o_trimmed : Own P w K mg base CX0 1 "trimmed" ["rests"] [] (spTrim K)) : FnOk P w K mg base CX0 2 f fd ["one", "other", "prime"] (spPlus K) := by
  refine F.ok sc_raw_plus (fun vs H Q E h => ?_) (fun cdv A outer s H vs Q E hr h => ?_)
  · obtain ⟨a, b, xs, ys, p, rfl, _⟩ := h
    rfl
  · obtain ⟨a, b, xs, ys, p, rfl, hA, hB, la, lb, rA, rB, hp, k⟩ := h
    refine ⟨_, PSs.nox (C8.pss_cut (ps_asg (pe_ifExp (pt_cmpR op_ge (pe_callB call_len_seq (by rfl) T.f_len PySem.boot_len (pa_cons (pv 0) pa_nil)) (pe_callB call_len_seq (by rfl) T.f_len PySem.boot_len (pa_cons (pv 1) pa_nil)) (nomark _)) (pe_tup (pa_cons (pv 0) (pa_cons (pv 1) pa_nil))) (pe_tup (pa_cons (pv 1) (pa_cons (pv 0) pa_nil)))) (pg_tup rfl (pgs_cons (pg_name (i := 3) sc_raw_plus.nd rfl (Or.inl rfl)) (pgs_cons (pg_name (i := 4) sc_raw_plus.nd rfl (Or.inl rfl)) pgs_nil))))
      (pss_cons (ps_set (i := 5) sc_raw_plus.nd rfl (Or.inl rfl) (pe_callTy call_list_of (by rfl) T.f_list (by decide +kernel) (pa_cons (pv 3) pa_nil)))
      (pss_cons (ps_for PassesOwn.never rfl (pi_enT (by rfl) T.f_enumerate (pa_cons (pv 4) pa_nil)) (pg_tup rfl (pgs_cons (pg_name (i := 6) sc_raw_plus.nd rfl (Or.inl rfl)) (pgs_cons (pg_name (i := 7) sc_raw_plus.nd rfl (Or.inl rfl)) pgs_nil))) (pss_one (ps_asg (pe_op op_modN (pe_op op_add (pe_ix ix_list (pv 5) (pv 6) (fun _ _ => rfl)) (pv 7)) (pv 2)) (pg_sub (pv 5) (pv 6) set_list))))
      (pss_one (ps_ret (pe_own o_trimmed (hr.mono (by decide)) rfl pass0 (pa_cons (pv 5) pa_nil))))))) , ?_⟩
    refine ⟨fun σ' H' => ∃ (c d : Addr) (us ws : List Int), σ' = [some (.ref a), some (.ref b), some (.int p), some (.ref c), some (.ref d), none, none, none] ∧ Same H H' ∧ SqT K H' c (us.map V.int) ∧ SqT K H' d (ws.map V.int) ∧ us.length ≤ 100 ∧ ws.length ≤ us.length ∧ us.length = max xs.length ys.length ∧ Rs p us ∧ ∀ j, us.getD j 0 + ws.getD j 0 = xs.getD j 0 + ys.getD j 0, ?_, ?_⟩
    · refine ⟨_, rfl, _, _, rfl, .inr hA, _, rfl, _, _, rfl, .inr hB, _, _, rfl, rfl, _, rfl, ite2 (fun hc => ?_) (fun hc => ?_)⟩
      · have z := of_decide_eq_true hc
        rw [List.length_map, List.length_map] at z
        refine ⟨_, rfl, _, rfl, (by show 2 ≤ sizeLine; decide), fun t ht => ⟨t, _, rfl, .inl (.inl upd_same), rfl, _, _, rfl, _, _, rfl, rfl, a, b, xs, ys, rfl, same_upd ht, sameT (same_upd ht) hA, sameT (same_upd ht) hB, la, by omega, by omega, rA, fun j => rfl⟩⟩
      · have z : ¬ ((ys.map V.int).length : Int) ≤ ((xs.map V.int).length : Int) := fun z => hc (decide_eq_true z)
        rw [List.length_map, List.length_map] at z
        refine ⟨_, rfl, _, rfl, (by show 2 ≤ sizeLine; decide), fun t ht => ⟨t, _, rfl, .inl (.inl upd_same), rfl, _, _, rfl, _, _, rfl, rfl, b, a, ys, xs, rfl, same_upd ht, sameT (same_upd ht) hB, sameT (same_upd ht) hA, lb, by omega, by omega, rB, fun j => Int.add_comm _ _⟩⟩
    · rintro σ' H' ⟨c, d, us, ws, rfl, s1, hC, hD, lu, lw, lm, rU, ev⟩
      refine ⟨_, rfl, c, _, rfl, .inr hC, fun q hq => ?_⟩
      have nz : p ≠ 0 := by have := hp.lo; omega
      refine ⟨_, rfl, d, _, rfl, sameT (same_upd hq) hD, ?_⟩
      refine for_it (walk_enT (xs := ws.map V.int)) (fun i σ' H2 => ∃ (ms : List Int) (x y : Option V), σ' = [some (.ref a), some (.ref b), some (.int p), some (.ref c), some (.ref d), some (.ref q), x, y] ∧ Same H' H2 ∧ H2 q = some (.lst (ms.map V.int)) ∧ ms.length = us.length ∧ ∀ j, ms.getD j 0 = if j < i then (us.getD j 0 + ws.getD j 0).fmod p else us.getD j 0)
        ⟨us, none, none, rfl, same_upd hq, upd_same, rfl, fun j => (if_neg (Nat.not_lt_zero j)).symm⟩ (fun i σ' H2 _ ⟨_, _, _, _, s2, _⟩ => sameT s2 hD) ?_ ?_
      · rintro i x σ' H2 H3 hi ⟨ms, x0, y0, rfl, s2, eq, lms, cf⟩ ⟨T, u, v, rfl, hT, rfl, e1, e2⟩
        cases e1
        rw [List.length_map] at hi
        have e3 := (map_at ws i hi).symm.trans e2
        cases e3
        have hqT : q ≠ T := ne_of_none eq hT
        have eq2 : L2.upd H2 T (.tup [.int (i : Nat), .int (ws.getD i 0)]) q = some (.lst (ms.map V.int)) := by rw [upd_ne hqT]; exact eq
        have ei := cf i
        rw [if_neg (Nat.lt_irrefl i)] at ei
        refine ⟨T, _, rfl, .inl (.inl upd_same), rfl, _, _, rfl, _, _, rfl, rfl, ?_⟩
        refine ⟨_, rfl, _, rfl, q, _, (i : Int), .int (ms.getD i 0), rfl, rfl, SqL.of eq2, atI_nat (map_at ms i (by omega)), _, rfl, _, _, rfl, rfl, _, rfl, _, _, rfl, rfl, nz, _, rfl, _, rfl, q, _, _, i, rfl, rfl, eq2, ixN_nat (by rw [List.length_map]; omega), ?_⟩
        refine ⟨ms.set i ((ms.getD i 0 + ws.getD i 0).fmod p), _, _, rfl, lcs hq (s2.trans (same_upd hT)), ?_, by rw [List.length_set]; exact lms, fun j => ?_⟩
        · rw [upd_same, List.map_set]
        · rw [getD_set (by omega)]
          by_cases hj : j = i
          · rw [if_pos hj, if_pos (by omega), hj, ei]
          · rw [if_neg hj, cf j]
            by_cases hj2 : j < i
            · rw [if_pos hj2, if_pos (by omega)]
            · rw [if_neg hj2, if_neg (by omega)]
      · rintro σ' H2 ⟨ms, x0, y0, rfl, s2, eq, lms, cf⟩
        rw [List.length_map] at cf
        refine ⟨_, rfl, q, _, rfl, SqL.of eq, by omega, (k _ (is_trim (fun j => ?_) (by omega))).same (s1.trans s2)⟩
        rw [cf j, ← ev j]
        by_cases hj : j < ws.length
        · rw [if_pos hj]
        · rw [if_neg hj, getD_over (Nat.le_of_not_lt hj), Int.add_zero]
          exact (fm_id (rU j).1 (rU j).2).symm
end
end Xk
end
section
set_option Elab.async false
set_option linter.all false
set_option maxRecDepth 100000
set_option maxHeartbeats 4000000
namespace Xk
open PySem PySem.Spec PyProof.Rows L2 Xh LamX NdefX
theorem Is.imp {f g : Nat → Int} {n m : Nat} {ms : List Int} (x : Is f n ms) (h : ∀ j, f j = g j) (l : n ≤ m) : Is g m ms := ⟨fun j => (x.at_ j).trans (h j), x.tr, Nat.le_trans x.len l⟩
theorem NewP.imp {H : Hp} {f g : Nat → Int} {n m : Nat} {Q : VK} (k : NewP H g m Q) (h : ∀ j, f j = g j) (l : n ≤ m) : NewP H f n Q := fun ms x => k ms (x.imp h l)
theorem fm_add {a b p : Int} (h : 0 < p) : (a + b.fmod p).fmod p = (a + b).fmod p := by
  rw [Int.fmod_eq_emod_of_nonneg _ (by omega), Int.fmod_eq_emod_of_nonneg _ (by omega), Int.fmod_eq_emod_of_nonneg _ (by omega), Int.add_emod_emod]
theorem fm_add2 {a b p : Int} (h : 0 < p) : (a.fmod p + b).fmod p = (a + b).fmod p := by rw [Int.add_comm, fm_add h, Int.add_comm]
/-- one row of a product -/
def In (g : Nat → Int) (i : Nat) (x : Int) (ys : List Int) : Nat → Nat → Int
  | 0 => g
  | j + 1 => fun k => if k = i + j then In g i x ys j k + x * ys.getD j 0 else In g i x ys j k
/-- a product's coefficients, i rows of it -/
def Ou (xs ys : List Int) : Nat → Nat → Int
  | 0 => fun _ => 0
  | i + 1 => In (Ou xs ys i) i (xs.getD i 0) ys ys.length
def cvf (xs ys : List Int) : Nat → Int := Ou xs ys xs.length
theorem In_over {g : Nat → Int} {i n : Nat} {x : Int} {ys : List Int} (h : ∀ k, n ≤ k → g k = 0) (hn : i + ys.length ≤ n) : ∀ j, j ≤ ys.length → ∀ k, n ≤ k → In g i x ys j k = 0
  | 0, _, k, hk => h k hk
  | j + 1, hj, k, hk => by
    unfold In
    rw [if_neg (by omega)]
    exact In_over h hn j (by omega) k hk
theorem Ou_nil (xs : List Int) : ∀ i k, Ou xs [] i k = 0
  | 0, _ => rfl
  | i + 1, k => Ou_nil xs i k
theorem rep_zero (n : Nat) : (List.replicate n [V.int 0]).flatten = (List.replicate n (0 : Int)).map V.int := by
  induction n with
  | zero => rfl
  | succ n ih => rw [List.replicate_succ, List.replicate_succ, List.flatten_cons, ih]; rfl
theorem getD_rep (n j : Nat) : (List.replicate n (0 : Int)).getD j 0 = 0 := by
  rw [List.getD_eq_getElem?_getD, List.getElem?_replicate]
  split <;> rfl
def spTimes (K : PySem.W.Frag) : Sp := fun vs H Q _ => ∃ (a b : Addr) (xs ys : List Int) (p : Int), vs = [.ref a, .ref b, .int p] ∧ SqT K H a (xs.map V.int) ∧ SqT K H b (ys.map V.int) ∧ xs.length ≤ 50 ∧ ys.length ≤ 50 ∧ Rs p xs ∧ Rs p ys ∧ Pm p ∧
  NewP H (fun j => (cvf xs ys j).fmod p) 100 Q
section
variable {P : Program} {w : World} {K : PySem.W.Frag} {mg : Str → Option Value} {base : Heap}
theorem sc_raw_minus : FnScope (["one", "other", "prime"] : List Str) ["one", "other", "prime"] (defScope s_raw_minus) := ⟨rfl, rfl, rfl, by decide +kernel, rfl, by decide +kernel, by decide +kernel⟩
theorem ok_raw_minus {f : Addr} {fd : FuncData} (F : FunD K "raw_minus" "raw_minus" (defArgs s_raw_minus) (defBody s_raw_minus) (defScope s_raw_minus) [] [] f fd) (o_raw_scaled : Own P w K mg base CX0 2 "raw_scaled" ["one", "rest", "prime"] [] (spScale K)) (o_raw_plus : Own P w K mg base CX0 2 "raw_plus" ["one", "other", "prime"] [] (spPlus K)) : FnOk P w K mg base CX0 3 f fd ["one", "other", "prime"] (spMinus K) := by
  refine F.ok sc_raw_minus (fun vs H Q E h => ?_) (fun cdv A outer s H vs Q E hr h => ?_)
  · obtain ⟨a, b, xs, ys, p, rfl, _⟩ := h
    rfl
  · obtain ⟨a, b, xs, ys, p, rfl, hA, hB, la, lb, rA, rB, hp, k⟩ := h
    refine ⟨_, PSs.nox (pss_one (ps_ret (pe_own o_raw_plus (hr.mono (by decide)) rfl pass0 (pa_cons (pv 0) (pa_cons (pe_own o_raw_scaled (hr.mono (by decide)) rfl pass0 (pa_cons (pv 1) (pa_cons (pe_op op_sub (pv 2) pe_int) (pa_cons (pv 2) pa_nil)))) (pa_cons (pv 2) pa_nil)))))) , ?_⟩
    refine ⟨_, rfl, _, rfl, _, rfl, _, _, rfl, rfl, _, rfl, b, ys, p - 1, p, rfl, hB, lb, rB, hp, fun ms x q H1 s1 hq e1 => ?_⟩
    have lm := x.len
    refine ⟨_, rfl, a, q, xs, ms, p, rfl, sameT s1 hA, .inl (.inl e1), la, by omega, rA, fm_rs hp x.at_, hp, (k.same s1).imp (fun j => ?_) (by omega)⟩
    show (xs.getD j 0 + ms.getD j 0).fmod p = _
    rw [x.at_, fm_add hp.pos, Int.mul_comm]
theorem sc_raw_times : FnScope (["one", "other", "prime", "sums", "low", "rest", "high", "by", "number"] : List Str) ["one", "other", "prime"] (defScope s_raw_times) := ⟨rfl, rfl, rfl, by decide +kernel, rfl, by decide +kernel, by decide +kernel⟩
theorem ok_raw_times {f : Addr} {fd : FuncData} (F : FunD K "raw_times" "raw_times" (defArgs s_raw_times) (defBody s_raw_times) (defScope s_raw_times) [] [] f fd) (T : Fre mg) (o_trimmed : Own P w K mg base CX0 1 "trimmed" ["rests"] [] (spTrim K)) : FnOk P w K mg base CX0 2 f fd ["one", "other", "prime"] (spTimes K) := by
  refine F.ok sc_raw_times (fun vs H Q E h => ?_) (fun cdv A outer s H vs Q E hr h => ?_)
  · obtain ⟨a, b, xs, ys, p, rfl, _⟩ := h
    rfl
  · obtain ⟨a, b, xs, ys, p, rfl, hA, hB, la, lb, rA, rB, hp, k⟩ := h
    refine ⟨_, PSs.nox (C8.pss_cut (ps_if (PW.pt (pw_or (pt_not (pt_truth (pv 0) (by intro _; rfl))) (pw_or1 (pt_not (pt_truth (pv 1) (by intro _; rfl)))))) (pss_one (ps_ret (pe_tup pa_nil))) pss_nil)
      (pss_cons (ps_set (i := 3) sc_raw_times.nd rfl (Or.inl rfl) (pe_op op_rep (pe_lst (pa_cons pe_int pa_nil)) (pe_op op_sub (pe_op op_add (pe_callB call_len_seq (by rfl) T.f_len PySem.boot_len (pa_cons (pv 0) pa_nil)) (pe_callB call_len_seq (by rfl) T.f_len PySem.boot_len (pa_cons (pv 1) pa_nil))) pe_int)))
      (pss_cons (ps_for PassesOwn.never rfl (pi_enT (by rfl) T.f_enumerate (pa_cons (pv 0) pa_nil)) (pg_tup rfl (pgs_cons (pg_name (i := 4) sc_raw_times.nd rfl (Or.inl rfl)) (pgs_cons (pg_name (i := 5) sc_raw_times.nd rfl (Or.inl rfl)) pgs_nil))) (pss_one (ps_for PassesOwn.never rfl (pi_enT (by rfl) T.f_enumerate (pa_cons (pv 1) pa_nil)) (pg_tup rfl (pgs_cons (pg_name (i := 6) sc_raw_times.nd rfl (Or.inl rfl)) (pgs_cons (pg_name (i := 7) sc_raw_times.nd rfl (Or.inl rfl)) pgs_nil))) (pss_one (ps_augS (pv 3) (pe_op op_add (pv 4) (pv 6)) get_list (pe_op op_mul (pv 5) (pv 7)) ip_add set_list)))))
      (pss_one (ps_ret (pe_own o_trimmed (hr.mono (by decide)) rfl pass0 (pa_cons (pe_lc (own := [("number", 8)]) rfl sc_raw_times.nd (pi_list (pv 3)) (blkOk_by (own := [("number", 8)]) (N := ["one", "other", "prime", "sums", "low", "rest", "high", "by", "number"]) (sc := defScope s_raw_times) (by decide +kernel)) (fun _ _ _ _ _ => pg_name (i := 8) sc_raw_times.nd rfl (Or.inl rfl) (Or.inr rfl)) (fun _ _ _ _ _ => pts_nil) (fun _ _ _ _ _ => (pe_op op_modN (pv 8) (pv 2)))) pa_nil))))))) , ?_⟩
    refine ⟨fun σ' H' => σ' = [some (.ref a), some (.ref b), some (.int p), none, none, none, none, none, none] ∧ H' = H ∧ 0 < xs.length ∧ 0 < ys.length, ?_, ?_⟩
    · cases xs with
      | nil => exact ⟨_, rfl, _, .inr (.inl ⟨_, hA, rfl⟩), iteT (iteT ⟨(by show 0 ≤ sizeLine; decide), fun t ht => k [] ⟨fun j => (Int.zero_fmod p).symm, rfl, Nat.zero_le _⟩ t _ (same_upd ht) ht upd_same⟩)⟩
      | cons x xs =>
        refine ⟨_, rfl, _, .inr (.inl ⟨_, hA, rfl⟩), iteF ?_⟩
        cases ys with
        | nil => exact ⟨_, rfl, _, .inr (.inl ⟨_, hB, rfl⟩), iteT ⟨(by show 0 ≤ sizeLine; decide), fun t ht => k [] ⟨fun j => by rw [cvf, Ou_nil]; exact (Int.zero_fmod p).symm, rfl, Nat.zero_le _⟩ t _ (same_upd ht) ht upd_same⟩⟩
        | cons y ys => exact ⟨_, rfl, _, .inr (.inl ⟨_, hB, rfl⟩), iteF ⟨rfl, rfl, Nat.succ_pos _, Nat.succ_pos _⟩⟩
    · rintro σ' H' ⟨rfl, rfl, lx, ly⟩
      refine ⟨(by show 1 ≤ sizeLine; decide), fun l hl => ?_⟩
      have s0 := same_upd (o := .lst [.int 0]) hl
      refine ⟨_, rfl, _, _, rfl, .inr (sameT s0 hA), _, rfl, _, _, rfl, .inr (sameT s0 hB), _, _, rfl, rfl, _, _, rfl, rfl, l, _, _, rfl, rfl, upd_same, ?_, ?_, ?_, fun q hq => ?_⟩
      · rw [List.length_map, List.length_map]; omega
      · rw [List.length_map, List.length_map]; omega
      · rw [List.length_map, List.length_map]
        exact Nat.le_trans (show 1 * ((xs.length : Int) + (ys.length : Int) - 1).toNat ≤ 1000 by omega) (Nat.le_of_lt (small1000 (Nat.le_refl _)))
      have q0 : H' q = none := s0.free hq
      have nz : p ≠ 0 := by have := hp.lo; omega
      have hi1000 := hp.hi
      rw [List.length_map, List.length_map, show ((xs.length : Int) + (ys.length : Int) - 1).toNat = xs.length + ys.length - 1 by omega, rep_zero]
      refine ⟨_, rfl, a, _, rfl, sameT (s0.trans (same_upd hq)) hA, ?_⟩
      refine for_it (walk_enT (xs := xs.map V.int)) (fun i σ' H2 => ∃ (ms : List Int) (x y u v : Option V), σ' = [some (.ref a), some (.ref b), some (.int p), some (.ref q), x, y, u, v, none] ∧ Same H' H2 ∧ H2 q = some (.lst (ms.map V.int)) ∧ ms.length = xs.length + ys.length - 1 ∧ ∀ j, ms.getD j 0 = Ou xs ys i j)
        ⟨List.replicate (xs.length + ys.length - 1) 0, none, none, none, none, rfl, s0.trans (same_upd hq), upd_same, List.length_replicate, fun j => getD_rep _ j⟩ (fun i σ' H2 _ ⟨_, _, _, _, _, _, s2, _⟩ => sameT s2 hA) ?_ ?_
      · rintro i x σ' H2 H3 hi ⟨ms, x0, y0, u0, v0, rfl, s2, eq, lms, cf⟩ ⟨T, u, v, rfl, hT, rfl, e1, e2⟩
        cases e1
        rw [List.length_map] at hi
        have e3 := (map_at xs i hi).symm.trans e2
        cases e3
        have sT := s2.trans (same_upd (o := .tup [.int (i : Nat), .int (xs.getD i 0)]) hT)
        refine ⟨T, _, rfl, .inl (.inl upd_same), rfl, _, _, rfl, _, _, rfl, rfl, ?_⟩
        refine ⟨_, rfl, b, _, rfl, sameT sT hB, ?_⟩
        refine for_it (walk_enT (xs := ys.map V.int)) (fun j σ' H2 => ∃ (ms : List Int) (u v : Option V), σ' = [some (.ref a), some (.ref b), some (.int p), some (.ref q), some (.int (i : Nat)), some (.int (xs.getD i 0)), u, v, none] ∧ Same H' H2 ∧ H2 q = some (.lst (ms.map V.int)) ∧ ms.length = xs.length + ys.length - 1 ∧ ∀ k, ms.getD k 0 = In (Ou xs ys i) i (xs.getD i 0) ys j k)
          ⟨ms, u0, v0, rfl, sT, by rw [upd_ne (ne_of_none eq hT)]; exact eq, lms, cf⟩ (fun j σ' H2 _ ⟨_, _, _, _, s2, _⟩ => sameT s2 hB) ?_ ?_
        · rintro j x' σ' H4 H5 hj ⟨ms, u0, v0, rfl, s2, eq, lms, cf⟩ ⟨T, u, v, rfl, hT, rfl, e1, e2⟩
          cases e1
          rw [List.length_map] at hj
          have e3 := (map_at ys j hj).symm.trans e2
          cases e3
          have eq2 : L2.upd H4 T (.tup [.int (j : Nat), .int (ys.getD j 0)]) q = some (.lst (ms.map V.int)) := by rw [upd_ne (ne_of_none eq hT)]; exact eq
          obtain ⟨x0, x1⟩ := rA i
          have ho : atI (ms.map V.int) ((i : Int) + (j : Int)) = some (.int (ms.getD (i + j) 0)) := by
            rw [← Int.natCast_add]
            exact atI_nat (map_at ms (i + j) (by omega))
          have hx : ixN (ms.map V.int).length ((i : Int) + (j : Int)) = some (i + j) := by
            rw [← Int.natCast_add]
            exact ixN_nat (by rw [List.length_map]; omega)
          refine ⟨T, _, rfl, .inl (.inl upd_same), rfl, _, _, rfl, _, _, rfl, rfl, ?_⟩
          refine ⟨_, rfl, _, rfl, _, rfl, _, _, rfl, rfl, q, _, _, _, rfl, rfl, SqL.of eq2, ho, _, rfl, _, rfl, _, _, rfl, rfl, .inl ⟨by omega, by omega⟩, _, _, rfl, rfl, q, _, _, _, rfl, rfl, eq2, hx, ?_⟩
          refine ⟨ms.set (i + j) (ms.getD (i + j) 0 + xs.getD i 0 * ys.getD j 0), _, _, rfl, lcs q0 (s2.trans (same_upd hT)), ?_, by rw [List.length_set]; exact lms, fun k => ?_⟩
          · rw [upd_same, List.map_set]
          · rw [getD_set (by omega)]
            unfold In
            by_cases hk : k = i + j
            · rw [if_pos hk, if_pos hk, cf, hk]
            · rw [if_neg hk, if_neg hk, cf]
        · rintro σ' H4 ⟨ms, u0, v0, rfl, s2, eq, lms, cf⟩
          rw [List.length_map] at cf
          exact ⟨ms, _, _, _, _, rfl, s2, eq, lms, cf⟩
      · rintro σ' H2 ⟨ms, x0, y0, u0, v0, rfl, s2, eq, lms, cf⟩
        rw [List.length_map] at cf
        refine ⟨_, rfl, q, rfl, ⟨_, SqL.of eq⟩, fun D hD => ?_⟩
        refine lc_it (walk_list (xs := ms.map V.int)) (fun i H3 => Same H2 H3 ∧ H3 D = some (.lst (((ms.take i).map fun x => x.fmod p).map V.int))) ⟨same_upd hD, upd_same⟩ (fun i H1 _ h => SqL.of (h.1 _ _ eq)) ?_ ?_
        · rintro i x H3 H4 hi ⟨s3, e3⟩ ⟨rfl, hx⟩
          rw [List.length_map] at hi
          have e4 := (map_at ms i hi).symm.trans hx
          cases e4
          refine ⟨rfl, _, rfl, _, rfl, _, _, rfl, rfl, nz, _, e3, small1000 (Nat.le_trans (take_len _ _ _) (by omega)), lcs hD s3, ?_⟩
          rw [upd_same]
          exact congrArg (fun z => some (HO.lst z)) (take_map (fun x => x.fmod p) hi)
        · rintro H3 ⟨s3, e3⟩
          rw [List.length_map, List.take_length] at e3
          refine ⟨D, _, rfl, SqL.of e3, by rw [List.length_map]; omega, (k _ (is_trim (fun j => ?_) (by rw [List.length_map]; omega))).same (s2.trans s3)⟩
          rw [getD_map (g := fun x => x.fmod p) (Int.zero_fmod p), cf]
          rfl
end
end Xk
end
section
set_option Elab.async false
set_option linter.all false
set_option maxRecDepth 100000
set_option maxHeartbeats 4000000
namespace Xk
open PySem PySem.Spec PyProof.Rows L2 Xh LamX NdefX
def spIsPoly (K : PySem.W.Frag) : Sp := fun vs H Q _ => ∃ (a : Addr) (ns : List Int) (p : Int), vs = [.ref a, .int p] ∧ SqT K H a (ns.map V.int) ∧ ns.length ≤ 25 ∧ Rs p ns ∧ trim ns = ns ∧ ∀ H', Same H H' → Q (.bl true) H'
theorem atI_back (n : Int) (ns : List Int) : atI ((n :: ns).map V.int) (-1) = some (.int ((n :: ns).getD ns.length 0)) := by
  unfold atI ixN
  rw [List.length_map, List.length_cons, if_neg (by decide), if_pos (by omega)]
  show ((n :: ns).map V.int)[((-1 : Int) + ((ns.length + 1 : Nat) : Int)).toNat]? = _
  rw [show ((-1 : Int) + ((ns.length + 1 : Nat) : Int)).toNat = ns.length by omega]
  exact map_at (n :: ns) ns.length (by rw [List.length_cons]; omega)
theorem dp_ints {K : PySem.W.Frag} {H : Hp} : ∀ ns : List Int, DpAll K H (ns.map V.int) (ns.map PyData.int)
  | [] => .nil
  | n :: ns => .cons (.int n) (dp_ints ns)
theorem dp_tup {K : PySem.W.Frag} {H : Hp} {a : Addr} {ns : List Int} (h : SqT K H a (ns.map V.int)) : Dp K H (.ref a) (.tuple (ns.map PyData.int)) := .tup h (dp_ints ns)
section
variable {P : Program} {w : World} {K : PySem.W.Frag} {mg : Str → Option Value} {base : Heap}
theorem sc_is_poly : FnScope (["told", "prime", "rest"] : List Str) ["told", "prime"] (defScope s_is_poly) := ⟨rfl, rfl, rfl, by decide +kernel, rfl, by decide +kernel, by decide +kernel⟩
theorem ok_is_poly {f : Addr} {fd : FuncData} (F : FunD K "is_poly" "is_poly" (defArgs s_is_poly) (defBody s_is_poly) (defScope s_is_poly) [] [] f fd) (T : Fre mg) (mM : ∃ t, mg "MOST_RESTS" = some (.int 25 t)) (o_is_rest : Own P w K mg base CX0 2 "is_rest" ["told", "prime"] [] spIsRest) : FnOk P w K mg base CX0 3 f fd ["told", "prime"] (spIsPoly K) := by
  obtain ⟨tM, mM⟩ := mM
  refine F.ok sc_is_poly (fun vs H Q E h => ?_) (fun cdv A outer s H vs Q E hr h => ?_)
  · obtain ⟨a, ns, p, rfl, _⟩ := h
    rfl
  · obtain ⟨a, ns, p, rfl, hS, hl, hR, htr, k⟩ := h
    refine ⟨_, PSs.nox (pss_cons (ps_if (PW.pt (pw_or (pt_not (pt_val (pe_callB call_isi (by rfl) T.f_isinstance PyProof.Rows.boot_isinstance (pa_cons (pv 0) (pa_cons (pe_bltn (v := .ty "tuple") rfl T.f_tuple boot_tuple rfl) pa_nil))))) (pw_or1 (pt_cmpR op_gt (pe_callB call_len_seq (by rfl) T.f_len PySem.boot_len (pa_cons (pv 0) pa_nil)) (pe_glob (v := .int 25) rfl mM ⟨_, rfl⟩) (nomark _))))) (pss_one (ps_ret pe_bl)) pss_nil)
      (pss_cons (ps_if (pt_not (pt_val (pe_callB (cr_all rfl) (by rfl) T.f_all (by decide +kernel) (pa_cons (pe_lc (own := [("rest", 2)]) rfl sc_is_poly.nd (pi_tup (pv 0)) (blkOk_by (own := [("rest", 2)]) (N := ["told", "prime", "rest"]) (sc := defScope s_is_poly) (by decide +kernel)) (fun _ _ _ _ _ => pg_name (i := 2) sc_is_poly.nd rfl (Or.inl rfl) (Or.inr rfl)) (fun _ _ _ _ _ => pts_nil) (fun _ _ _ _ _ => (pe_own o_is_rest (hr.mono (by decide)) rfl pass0 (pa_cons (pv 2) (pa_cons (pv 1) pa_nil))))) pa_nil)))) (pss_one (ps_ret pe_bl)) pss_nil)
      (pss_one (ps_ret (pe_or (pe_cmpR (op_eqD hr.units) (pv 0) (pe_tup pa_nil) (nomark _)) (pe_one (pe_cmpR op_ne (pe_ix ix_tup (pv 0) (pe_un un_neg pe_int) (fun _ _ => rfl)) pe_int (nomark _)))))))) , ?_⟩
    refine ⟨_, rfl, .ref a, _, _, _, true, rfl, .ty _, tyT hS, kit_ty (by decide +kernel), _, rfl, iteF ?_⟩
    refine ⟨_, rfl, _, _, rfl, .inr hS, _, _, rfl, rfl, _, rfl, ?_⟩
    rw [show decide ((25 : Int) < ((ns.map V.int).length : Int)) = false from decide_eq_false (by rw [List.length_map]; omega)]
    refine iteF ?_
    refine ⟨_, rfl, a, rfl, ⟨_, hS⟩, fun D hD => ?_⟩
    refine lc_it (walk_tup (xs := ns.map V.int)) (fun i H1 => Same H H1 ∧ H1 D = some (.lst ((List.replicate i true).map V.bl)) ∧ i ≤ ns.length) ⟨same_upd hD, upd_same, Nat.zero_le _⟩ (fun i H1 _ h => sameT h.1 hS) ?_ ?_
    · rintro i x H1 H2 hi ⟨s1, e1, _⟩ ⟨rfl, hx⟩
      rw [List.length_map] at hi
      have e3 := (map_at ns i hi).symm.trans hx
      cases e3
      refine ⟨rfl, _, rfl, _, rfl, _, _, rfl, ?_⟩
      rw [decide_eq_true (hR i)]
      refine ⟨_, e1, ?_, lcs hD s1, ?_, hi⟩
      · rw [List.length_map, List.length_replicate]
        exact small1000 (by omega)
      · rw [upd_same, List.replicate_succ', List.map_append]
        rfl
    · rintro H1 ⟨s1, e1, _⟩
      refine ⟨D, List.replicate (ns.map V.int).length true, rfl, SqL.of e1, _, rfl, ?_⟩
      rw [show (List.replicate (ns.map V.int).length true).all id = true from by simp]
      refine iteF ⟨_, rfl, (by show 0 ≤ sizeLine; decide), fun t ht => ⟨_, _, dp_tup (sameT (s1.trans (same_upd ht)) hS), dp_tup (ns := []) (.inl (.inl upd_same)), ?_, rfl, ?_⟩⟩
      · simp [SeqAt.shaped, PyData.canLay0, PyData.depth, PySem.W.ke_canLayAll0, PySem.W.ke_depthAll]
      · cases ns with
        | nil => exact ⟨_, rfl, iteT (k _ (s1.trans (same_upd ht)))⟩
        | cons n ns =>
          refine ⟨_, rfl, iteF ⟨_, rfl, _, rfl, a, _, _, .int ((n :: ns).getD ns.length 0), rfl, rfl, sameT (s1.trans (same_upd ht)) hS, ?_, ?_⟩⟩
          · exact atI_back n ns
          · have z := trim_ne _ (by intro z; cases z) htr
            refine ⟨rfl, ?_⟩
            rw [show (!decide (V.int ((n :: ns).getD ns.length 0) = V.int 0)) = true from by simpa using z]
            exact k _ (s1.trans (same_upd ht))
end
end Xk
end
section
set_option Elab.async false
set_option linter.all false
set_option maxRecDepth 100000
set_option maxHeartbeats 4000000
namespace Xk
open PySem PySem.Spec PyProof.Rows L2 Xh LamX NdefX
theorem pm_all : ∀ p ∈ primes, 2 ≤ p ∧ p ≤ 1000 := by decide
theorem pm_of {p : Int} (h : p ∈ primes) : Pm p := ⟨(pm_all p h).1, (pm_all p h).2⟩
structure Pol (K : PySem.W.Frag) (H : Hp) (a : Addr) (p : Int) (ns : List Int) : Prop where
  at_ : SqT K H a (ns.map V.int)
  len : ns.length ≤ 25
  rs : Rs p ns
  tr : trim ns = ns
theorem Pol.same {H H' : Hp} {K : PySem.W.Frag} {a : Addr} {p : Int} {ns : List Int} (x : Pol K H a p ns) (s : Same H H') : Pol K H' a p ns := ⟨sameT s x.at_, x.len, x.rs, x.tr⟩
theorem two_of {H : Hp} {K : PySem.W.Frag} {a b : Addr} {p : Int} {xs ys : List Int} (x : Pol K H a p xs) (y : Pol K H b p ys) : ∀ r ∈ [V.ref a, V.ref b], ∃ a ns, r = .ref a ∧ Pol K H a p ns := fun r hr => by
  rcases List.mem_cons.mp hr with rfl | hr
  · exact ⟨_, _, rfl, x⟩
  · rw [List.mem_singleton.mp hr]
    exact ⟨_, _, rfl, y⟩
def spRefPs (K : PySem.W.Frag) : Sp := fun vs H Q _ => ∃ (c : Addr) (rs : List V) (p : Int), vs = [.ref c, .int p] ∧ p ∈ primes ∧ SqT K H c rs ∧ (∀ r ∈ rs, ∃ a ns, r = .ref a ∧ Pol K H a p ns) ∧ ∀ H', Same H H' → Q .non H'
def spPoly (K : PySem.W.Frag) (g : Int → List Int → List Int → Nat → Int) : Sp := fun vs H Q _ => ∃ (a b : Addr) (xs ys : List Int) (p : Int), vs = [.ref a, .ref b, .int p] ∧ p ∈ primes ∧ Pol K H a p xs ∧ Pol K H b p ys ∧ NewP H (g p xs ys) 100 Q
def gPlus : Int → List Int → List Int → Nat → Int := fun p xs ys j => (xs.getD j 0 + ys.getD j 0).fmod p
def gMinus : Int → List Int → List Int → Nat → Int := fun p xs ys j => (xs.getD j 0 + (p - 1) * ys.getD j 0).fmod p
def gTimes : Int → List Int → List Int → Nat → Int := fun p xs ys j => (cvf xs ys j).fmod p
section
variable {P : Program} {w : World} {K : PySem.W.Frag} {mg : Str → Option Value} {base : Heap}
theorem sc_refuse_polys : FnScope (["polys", "prime", "poly"] : List Str) ["polys", "prime"] (defScope s_refuse_polys) := ⟨rfl, rfl, rfl, by decide +kernel, rfl, by decide +kernel, by decide +kernel⟩
theorem ok_refuse_polys {f fI : Addr} {C : Fin 14 → Addr} {fd : FuncData} (F : FunD K "refuse_polys" "refuse_polys" (defArgs s_refuse_polys) (defBody s_refuse_polys) (defScope s_refuse_polys) [] [] f fd) (o_refuse_prime : Own P w K mg base (L2.CX P w) 3 "refuse_prime" ["prime"] [] (spRefP (C 0)))
    (o_is_poly : Own P w K mg base CX0 3 "is_poly" ["told", "prime"] [] (spIsPoly K)) (xP : RX K mg (C 1) fI "BadPoly") (o_init : FnR P w K mg base (L2.CX P w) 1 fI (spRI1 K)) : FnOk P w K mg base (L2.CX P w) 4 f fd ["polys", "prime"] (spRefPs K) := by
  refine F.ok sc_refuse_polys (fun vs H Q E h => ?_) (fun cdv A outer s H vs Q E hr h => ?_)
  · obtain ⟨c, rs, p, rfl, _⟩ := h
    rfl
  · obtain ⟨c, rs, p, rfl, hp, hS, hP, k⟩ := h
    refine ⟨_, (pss_cons (ps_expr (pe_own o_refuse_prime (hr.mono (by decide)) rfl (passes_call (takes_of rfl rfl rfl rfl) (fun _ _ _ _ h => h)) (pa_cons (pv 1) pa_nil)))
      (pss_one (ps_for (passes_of rfl) rfl (pi_tup (pv 0)) (pg_name (i := 2) sc_refuse_polys.nd rfl (Or.inl rfl)) (pss_one (ps_if (pt_not (pt_val (pe_own o_is_poly (hr.mono (by decide)) rfl pass0 (pa_cons (pv 2) (pa_cons (pv 1) pa_nil))))) (pss_one (ps_raise rfl (takes_of rfl rfl rfl rfl) (pmk_rung xP o_init (hr.mono (by decide)) rfl))) pss_nil))))) , ?_⟩
    refine ⟨_, rfl, p, rfl, fun _ => ?_, fun z => absurd hp z⟩
    refine ⟨_, rfl, c, rfl, ⟨_, hS⟩, ?_⟩
    refine for_it (walk_tup (xs := rs)) (fun i σ' H2 => ∃ x : Option V, σ' = [some (.ref c), some (.int p), x] ∧ Same H H2) ⟨none, rfl, fun _ _ h => h⟩ (fun i σ' H2 _ ⟨_, _, s2⟩ => sameT s2 hS) ?_ ?_
    · rintro i x σ' H2 H3 hi ⟨x0, rfl, s2⟩ ⟨rfl, hx⟩
      obtain ⟨a, ns, rfl, Pa⟩ := hP x (List.mem_of_getElem? hx)
      have Pb := Pa.same s2
      exact ⟨_, rfl, _, rfl, a, ns, p, rfl, Pb.at_, Pb.len, Pb.rs, Pb.tr, fun H4 s4 => ⟨_, rfl, iteF ⟨_, rfl, s2.trans s4⟩⟩⟩
    · rintro σ' H2 ⟨x, rfl, s2⟩
      exact k _ s2
end
end Xk
end
section
set_option Elab.async false
set_option linter.all false
set_option maxRecDepth 100000
set_option maxHeartbeats 4000000
namespace Xk
open PySem PySem.Spec PyProof.Rows L2 Xh LamX NdefX
theorem Draw.updL {H : Hp} {d p : Addr} {ms : List Int} (D : Draw H d) (h : p ≠ d) : Draw (L2.upd H p (.lst (ms.map V.int))) d := by
  obtain ⟨c, ns, i, r, g, h1, h2, h3⟩ := D
  by_cases hc : c = p
  · exact ⟨c, ms, i, r, g, by rw [upd_ne (Ne.symm h)]; exact h1, by rw [hc, upd_same], h3⟩
  · exact ⟨c, ns, i, r, g, by rw [upd_ne (Ne.symm h)]; exact h1, by rw [upd_ne hc]; exact h2, h3⟩
theorem But.lcs {H H2 : Hp} {d D : Addr} {o : HO} (hD : H D = none) (b : But d H H2) : But d H (L2.upd H2 D o) := ⟨fun c u h e => by
  rw [upd_ne (ne_of_none e hD)]
  exact b.f c u h e, fun c r e => by
  obtain ⟨r', e'⟩ := b.c c r e
  exact ⟨r', by rw [upd_ne (ne_of_none e hD)]; exact e'⟩⟩
theorem Rs.nil (p : Int) (h : 0 < p) : Rs p [] := fun j => ⟨Int.le_refl _, h⟩
theorem Rs.add {p x : Int} {ms : List Int} (r : Rs p ms) (h0 : 0 ≤ x) (h1 : x < p) : Rs p (ms ++ [x]) := fun j => by
  rw [List.getD_eq_getElem?_getD, List.getElem?_append]
  split
  · have z := r j
    rw [List.getD_eq_getElem?_getD] at z
    exact z
  · cases e : j - ms.length with
    | zero => exact ⟨h0, h1⟩
    | succ n => exact ⟨Int.le_refl _, show (0 : Int) < p by omega⟩
/-- a new list of rests, drawn -/
def NewL (H : Hp) (d : Addr) (p : Int) (n : Nat) (Q : VK) : Prop := ∀ (ms : List Int) (a : Addr) (H' : Hp), ms.length = n → Rs p ms → Draw H' d → But d H H' → H' a = some (.lst (ms.map V.int)) → a ≠ d → H a = none → Q (.ref a) H'
def spRestsD : Sp := fun vs H Q _ => ∃ (d : Addr) (n : Nat) (p : Int), vs = [.ref d, .int n, .int p] ∧ Draw H d ∧ n ≤ 100 ∧ Pm p ∧ NewL H d p n Q
def spPolyD (K : PySem.W.Frag) : Sp := fun vs H Q _ => ∃ (d : Addr) (n : Nat) (p : Int), vs = [.ref d, .int n, .int p] ∧ Draw H d ∧ n ≤ 25 ∧ Pm p ∧ ∀ (ms : List Int) (a : Addr) (H' : Hp), Draw H' d → But d H H' → Pol K H' a p ms → ms.length ≤ n → a ≠ d → H a = none → H' a = some (.tup (ms.map V.int)) → Q (.ref a) H'
theorem natAbs_small {p : Int} (h : Pm p) : p.natAbs < 2 ^ 200 := big (by have := h.lo; have := h.hi; omega)
section
variable {P : Program} {w : World} {K : PySem.W.Frag} {mg : Str → Option Value} {base : Heap}
theorem sc_law_rests : FnScope (["_law_draw", "_law_many", "_law_p", "_law_k"] : List Str) ["_law_draw", "_law_many", "_law_p"] (defScope s_law_rests) := ⟨rfl, rfl, rfl, by decide +kernel, rfl, by decide +kernel, by decide +kernel⟩
theorem ok_law_rests {f : Addr} {fd : FuncData} (F : FunD K "_law_rests" "_law_rests" (defArgs s_law_rests) (defBody s_law_rests) (defScope s_law_rests) [] [] f fd) (T : Fre mg) (o_law_take : Own P w K mg base CX0 1 "_law_take" ["_law_draw", "_law_sides"] [] spTake) : FnOk P w K mg base CX0 2 f fd ["_law_draw", "_law_many", "_law_p"] spRestsD := by
  refine F.ok sc_law_rests (fun vs H Q E h => ?_) (fun cdv A outer s H vs Q E hr h => ?_)
  · obtain ⟨d, n, p, rfl, _⟩ := h
    rfl
  · obtain ⟨d, n, p, rfl, Dr, hn, hp, k⟩ := h
    refine ⟨_, PSs.nox (pss_one (ps_ret (pe_lc (own := [("_law_k", 3)]) rfl sc_law_rests.nd (pi_range1 (by rfl) T.f_range (pa_cons (pv 1) pa_nil)) (blkOk_by (own := [("_law_k", 3)]) (N := ["_law_draw", "_law_many", "_law_p", "_law_k"]) (sc := defScope s_law_rests) (by decide +kernel)) (fun _ _ _ _ _ => pg_name (i := 3) sc_law_rests.nd rfl (Or.inl rfl) (Or.inr rfl)) (fun _ _ _ _ _ => pts_nil) (fun _ _ _ _ _ => (pe_own o_law_take (hr.mono (by decide)) rfl pass0 (pa_cons (pv 0) (pa_cons (pv 2) pa_nil))))))) , ?_⟩
    refine ⟨_, rfl, (n : Int), rfl, by omega, by omega, fun D hD => ?_⟩
    rw [Int.toNat_natCast]
    have hDd : D ≠ d := Dr.ne hD
    refine lc_range (lo := 0) (n := n) (fun i H1 => ∃ ms : List Int, H1 D = some (.lst (ms.map V.int)) ∧ ms.length = i ∧ Rs p ms ∧ Draw H1 d ∧ But d H H1) ⟨[], upd_same, rfl, Rs.nil p hp.pos, Dr.same (same_upd hD), But.updN hD⟩ ?_ ?_
    · rintro i H1 hi ⟨ms, e1, l1, r1, D1, B1⟩
      have lo := hp.lo
      refine ⟨rfl, _, rfl, _, rfl, d, p, rfl, D1, by omega, natAbs_small hp, fun m H2 m0 m1 D2 B2 => ⟨_, B2 _ _ hDd e1, ?_, ms ++ [m], ?_, ?_, r1.add m0 m1, ?_, But.lcs hD (B1.trans B2)⟩⟩
      · rw [List.length_map]
        exact small1000 (by omega)
      · rw [upd_same, List.map_append]
        rfl
      · rw [List.length_append, l1]
        rfl
      · have z := D2.updL (p := D) (ms := ms ++ [m]) hDd
        rw [List.map_append] at z
        exact z
    · rintro H1 ⟨ms, e1, l1, r1, D1, B1⟩
      exact k ms D H1 (by omega) r1 D1 B1 e1 hDd hD
theorem sc_law_poly : FnScope (["_law_draw", "_law_most", "_law_p", "_law_found", "_law_number"] : List Str) ["_law_draw", "_law_most", "_law_p"] (defScope s_law_poly) := ⟨rfl, rfl, rfl, by decide +kernel, rfl, by decide +kernel, by decide +kernel⟩
theorem ok_law_poly {f : Addr} {fd : FuncData} (F : FunD K "_law_poly" "_law_poly" (defArgs s_law_poly) (defBody s_law_poly) (defScope s_law_poly) [] [] f fd) (T : Fre mg) (o_law_take : Own P w K mg base CX0 1 "_law_take" ["_law_draw", "_law_sides"] [] spTake) (o_law_rests : Own P w K mg base CX0 2 "_law_rests" ["_law_draw", "_law_many", "_law_p"] [] spRestsD) (o_law_trim : Own P w K mg base CX0 1 "_law_trim" ["_law_numbers"] [] (spTrim K)) : FnOk P w K mg base CX0 3 f fd ["_law_draw", "_law_most", "_law_p"] (spPolyD K) := by
  refine F.ok sc_law_poly (fun vs H Q E h => ?_) (fun cdv A outer s H vs Q E hr h => ?_)
  · obtain ⟨d, n, p, rfl, _⟩ := h
    rfl
  · obtain ⟨d, n, p, rfl, Dr, hn, hp, k⟩ := h
    have lo := hp.lo
    have hi := hp.hi
    refine ⟨_, PSs.nox (pss_cons (ps_set (i := 3) sc_law_poly.nd rfl (Or.inl rfl) (pe_own o_law_rests (hr.mono (by decide)) rfl pass0 (pa_cons (pv 0) (pa_cons (pe_own o_law_take (hr.mono (by decide)) rfl pass0 (pa_cons (pv 0) (pa_cons (pe_op op_add (pv 1) pe_int) pa_nil))) (pa_cons (pv 2) pa_nil)))))
      (C8.pss_cut (ps_if (pt_cmpR op_eq (pe_own o_law_take (hr.mono (by decide)) rfl pass0 (pa_cons (pv 0) (pa_cons pe_int pa_nil))) pe_int (nomark _)) (pss_one (ps_setLc (i := 3) (own := [("_law_number", 4)]) rfl sc_law_poly.nd rfl rfl (sw_true rfl rfl rfl (by decide +kernel)) (pi_list (pv 3)) (blkOk_by (own := [("_law_number", 4)]) (N := ["_law_draw", "_law_most", "_law_p", "_law_found", "_law_number"]) (sc := defScope s_law_poly) (by decide +kernel)) (fun _ _ _ _ _ => pg_name (i := 4) sc_law_poly.nd rfl (Or.inl rfl) (Or.inr rfl)) (fun _ _ _ _ _ => pts_nil) (fun _ _ _ _ _ => (pe_op op_mul (pv 4) (pe_callTy call_int1 (by rfl) T.f_int (by decide +kernel) (pa_cons (pe_cmpR op_eq (pe_own o_law_take (hr.mono (by decide)) rfl pass0 (pa_cons (pv 0) (pa_cons pe_int pa_nil))) pe_int (nomark _)) pa_nil)))))) pss_nil)
      (pss_one (ps_ret (pe_own o_law_trim (hr.mono (by decide)) rfl pass0 (pa_cons (pv 3) pa_nil)))))) , ?_⟩
    refine ⟨_, rfl, _, rfl, _, rfl, _, _, rfl, rfl, d, (n : Int) + 1, rfl, Dr, by omega, big (by omega), fun m H1 m0 m1 D1 B1 => ?_⟩
    obtain ⟨j, rfl⟩ := Int.eq_ofNat_of_zero_le m0
    refine ⟨_, rfl, d, j, p, rfl, D1, by omega, hp, fun ms b H2 lm rm D2 B2 e2 hbd nb => ?_⟩
    refine ⟨fun σ' H' => ∃ (ms : List Int) (b : Addr), σ' = [some (.ref d), some (.int n), some (.int p), some (.ref b), none] ∧ ms.length ≤ n ∧ Rs p ms ∧ Draw H' d ∧ But d H H' ∧ H' b = some (.lst (ms.map V.int)) ∧ b ≠ d ∧ H b = none, ?_, ?_⟩
    · refine ⟨_, rfl, d, 4, rfl, D2, by decide, by decide, fun m2 H3 _ _ D3 B3 => ?_⟩
      have e3 := B3 _ _ hbd e2
      have nb0 : H b = none := B1.free nb hbd
      refine ⟨rfl, _, rfl, ite2 (fun hc => ?_) (fun hc => ?_)⟩
      · refine ⟨_, rfl, b, rfl, ⟨_, SqL.of e3⟩, fun D hD => ?_⟩
        have hDd : D ≠ d := D3.ne hD
        have B0 : But d H H3 := (B1.trans B2).trans B3
        refine lc_it (walk_list (xs := ms.map V.int)) (fun i H4 => ∃ ws : List Int, H4 D = some (.lst (ws.map V.int)) ∧ ws.length = i ∧ Rs p ws ∧ Draw H4 d ∧ But d H3 H4) ⟨[], upd_same, rfl, Rs.nil p hp.pos, D3.same (same_upd hD), But.updN hD⟩ (fun i H4 _ ⟨_, _, _, _, _, B4⟩ => SqL.of (B4 _ _ hbd e3)) ?_ ?_
        · rintro i x H4 H5 hi2 ⟨ws, e4, l4, r4, D4, B4⟩ ⟨rfl, hx⟩
          rw [List.length_map] at hi2
          have e5 := (map_at ms i hi2).symm.trans hx
          cases e5
          obtain ⟨x0, x1⟩ := rm i
          refine ⟨rfl, _, rfl, _, rfl, d, 3, rfl, D4, by decide, by decide, fun m3 H6 _ _ D6 B6 => ⟨rfl, .inr ⟨_, rfl, _, _, rfl, rfl, ?_, _, B6 _ _ hDd e4, ?_, ws ++ [ms.getD i 0 * (if decide (V.int m3 = V.int 0) = true then 1 else 0)], ?_, ?_, r4.add ?_ ?_, ?_, But.lcs hD (B4.trans B6)⟩⟩⟩
          · exact .inl ⟨by omega, by omega⟩
          · rw [List.length_map]
            exact small1000 (by omega)
          · rw [upd_same, List.map_append]
            rfl
          · rw [List.length_append, l4]
            rfl
          · split <;> omega
          · split <;> omega
          · have z := D6.updL (p := D) (ms := ws ++ [ms.getD i 0 * (if decide (V.int m3 = V.int 0) = true then 1 else 0)]) hDd
            rw [List.map_append] at z
            exact z
        · rintro H4 ⟨ws, e4, l4, r4, D4, B4⟩
          rw [List.length_map] at l4
          exact ⟨ws, D, rfl, by omega, r4, D4, B0.trans B4, e4, hDd, B0.free hD hDd⟩
      · exact ⟨ms, b, rfl, by omega, rm, D3, (B1.trans B2).trans B3, e3, hbd, nb0⟩
    · rintro σ' H3 ⟨ms, b, rfl, lm, rm, D3, B3, e3, hbd, nb⟩
      refine ⟨_, rfl, b, ms, rfl, SqL.of e3, by omega, fun t H4 s4 ht e4 => ?_⟩
      exact k (trim ms) t H4 (D3.same s4) (B3.trans (But.same s4)) ⟨.inl (.inl e4), Nat.le_trans (Nat.le_trans (trim_length _) lm) hn, fun j => by rw [trim_getD]; exact rm j, trim_trim _⟩ (Nat.le_trans (trim_length _) lm) (D3.ne ht) (B3.free ht (D3.ne ht)) e4
end
end Xk
end
section
set_option Elab.async false
set_option linter.all false
set_option maxRecDepth 100000
set_option maxHeartbeats 4000000
namespace Xk
open PySem PySem.Spec PyProof.Rows L2 Xh LamX NdefX
def spBlend (K : PySem.W.Frag) : Sp := fun vs H Q _ => ∃ (a b : Addr) (xs ys : List Int) (w p : Int), vs = [.ref a, .ref b, .int w, .int p] ∧ SqT K H a (xs.map V.int) ∧ SqT K H b (ys.map V.int) ∧ xs.length ≤ 100 ∧ ys.length ≤ 100 ∧ 0 ≤ w ∧ w ≤ 1000 ∧ Pm p ∧
  NewP H (fun j => (xs.getD j 0 + w * ys.getD j 0).fmod p) (max xs.length ys.length) Q
def pad (n : Nat) (xs : List Int) : List Int := xs ++ List.replicate (n - xs.length) 0
theorem pad_len {n : Nat} {xs : List Int} (h : xs.length ≤ n) : (pad n xs).length = n := by
  unfold pad
  rw [List.length_append, List.length_replicate]
  omega
theorem pad_getD (n : Nat) (xs : List Int) (j : Nat) : (pad n xs).getD j 0 = xs.getD j 0 := by
  unfold pad
  rw [List.getD_eq_getElem?_getD, List.getElem?_append]
  split
  · rw [List.getD_eq_getElem?_getD]
  · rename_i h
    rw [getD_over (by omega), ← List.getD_eq_getElem?_getD, getD_rep]
theorem getD_app (a : List Int) (x : Int) (j : Nat) : (a ++ [x]).getD j 0 = if j < a.length then a.getD j 0 else if j = a.length then x else 0 := by
  rw [List.getD_eq_getElem?_getD, List.getElem?_append]
  split
  · rw [List.getD_eq_getElem?_getD]
  · rename_i h
    by_cases e : j = a.length
    · rw [if_pos e, e, Nat.sub_self]
      rfl
    · rw [if_neg e]
      cases e2 : j - a.length with
      | zero => omega
      | succ n => rfl
section
variable {P : Program} {w : World} {K : PySem.W.Frag} {mg : Str → Option Value} {base : Heap}

end
end Xk
end
section
set_option Elab.async false
set_option linter.all false
set_option maxRecDepth 100000
set_option maxHeartbeats 4000000
namespace Xk
open PySem PySem.Spec PyProof.Rows L2 Xh LamX NdefX
def spConv (K : PySem.W.Frag) : Sp := fun vs H Q _ => ∃ (a b : Addr) (xs ys : List Int) (p : Int), vs = [.ref a, .ref b, .int p] ∧ SqT K H a (xs.map V.int) ∧ SqT K H b (ys.map V.int) ∧ xs.length ≤ 50 ∧ ys.length ≤ 50 ∧ Rs p xs ∧ Rs p ys ∧ Pm p ∧
  ∀ (ms : List Int) (q : Addr) (H' : Hp), Same H H' → H q = none → ms.length ≤ 100 → (∀ j, ms.getD j 0 = gTimes p xs ys j) → H' q = some (.lst (ms.map V.int)) → Q (.ref q) H'
def spMul (K : PySem.W.Frag) : Sp := fun vs H Q _ => ∃ (a b : Addr) (xs ys : List Int) (p : Int), vs = [.ref a, .ref b, .int p] ∧ SqT K H a (xs.map V.int) ∧ SqT K H b (ys.map V.int) ∧ xs.length ≤ 50 ∧ ys.length ≤ 50 ∧ Rs p xs ∧ Rs p ys ∧ Pm p ∧ NewP H (gTimes p xs ys) 100 Q
section
variable {P : Program} {w : World} {K : PySem.W.Frag} {mg : Str → Option Value} {base : Heap}
theorem sc_law_conv : FnScope (["_law_one", "_law_other", "_law_p", "_law_found", "_law_at", "_law_a", "_law_place", "_law_b"] : List Str) ["_law_one", "_law_other", "_law_p"] (defScope s_law_conv) := ⟨rfl, rfl, rfl, by decide +kernel, rfl, by decide +kernel, by decide +kernel⟩
theorem ok_law_conv {f : Addr} {fd : FuncData} (F : FunD K "_law_conv" "_law_conv" (defArgs s_law_conv) (defBody s_law_conv) (defScope s_law_conv) [] [] f fd) (T : Fre mg) : FnOk P w K mg base CX0 1 f fd ["_law_one", "_law_other", "_law_p"] (spConv K) := by
  refine F.ok sc_law_conv (fun vs H Q E h => ?_) (fun cdv A outer s H vs Q E hr h => ?_)
  · obtain ⟨a, b, xs, ys, p, rfl, _⟩ := h
    rfl
  · obtain ⟨a, b, xs, ys, p, rfl, hA, hB, la, lb, rA, rB, hp, k⟩ := h
    have nz : p ≠ 0 := by have := hp.lo; omega
    have hi1000 := hp.hi
    refine ⟨_, PSs.nox (pss_cons (ps_set (i := 3) sc_law_conv.nd rfl (Or.inl rfl) (pe_op op_rep (pe_lst (pa_cons pe_int pa_nil)) (pe_op op_add (pe_callB call_len_seq (by rfl) T.f_len PySem.boot_len (pa_cons (pv 0) pa_nil)) (pe_callB call_len_seq (by rfl) T.f_len PySem.boot_len (pa_cons (pv 1) pa_nil)))))
      (pss_cons (ps_for PassesOwn.never rfl (pi_enT (by rfl) T.f_enumerate (pa_cons (pv 0) pa_nil)) (pg_tup rfl (pgs_cons (pg_name (i := 4) sc_law_conv.nd rfl (Or.inl rfl)) (pgs_cons (pg_name (i := 5) sc_law_conv.nd rfl (Or.inl rfl)) pgs_nil))) (pss_one (ps_for PassesOwn.never rfl (pi_enT (by rfl) T.f_enumerate (pa_cons (pv 1) pa_nil)) (pg_tup rfl (pgs_cons (pg_name (i := 6) sc_law_conv.nd rfl (Or.inl rfl)) (pgs_cons (pg_name (i := 7) sc_law_conv.nd rfl (Or.inl rfl)) pgs_nil))) (pss_one (ps_asg (pe_op op_modN (pe_op op_add (pe_ix ix_list (pv 3) (pe_op op_add (pv 4) (pv 6)) (fun _ _ => rfl)) (pe_op op_mul (pv 5) (pv 7))) (pv 2)) (pg_sub (pv 3) (pe_op op_add (pv 4) (pv 6)) set_list))))))
      (pss_one (ps_ret (pv 3))))) , ?_⟩
    refine ⟨(by show 1 ≤ sizeLine; decide), fun l hl => ?_⟩
    have s0 := same_upd (o := .lst [.int 0]) hl
    refine ⟨_, rfl, _, _, rfl, .inr (sameT s0 hA), _, rfl, _, _, rfl, .inr (sameT s0 hB), _, _, rfl, rfl, l, _, _, rfl, rfl, upd_same, ?_, ?_, ?_, fun q hq => ?_⟩
    · rw [List.length_map, List.length_map]; omega
    · rw [List.length_map, List.length_map]; omega
    · rw [List.length_map, List.length_map]
      exact Nat.le_trans (show 1 * ((xs.length : Int) + (ys.length : Int)).toNat ≤ 1000 by omega) (Nat.le_of_lt (small1000 (Nat.le_refl _)))
    have q0 : H q = none := s0.free hq
    rw [List.length_map, List.length_map, show ((xs.length : Int) + (ys.length : Int)).toNat = xs.length + ys.length by omega, rep_zero]
    refine ⟨_, rfl, a, _, rfl, sameT (s0.trans (same_upd hq)) hA, ?_⟩
    refine for_it (walk_enT (xs := xs.map V.int)) (fun i σ' H2 => ∃ (ms : List Int) (x y u v : Option V), σ' = [some (.ref a), some (.ref b), some (.int p), some (.ref q), x, y, u, v] ∧ Same H H2 ∧ H2 q = some (.lst (ms.map V.int)) ∧ ms.length = xs.length + ys.length ∧ ∀ j, ms.getD j 0 = (Ou xs ys i j).fmod p)
      ⟨List.replicate (xs.length + ys.length) 0, none, none, none, none, rfl, s0.trans (same_upd hq), upd_same, List.length_replicate, fun j => by rw [getD_rep]; exact (Int.zero_fmod p).symm⟩ (fun i σ' H2 _ ⟨_, _, _, _, _, _, s2, _⟩ => sameT s2 hA) ?_ ?_
    · rintro i x σ' H2 H3 hi ⟨ms, x0, y0, u0, v0, rfl, s2, eq, lms, cf⟩ ⟨T, u, v, rfl, hT, rfl, e1, e2⟩
      cases e1
      rw [List.length_map] at hi
      have e3 := (map_at xs i hi).symm.trans e2
      cases e3
      have sT := s2.trans (same_upd (o := .tup [.int (i : Nat), .int (xs.getD i 0)]) hT)
      refine ⟨T, _, rfl, .inl (.inl upd_same), rfl, _, _, rfl, _, _, rfl, rfl, ?_⟩
      refine ⟨_, rfl, b, _, rfl, sameT sT hB, ?_⟩
      refine for_it (walk_enT (xs := ys.map V.int)) (fun j σ' H2 => ∃ (ms : List Int) (u v : Option V), σ' = [some (.ref a), some (.ref b), some (.int p), some (.ref q), some (.int (i : Nat)), some (.int (xs.getD i 0)), u, v] ∧ Same H H2 ∧ H2 q = some (.lst (ms.map V.int)) ∧ ms.length = xs.length + ys.length ∧ ∀ k, ms.getD k 0 = (In (Ou xs ys i) i (xs.getD i 0) ys j k).fmod p)
        ⟨ms, u0, v0, rfl, sT, by rw [upd_ne (ne_of_none eq hT)]; exact eq, lms, cf⟩ (fun j σ' H2 _ ⟨_, _, _, _, s2, _⟩ => sameT s2 hB) ?_ ?_
      · rintro j x' σ' H4 H5 hj ⟨ms, u0, v0, rfl, s2, eq, lms, cf⟩ ⟨T, u, v, rfl, hT, rfl, e1, e2⟩
        cases e1
        rw [List.length_map] at hj
        have e3 := (map_at ys j hj).symm.trans e2
        cases e3
        have eq2 : L2.upd H4 T (.tup [.int (j : Nat), .int (ys.getD j 0)]) q = some (.lst (ms.map V.int)) := by rw [upd_ne (ne_of_none eq hT)]; exact eq
        obtain ⟨x0, x1⟩ := rA i
        have ho : atI (ms.map V.int) ((i : Int) + (j : Int)) = some (.int (ms.getD (i + j) 0)) := by
          rw [← Int.natCast_add]
          exact atI_nat (map_at ms (i + j) (by omega))
        have hx : ixN (ms.map V.int).length ((i : Int) + (j : Int)) = some (i + j) := by
          rw [← Int.natCast_add]
          exact ixN_nat (by rw [List.length_map]; omega)
        refine ⟨T, _, rfl, .inl (.inl upd_same), rfl, _, _, rfl, _, _, rfl, rfl, ?_⟩
        refine ⟨_, rfl, _, rfl, _, rfl, _, _, rfl, rfl, q, _, _, _, rfl, rfl, SqL.of eq2, ho, _, rfl, _, rfl, _, _, rfl, rfl, .inl ⟨by omega, by omega⟩, _, _, rfl, rfl, _, rfl, _, _, rfl, rfl, nz, _, rfl, _, rfl, _, rfl, _, _, rfl, rfl, q, _, _, _, rfl, rfl, eq2, hx, ?_⟩
        refine ⟨ms.set (i + j) ((ms.getD (i + j) 0 + xs.getD i 0 * ys.getD j 0).fmod p), _, _, rfl, lcs q0 (s2.trans (same_upd hT)), ?_, by rw [List.length_set]; exact lms, fun k => ?_⟩
        · rw [upd_same, List.map_set]
        · rw [getD_set (by omega)]
          unfold In
          by_cases hk : k = i + j
          · rw [if_pos hk, if_pos hk, cf, hk, fm_add2 hp.pos]
          · rw [if_neg hk, if_neg hk, cf]
      · rintro σ' H4 ⟨ms, u0, v0, rfl, s2, eq, lms, cf⟩
        rw [List.length_map] at cf
        exact ⟨ms, _, _, _, _, rfl, s2, eq, lms, cf⟩
    · rintro σ' H2 ⟨ms, x0, y0, u0, v0, rfl, s2, eq, lms, cf⟩
      rw [List.length_map] at cf
      exact ⟨_, rfl, k ms q H2 s2 q0 (by omega) cf eq⟩
theorem sc_law_mul : FnScope (["_law_one", "_law_other", "_law_p"] : List Str) ["_law_one", "_law_other", "_law_p"] (defScope s_law_mul) := ⟨rfl, rfl, rfl, by decide +kernel, rfl, by decide +kernel, by decide +kernel⟩
theorem ok_law_mul {f : Addr} {fd : FuncData} (F : FunD K "_law_mul" "_law_mul" (defArgs s_law_mul) (defBody s_law_mul) (defScope s_law_mul) [] [] f fd) (o_law_conv : Own P w K mg base CX0 1 "_law_conv" ["_law_one", "_law_other", "_law_p"] [] (spConv K)) (o_law_trim : Own P w K mg base CX0 1 "_law_trim" ["_law_numbers"] [] (spTrim K)) : FnOk P w K mg base CX0 2 f fd ["_law_one", "_law_other", "_law_p"] (spMul K) := by
  refine F.ok sc_law_mul (fun vs H Q E h => ?_) (fun cdv A outer s H vs Q E hr h => ?_)
  · obtain ⟨a, b, xs, ys, p, rfl, _⟩ := h
    rfl
  · obtain ⟨a, b, xs, ys, p, rfl, hA, hB, la, lb, rA, rB, hp, k⟩ := h
    refine ⟨_, PSs.nox (pss_one (ps_ret (pe_own o_law_trim (hr.mono (by decide)) rfl pass0 (pa_cons (pe_own o_law_conv (hr.mono (by decide)) rfl pass0 (pa_cons (pv 0) (pa_cons (pv 1) (pa_cons (pv 2) pa_nil)))) pa_nil)))) , ?_⟩
    exact ⟨_, rfl, _, rfl, _, rfl, a, b, xs, ys, p, rfl, hA, hB, la, lb, rA, rB, hp, fun ms q H' s1 hq lm cf e1 => ⟨q, ms, rfl, SqL.of e1, by omega, (k _ (is_trim cf lm)).same s1⟩⟩
end
end Xk
end
section
set_option Elab.async false
set_option linter.all false
set_option maxRecDepth 100000
set_option maxHeartbeats 4000000
namespace Xk
open PySem PySem.Spec PyProof.Rows L2 Xh LamX NdefX
def bks (N P i : Nat) : List Nat := (List.range i).filter fun j => (j + 1) * N % P == 1
def bk (N P : Nat) : Nat := (bks N P (P - 1)).headD 0 + 1
def spBack : Sp := fun vs H Q _ => ∃ N P : Nat, vs = [.int N, .int P] ∧ 2 ≤ P ∧ P ≤ 1000 ∧ bks N P (P - 1) ≠ [] ∧ ∀ H', Same H H' → Q (.int (bk N P)) H'
theorem undo_facts : ∀ M ∈ primes, ∀ N < M.toNat, N ≠ 0 → bks N M.toNat (M.toNat - 1) ≠ [] ∧ bk N M.toNat < M.toNat ∧ bk N M.toNat * N % M.toNat = 1 ∧ N ^ (M.toNat - 1) % M.toNat = 1 ∧ rpow N (-1) M.toNat = bk N M.toNat := by decide +kernel
section
variable {P : Program} {w : World} {K : PySem.W.Frag} {mg : Str → Option Value} {base : Heap}
theorem sc_law_back : FnScope (["_law_number", "_law_p", "_law_k"] : List Str) ["_law_number", "_law_p"] (defScope s_law_back) := ⟨rfl, rfl, rfl, by decide +kernel, rfl, by decide +kernel, by decide +kernel⟩
theorem ok_back {f : Addr} {fd : FuncData} (F : FunD K "_law_back" "_law_back" (defArgs s_law_back) (defBody s_law_back) (defScope s_law_back) [] [] f fd) (T : Fre mg) : FnOk P w K mg base CX0 1 f fd ["_law_number", "_law_p"] spBack := by
  refine F.ok sc_law_back (fun vs H Q E h => ?_) (fun cdv A outer s H vs Q E hr h => ?_)
  · obtain ⟨N, M, rfl, _⟩ := h
    rfl
  · obtain ⟨N, M, rfl, h2, hM, hne, k⟩ := h
    refine ⟨_, PSs.nox (pss_one (ps_ret (pe_ix ix_list (pe_lc (own := [("_law_k", 2)]) rfl sc_law_back.nd (pi_range2 (by rfl) T.f_range (pa_cons pe_int (pa_cons (pv 1) pa_nil))) (blkOk_by (own := [("_law_k", 2)]) (N := ["_law_number", "_law_p", "_law_k"]) (sc := defScope s_law_back) (by decide +kernel)) (fun _ _ _ _ _ => pg_name (i := 2) sc_law_back.nd rfl (Or.inl rfl) (Or.inr rfl)) (fun _ _ _ _ _ => (pts_one (pt_cmpR op_eq (pe_op op_modN (pe_op op_mul (pv 2) (pv 0)) (pv 1)) pe_int (nomark _)))) (fun _ _ _ _ _ => (pv 2))) pe_int (fun _ _ => rfl)))) , ?_⟩
    refine ⟨_, rfl, 1, M, rfl, ⟨by decide, by decide, by omega, by omega⟩, fun D hD => ?_⟩
    have en : ((M : Int) - 1).toNat = M - 1 := by omega
    rw [en]
    refine lc_range (lo := 1) (n := M - 1) (fun i H1 => Same H H1 ∧ H D = none ∧ H1 D = some (.lst ((bks N M i).map fun j => V.int ((j + 1 : Nat) : Int)))) ⟨same_upd hD, hD, upd_same⟩ ?_ ?_
    · rintro i H1 hi ⟨s1, n1, e1⟩
      have ev : (((1 : Int) + (i : Int)) * (N : Int)).fmod (M : Int) = (((i + 1) * N % M : Nat) : Int) := by
        rw [show ((1 : Int) + (i : Int)) = ((i + 1 : Nat) : Int) from by omega, ← Int.natCast_mul, fmodN]
      have ei : (1 : Int) + (i : Int) = ((i + 1 : Nat) : Int) := by omega
      have len : (bks N M i).length ≤ i := by
        have z := List.length_filter_le (fun j => (j + 1) * N % M == 1) (List.range i)
        rw [List.length_range] at z
        exact z
      have nx : bks N M (i + 1) = bks N M i ++ (if (i + 1) * N % M = 1 then [i] else []) := by
        unfold bks
        rw [List.range_succ, List.filter_append]
        congr 1
        by_cases hc : (i + 1) * N % M = 1
        · rw [if_pos hc]
          simp [hc]
        · rw [if_neg hc]
          simp [hc]
      refine ⟨rfl, _, rfl, _, rfl, _, _, rfl, rfl, .inl ⟨by omega, by omega⟩, _, rfl, _, _, rfl, rfl, (fun z => by omega), rfl, _, rfl, ?_⟩
      by_cases hc : (i + 1) * N % M = 1
      · rw [show decide ((fun i j => V.int (Int.fmod i j)) ((1 + (i : Int)) * (N : Int)) (M : Int) = V.int 1) = true from decide_eq_true (by show V.int _ = V.int 1; rw [ev, hc]; rfl)]
        refine iteT ⟨_, rfl, _, e1, ?_, fun b o h => ?_, n1, ?_⟩
        · rw [List.length_map]
          exact small1000 (by omega)
        · rw [upd_ne (ne_of_none h n1)]
          exact s1 b o h
        · rw [upd_same, nx, if_pos hc, List.map_append, ei]
          rfl
      · rw [show decide ((fun i j => V.int (Int.fmod i j)) ((1 + (i : Int)) * (N : Int)) (M : Int) = V.int 1) = false from decide_eq_false (fun z => hc (by have z' := V.int.inj z; rw [ev] at z'; omega))]
        refine iteF ⟨s1, n1, ?_⟩
        rw [nx, if_neg hc, List.append_nil]
        exact e1
    · rintro H1 ⟨s1, n1, e1⟩
      refine ⟨D, _, 0, .int (bk N M), rfl, rfl, SqL.of e1, ?_, k H1 s1⟩
      unfold bk
      cases e : bks N M (M - 1) with
      | nil => exact absurd e hne
      | cons j js => exact atI_nat (j := 0) rfl
end
end Xk
end
section
set_option Elab.async false
set_option linter.all false
set_option maxRecDepth 100000
set_option maxHeartbeats 4000000
namespace Xk
open PySem PySem.Spec PyProof.Rows L2 Xh LamX NdefX
/-! ### a division, step by step -/
def shv (L : Nat → Int) (t lb : Nat) (c p : Int) : Int := (L (t + lb - 1) * c).fmod p
/-- what is left, after j places of a step at t -/
def Lin (L : Nat → Int) (t : Nat) (s : Int) (y : Nat → Int) (p : Int) (j : Nat) : Nat → Int := fun k => if t ≤ k ∧ k < t + j then (L k - s * y (k - t)).fmod p else L k
/-- what is left after i of N steps -/
def Lf (x y : Nat → Int) (lb N : Nat) (c p : Int) : Nat → Nat → Int
  | 0 => x
  | i + 1 => Lin (Lf x y lb N c p i) (N - 1 - i) (shv (Lf x y lb N c p i) (N - 1 - i) lb c p) y p lb
/-- the quotient after i of N steps -/
def Qf (x y : Nat → Int) (lb N : Nat) (c p : Int) (i : Nat) : Nat → Int := fun k => if N ≤ i + k ∧ k < N then shv (Lf x y lb N c p (N - 1 - k)) k lb c p else 0
theorem Lin_succ {L : Nat → Int} {t : Nat} {s : Int} {y : Nat → Int} {p : Int} {j k : Nat} : Lin L t s y p (j + 1) k = if k = t + j then (L k - s * y j).fmod p else Lin L t s y p j k := by
  unfold Lin
  by_cases h : k = t + j
  · rw [if_pos h, if_pos (by omega), show k - t = j by omega]
  · rw [if_neg h]
    by_cases h2 : t ≤ k ∧ k < t + j
    · rw [if_pos h2, if_pos (by omega)]
    · rw [if_neg h2, if_neg (by omega)]
theorem Lin_at {L : Nat → Int} {t : Nat} {s : Int} {y : Nat → Int} {p : Int} {j : Nat} : Lin L t s y p j (t + j) = L (t + j) := by
  unfold Lin
  rw [if_neg (by omega)]
section
variable {x y : Nat → Int} {lb N : Nat} {c p : Int}
theorem Qf_succ {i k : Nat} (hi : i < N) : Qf x y lb N c p (i + 1) k = if k = N - 1 - i then shv (Lf x y lb N c p i) (N - 1 - i) lb c p else Qf x y lb N c p i k := by
  unfold Qf
  by_cases h : k = N - 1 - i
  · rw [if_pos h, if_pos (by omega), h, show N - 1 - (N - 1 - i) = i by omega]
  · rw [if_neg h]
    by_cases h2 : N ≤ i + k ∧ k < N
    · rw [if_pos h2, if_pos (by omega)]
    · rw [if_neg h2, if_neg (by omega)]
theorem Lf_rs (hp : 0 < p) (hx : ∀ k, 0 ≤ x k ∧ x k < p) : ∀ i k, 0 ≤ Lf x y lb N c p i k ∧ Lf x y lb N c p i k < p
  | 0, k => hx k
  | i + 1, k => by
    unfold Lf Lin
    split
    · exact ⟨Int.fmod_nonneg_of_pos _ hp, Int.fmod_lt_of_pos _ hp⟩
    · exact Lf_rs hp hx i k
theorem undo_step {a c y p : Int} (hp : 2 ≤ p) (h : (c * y).fmod p = 1) : (a - (a * c).fmod p * y).fmod p = 0 := by
  rw [Int.fmod_eq_emod_of_nonneg _ (by omega)] at h ⊢
  rw [Int.fmod_eq_emod_of_nonneg _ (by omega)]
  have e : ((a * c % p) * y) % p = a % p := by
    rw [Int.mul_emod, Int.emod_emod, ← Int.mul_emod, Int.mul_assoc, Int.mul_emod, h, Int.mul_one, Int.emod_emod]
  rw [Int.sub_emod, e, Int.sub_self, Int.zero_emod]
theorem Lf_top (hp : 2 ≤ p) (hlb : 1 ≤ lb) (hc : (c * y (lb - 1)).fmod p = 1) (hx : ∀ k, N + lb - 1 ≤ k → x k = 0) : ∀ i, i ≤ N → ∀ k, N - i + lb - 1 ≤ k → Lf x y lb N c p i k = 0
  | 0, _, k, hk => hx k hk
  | i + 1, hi, k, hk => by
    have ih := Lf_top hp hlb hc hx i (by omega)
    unfold Lf Lin
    by_cases h : k = N - 1 - i + lb - 1
    · rw [if_pos (by omega)]
      unfold shv
      rw [← h, show k - (N - 1 - i) = lb - 1 by omega]
      exact undo_step hp hc
    · rw [if_neg (by omega)]
      exact ih k (by omega)
end
theorem In_eq {g : Nat → Int} {i : Nat} {x : Int} {ys : List Int} {k : Nat} : ∀ j, In g i x ys j k = g k + (if i ≤ k ∧ k < i + j then x * ys.getD (k - i) 0 else 0)
  | 0 => by
    unfold In
    rw [if_neg (by omega), Int.add_zero]
  | j + 1 => by
    unfold In
    by_cases h : k = i + j
    · rw [if_pos h, In_eq j, if_neg (by omega), if_pos (by omega), show k - i = j by omega, Int.add_zero]
    · rw [if_neg h, In_eq j]
      by_cases h2 : i ≤ k ∧ k < i + j
      · rw [if_pos h2, if_pos (by omega)]
      · rw [if_neg h2, if_neg (by omega)]
theorem Ou_succ {ms ys : List Int} {n k : Nat} : Ou ms ys (n + 1) k = Ou ms ys n k + (if n ≤ k ∧ k < n + ys.length then ms.getD n 0 * ys.getD (k - n) 0 else 0) := In_eq _
theorem Ou_long {ms ys : List Int} {k : Nat} : ∀ n, Ou ms ys (ms.length + n) k = cvf ms ys k
  | 0 => rfl
  | n + 1 => by
    rw [← Nat.add_assoc, Ou_succ, Ou_long n, getD_over (show ms.length ≤ ms.length + n by omega)]
    split
    · rw [Int.zero_mul, Int.add_zero]
    · rw [Int.add_zero]
theorem mod_step {a b s y D p : Int} (hp : 0 < p) (h : b = (a - s * y).fmod p) : (b + (D + s * y)) % p = (a + D) % p := by
  rw [h, Int.fmod_eq_emod_of_nonneg _ (by omega), Int.emod_add_emod]
  congr 1
  omega
/-- one is quotient times other, and what is left -/
theorem div_eq {x : Nat → Int} {ms ys : List Int} {N : Nat} {c p : Int} (hp : 0 < p) (hm : ∀ t, t < N → ms.getD t 0 = shv (Lf x (fun j => ys.getD j 0) ys.length N c p (N - 1 - t)) t ys.length c p) :
    ∀ i, i ≤ N → ∀ k, (Lf x (fun j => ys.getD j 0) ys.length N c p i k + (Ou ms ys N k - Ou ms ys (N - i) k)) % p = x k % p
  | 0, _, k => by
    show (x k + (Ou ms ys N k - Ou ms ys N k)) % p = x k % p
    rw [Int.sub_self, Int.add_zero]
  | i + 1, hi, k => by
    have ih := div_eq hp hm i (by omega) k
    have e := Ou_succ (ms := ms) (ys := ys) (n := N - 1 - i) (k := k)
    rw [show N - 1 - i + 1 = N - i by omega] at e
    have q := hm (N - 1 - i) (by omega)
    rw [show N - 1 - (N - 1 - i) = i by omega] at q
    have st : Lf x (fun j => ys.getD j 0) ys.length N c p (i + 1) k = Lin (Lf x (fun j => ys.getD j 0) ys.length N c p i) (N - 1 - i) (shv (Lf x (fun j => ys.getD j 0) ys.length N c p i) (N - 1 - i) ys.length c p) (fun j => ys.getD j 0) p ys.length k := rfl
    rw [st, show N - (i + 1) = N - 1 - i by omega, ← ih]
    generalize Lf x (fun j => ys.getD j 0) ys.length N c p i = L at q
    unfold Lin
    by_cases h : N - 1 - i ≤ k ∧ k < N - 1 - i + ys.length
    · rw [if_pos h] at e ⊢
      rw [q] at e
      have z := mod_step (a := L k) (s := shv L (N - 1 - i) ys.length c p) (y := ys.getD (k - (N - 1 - i)) 0) (D := Ou ms ys N k - Ou ms ys (N - i) k) hp rfl
      refine Eq.trans ?_ z
      congr 2
      omega
    · rw [if_neg h] at e ⊢
      rw [e, Int.add_zero]
end Xk
end
section
set_option Elab.async false
set_option linter.all false
set_option maxRecDepth 100000
set_option maxHeartbeats 4000000
namespace Xk
open PySem PySem.Spec PyProof.Rows L2 Xh LamX NdefX
/-- how far a division goes, by what its shares are weighed -/
abbrev stp (xs ys : List Int) : Nat := xs.length + 1 - ys.length
abbrev scl (ys : List Int) (p : Int) : Int := (bk (ys.getD (ys.length - 1) 0).toNat p.toNat : Nat)
abbrev dvQ (xs ys : List Int) (p : Int) (i : Nat) : Nat → Int := Qf (fun j => xs.getD j 0) (fun j => ys.getD j 0) ys.length (stp xs ys) (scl ys p) p i
abbrev dvL (xs ys : List Int) (p : Int) (i : Nat) : Nat → Int := Lf (fun j => xs.getD j 0) (fun j => ys.getD j 0) ys.length (stp xs ys) (scl ys p) p i
/-- quotient and rest -/
structure Div (p : Int) (xs ys qs rs : List Int) : Prop where
  q : Is (dvQ xs ys p (stp xs ys)) (stp xs ys) qs
  r : Is (dvL xs ys p (stp xs ys)) xs.length rs
/-- what a second one must be -/
structure Dsr (p : Int) (ys : List Int) : Prop where
  pos : 0 < ys.length
  tr : trim ys = ys
  rs : Rs p ys
  pr : p ∈ primes
theorem Dsr.last {p : Int} {ys : List Int} (d : Dsr p ys) : ∃ l P : Nat, ys.getD (ys.length - 1) 0 = (l : Int) ∧ p = (P : Int) ∧ 2 ≤ P ∧ P ≤ 1000 ∧ l < P ∧ bks l P (P - 1) ≠ [] ∧ rpow l (-1) P = bk l P ∧ scl ys p = (bk l P : Nat) ∧ (scl ys p * ys.getD (ys.length - 1) 0).fmod p = 1 ∧ bk l P < P := by
  obtain ⟨l0, l1⟩ := d.rs (ys.length - 1)
  have hm := pm_of d.pr
  have lo := hm.lo
  have hi := hm.hi
  obtain ⟨l, hl⟩ := Int.eq_ofNat_of_zero_le l0
  obtain ⟨P, hP⟩ := Int.eq_ofNat_of_zero_le (show 0 ≤ p by omega)
  have nz : l ≠ 0 := fun z => by
    have := trim_ne ys (fun e => by have := d.pos; rw [e] at this; exact absurd this (by decide)) d.tr
    rw [hl, z] at this
    exact this rfl
  have f := undo_facts p d.pr l (by rw [hP, Int.toNat_natCast]; omega) nz
  rw [hP, Int.toNat_natCast] at f
  obtain ⟨f1, f2, f3, _, f5⟩ := f
  have e : scl ys p = (bk l P : Nat) := by
    unfold scl
    rw [hl, hP, Int.toNat_natCast, Int.toNat_natCast]
  refine ⟨l, P, hl, hP, by omega, by omega, by omega, f1, f5, e, ?_, f2⟩
  rw [e, hl, hP, ← Int.natCast_mul, fmodN, f3]
  rfl
def spParted (K : PySem.W.Frag) : Sp := fun vs H Q _ => ∃ (a b : Addr) (xs ys : List Int) (p : Int), vs = [.ref a, .ref b, .int p] ∧ SqT K H a (xs.map V.int) ∧ SqT K H b (ys.map V.int) ∧ xs.length ≤ 50 ∧ ys.length ≤ 50 ∧ Rs p xs ∧ Dsr p ys ∧
  ∀ (w u v : Addr) (qs rs : List Int) (H' : Hp), Same H H' → H w = none → H' w = some (.tup [.ref u, .ref v]) → H' u = some (.tup (qs.map V.int)) → H' v = some (.tup (rs.map V.int)) → Div p xs ys qs rs → Q (.ref w) H'
def spPartedT (K : PySem.W.Frag) (T : List (Addr × Str)) : Sp := fun vs H Q _ => ∃ (a b : Addr) (xs ys : List Int) (p : Int), vs = [.ref a, .ref b, .int p] ∧ SqT K H a (xs.map V.int) ∧ SqT K H b (ys.map V.int) ∧ xs.length ≤ 50 ∧ ys.length ≤ 50 ∧ Rs p xs ∧ Dsr p ys ∧ Tabs T H ∧
  ∀ (w u v : Addr) (qs rs : List Int) (H' : Hp), Gr T H H' → H w = none → H' w = some (.tup [.ref u, .ref v]) → H' u = some (.tup (qs.map V.int)) → H' v = some (.tup (rs.map V.int)) → Div p xs ys qs rs → Q (.ref w) H'
theorem sqT_ext {K : PySem.W.Frag} {a : Addr} {H H' : Hp} {xs : List V} (h : SqT K H a xs) (b : ExtN H H') : SqT K H' a xs := by
  rcases h with (h | ⟨o, h⟩) | h
  · exact .inl (.inl (b _ _ h (fun _ z => by cases z)))
  · exact .inl (.inr ⟨o, b _ _ h (fun _ z => by cases z)⟩)
  · exact .inr h
theorem atI_last2 {ys : List Int} (h : 0 < ys.length) : atI (ys.map V.int) (-1) = some (.int (ys.getD (ys.length - 1) 0)) := by
  cases ys with
  | nil => exact absurd h (by decide)
  | cons y ys => exact atI_back y ys
section
variable {P : Program} {w : World} {K : PySem.W.Frag} {mg : Str → Option Value} {base : Heap}
theorem sc_raw_parted : FnScope (["one", "other", "prime", "steps", "scale", "quotient", "left", "place", "share", "shift", "rest"] : List Str) ["one", "other", "prime"] (defScope s_raw_parted) := ⟨rfl, rfl, rfl, by decide +kernel, rfl, by decide +kernel, by decide +kernel⟩
theorem ok_raw_parted {TT : List (Addr × Str)} {f : Addr} {fd : FuncData} (F : FunD K "raw_parted" "raw_parted" (defArgs s_raw_parted) (defBody s_raw_parted) (defScope s_raw_parted) [] [] f fd) (T : Fre mg) (o_trimmed : Own P w K mg base CX0 1 "trimmed" ["rests"] [] (spTrim K)) (o_rest_power : Own P w K mg base CX0 3 "rest_power" ["rest", "exponent", "prime"] [] (spRPowT TT)) : FnOk P w K mg base CX0 4 f fd ["one", "other", "prime"] (spPartedT K TT) := by
  refine F.ok sc_raw_parted (fun vs H Q E h => ?_) (fun cdv A outer s H vs Q E hr h => ?_)
  · obtain ⟨a, b, xs, ys, p, rfl, _⟩ := h
    rfl
  · obtain ⟨a, b, xs, ys, p, rfl, hA, hB, la, lb, rA, dB, hT, k⟩ := h
    have hpm := pm_of dB.pr
    have lo := hpm.lo
    have hi := hpm.hi
    have ypos := dB.pos
    obtain ⟨l, P, hl, hP, P2, P3, lP, _, fr, es, ec, bl⟩ := dB.last
    refine ⟨_, PSs.nox (pss_cons (ps_set (i := 3) sc_raw_parted.nd rfl (Or.inl rfl) (pe_callB (call_max2 rfl) (by rfl) T.f_max (by decide +kernel) (pa_cons pe_int (pa_cons (pe_op op_add (pe_op op_sub (pe_callB call_len_seq (by rfl) T.f_len PySem.boot_len (pa_cons (pv 0) pa_nil)) (pe_callB call_len_seq (by rfl) T.f_len PySem.boot_len (pa_cons (pv 1) pa_nil))) pe_int) pa_nil))))
      (pss_cons (ps_set (i := 4) sc_raw_parted.nd rfl (Or.inl rfl) (pe_own o_rest_power (hr.mono (by decide)) rfl pass0 (pa_cons (pe_ix ix_tup (pv 1) (pe_un un_neg pe_int) (fun _ _ => rfl)) (pa_cons (pe_un un_neg pe_int) (pa_cons (pv 2) pa_nil)))))
      (pss_cons (ps_set (i := 5) sc_raw_parted.nd rfl (Or.inl rfl) (pe_op op_rep (pe_lst (pa_cons pe_int pa_nil)) (pv 3)))
      (pss_cons (ps_set (i := 6) sc_raw_parted.nd rfl (Or.inl rfl) (pe_callTy call_list_of (by rfl) T.f_list (by decide +kernel) (pa_cons (pv 0) pa_nil)))
      (pss_cons (ps_for PassesOwn.never rfl (pi_revR (by rfl) T.f_reversed (prg_1 (by rfl) T.f_range (pv 3))) (pg_name (i := 7) sc_raw_parted.nd rfl (Or.inl rfl)) (pss_cons (ps_set (i := 8) sc_raw_parted.nd rfl (Or.inl rfl) (pe_op op_modN (pe_op op_mul (pe_ix ix_list (pv 6) (pe_op op_sub (pe_op op_add (pv 7) (pe_callB call_len_seq (by rfl) T.f_len PySem.boot_len (pa_cons (pv 1) pa_nil))) pe_int) (fun _ _ => rfl)) (pv 4)) (pv 2)))
      (pss_cons (ps_asg (pv 8) (pg_sub (pv 5) (pv 7) set_list))
      (pss_one (ps_for PassesOwn.never rfl (pi_enT (by rfl) T.f_enumerate (pa_cons (pv 1) pa_nil)) (pg_tup rfl (pgs_cons (pg_name (i := 9) sc_raw_parted.nd rfl (Or.inl rfl)) (pgs_cons (pg_name (i := 10) sc_raw_parted.nd rfl (Or.inl rfl)) pgs_nil))) (pss_one (ps_asg (pe_op op_modN (pe_op op_sub (pe_ix ix_list (pv 6) (pe_op op_add (pv 7) (pv 9)) (fun _ _ => rfl)) (pe_op op_mul (pv 8) (pv 10))) (pv 2)) (pg_sub (pv 6) (pe_op op_add (pv 7) (pv 9)) set_list))))))))
      (pss_one (ps_ret (pe_tup (pa_cons (pe_own o_trimmed (hr.mono (by decide)) rfl pass0 (pa_cons (pv 5) pa_nil)) (pa_cons (pe_own o_trimmed (hr.mono (by decide)) rfl pass0 (pa_cons (pv 6) pa_nil)) pa_nil)))))))))) , ?_⟩
    refine ⟨_, rfl, _, _, rfl, .inr hA, _, rfl, _, _, rfl, .inr hB, _, _, rfl, rfl, _, _, rfl, rfl, _, _, rfl, ?_⟩
    rw [List.length_map, List.length_map, show (if (xs.length : Int) - (ys.length : Int) + 1 > 0 then (xs.length : Int) - (ys.length : Int) + 1 else 0) = ((stp xs ys : Nat) : Int) from by unfold stp; split <;> omega]
    refine ⟨_, rfl, _, rfl, b, _, _, .int (l : Int), rfl, rfl, hB, by rw [← hl]; exact atI_last2 ypos, _, rfl, _, rfl, l, P, -1, by rw [hP]; rfl, P2, P3, lP, hT, fun HH g1 => ?_⟩
    rw [fr, ← es]
    have hA := sqT_ext hA g1.x
    have hB := sqT_ext hB g1.x
    have k := fun w' u v qs rs H' (s' : Same HH H') h0 e1 e2 e3 dv => k w' u v qs rs H' (g1.same s') (g1.n _ h0) e1 e2 e3 dv
    generalize hN : stp xs ys = N at *
    generalize hc : scl ys p = c at *
    have nz : p ≠ 0 := by omega
    have Nl : N ≤ 51 := by rw [← hN]; unfold stp; omega
    have c1000 : 0 ≤ c ∧ c ≤ 1000 := by omega
    have rl := Lf_rs (x := fun j => xs.getD j 0) (y := fun j => ys.getD j 0) (lb := ys.length) (N := N) (c := c) (p := p) (by omega) rA
    refine ⟨(by show 1 ≤ sizeLine; decide), fun e0 he0 => ?_⟩
    have s0 := same_upd (o := .lst [.int 0]) he0
    refine ⟨_, rfl, e0, _, _, rfl, rfl, upd_same, by omega, by omega, ?_, fun q hq => ?_⟩
    · rw [Int.toNat_natCast]
      exact Nat.le_trans (show 1 * N ≤ 1000 by omega) (Nat.le_of_lt (small1000 (Nat.le_refl _)))
    rw [Int.toNat_natCast, rep_zero]
    have sq := s0.trans (same_upd (o := .lst ((List.replicate N (0 : Int)).map V.int)) hq)
    have q0 : HH q = none := s0.free hq
    refine ⟨_, rfl, a, _, rfl, .inr (sameT sq hA), fun m hm => ?_⟩
    have sm := sq.trans (same_upd (o := .lst (xs.map V.int)) hm)
    have m0 : HH m = none := sq.free hm
    have qm : q ≠ m := ne_of_none upd_same hm
    refine ⟨_, rfl, (N : Int), rfl, by decide, by decide, by omega, by omega, ?_⟩
    rw [Int.sub_zero, Int.toNat_natCast]
    refine for_rangeC (n := N) (fun i σ' H2 => ∃ (ql ll : List Int) (x7 x8 x9 x10 : Option V), σ' = [some (.ref a), some (.ref b), some (.int p), some (.int (N : Nat)), some (.int c), some (.ref q), some (.ref m), x7, x8, x9, x10] ∧ Same HH H2 ∧ H2 q = some (.lst (ql.map V.int)) ∧ H2 m = some (.lst (ll.map V.int)) ∧ ql.length = N ∧ ll.length = xs.length ∧ (∀ k, ql.getD k 0 = Qf (fun j => xs.getD j 0) (fun j => ys.getD j 0) ys.length N c p i k) ∧ ∀ k, ll.getD k 0 = Lf (fun j => xs.getD j 0) (fun j => ys.getD j 0) ys.length N c p i k)
      ⟨List.replicate N 0, xs, none, none, none, none, rfl, sm, by rw [upd_ne qm]; exact upd_same, upd_same, List.length_replicate, rfl, fun k => ?_, fun k => rfl⟩ ?_ ?_
    · rw [getD_rep]
      unfold Qf
      rw [if_neg (by omega)]
    · rintro i σ' H2 hi2 ⟨ql, ll, x7, x8, x9, x10, rfl, s2, eq, em, lq, ll2, cq, cl⟩
      rw [show (0 + (N : Int) - 1 + (i : Nat) * (-1) : Int) = ((N - 1 - i : Nat) : Int) by omega]
      have NN : N = xs.length + 1 - ys.length := by rw [← hN]
      generalize ht : N - 1 - i = t
      have tl : t + ys.length - 1 < xs.length := by omega
      have ho : atI (ll.map V.int) ((t : Int) + ((ys.map V.int).length : Int) - 1) = some (.int (ll.getD (t + ys.length - 1) 0)) := by
        rw [List.length_map, show (t : Int) + (ys.length : Int) - 1 = ((t + ys.length - 1 : Nat) : Int) by omega]
        exact atI_nat (map_at ll _ (by omega))
      refine ⟨_, rfl, _, rfl, _, rfl, _, _, rfl, .inr (sameT s2 hB), _, _, rfl, rfl, _, _, rfl, rfl, m, _, _, _, rfl, rfl, SqL.of em, ho, _, rfl, _, _, rfl, rfl, .inr ⟨by omega, by omega⟩, _, rfl, _, _, rfl, rfl, nz, ?_⟩
      obtain ⟨v0, v1⟩ := rl i (t + ys.length - 1)
      have es2 : (ll.getD (t + ys.length - 1) 0 * c).fmod p = shv (Lf (fun j => xs.getD j 0) (fun j => ys.getD j 0) ys.length N c p i) t ys.length c p := by rw [cl]; rfl
      have b0 : 0 ≤ (ll.getD (t + ys.length - 1) 0 * c).fmod p := Int.fmod_nonneg_of_pos _ (by omega)
      have b1 : (ll.getD (t + ys.length - 1) 0 * c).fmod p < p := Int.fmod_lt_of_pos _ (by omega)
      generalize hsv : shv (Lf (fun j => xs.getD j 0) (fun j => ys.getD j 0) ys.length N c p i) t ys.length c p = sv at es2
      rw [es2] at b0 b1
      refine ⟨_, rfl, _, rfl, _, rfl, q, _, _, t, rfl, rfl, eq, ixN_nat (by rw [List.length_map]; omega), ?_⟩
      have em2 : ∀ o : HO, L2.upd H2 q o m = some (.lst (ll.map V.int)) := fun o => by rw [upd_ne (Ne.symm qm)]; exact em
      refine ⟨_, rfl, b, _, rfl, sameT (lcs q0 s2) hB, ?_⟩
      refine for_it (walk_enT (xs := ys.map V.int)) (fun j σ' H3 => ∃ (ll : List Int) (x9 x10 : Option V), σ' = [some (.ref a), some (.ref b), some (.int p), some (.int (N : Nat)), some (.int c), some (.ref q), some (.ref m), some (.int (t : Nat)), some (.int sv), x9, x10] ∧ Same HH H3 ∧ H3 q = some (.lst ((ql.set t sv).map V.int)) ∧ H3 m = some (.lst (ll.map V.int)) ∧ ll.length = xs.length ∧ ∀ k, ll.getD k 0 = Lin (Lf (fun j => xs.getD j 0) (fun j => ys.getD j 0) ys.length N c p i) t sv (fun j => ys.getD j 0) p j k)
        ⟨ll, x9, x10, by rw [← es2]; rfl, lcs q0 s2, by rw [upd_same, ← es2, List.map_set], em2 _, ll2, fun k => ?_⟩ (fun j σ' H3 _ ⟨_, _, _, _, s3, _⟩ => sameT s3 hB) ?_ ?_
      · unfold Lin
        rw [if_neg (by omega)]
        exact cl k
      · rintro j x' σ' H4 H5 hj ⟨ll, x9, x10, rfl, s3, eq3, em3, ll3, cl3⟩ ⟨Tp, u, v, rfl, hT, rfl, e1, e2⟩
        cases e1
        rw [List.length_map] at hj
        have e3 := (map_at ys j hj).symm.trans e2
        cases e3
        have em4 : L2.upd H4 Tp (.tup [.int (j : Nat), .int (ys.getD j 0)]) m = some (.lst (ll.map V.int)) := by rw [upd_ne (ne_of_none em3 hT)]; exact em3
        have eq4 : L2.upd H4 Tp (.tup [.int (j : Nat), .int (ys.getD j 0)]) q = some (.lst ((ql.set t sv).map V.int)) := by rw [upd_ne (ne_of_none eq3 hT)]; exact eq3
        have ho2 : atI (ll.map V.int) ((t : Int) + (j : Int)) = some (.int (ll.getD (t + j) 0)) := by
          rw [← Int.natCast_add]
          exact atI_nat (map_at ll (t + j) (by omega))
        have hx2 : ixN (ll.map V.int).length ((t : Int) + (j : Int)) = some (t + j) := by
          rw [← Int.natCast_add]
          exact ixN_nat (by rw [List.length_map]; omega)
        refine ⟨Tp, _, rfl, .inl (.inl upd_same), rfl, _, _, rfl, _, _, rfl, rfl, ?_⟩
        refine ⟨_, rfl, _, rfl, _, rfl, _, _, rfl, rfl, m, _, _, _, rfl, rfl, SqL.of em4, ho2, _, rfl, _, rfl, _, _, rfl, rfl, .inl ⟨by omega, by omega⟩, _, _, rfl, rfl, _, rfl, _, _, rfl, rfl, nz, _, rfl, _, rfl, _, rfl, _, _, rfl, rfl, m, _, _, _, rfl, rfl, em4, hx2, ?_⟩
        refine ⟨ll.set (t + j) ((ll.getD (t + j) 0 - sv * ys.getD j 0).fmod p), _, _, rfl, lcs m0 (s3.trans (same_upd hT)), ?_, ?_, by rw [List.length_set]; exact ll3, fun k => ?_⟩
        · rw [upd_ne qm]; exact eq4
        · rw [upd_same, List.map_set]
        · rw [getD_set (by omega), Lin_succ]
          by_cases hk : k = t + j
          · rw [if_pos hk, if_pos hk, cl3, Lin_at, hk]
          · rw [if_neg hk, if_neg hk, cl3]
      · rintro σ' H4 ⟨ll, x9, x10, rfl, s3, eq3, em3, ll3, cl3⟩
        rw [List.length_map] at cl3
        refine ⟨ql.set t sv, ll, _, _, _, _, rfl, s3, eq3, em3, by rw [List.length_set]; exact lq, ll3, fun k => ?_, fun k => ?_⟩
        · rw [getD_set (by omega), Qf_succ hi2, ht, hsv]
          by_cases hk : k = t
          · rw [if_pos hk, if_pos hk]
          · rw [if_neg hk, if_neg hk, cq]
        · rw [cl3]
          show _ = Lin (Lf (fun j => xs.getD j 0) (fun j => ys.getD j 0) ys.length N c p i) (N - 1 - i) (shv (Lf (fun j => xs.getD j 0) (fun j => ys.getD j 0) ys.length N c p i) (N - 1 - i) ys.length c p) (fun j => ys.getD j 0) p ys.length k
          rw [ht, hsv]
    · rintro σ' H2 ⟨ql, ll, x7, x8, x9, x10, rfl, s2, eq, em, lq, ll2, cq, cl⟩
      refine ⟨_, rfl, q, ql, rfl, SqL.of eq, by omega, fun u H3 s3 f3 e3 => ?_⟩
      refine ⟨_, rfl, m, ll, rfl, SqL.of (s3 _ _ em), by omega, fun v H4 s4 f4 e4 => ⟨(by show 2 ≤ sizeLine; decide), fun w' hw => ?_⟩⟩
      have s5 := same_upd (o := .tup [.ref u, .ref v]) hw
      refine k w' u v (trim ql) (trim ll) _ (((s2.trans s3).trans s4).trans s5) (((s2.trans s3).trans s4).free hw) upd_same (s5 _ _ (s4 _ _ e3)) (s5 _ _ e4) ⟨?_, ?_⟩
      · unfold dvQ
        rw [hN, hc]
        exact is_trim cq (by omega)
      · unfold dvL
        rw [hN, hc]
        exact is_trim cl (by omega)
end
end Xk
end
section
set_option Elab.async false
set_option linter.all false
set_option maxRecDepth 100000
set_option maxHeartbeats 4000000
namespace Xk
open PySem PySem.Spec PyProof.Rows L2 Xh LamX NdefX
theorem seq_pt {i : Int} (h : 0 ≤ i) : (if i > 0 then i else 0) = i := by
  split <;> omega
section
variable {P : Program} {w : World} {K : PySem.W.Frag} {mg : Str → Option Value} {base : Heap}
theorem sc_law_cut_by : FnScope (["_law_one", "_law_other", "_law_p", "_law_left", "_law_many", "_law_back_here", "_law_found", "_law_at", "_law_weight", "_law_place", "_law_rest", "_law_spot"] : List Str) ["_law_one", "_law_other", "_law_p"] (defScope s_law_cut_by) := ⟨rfl, rfl, rfl, by decide +kernel, rfl, by decide +kernel, by decide +kernel⟩
theorem ok_law_cut_by {f : Addr} {fd : FuncData} (F : FunD K "_law_cut_by" "_law_cut_by" (defArgs s_law_cut_by) (defBody s_law_cut_by) (defScope s_law_cut_by) [] [] f fd) (T : Fre mg) (o_law_trim : Own P w K mg base CX0 1 "_law_trim" ["_law_numbers"] [] (spTrim K)) (o_law_back : Own P w K mg base CX0 1 "_law_back" ["_law_number", "_law_p"] [] spBack) : FnOk P w K mg base CX0 2 f fd ["_law_one", "_law_other", "_law_p"] (spParted K) := by
  refine F.ok sc_law_cut_by (fun vs H Q E h => ?_) (fun cdv A outer s H vs Q E hr h => ?_)
  · obtain ⟨a, b, xs, ys, p, rfl, _⟩ := h
    rfl
  · obtain ⟨a, b, xs, ys, p, rfl, hA, hB, la, lb, rA, dB, k⟩ := h
    have hpm := pm_of dB.pr
    have lo := hpm.lo
    have hi := hpm.hi
    have ypos := dB.pos
    obtain ⟨l, P, hl, hP, P2, P3, lP, fb, fr, es, ec, bl⟩ := dB.last
    refine ⟨_, PSs.nox (pss_cons (ps_set (i := 3) sc_law_cut_by.nd rfl (Or.inl rfl) (pe_callTy call_list_of (by rfl) T.f_list (by decide +kernel) (pa_cons (pv 0) pa_nil)))
      (pss_cons (ps_set (i := 4) sc_law_cut_by.nd rfl (Or.inl rfl) (pe_op op_sub (pe_callB call_len_seq (by rfl) T.f_len PySem.boot_len (pa_cons (pv 1) pa_nil)) pe_int))
      (pss_cons (ps_set (i := 5) sc_law_cut_by.nd rfl (Or.inl rfl) (pe_own o_law_back (hr.mono (by decide)) rfl pass0 (pa_cons (pe_ix ix_tup (pv 1) (pe_un un_neg pe_int) (fun _ _ => rfl)) (pa_cons (pv 2) pa_nil))))
      (pss_cons (ps_set (i := 6) sc_law_cut_by.nd rfl (Or.inl rfl) (pe_op op_rep (pe_lst (pa_cons pe_int pa_nil)) (pe_callB (call_max2 rfl) (by rfl) T.f_max (by decide +kernel) (pa_cons pe_int (pa_cons (pe_op op_sub (pe_callB call_len_seq (by rfl) T.f_len PySem.boot_len (pa_cons (pv 0) pa_nil)) (pv 4)) pa_nil)))))
      (pss_cons (ps_for PassesOwn.never rfl (pi_range3 (by rfl) T.f_range (pa_cons (pe_op op_sub (pe_callB call_len_seq (by rfl) T.f_len PySem.boot_len (pa_cons (pv 0) pa_nil)) pe_int) (pa_cons (pe_op op_sub (pv 4) pe_int) (pa_cons (pe_un un_neg pe_int) pa_nil)))) (pg_name (i := 7) sc_law_cut_by.nd rfl (Or.inl rfl)) (pss_cons (ps_set (i := 8) sc_law_cut_by.nd rfl (Or.inl rfl) (pe_op op_modN (pe_op op_mul (pe_ix ix_list (pv 3) (pv 7) (fun _ _ => rfl)) (pv 5)) (pv 2)))
      (pss_cons (ps_asg (pv 8) (pg_sub (pv 6) (pe_op op_sub (pv 7) (pv 4)) set_list))
      (pss_one (ps_for PassesOwn.never rfl (pi_enT (by rfl) T.f_enumerate (pa_cons (pv 1) pa_nil)) (pg_tup rfl (pgs_cons (pg_name (i := 9) sc_law_cut_by.nd rfl (Or.inl rfl)) (pgs_cons (pg_name (i := 10) sc_law_cut_by.nd rfl (Or.inl rfl)) pgs_nil))) (pss_cons (ps_set (i := 11) sc_law_cut_by.nd rfl (Or.inl rfl) (pe_op op_add (pe_op op_sub (pv 7) (pv 4)) (pv 9)))
      (pss_one (ps_asg (pe_op op_modN (pe_op op_sub (pe_ix ix_list (pv 3) (pv 11) (fun _ _ => rfl)) (pe_op op_mul (pv 8) (pv 10))) (pv 2)) (pg_sub (pv 3) (pv 11) set_list)))))))))
      (pss_one (ps_ret (pe_tup (pa_cons (pe_own o_law_trim (hr.mono (by decide)) rfl pass0 (pa_cons (pv 6) pa_nil)) (pa_cons (pe_own o_law_trim (hr.mono (by decide)) rfl pass0 (pa_cons (pe_slice sl_list (pv 3) po_none (po_some (pv 4))) pa_nil)) pa_nil)))))))))) , ?_⟩
    refine ⟨_, rfl, a, _, rfl, .inr hA, fun m hm => ?_⟩
    have sm := same_upd (o := .lst (xs.map V.int)) hm
    refine ⟨_, rfl, _, _, rfl, .inr (sameT sm hB), _, _, rfl, rfl, ?_⟩
    refine ⟨_, rfl, _, rfl, b, _, _, .int (l : Int), rfl, rfl, sameT sm hB, by rw [← hl]; exact atI_last2 ypos, _, rfl, l, P, by rw [hP]; rfl, P2, P3, fb, fun Ha sa => ?_⟩
    rw [← es, List.length_map]
    have Nd : stp xs ys = xs.length + 1 - ys.length := rfl
    generalize hN : stp xs ys = N at *
    generalize hc : scl ys p = c at *
    have nz : p ≠ 0 := by omega
    have Nl : N ≤ 51 := by omega
    have c1000 : 0 ≤ c ∧ c ≤ 1000 := by omega
    have rl := Lf_rs (x := fun j => xs.getD j 0) (y := fun j => ys.getD j 0) (lb := ys.length) (N := N) (c := c) (p := p) (by omega) rA
    have s1 := sm.trans sa
    refine ⟨(by show 1 ≤ sizeLine; decide), fun e0 he0 => ?_⟩
    have s0 := s1.trans (same_upd (o := .lst [.int 0]) he0)
    refine ⟨_, rfl, _, _, rfl, .inr (sameT s0 hA), _, rfl, _, _, rfl, rfl, _, _, rfl, ?_⟩
    rw [List.length_map, show (if (xs.length : Int) - ((ys.length : Int) - 1) > 0 then (xs.length : Int) - ((ys.length : Int) - 1) else 0) = ((N : Nat) : Int) from by split <;> omega]
    refine ⟨e0, _, _, rfl, rfl, upd_same, by omega, by omega, ?_, fun q hq => ?_⟩
    · rw [Int.toNat_natCast]
      exact Nat.le_trans (show 1 * N ≤ 1000 by omega) (Nat.le_of_lt (small1000 (Nat.le_refl _)))
    rw [Int.toNat_natCast, rep_zero]
    have sq := s0.trans (same_upd (o := .lst ((List.replicate N (0 : Int)).map V.int)) hq)
    have q0 : H q = none := s0.free hq
    have em0 := (same_upd (o := .lst [.int 0]) he0) _ _ (sa _ _ upd_same)
    have qm : q ≠ m := (ne_of_none em0 hq).symm
    refine ⟨_, rfl, _, _, rfl, .inr (sameT sq hA), _, _, rfl, rfl, _, rfl, _, _, rfl, rfl, _, rfl, _, _, _, _, rfl, RgC.neg (by rw [List.length_map]; omega) (by rw [List.length_map]; omega) (by omega) (by omega), ?_⟩
    rw [List.length_map, show ((xs.length : Int) - 1 - ((ys.length : Int) - 1 - 1)).toNat = N by omega]
    have m0 : H m = none := hm
    refine for_rangeC (n := N) (fun i σ' H2 => ∃ (ql ll : List Int) (x7 x8 x9 x10 x11 : Option V), σ' = [some (.ref a), some (.ref b), some (.int p), some (.ref m), some (.int ((ys.length : Int) - 1)), some (.int c), some (.ref q), x7, x8, x9, x10, x11] ∧ Same H H2 ∧ H2 q = some (.lst (ql.map V.int)) ∧ H2 m = some (.lst (ll.map V.int)) ∧ ql.length = N ∧ ll.length = xs.length ∧ (∀ k, ql.getD k 0 = Qf (fun j => xs.getD j 0) (fun j => ys.getD j 0) ys.length N c p i k) ∧ ∀ k, ll.getD k 0 = Lf (fun j => xs.getD j 0) (fun j => ys.getD j 0) ys.length N c p i k)
      ⟨List.replicate N 0, xs, none, none, none, none, none, rfl, sq, upd_same, (same_upd hq) _ _ em0, List.length_replicate, rfl, fun k => ?_, fun k => rfl⟩ ?_ ?_
    · rw [getD_rep]
      unfold Qf
      rw [if_neg (by omega)]
    · rintro i σ' H2 hi2 ⟨ql, ll, x7, x8, x9, x10, x11, rfl, s2, eq, em, lq, ll2, cq, cl⟩
      generalize ht : N - 1 - i = t
      have tl : t + ys.length - 1 < xs.length := by omega
      rw [show ((xs.length : Int) - 1 + (i : Nat) * (-1) : Int) = ((t + ys.length - 1 : Nat) : Int) by omega]
      have ho : atI (ll.map V.int) ((t + ys.length - 1 : Nat) : Int) = some (.int (ll.getD (t + ys.length - 1) 0)) := atI_nat (map_at ll _ (by omega))
      have hxq : ixN (ql.map V.int).length (((t + ys.length - 1 : Nat) : Int) - ((ys.length : Int) - 1)) = some t := by
        rw [show ((t + ys.length - 1 : Nat) : Int) - ((ys.length : Int) - 1) = (t : Int) by omega]
        exact ixN_nat (by rw [List.length_map]; omega)
      obtain ⟨v0, v1⟩ := rl i (t + ys.length - 1)
      have es2 : (ll.getD (t + ys.length - 1) 0 * c).fmod p = shv (Lf (fun j => xs.getD j 0) (fun j => ys.getD j 0) ys.length N c p i) t ys.length c p := by rw [cl]; rfl
      have b0 : 0 ≤ (ll.getD (t + ys.length - 1) 0 * c).fmod p := Int.fmod_nonneg_of_pos _ (by omega)
      have b1 : (ll.getD (t + ys.length - 1) 0 * c).fmod p < p := Int.fmod_lt_of_pos _ (by omega)
      generalize hsv : shv (Lf (fun j => xs.getD j 0) (fun j => ys.getD j 0) ys.length N c p i) t ys.length c p = sv at es2
      rw [es2] at b0 b1
      refine ⟨_, rfl, _, rfl, m, _, _, _, rfl, rfl, SqL.of em, ho, _, rfl, _, _, rfl, rfl, .inr ⟨by omega, by omega⟩, _, rfl, _, _, rfl, rfl, nz, ?_⟩
      refine ⟨_, rfl, _, rfl, _, rfl, _, rfl, _, _, rfl, rfl, q, _, _, t, rfl, rfl, eq, hxq, ?_⟩
      have em2 : ∀ o : HO, L2.upd H2 q o m = some (.lst (ll.map V.int)) := fun o => by rw [upd_ne (Ne.symm qm)]; exact em
      refine ⟨_, rfl, b, _, rfl, sameT (lcs q0 s2) hB, ?_⟩
      refine for_it (walk_enT (xs := ys.map V.int)) (fun j σ' H3 => ∃ (ll : List Int) (x9 x10 x11 : Option V), σ' = [some (.ref a), some (.ref b), some (.int p), some (.ref m), some (.int ((ys.length : Int) - 1)), some (.int c), some (.ref q), some (.int ((t + ys.length - 1 : Nat) : Int)), some (.int sv), x9, x10, x11] ∧ Same H H3 ∧ H3 q = some (.lst ((ql.set t sv).map V.int)) ∧ H3 m = some (.lst (ll.map V.int)) ∧ ll.length = xs.length ∧ ∀ k, ll.getD k 0 = Lin (Lf (fun j => xs.getD j 0) (fun j => ys.getD j 0) ys.length N c p i) t sv (fun j => ys.getD j 0) p j k)
        ⟨ll, x9, x10, x11, by rw [← es2]; rfl, lcs q0 s2, by rw [upd_same, ← es2, List.map_set], em2 _, ll2, fun k => ?_⟩ (fun j σ' H3 _ ⟨_, _, _, _, _, s3, _⟩ => sameT s3 hB) ?_ ?_
      · unfold Lin
        rw [if_neg (by omega)]
        exact cl k
      · rintro j x' σ' H4 H5 hj ⟨ll, x9, x10, x11, rfl, s3, eq3, em3, ll3, cl3⟩ ⟨Tp, u, v, rfl, hT, rfl, e1, e2⟩
        cases e1
        rw [List.length_map] at hj
        have e3 := (map_at ys j hj).symm.trans e2
        cases e3
        have em4 : L2.upd H4 Tp (.tup [.int (j : Nat), .int (ys.getD j 0)]) m = some (.lst (ll.map V.int)) := by rw [upd_ne (ne_of_none em3 hT)]; exact em3
        have eq4 : L2.upd H4 Tp (.tup [.int (j : Nat), .int (ys.getD j 0)]) q = some (.lst ((ql.set t sv).map V.int)) := by rw [upd_ne (ne_of_none eq3 hT)]; exact eq3
        have ej : ((t + ys.length - 1 : Nat) : Int) - ((ys.length : Int) - 1) + (j : Int) = ((t + j : Nat) : Int) := by omega
        have ho2 : atI (ll.map V.int) (((t + ys.length - 1 : Nat) : Int) - ((ys.length : Int) - 1) + (j : Int)) = some (.int (ll.getD (t + j) 0)) := by
          rw [ej]
          exact atI_nat (map_at ll (t + j) (by omega))
        have hx2 : ixN (ll.map V.int).length (((t + ys.length - 1 : Nat) : Int) - ((ys.length : Int) - 1) + (j : Int)) = some (t + j) := by
          rw [ej]
          exact ixN_nat (by rw [List.length_map]; omega)
        refine ⟨Tp, _, rfl, .inl (.inl upd_same), rfl, _, _, rfl, _, _, rfl, rfl, ?_⟩
        refine ⟨_, rfl, _, rfl, _, _, rfl, rfl, _, rfl, _, _, rfl, rfl, ?_⟩
        refine ⟨_, rfl, _, rfl, m, _, _, _, rfl, rfl, SqL.of em4, ho2, _, rfl, _, rfl, _, _, rfl, rfl, .inl ⟨by omega, by omega⟩, _, _, rfl, rfl, _, rfl, _, _, rfl, rfl, nz, _, rfl, _, rfl, m, _, _, _, rfl, rfl, em4, hx2, ?_⟩
        refine ⟨ll.set (t + j) ((ll.getD (t + j) 0 - sv * ys.getD j 0).fmod p), _, _, _, rfl, lcs m0 (s3.trans (same_upd hT)), ?_, ?_, by rw [List.length_set]; exact ll3, fun k => ?_⟩
        · rw [upd_ne qm]; exact eq4
        · rw [upd_same, List.map_set]
        · rw [getD_set (by omega), Lin_succ]
          by_cases hk : k = t + j
          · rw [if_pos hk, if_pos hk, cl3, Lin_at, hk]
          · rw [if_neg hk, if_neg hk, cl3]
      · rintro σ' H4 ⟨ll, x9, x10, x11, rfl, s3, eq3, em3, ll3, cl3⟩
        rw [List.length_map] at cl3
        refine ⟨ql.set t sv, ll, _, _, _, _, _, rfl, s3, eq3, em3, by rw [List.length_set]; exact lq, ll3, fun k => ?_, fun k => ?_⟩
        · rw [getD_set (by omega), Qf_succ hi2, ht, hsv]
          by_cases hk : k = t
          · rw [if_pos hk, if_pos hk]
          · rw [if_neg hk, if_neg hk, cq]
        · rw [cl3]
          show _ = Lin (Lf (fun j => xs.getD j 0) (fun j => ys.getD j 0) ys.length N c p i) (N - 1 - i) (shv (Lf (fun j => xs.getD j 0) (fun j => ys.getD j 0) ys.length N c p i) (N - 1 - i) ys.length c p) (fun j => ys.getD j 0) p ys.length k
          rw [ht, hsv]
    · rintro σ' H2 ⟨ql, ll, x7, x8, x9, x10, x11, rfl, s2, eq, em, lq, ll2, cq, cl⟩
      refine ⟨_, rfl, q, ql, rfl, SqL.of eq, by omega, fun u H3 s3 f3 e3 => ?_⟩
      refine ⟨_, rfl, _, rfl, _, rfl, m, _, rfl, SqL.of (s3 _ _ em), fun z hz => ?_⟩
      rw [show (ys.length : Int) - 1 = ((ys.length - 1 : Nat) : Int) by omega, cutV_take]
      have sz := same_upd (o := .lst ((ll.take (ys.length - 1)).map V.int)) hz
      refine ⟨z, ll.take (ys.length - 1), rfl, SqL.of upd_same, by rw [List.length_take]; omega, fun v H4 s4 f4 e4 => ⟨(by show 2 ≤ sizeLine; decide), fun w' hw => ?_⟩⟩
      have s5 := same_upd (o := .tup [.ref u, .ref v]) hw
      have s6 := ((s2.trans s3).trans sz).trans s4
      refine k w' u v (trim ql) (trim (ll.take (ys.length - 1))) _ (s6.trans s5) (s6.free hw) upd_same (s5 _ _ (s4 _ _ (sz _ _ e3))) (s5 _ _ e4) ⟨?_, ?_⟩
      · unfold dvQ
        rw [hN, hc]
        exact is_trim cq (by omega)
      · unfold dvL
        rw [hN, hc]
        refine is_trim (fun j => ?_) (by rw [List.length_take]; omega)
        rw [take_getD]
        split
        · exact cl j
        · exact (Lf_top (by omega) ypos ec (fun j hj => getD_over (by omega)) N (Nat.le_refl _) j (by omega)).symm
end
end Xk
end
section
set_option Elab.async false
set_option linter.all false
set_option maxRecDepth 100000
set_option maxHeartbeats 4000000
namespace Xk
open PySem PySem.Spec PyProof.Rows L2 Xh LamX NdefX
def spRefN (K : PySem.W.Frag) (C : Addr) : Sp := fun vs H Q E => ∃ (a : Addr) (ns : List Int), vs = [.ref a] ∧ SqT K H a (ns.map V.int) ∧ (ns ≠ [] → ∀ H', Same H H' → Q .non H') ∧ (ns = [] → Ex H E C "NoInverse")
def spPP (K : PySem.W.Frag) (T : List (Addr × Str)) (C : Addr) : Sp := fun vs H Q E => ∃ (a b : Addr) (xs ys : List Int) (p : Int), vs = [.ref a, .ref b, .int p] ∧ p ∈ primes ∧ Pol K H a p xs ∧ Pol K H b p ys ∧ (ys = [] → Ex H E C "NoInverse") ∧ Tabs T H ∧
  (ys ≠ [] → ∀ (w u v : Addr) (qs rs : List Int) (H' : Hp), Gr T H H' → H w = none → H' w = some (.tup [.ref u, .ref v]) → H' u = some (.tup (qs.map V.int)) → H' v = some (.tup (rs.map V.int)) → Div p xs ys qs rs → Q (.ref w) H')
theorem Ex.same {H H1 : Hp} {E : XK} {C : Addr} {nm : Str} (x : Ex H E C nm) (s : Same H H1) : Ex H1 E C nm := fun d H' a b c => x d H' (s.trans a) b (s.free c)
theorem eqv_nil (ns : List Int) : PyData.eqv (PyData.tuple (ns.map PyData.int)) (PyData.tuple (([] : List Int).map PyData.int)) = decide (ns = []) := by
  cases ns with
  | nil => rfl
  | cons n ns => rfl
theorem sh_ints (ns : List Int) : SeqAt.shaped (PyData.tuple (ns.map PyData.int)) = true := by
  simp [SeqAt.shaped, PyData.canLay0, PyData.depth, PySem.W.ke_canLayAll0, PySem.W.ke_depthAll]
section
variable {P : Program} {w : World} {K : PySem.W.Frag} {mg : Str → Option Value} {base : Heap}

end
end Xk
end
section
set_option Elab.async false
set_option linter.all false
set_option maxRecDepth 100000
set_option maxHeartbeats 4000000
namespace Xk
open PySem PySem.Spec PyProof.Rows L2 Xh LamX NdefX
/-! ### the law's own state -/
/-- the draws stand at d, the tables stand, and what qs tells stands -/
structure Wd (d : Addr) (T : List (Addr × Str)) (qs : List (Addr × HO)) (H : Hp) : Prop where
  D : Draw H d
  T : Tabs T H
  q : ∀ p ∈ qs, p.1 ≠ d ∧ H p.1 = some p.2 ∧ ∀ ps, p.2 ≠ .tbl ps
section
variable {d : Addr} {T : List (Addr × Str)} {qs : List (Addr × HO)} {H H' : Hp}
theorem Draw.ext (D : Draw H d) (x : ExtN H H') : Draw H' d := by
  obtain ⟨c, ns, i, r, g, h1, h2, h3⟩ := D
  exact ⟨c, ns, i, r, g, x _ _ h1 (fun _ z => by cases z), x _ _ h2 (fun _ z => by cases z), h3⟩
theorem Wd.ext (w : Wd d T qs H) (x : ExtN H H') (t : Tabs T H') : Wd d T qs H' := ⟨w.D.ext x, t, fun p hp => ⟨(w.q p hp).1, x _ _ (w.q p hp).2.1 (w.q p hp).2.2, (w.q p hp).2.2⟩⟩
theorem Wd.gr (w : Wd d T qs H) (g : Gr T H H') : Wd d T qs H' := w.ext g.x g.t
theorem Wd.same (w : Wd d T qs H) (s : Same H H') : Wd d T qs H' := ⟨w.D.same s, w.T.ext s, fun p hp => ⟨(w.q p hp).1, s _ _ (w.q p hp).2.1, (w.q p hp).2.2⟩⟩
theorem Tabs.but (t : Tabs T H) (D : Draw H d) (b : But d H H') : Tabs T H' := fun p hp => by
  obtain ⟨ps, h1, h2, h3⟩ := t p hp
  obtain ⟨c, ns, i, r, g, e, _⟩ := D
  refine ⟨ps, b _ _ (fun z => ?_) h1, h2, fun pos cv hc => ?_⟩
  · rw [z, e] at h1
    cases h1
  · obtain ⟨c', e1, e2⟩ := h3 pos cv hc
    refine ⟨c', e1, b _ _ (fun z => ?_) e2⟩
    rw [z, e] at e2
    unfold CodeO at e2
    cases e2
theorem Wd.but (w : Wd d T qs H) (b : But d H H') (D' : Draw H' d) : Wd d T qs H' := ⟨D', Tabs.but w.T w.D b, fun p hp => ⟨(w.q p hp).1, b _ _ (w.q p hp).1 (w.q p hp).2.1, (w.q p hp).2.2⟩⟩
theorem Wd.add (w : Wd d T qs H) {p : Addr} {o : HO} (hp : H p = none) (ho : ∀ ps, o ≠ .tbl ps) : Wd d T ((p, o) :: qs) (L2.upd H p o) := by
  have w' := w.same (same_upd (o := o) hp)
  refine ⟨w'.D, w'.T, fun r hr => ?_⟩
  rcases List.mem_cons.mp hr with rfl | hr
  · exact ⟨w.D.ne hp, upd_same, ho⟩
  · exact w'.q r hr
theorem Wd.sub {rs : List (Addr × HO)} (w : Wd d T qs H) (h : ∀ p ∈ rs, p ∈ qs) : Wd d T rs H := ⟨w.D, w.T, fun p hp => w.q p (h p hp)⟩
theorem Wd.at {p : Addr} {o : HO} (w : Wd d T qs H) (h : (p, o) ∈ qs) : H p = some o := (w.q _ h).2.1
end
theorem same_tup {K : PySem.W.Frag} {H : Hp} {p q : Addr} {xs : List V} (hp : H p = some (.tup xs)) (hq : H q = some (.tup xs)) (hf : xs.all flatV = true) (hl : xs.length ≤ 1000) : SameAt K H 1 (.ref p) (.ref q) :=
  .inr ⟨p, q, xs, xs, rfl, rfl, .inr ⟨SqT.of hp, SqT.of hq⟩, rfl, hl, fun i x y hx hy => by
    rw [hx] at hy
    cases hy
    exact ⟨List.all_eq_true.mp hf _ (List.mem_of_getElem? hx), rfl⟩⟩
theorem sqT_but {K : PySem.W.Frag} {d a : Addr} {H H' : Hp} {xs : List V} (b : But d H H') (h : a ≠ d) (x : SqT K H a xs) : SqT K H' a xs := by
  rcases x with (x | ⟨o, x⟩) | x
  · exact .inl (.inl (b _ _ h x))
  · exact .inl (.inr ⟨o, b _ _ h x⟩)
  · exact .inr x
theorem Pol.but {K : PySem.W.Frag} {d a : Addr} {H H' : Hp} {p : Int} {ns : List Int} (x : Pol K H a p ns) (b : But d H H') (h : a ≠ d) : Pol K H' a p ns := ⟨sqT_but b h x.at_, x.len, x.rs, x.tr⟩
theorem Pol.ext {K : PySem.W.Frag} {a : Addr} {H H' : Hp} {p : Int} {ns : List Int} (x : Pol K H a p ns) (b : ExtN H H') : Pol K H' a p ns := by
  refine ⟨?_, x.len, x.rs, x.tr⟩
  rcases x.at_ with (h | ⟨o, h⟩) | h
  · exact .inl (.inl (b _ _ h (fun _ z => by cases z)))
  · exact .inl (.inr ⟨o, b _ _ h (fun _ z => by cases z)⟩)
  · exact .inr h
theorem Is.pol {K : PySem.W.Frag} {H : Hp} {q : Addr} {p : Int} {f : Nat → Int} {n : Nat} {ms : List Int} (x : Is (fun j => (f j).fmod p) n ms) (hp : Pm p) (hn : n ≤ 25) (e : H q = some (.tup (ms.map V.int))) : Pol K H q p ms := ⟨.inl (.inl e), Nat.le_trans x.len hn, fm_rs hp x.at_, x.tr⟩
theorem like1 {K : PySem.W.Frag} {H : Hp} {t u : Addr} {m : List Int} (hl : m.length ≤ 100) (a : H t = some (.tup (m.map V.int))) (b : H u = some (.tup (m.map V.int))) : SameAt K H 1 (.ref t) (.ref u) :=
  .inr ⟨t, u, _, _, rfl, rfl, .inr ⟨.inl (.inl a), .inl (.inl b)⟩, rfl, by rw [List.length_map]; omega, fun i x y hx hy => by
    rw [hx] at hy
    cases hy
    obtain ⟨n, _, rfl⟩ := List.mem_map.mp (List.mem_of_getElem? hx)
    exact ⟨rfl, rfl⟩⟩
theorem Is.short {f : Nat → Int} {n m : Nat} {ms : List Int} (x : Is f n ms) (h : ∀ k, m ≤ k → f k = 0) : ms.length ≤ m := by
  rcases Nat.lt_or_ge m ms.length with l | l
  · exfalso
    refine trim_ne ms (fun z => by rw [z, List.length_nil] at l; omega) x.tr ?_
    rw [x.at_]
    exact h _ (by omega)
  · exact l
theorem cvf_over {xs ys : List Int} : ∀ i, i ≤ xs.length → ∀ k, xs.length + ys.length ≤ k → Ou xs ys i k = 0
  | 0, _, _, _ => rfl
  | i + 1, hi, k, hk => by
    rw [Ou_succ, cvf_over i (by omega) k hk, if_neg (by omega), Int.add_zero]
/-- ('told', (quotient, rest)) at r -/
structure Told (H : Hp) (r : Addr) (w u v : Addr) (qs rs : List Int) : Prop where
  r : H r = some (.tup [.str "told", .ref w])
  w : H w = some (.tup [.ref u, .ref v])
  u : H u = some (.tup (qs.map V.int))
  v : H v = some (.tup (rs.map V.int))
theorem Told.same {H H' : Hp} {r w u v : Addr} {qs rs : List Int} (x : Told H r w u v qs rs) (s : Same H H') : Told H' r w u v qs rs := ⟨s _ _ x.r, s _ _ x.w, s _ _ x.u, s _ _ x.v⟩
theorem Told.like {K : PySem.W.Frag} {H : Hp} {r w u v r' w' u' v' : Addr} {qs rs : List Int} (x : Told H r w u v qs rs) (y : Told H r' w' u' v' qs rs) (h1 : qs.length ≤ 100) (h2 : rs.length ≤ 100) : SameAt K H 3 (.ref r) (.ref r') :=
  .inr ⟨r, r', _, _, rfl, rfl, .inr ⟨.inl (.inl x.r), .inl (.inl y.r)⟩, rfl, by show 2 ≤ 1000; decide, fun i a b ha hb => by
    match i, ha, hb with
    | 0, ha, hb => cases ha; cases hb; exact .inl ⟨rfl, rfl⟩
    | 1, ha, hb =>
      cases ha
      cases hb
      exact .inr ⟨w, w', _, _, rfl, rfl, .inr ⟨.inl (.inl x.w), .inl (.inl y.w)⟩, rfl, by show 2 ≤ 1000; decide, fun i a b ha hb => by
        match i, ha, hb with
        | 0, ha, hb => cases ha; cases hb; exact like1 h1 x.u y.u
        | 1, ha, hb => cases ha; cases hb; exact like1 h2 x.v y.v⟩⟩
theorem Div.rs_q {p : Int} {xs ys qs rs : List Int} (d : Div p xs ys qs rs) (hp : Pm p) : Rs p qs := fun j => by
  rw [d.q.at_]
  unfold dvQ Qf
  split
  · exact ⟨Int.fmod_nonneg_of_pos _ hp.pos, Int.fmod_lt_of_pos _ hp.pos⟩
  · exact ⟨Int.le_refl _, hp.pos⟩
theorem Div.less {p : Int} {xs ys qs rs : List Int} (d : Div p xs ys qs rs) (y : Dsr p ys) : rs.length < ys.length := by
  obtain ⟨l, P, hl, hP, P2, P3, lP, fb, fr, es, ec, bl⟩ := y.last
  have hp := pm_of y.pr
  have ypos := y.pos
  rcases Nat.lt_or_ge rs.length ys.length with h | h
  · exact h
  · exfalso
    have hne : rs ≠ [] := fun z => by rw [z, List.length_nil] at h; omega
    refine trim_ne rs hne d.r.tr ?_
    rw [d.r.at_]
    exact Lf_top hp.lo y.pos ec (fun j hj => getD_over (by unfold stp at hj; omega)) (stp xs ys) (Nat.le_refl _) _ (by omega)
theorem Div.eq {p : Int} {xs ys qs rs : List Int} (d : Div p xs ys qs rs) (hp : Pm p) (rx : Rs p xs) (j : Nat) : ((cvf qs ys j).fmod p + 1 * rs.getD j 0).fmod p = xs.getD j 0 := by
  have hpos := hp.pos
  have e := div_eq (x := fun j => xs.getD j 0) (ms := qs) (ys := ys) (N := stp xs ys) (c := scl ys p) hpos (fun t ht => by
    rw [d.q.at_]
    unfold dvQ Qf
    rw [if_pos ⟨by omega, ht⟩]) (stp xs ys) (Nat.le_refl _) j
  rw [Nat.sub_self] at e
  have o : Ou qs ys (stp xs ys) j = cvf qs ys j := by
    have z := Ou_long (ms := qs) (ys := ys) (k := j) (stp xs ys - qs.length)
    rw [show qs.length + (stp xs ys - qs.length) = stp xs ys by have := d.q.len; omega] at z
    exact z
  have r := d.r.at_ j
  unfold dvL at r
  rw [o, show Ou qs ys 0 j = 0 from rfl, Int.sub_zero, ← r] at e
  obtain ⟨x0, x1⟩ := rx j
  rw [Int.one_mul, fm_add2 hpos, Int.fmod_eq_emod_of_nonneg _ (by omega), Int.add_comm, e, Int.emod_eq_of_lt x0 x1]
theorem eqvAll_ints : ∀ ns : List Int, PyData.eqvAll (ns.map PyData.int) (ns.map PyData.int) = true
  | [] => rfl
  | n :: ns => by
    have ih := eqvAll_ints ns
    simp [PyData.eqvAll, PyData.eqv, ih]
theorem eqv_ints (ns : List Int) : PyData.eqv (PyData.tuple (ns.map PyData.int)) (PyData.tuple (ns.map PyData.int)) = true := by
  have z := eqvAll_ints ns
  simp [PyData.eqv, z]
end Xk
end
section
set_option linter.all false
/-! Polynomials by their coefficients: sums, products (no program in it; for k04, k07). -/
namespace Xp
/-- f 0 + .. + f (n - 1) -/
def sm : Nat → (Nat → Int) → Int
  | 0, _ => 0
  | n + 1, f => sm n f + f n
theorem sm_congr {f g : Nat → Int} : ∀ {n : Nat}, (∀ i, i < n → f i = g i) → sm n f = sm n g
  | 0, _ => rfl
  | n + 1, h => by
    show sm n f + f n = sm n g + g n
    rw [sm_congr (n := n) fun i hi => h i (by omega), h n (by omega)]
theorem sm_zero {f : Nat → Int} {n : Nat} (h : ∀ i, i < n → f i = 0) : sm n f = 0 := by
  induction n with
  | zero => rfl
  | succ n ih =>
    show sm n f + f n = 0
    rw [ih fun i hi => h i (by omega), h n (by omega)]
    rfl
theorem sm_add (f g : Nat → Int) : ∀ n, sm n (fun i => f i + g i) = sm n f + sm n g
  | 0 => rfl
  | n + 1 => by
    show sm n (fun i => f i + g i) + (f n + g n) = (sm n f + f n) + (sm n g + g n)
    rw [sm_add f g n]
    omega
theorem sm_mul (c : Int) (f : Nat → Int) : ∀ n, sm n (fun i => c * f i) = c * sm n f
  | 0 => (Int.mul_zero c).symm
  | n + 1 => by
    show sm n (fun i => c * f i) + c * f n = c * (sm n f + f n)
    rw [sm_mul c f n, Int.mul_add]
theorem sm_mul_right (c : Int) (f : Nat → Int) (n : Nat) : sm n (fun i => f i * c) = sm n f * c := by
  rw [Int.mul_comm, ← sm_mul]
  exact sm_congr fun i _ => Int.mul_comm _ _
/-- the first one apart -/
theorem sm_head (f : Nat → Int) : ∀ n, sm (n + 1) f = f 0 + sm n (fun i => f (i + 1))
  | 0 => by
    show 0 + f 0 = f 0 + 0
    omega
  | n + 1 => by
    show sm (n + 1) f + f (n + 1) = f 0 + (sm n (fun i => f (i + 1)) + f (n + 1))
    rw [sm_head f n]
    omega
theorem sm_rev (f : Nat → Int) : ∀ n, sm n (fun i => f (n - 1 - i)) = sm n f
  | 0 => rfl
  | n + 1 => by
    rw [sm_head]
    show f n + _ = sm n f + f n
    rw [← sm_rev f n, Int.add_comm]
    congr 1
    exact sm_congr fun i hi => by rw [show n + 1 - 1 - (i + 1) = n - 1 - i by omega]
theorem sm_swap (f : Nat → Nat → Int) (m : Nat) : ∀ n, sm n (fun i => sm m (fun j => f i j)) = sm m (fun j => sm n (fun i => f i j))
  | 0 => (sm_zero fun _ _ => rfl).symm
  | n + 1 => by
    show sm n (fun i => sm m (fun j => f i j)) + sm m (fun j => f n j) = sm m (fun j => sm n (fun i => f i j) + f n j)
    rw [sm_swap f m n, sm_add]
/-- beyond m all is nought -/
theorem sm_ext {f : Nat → Int} {m : Nat} (h : ∀ i, m ≤ i → f i = 0) : ∀ d, sm (m + d) f = sm m f
  | 0 => rfl
  | d + 1 => by
    show sm (m + d) f + f (m + d) = sm m f
    rw [sm_ext h d, h _ (by omega), Int.add_zero]
/-- a product's coefficient -/
def cv (f g : Nat → Int) (k : Nat) : Int := sm (k + 1) fun i => f i * g (k - i)
theorem cv_comm (f g : Nat → Int) (k : Nat) : cv f g k = cv g f k := by
  unfold cv
  rw [← sm_rev (fun i => g i * f (k - i)) (k + 1)]
  exact sm_congr fun i hi => by rw [show k + 1 - 1 - i = k - i by omega, show k - (k - i) = i by omega, Int.mul_comm]
theorem cv_add (f g h : Nat → Int) (k : Nat) : cv f (fun i => g i + h i) k = cv f g k + cv f h k := by
  unfold cv
  rw [← sm_add]
  exact sm_congr fun i _ => Int.mul_add _ _ _
theorem cv_mul (c : Int) (f g : Nat → Int) (k : Nat) : cv f (fun i => c * g i) k = c * cv f g k := by
  unfold cv
  rw [← sm_mul]
  exact sm_congr fun i _ => by rw [← Int.mul_assoc, Int.mul_comm (f i) c, Int.mul_assoc]
/-- the same sum, as far as one likes -/
theorem cv_wide (f g : Nat → Int) {k n : Nat} (h : k < n) : cv f g k = sm n fun i => if i ≤ k then f i * g (k - i) else 0 := by
  obtain ⟨d, rfl⟩ : ∃ d, n = k + 1 + d := ⟨n - (k + 1), by omega⟩
  rw [sm_ext (fun i hi => if_neg (by omega))]
  exact sm_congr fun i hi => (if_pos (by omega)).symm
theorem cv_assoc (f g h : Nat → Int) (k : Nat) : cv (cv f g) h k = cv f (cv g h) k := by
  have l : cv (cv f g) h k = sm (k + 1) fun j => sm (k + 1) fun i => if i ≤ j then f i * g (j - i) * h (k - j) else 0 := by
    show sm (k + 1) (fun j => cv f g j * h (k - j)) = _
    refine sm_congr fun j hj => ?_
    rw [cv_wide f g hj, ← sm_mul_right]
    refine sm_congr fun i _ => ?_
    split
    · rfl
    · exact Int.zero_mul _
  have r : cv f (cv g h) k = sm (k + 1) fun i => sm (k + 1) fun j => if i ≤ j then f i * g (j - i) * h (k - j) else 0 := by
    show sm (k + 1) (fun i => f i * cv g h (k - i)) = _
    refine sm_congr fun i hi => ?_
    rw [show (k + 1) = i + (k - i + 1) by omega]
    show f i * sm (k - i + 1) (fun j => g j * h (k - i - j)) = _
    rw [← sm_mul]
    have sh : ∀ (F : Nat → Int) (m n : Nat), (∀ j, j < m → F j = 0) → sm (m + n) F = sm n (fun j => F (m + j)) := fun F m n hF => by
      induction n with
      | zero => exact sm_zero hF
      | succ n ih =>
        show sm (m + n) F + F (m + n) = sm n (fun j => F (m + j)) + F (m + n)
        rw [ih]
    rw [sh _ i (k - i + 1) fun j hj => if_neg (by omega)]
    refine sm_congr fun j hj => ?_
    rw [if_pos (by omega), show i + j - i = j by omega, show k - (i + j) = k - i - j by omega, Int.mul_assoc]
  rw [l, r, sm_swap]
/-! ### by a prime -/
/-- alike by p -/
def Eqm (p : Int) (f g : Nat → Int) : Prop := ∀ k, f k % p = g k % p
theorem Eqm.refl (p : Int) (f : Nat → Int) : Eqm p f f := fun _ => rfl
theorem Eqm.symm {p : Int} {f g : Nat → Int} (h : Eqm p f g) : Eqm p g f := fun k => (h k).symm
theorem Eqm.trans {p : Int} {f g h : Nat → Int} (a : Eqm p f g) (b : Eqm p g h) : Eqm p f h := fun k => (a k).trans (b k)
theorem Eqm.add {p : Int} {f g f' g' : Nat → Int} (a : Eqm p f f') (b : Eqm p g g') : Eqm p (fun k => f k + g k) (fun k => f' k + g' k) := fun k => by
  show (f k + g k) % p = (f' k + g' k) % p
  rw [Int.add_emod, a k, b k, ← Int.add_emod]
theorem Eqm.mul {p : Int} {f f' : Nat → Int} (c : Int) (a : Eqm p f f') : Eqm p (fun k => c * f k) (fun k => c * f' k) := fun k => by
  show (c * f k) % p = (c * f' k) % p
  rw [Int.mul_emod, a k, ← Int.mul_emod]
theorem sm_mod {p : Int} {f g : Nat → Int} (h : ∀ i, f i % p = g i % p) : ∀ n, sm n f % p = sm n g % p
  | 0 => rfl
  | n + 1 => by
    show (sm n f + f n) % p = (sm n g + g n) % p
    rw [Int.add_emod, sm_mod h n, h n, ← Int.add_emod]
theorem Eqm.cv {p : Int} {f g f' g' : Nat → Int} (a : Eqm p f f') (b : Eqm p g g') : Eqm p (cv f g) (cv f' g') := fun k => by
  unfold Xp.cv
  exact sm_mod (fun i => by rw [Int.mul_emod, a i, b (k - i), ← Int.mul_emod]) _
/-- the highest place of a product -/
theorem cv_top {f g : Nat → Int} {a b : Nat} (hf : ∀ i, a < i → f i = 0) (hg : ∀ i, b < i → g i = 0) : cv f g (a + b) = f a * g b := by
  unfold cv
  rw [show a + b + 1 = (a + 1) + b by omega, sm_ext (fun i hi => by rw [hf i (by omega), Int.zero_mul])]
  show sm a (fun i => f i * g (a + b - i)) + f a * g (a + b - a) = f a * g b
  rw [sm_zero (fun i hi => by rw [hg _ (by omega), Int.mul_zero]), Int.zero_add, show a + b - a = b by omega]
theorem cv_over {f g : Nat → Int} {a b : Nat} (hf : ∀ i, a < i → f i = 0) (hg : ∀ i, b < i → g i = 0) {k : Nat} (hk : a + b < k) : cv f g k = 0 :=
  sm_zero fun i _ => by
    by_cases h : a < i
    · rw [hf i h, Int.zero_mul]
    · rw [hg _ (by omega), Int.mul_zero]
end Xp
end
section
set_option linter.all false
/-! Divisors of polynomials by a prime, by coefficients (no program in it). -/
namespace Xp
def Fi (t : Nat → Int) : Prop := ∃ n, ∀ k, n ≤ k → t k = 0
/-- d divides x by p -/
def Dv (p : Int) (d x : Nat → Int) : Prop := ∃ t, Fi t ∧ Eqm p x (cv d t)
theorem Fi.zero : Fi (fun _ => 0) := ⟨0, fun _ _ => rfl⟩
theorem Fi.add {f g : Nat → Int} (a : Fi f) (b : Fi g) : Fi (fun k => f k + g k) := by
  obtain ⟨n, ha⟩ := a
  obtain ⟨m, hb⟩ := b
  exact ⟨n + m, fun k hk => by show f k + g k = 0; rw [ha k (by omega), hb k (by omega)]; rfl⟩
theorem Fi.mul {f : Nat → Int} (c : Int) (a : Fi f) : Fi (fun k => c * f k) := by
  obtain ⟨n, ha⟩ := a
  exact ⟨n, fun k hk => by show c * f k = 0; rw [ha k hk, Int.mul_zero]⟩
theorem Fi.cv {f g : Nat → Int} (a : Fi f) (b : Fi g) : Fi (Xp.cv f g) := by
  obtain ⟨n, ha⟩ := a
  obtain ⟨m, hb⟩ := b
  exact ⟨n + m + 1, fun k hk => cv_over (a := n) (b := m) (fun i hi => ha i (by omega)) (fun i hi => hb i (by omega)) (by omega)⟩
theorem Fi.list (xs : List Int) : Fi (fun j => xs.getD j 0) := ⟨xs.length, fun k hk => by
  show xs.getD k 0 = 0
  rw [List.getD_eq_getElem?_getD, List.getElem?_eq_none hk]
  rfl⟩
theorem cv_funext {f f' g g' : Nat → Int} (hf : ∀ i, f i = f' i) (hg : ∀ i, g i = g' i) (k : Nat) : cv f g k = cv f' g' k := by
  rw [show f = f' from funext hf, show g = g' from funext hg]
theorem cv_zero (f : Nat → Int) (k : Nat) : cv f (fun _ => 0) k = 0 := sm_zero fun _ _ => Int.mul_zero _
theorem cv_zero' (f : Nat → Int) (k : Nat) : cv (fun _ => 0) f k = 0 := sm_zero fun _ _ => Int.zero_mul _
def one : Nat → Int := fun k => if k = 0 then 1 else 0
theorem cv_one' (f : Nat → Int) (k : Nat) : cv one f k = f k := by
  unfold cv
  rw [sm_head]
  show one 0 * f (k - 0) + _ = _
  rw [sm_zero (fun i _ => by show one (i + 1) * _ = 0; unfold one; rw [if_neg (by omega), Int.zero_mul])]
  unfold one
  rw [if_pos rfl, Int.one_mul, Int.add_zero, Nat.sub_zero]
theorem cv_one (f : Nat → Int) (k : Nat) : cv f one k = f k := by rw [cv_comm, cv_one']
theorem Dv.congr {p : Int} {d x y : Nat → Int} (h : Dv p d x) (e : Eqm p x y) : Dv p d y := by
  obtain ⟨t, ft, et⟩ := h
  exact ⟨t, ft, e.symm.trans et⟩
theorem Dv.add {p : Int} {d x y : Nat → Int} (a : Dv p d x) (b : Dv p d y) : Dv p d (fun k => x k + y k) := by
  obtain ⟨t, ft, et⟩ := a
  obtain ⟨u, fu, eu⟩ := b
  exact ⟨_, ft.add fu, fun k => by
    show (x k + y k) % p = cv d (fun i => t i + u i) k % p
    rw [cv_add]
    exact (et.add eu) k⟩
theorem Dv.cv {p : Int} {d x q : Nat → Int} (fq : Fi q) (a : Dv p d x) : Dv p d (Xp.cv q x) := by
  obtain ⟨t, ft, et⟩ := a
  refine ⟨Xp.cv q t, fq.cv ft, fun k => ?_⟩
  have e : Xp.cv d (Xp.cv q t) k = Xp.cv q (Xp.cv d t) k := by
    rw [← cv_assoc, ← cv_assoc]
    exact cv_funext (cv_comm d q) (fun _ => rfl) k
  rw [e]
  exact (Eqm.cv (Eqm.refl p q) et) k
theorem Dv.self (p : Int) (d : Nat → Int) : Dv p d d := ⟨one, ⟨1, fun k hk => if_neg (by omega)⟩, fun k => by rw [cv_one]⟩
theorem Dv.zero (p : Int) (d : Nat → Int) : Dv p d (fun _ => 0) := ⟨_, Fi.zero, fun k => by rw [cv_zero]⟩
theorem Dv.of (p : Int) (d : Nat → Int) {t : Nat → Int} (h : Fi t) : Dv p d (Xp.cv d t) := ⟨t, h, Eqm.refl _ _⟩
theorem Dv.trans {p : Int} {d x y : Nat → Int} (a : Dv p d x) (b : Dv p x y) : Dv p d y := by
  obtain ⟨u, fu, eu⟩ := b
  exact (a.cv fu).congr fun k => by rw [cv_comm]; exact (eu k).symm
theorem Dv.nought {p : Int} {d x : Nat → Int} (h : Dv p d x) (hd : Eqm p d (fun _ => 0)) : Eqm p x (fun _ => 0) := by
  obtain ⟨t, ft, et⟩ := h
  exact et.trans ((hd.cv (Eqm.refl p t)).trans fun k => by rw [cv_zero'])
theorem Dv.scale {p : Int} {d x : Nat → Int} (c : Int) (h : Dv p d x) : Dv p d (fun k => c * x k) := by
  obtain ⟨t, ft, et⟩ := h
  exact ⟨_, ft.mul c, fun k => by rw [cv_mul]; exact (et.mul c) k⟩
/-- a product that is shorter than its first one is nought -/
theorem short_nought {p c : Int} {g u r : Nat → Int} {d : Nat} (hc : (c * g d) % p = 1 % p) (hg : ∀ i, d < i → g i = 0) (fu : Fi u) (hr : ∀ k, d ≤ k → r k % p = 0) (e : Eqm p r (cv g u)) : Eqm p u (fun _ => 0) := by
  obtain ⟨n, hn⟩ := fu
  have key : ∀ m, ∀ k, n ≤ k + m → u k % p = 0 := by
    intro m
    induction m with
    | zero => intro k hk; rw [hn k (by omega)]; exact Int.zero_emod p
    | succ m ih =>
      intro k hk
      have e1 : Eqm p u (fun i => if i ≤ k then u i else 0) := fun i => by
        show u i % p = (if i ≤ k then u i else 0) % p
        by_cases hi : i ≤ k
        · rw [if_pos hi]
        · rw [if_neg hi, ih i (by omega), Int.zero_emod]
      have e2 := (e.trans ((Eqm.refl p g).cv e1)) (d + k)
      rw [cv_top (a := d) (b := k) hg (fun i hi => if_neg (by omega)), hr _ (by omega)] at e2
      have e3 : (g d * u k) % p = 0 := by
        rw [if_pos (Nat.le_refl k)] at e2
        exact e2.symm
      have e4 : u k % p = (c * (g d * u k)) % p := by
        rw [← Int.mul_assoc, Int.mul_emod, hc, ← Int.mul_emod, Int.one_mul]
      rw [e4, Int.mul_emod, e3, Int.mul_zero, Int.zero_emod]
  exact fun k => by rw [key n k (by omega)]; exact (Int.zero_emod p).symm
end Xp
end
section
set_option linter.all false
/-! Sums, products, powers of polynomials as things; one put into another; alike by a rule; the power to a prime of a sum (no program in it). -/
namespace Xp
abbrev Cf := Nat → Int
def ad (f g : Cf) : Cf := fun k => f k + g k
def sc (c : Int) (f : Cf) : Cf := fun k => c * f k
def nul : Cf := fun _ => 0
theorem cvC (f g : Cf) : cv f g = cv g f := funext (cv_comm f g)
theorem cvA (f g h : Cf) : cv (cv f g) h = cv f (cv g h) := funext (cv_assoc f g h)
theorem cv_ad (f g h : Cf) : cv f (ad g h) = ad (cv f g) (cv f h) := funext fun k => cv_add f g h k
theorem ad_cv (f g h : Cf) : cv (ad f g) h = ad (cv f h) (cv g h) := by rw [cvC, cv_ad, cvC h f, cvC h g]
theorem cv_sc (c : Int) (f g : Cf) : cv f (sc c g) = sc c (cv f g) := funext fun k => cv_mul c f g k
theorem sc_cv (c : Int) (f g : Cf) : cv (sc c f) g = sc c (cv f g) := by rw [cvC, cv_sc, cvC]
theorem cv1 (f : Cf) : cv f one = f := funext (cv_one f)
theorem one_cv (f : Cf) : cv one f = f := funext (cv_one' f)
theorem cv_nul (f : Cf) : cv f nul = nul := funext fun k => cv_zero f k
theorem nul_cv (f : Cf) : cv nul f = nul := funext fun k => cv_zero' f k
theorem adC (f g : Cf) : ad f g = ad g f := funext fun k => Int.add_comm _ _
theorem adA (f g h : Cf) : ad (ad f g) h = ad f (ad g h) := funext fun k => Int.add_assoc _ _ _
theorem ad_nul (f : Cf) : ad f nul = f := funext fun k => Int.add_zero _
theorem nul_ad (f : Cf) : ad nul f = f := funext fun k => Int.zero_add _
theorem sc_nul (c : Int) : sc c nul = nul := funext fun k => Int.mul_zero _
theorem sc_zero (f : Cf) : sc 0 f = nul := funext fun k => Int.zero_mul _
theorem sc_one (f : Cf) : sc 1 f = f := funext fun k => Int.one_mul _
theorem sc_ad (c : Int) (f g : Cf) : sc c (ad f g) = ad (sc c f) (sc c g) := funext fun k => Int.mul_add _ _ _
theorem ad_sc (a b : Int) (f : Cf) : sc (a + b) f = ad (sc a f) (sc b f) := funext fun k => Int.add_mul _ _ _
theorem sc_sc (a b : Int) (f : Cf) : sc (a * b) f = sc a (sc b f) := funext fun k => Int.mul_assoc _ _ _
theorem ad_neg (f : Cf) : ad f (sc (-1) f) = nul := funext fun k => by show f k + -1 * f k = 0; omega
theorem Fi.nul : Fi nul := Fi.zero
theorem Fi.one : Fi one := ⟨1, fun k hk => if_neg (by omega)⟩
theorem Fi.ad {f g : Cf} (a : Fi f) (b : Fi g) : Fi (ad f g) := Fi.add a b
theorem Fi.sc {f : Cf} (c : Int) (a : Fi f) : Fi (sc c f) := Fi.mul c a
theorem Eqm.ad {p : Int} {f f' g g' : Cf} (a : Eqm p f f') (b : Eqm p g g') : Eqm p (ad f g) (ad f' g') := Eqm.add a b
theorem Eqm.sc {p : Int} {f f' : Cf} (c : Int) (a : Eqm p f f') : Eqm p (sc c f) (sc c f') := Eqm.mul c a
theorem Eqm.sc2 {p a b : Int} (h : a % p = b % p) (f : Cf) : Eqm p (Xp.sc a f) (Xp.sc b f) := fun k => by
  show (a * f k) % p = (b * f k) % p
  rw [Int.mul_emod, h, ← Int.mul_emod]
theorem Eqm.of_eq {p : Int} {f g : Cf} (h : f = g) : Eqm p f g := by rw [h]; exact Eqm.refl p g
/-! ### powers -/
def pw (f : Cf) : Nat → Cf
  | 0 => one
  | n + 1 => cv f (pw f n)
theorem pw_one (f : Cf) : pw f 1 = f := cv1 f
theorem pw_add (f : Cf) (m : Nat) : ∀ n, pw f (m + n) = cv (pw f m) (pw f n)
  | 0 => (cv1 _).symm
  | n + 1 => by
    show cv f (pw f (m + n)) = cv (pw f m) (cv f (pw f n))
    rw [pw_add f m n, ← cvA, ← cvA, cvC f]
theorem pw_cv (f g : Cf) : ∀ n, pw (cv f g) n = cv (pw f n) (pw g n)
  | 0 => (cv1 _).symm
  | n + 1 => by
    show cv (cv f g) (pw (cv f g) n) = cv (cv f (pw f n)) (cv g (pw g n))
    rw [pw_cv f g n, cvA, cvA, ← cvA g, cvC g (pw f n), cvA (pw f n)]
theorem Fi.pw {f : Cf} (h : Fi f) : ∀ n, Fi (pw f n)
  | 0 => Fi.one
  | n + 1 => h.cv (Fi.pw h n)
theorem Eqm.pw {p : Int} {f g : Cf} (h : Eqm p f g) : ∀ n, Eqm p (pw f n) (pw g n)
  | 0 => Eqm.refl p _
  | n + 1 => h.cv (Eqm.pw h n)
/-! ### sums to the power of a prime -/
def row : Nat → List Int
  | 0 => [1]
  | n + 1 => List.zipWith (· + ·) (0 :: row n) (row n ++ [0])
def ch (n k : Nat) : Int := (row n).getD k 0
theorem zw_getD : ∀ (a b : List Int) (k : Nat), a.length = b.length → (List.zipWith (· + ·) a b).getD k 0 = a.getD k 0 + b.getD k 0
  | [], [], k, _ => rfl
  | x :: a, y :: b, 0, _ => rfl
  | x :: a, y :: b, k + 1, h => zw_getD a b k (Nat.succ.inj h)
  | [], _ :: _, _, h => by cases h
  | _ :: _, [], _, h => by cases h
theorem app_getD : ∀ (a : List Int) (k : Nat), (a ++ [0]).getD k 0 = a.getD k 0
  | [], 0 => rfl
  | [], k + 1 => rfl
  | x :: a, 0 => rfl
  | x :: a, k + 1 => app_getD a k
theorem row_len : ∀ n, (row n).length = n + 1
  | 0 => rfl
  | n + 1 => by
    unfold row
    rw [List.length_zipWith, List.length_cons, List.length_append, row_len n]
    show min (n + 1 + 1) (n + 1 + 1) = _
    omega
theorem ch_step (n k : Nat) : ch (n + 1) k = (0 :: row n).getD k 0 + ch n k := by
  unfold ch
  rw [show row (n + 1) = List.zipWith (· + ·) (0 :: row n) (row n ++ [0]) from rfl, zw_getD _ _ _ (by rw [List.length_cons, List.length_append]; rfl), app_getD]
theorem ch_succ (n k : Nat) : ch (n + 1) (k + 1) = ch n k + ch n (k + 1) := ch_step n (k + 1)
theorem ch_head (n : Nat) : ch (n + 1) 0 = ch n 0 := by
  rw [ch_step]
  exact Int.zero_add _
theorem ch_over (n : Nat) : ch n (n + 1) = 0 := by
  unfold ch
  rw [List.getD_eq_getElem?_getD, List.getElem?_eq_none (by rw [row_len]; omega)]
  rfl
theorem ch_zero : ∀ n, ch n 0 = 1
  | 0 => rfl
  | n + 1 => by rw [ch_head, ch_zero n]
theorem ch_last : ∀ n, ch n n = 1
  | 0 => rfl
  | n + 1 => by rw [ch_succ, ch_last n, ch_over]; rfl
theorem cv_sm (f : Cf) (F : Nat → Cf) (k : Nat) : ∀ n, cv f (fun j => sm n fun i => F i j) k = sm n fun i => cv f (F i) k
  | 0 => cv_zero f k
  | n + 1 => by
    show cv f (fun j => (fun j => sm n fun i => F i j) j + F n j) k = _
    rw [cv_add, cv_sm f F k n]
    rfl
theorem binom (f g : Cf) : ∀ n k, pw (ad f g) n k = sm (n + 1) fun i => ch n i * cv (pw f i) (pw g (n - i)) k
  | 0, k => by
    show one k = 0 + ch 0 0 * cv one one k
    rw [cv1, ch_zero, Int.one_mul, Int.zero_add]
  | n + 1, k => by
    have ih : pw (ad f g) n = fun j => sm (n + 1) fun i => ch n i * cv (pw f i) (pw g (n - i)) j := funext (binom f g n)
    show cv (ad f g) (pw (ad f g) n) k = _
    rw [ad_cv]
    show cv f (pw (ad f g) n) k + cv g (pw (ad f g) n) k = _
    have c : ∀ q : Cf, cv q (fun j => sm (n + 1) fun i => ch n i * cv (pw f i) (pw g (n - i)) j) k = sm (n + 1) fun i => cv q (sc (ch n i) (cv (pw f i) (pw g (n - i)))) k := fun q => cv_sm q (fun i => sc (ch n i) (cv (pw f i) (pw g (n - i)))) k (n + 1)
    rw [ih, c f, c g]
    have e1 : (sm (n + 1) fun i => cv f (sc (ch n i) (cv (pw f i) (pw g (n - i)))) k) = sm (n + 1) fun i => ch n i * cv (pw f (i + 1)) (pw g (n + 1 - (i + 1))) k := sm_congr fun i hi => by
      rw [cv_sc, ← cvA, show n + 1 - (i + 1) = n - i by omega]
      rfl
    have e2 : (sm (n + 1) fun i => cv g (sc (ch n i) (cv (pw f i) (pw g (n - i)))) k) = sm (n + 1) fun i => ch n i * cv (pw f i) (pw g (n + 1 - i)) k := sm_congr fun i hi => by
      rw [cv_sc, show n + 1 - i = (n - i) + 1 by omega, show pw g (n - i + 1) = cv g (pw g (n - i)) from rfl, ← cvA, cvC g, cvA]
      rfl
    rw [e1, e2, sm_head _ (n + 1)]
    have e3 : (sm (n + 1) fun i => ch (n + 1) (i + 1) * cv (pw f (i + 1)) (pw g (n + 1 - (i + 1))) k) = (sm (n + 1) fun i => ch n i * cv (pw f (i + 1)) (pw g (n + 1 - (i + 1))) k) + sm (n + 1) fun i => ch n (i + 1) * cv (pw f (i + 1)) (pw g (n + 1 - (i + 1))) k := by
      rw [← sm_add]
      exact sm_congr fun i _ => by rw [ch_succ, Int.add_mul]
    have e4 : (sm (n + 1) fun i => ch n i * cv (pw f i) (pw g (n + 1 - i)) k) = ch n 0 * cv (pw f 0) (pw g (n + 1 - 0)) k + sm (n + 1) fun i => ch n (i + 1) * cv (pw f (i + 1)) (pw g (n + 1 - (i + 1))) k := by
      rw [← sm_head (fun i => ch n i * cv (pw f i) (pw g (n + 1 - i)) k) (n + 1)]
      show _ = sm (n + 1) _ + ch n (n + 1) * _
      rw [ch_over, Int.zero_mul, Int.add_zero]
    rw [e3, e4, ch_head]
    omega
/-- a sum to the power of a prime -/
theorem frob {p : Nat} (hp : 2 ≤ p) (h : ∀ k, 0 < k → k < p → ch p k % (p : Int) = 0) (f g : Cf) : Eqm p (pw (ad f g) p) (ad (pw f p) (pw g p)) := fun k => by
  obtain ⟨q, rfl⟩ : ∃ q, p = q + 1 + 1 := ⟨p - 2, by omega⟩
  rw [binom]
  show (sm (q + 1 + 1) _ + ch (q + 1 + 1) (q + 1 + 1) * _) % _ = _
  rw [sm_head, ch_zero, ch_last, Int.one_mul, Int.one_mul]
  have mid : (sm (q + 1) fun i => ch (q + 1 + 1) (i + 1) * cv (pw f (i + 1)) (pw g (q + 1 + 1 - (i + 1))) k) % ((q + 1 + 1 : Nat) : Int) = 0 := by
    have : ∀ n, n ≤ q + 1 → (sm n fun i => ch (q + 1 + 1) (i + 1) * cv (pw f (i + 1)) (pw g (q + 1 + 1 - (i + 1))) k) % ((q + 1 + 1 : Nat) : Int) = 0 := by
      intro n
      induction n with
      | zero => intro _; exact Int.zero_emod _
      | succ n ih =>
        intro hn
        show (sm n _ + _ * _) % _ = 0
        rw [Int.add_emod, ih (by omega), Int.mul_emod, h (n + 1) (by omega) (by omega), Int.zero_mul, Int.zero_emod]
        rfl
    exact this _ (Nat.le_refl _)
  have e : pw f 0 = one := rfl
  rw [e, one_cv, Nat.sub_zero, Nat.sub_self, show pw g 0 = one from rfl, cv1]
  show _ = (pw f (q + 1 + 1) k + pw g (q + 1 + 1) k) % _
  rw [show ∀ a b c : Int, a + b + c = b + (c + a) from fun a b c => by omega, Int.add_emod, mid, Int.zero_add, Int.emod_emod]
def rowOk (p : Nat) : Bool := (List.range (p - 1)).all fun k => ((row p).getD (k + 1) 0) % (p : Int) == 0
theorem rowOk_ok {p : Nat} (h : rowOk p = true) : ∀ k, 0 < k → k < p → ch p k % (p : Int) = 0 := fun k h0 h1 => by
  have z := List.all_eq_true.mp h (k - 1) (List.mem_range.mpr (by omega))
  rw [show k - 1 + 1 = k by omega] at z
  exact eq_of_beq z
theorem rows_ok : ([2, 3, 5, 7, 11, 13, 17, 19, 23, 29, 31, 37, 41, 43, 47, 53, 59, 61, 67, 71, 73, 79, 83, 89, 97] : List Nat).all rowOk = true := by decide +kernel
/-! ### one put into another -/
def sh (f : Cf) : Cf := fun k => f (k + 1)
def xs (h : Cf) : Cf
  | 0 => 0
  | k + 1 => h k
def hor (o : Cf) : Nat → Cf → Cf
  | 0, _ => nul
  | n + 1, f => ad (sc (f 0) one) (cv o (hor o n (sh f)))
theorem hor_ad (o : Cf) : ∀ n f g, hor o n (ad f g) = ad (hor o n f) (hor o n g)
  | 0, f, g => (ad_nul nul).symm
  | n + 1, f, g => by
    show ad (sc (f 0 + g 0) one) (cv o (hor o n (ad (sh f) (sh g)))) = ad (ad (sc (f 0) one) (cv o (hor o n (sh f)))) (ad (sc (g 0) one) (cv o (hor o n (sh g))))
    rw [hor_ad o n, ad_sc, cv_ad]
    generalize sc (f 0) one = a
    generalize sc (g 0) one = b
    generalize cv o (hor o n (sh f)) = c
    generalize cv o (hor o n (sh g)) = d
    exact funext fun k => by show (a k + b k) + (c k + d k) = (a k + c k) + (b k + d k); omega
theorem hor_sc (o : Cf) (c : Int) : ∀ n f, hor o n (sc c f) = sc c (hor o n f)
  | 0, f => (sc_nul c).symm
  | n + 1, f => by
    show ad (sc (c * f 0) one) (cv o (hor o n (sc c (sh f)))) = sc c (ad (sc (f 0) one) (cv o (hor o n (sh f))))
    rw [hor_sc o c n, sc_ad, sc_sc, cv_sc]
theorem hor_nul (o : Cf) : ∀ n, hor o n nul = nul
  | 0 => rfl
  | n + 1 => by
    show ad (sc 0 one) (cv o (hor o n nul)) = nul
    rw [hor_nul o n, sc_zero, cv_nul, ad_nul]
theorem hor_ext (o : Cf) : ∀ n f, (∀ k, n ≤ k → f k = 0) → ∀ d, hor o (n + d) f = hor o n f
  | 0, f, h, d => by
    rw [show f = nul from funext fun k => h k (Nat.zero_le _), hor_nul, hor_nul]
  | n + 1, f, h, d => by
    rw [show n + 1 + d = (n + d) + 1 by omega]
    show ad _ (cv o (hor o (n + d) (sh f))) = ad _ (cv o (hor o n (sh f)))
    rw [hor_ext o n (sh f) (fun k hk => h (k + 1) (by omega)) d]
theorem hor_eqm {p : Int} (o : Cf) : ∀ n {f g : Cf}, Eqm p f g → Eqm p (hor o n f) (hor o n g)
  | 0, f, g, h => Eqm.refl p _
  | n + 1, f, g, h => (Eqm.sc2 (h 0) one).ad ((Eqm.refl p o).cv (hor_eqm o n fun k => h (k + 1)))
theorem Fi.hor {o : Cf} (ho : Fi o) : ∀ n f, Fi (hor o n f)
  | 0, f => Fi.nul
  | n + 1, f => ((Fi.one).sc _).ad (ho.cv (Fi.hor ho n _))
theorem cv_head (f g : Cf) : cv f g = ad (sc (f 0) g) (xs (cv (sh f) g)) := funext fun k => by
  show sm (k + 1) (fun i => f i * g (k - i)) = f 0 * g k + xs (cv (sh f) g) k
  rw [sm_head]
  show f 0 * g (k - 0) + _ = _
  rw [Nat.sub_zero]
  congr 1
  cases k with
  | zero => rfl
  | succ k =>
    show sm (k + 1) _ = sm (k + 1) _
    exact sm_congr fun i hi => by
      show f (i + 1) * g (k + 1 - (i + 1)) = f (i + 1) * g (k - i)
      rw [show k + 1 - (i + 1) = k - i by omega]
theorem hor_xs (o : Cf) (n : Nat) (h : Cf) : hor o (n + 1) (xs h) = cv o (hor o n h) := by
  show ad (sc 0 one) (cv o (hor o n (sh (xs h)))) = _
  rw [sc_zero, nul_ad]
  rfl
theorem hor_cv (o : Cf) : ∀ n f, (∀ k, n ≤ k → f k = 0) → ∀ g m, (∀ k, m ≤ k → g k = 0) → hor o (n + m) (cv f g) = cv (hor o n f) (hor o m g)
  | 0, f, h, g, m, hg => by
    rw [show f = nul from funext fun k => h k (Nat.zero_le _), nul_cv, hor_nul]
    exact (nul_cv _).symm
  | n + 1, f, h, g, m, hg => by
    rw [cv_head, hor_ad, hor_sc, show n + 1 + m = m + (n + 1) by omega, hor_ext o m g hg (n + 1), show m + (n + 1) = (n + m) + 1 by omega, hor_xs, hor_cv o n (sh f) (fun k hk => h (k + 1) (by omega)) g m hg]
    show _ = cv (ad (sc (f 0) one) (cv o (hor o n (sh f)))) (hor o m g)
    rw [ad_cv, sc_cv, one_cv, cvA]
/-! ### alike by a rule -/
def Cg (p : Int) (r f g : Cf) : Prop := Dv p r (ad f (sc (-1) g))
theorem Cg.of {p : Int} {r f g : Cf} (h : Eqm p f g) : Cg p r f g := (Dv.zero p r).congr fun k => by
  have e := h k
  show 0 % p = (f k + -1 * g k) % p
  rw [show f k + -1 * g k = f k - g k by omega, Int.sub_emod, e, Int.sub_self]
theorem Cg.refl (p : Int) (r f : Cf) : Cg p r f f := Cg.of (Eqm.refl p f)
theorem Cg.symm {p : Int} {r f g : Cf} (h : Cg p r f g) : Cg p r g f := (h.scale (-1)).congr fun k => by
  show (-1 * (f k + -1 * g k)) % p = (g k + -1 * f k) % p
  congr 1
  omega
theorem Cg.trans {p : Int} {r f g h : Cf} (a : Cg p r f g) (b : Cg p r g h) : Cg p r f h := (a.add b).congr fun k => by
  show ((f k + -1 * g k) + (g k + -1 * h k)) % p = (f k + -1 * h k) % p
  congr 1
  omega
theorem Cg.ad {p : Int} {r f g f' g' : Cf} (a : Cg p r f f') (b : Cg p r g g') : Cg p r (ad f g) (Xp.ad f' g') := (a.add b).congr fun k => by
  show ((f k + -1 * f' k) + (g k + -1 * g' k)) % p = ((f k + g k) + -1 * (f' k + g' k)) % p
  congr 1
  omega
theorem Cg.sc {p : Int} {r f g : Cf} (c : Int) (a : Cg p r f g) : Cg p r (sc c f) (Xp.sc c g) := (a.scale c).congr fun k => by
  show (c * (f k + -1 * g k)) % p = (c * f k + -1 * (c * g k)) % p
  rw [Int.mul_add, ← Int.mul_assoc, ← Int.mul_assoc, Int.mul_comm c (-1)]
theorem Cg.cv {p : Int} {r f g f' g' : Cf} (a : Cg p r f f') (b : Cg p r g g') (h1 : Fi g) (h2 : Fi f') : Cg p r (cv f g) (Xp.cv f' g') := by
  have x := Dv.cv h1 a
  have y := Dv.cv h2 b
  rw [cv_ad, cv_sc] at x y
  refine (Dv.add x y).congr fun k => ?_
  show ((Xp.cv g f k + -1 * Xp.cv g f' k) + (Xp.cv f' g k + -1 * Xp.cv f' g' k)) % p = (Xp.cv f g k + -1 * Xp.cv f' g' k) % p
  rw [cv_comm g f, cv_comm g f']
  congr 1
  omega
theorem Cg.pw {p : Int} {r f g : Cf} (h : Cg p r f g) (hf : Fi f) (hg : Fi g) : ∀ n, Cg p r (pw f n) (Xp.pw g n)
  | 0 => Cg.refl p r _
  | n + 1 => h.cv (Cg.pw h hf hg n) (hf.pw n) hg
theorem Cg.dv {p : Int} {r f g : Cf} (h : Cg p r f g) (d : Dv p r g) : Dv p r f := (h.add d).congr fun k => by
  show (f k + -1 * g k + g k) % p = f k % p
  congr 1
  omega
end Xp
end
section
set_option Elab.async false
set_option linter.all false
set_option maxRecDepth 100000
set_option maxHeartbeats 4000000
namespace Xk
open PySem PySem.Spec PyProof.Rows L2 Xh LamX NdefX
/-- the rows' sum is the product's coefficient -/
theorem ou_sm (xs ys : List Int) (k : Nat) : ∀ n, Ou xs ys n k = Xp.sm n fun i => if i ≤ k then xs.getD i 0 * ys.getD (k - i) 0 else 0
  | 0 => rfl
  | n + 1 => by
    rw [Ou_succ, ou_sm xs ys k n]
    show _ = Xp.sm n _ + (if n ≤ k then xs.getD n 0 * ys.getD (k - n) 0 else 0)
    congr 1
    by_cases h : n ≤ k
    · rw [if_pos h]
      by_cases h2 : k < n + ys.length
      · rw [if_pos ⟨h, h2⟩]
      · rw [if_neg (fun z => h2 z.2), getD_over (a := ys) (by omega), Int.mul_zero]
    · rw [if_neg h, if_neg (fun z => h z.1)]
theorem cvf_cv (xs ys : List Int) (k : Nat) : cvf xs ys k = Xp.cv (fun j => xs.getD j 0) (fun j => ys.getD j 0) k := by
  have a : cvf xs ys k = Xp.sm (xs.length + (k + 1)) fun i => if i ≤ k then xs.getD i 0 * ys.getD (k - i) 0 else 0 := by
    rw [Xp.sm_ext (fun i hi => by rw [getD_over (a := xs) hi, Int.zero_mul]; split <;> rfl)]
    exact ou_sm xs ys k _
  rw [a, Nat.add_comm, Xp.sm_ext (fun i hi => if_neg (by omega))]
  exact Xp.sm_congr fun i hi => if_pos (by omega)
end Xk
end
section
set_option Elab.async false
set_option linter.all false
set_option maxRecDepth 100000
set_option maxHeartbeats 4000000
namespace Xk
open PySem PySem.Spec PyProof.Rows L2 Xh LamX NdefX
/-! ### Euclid's turns -/
abbrev co (xs : List Int) : Nat → Int := fun j => xs.getD j 0
theorem fm_em {x p : Int} (h : 0 < p) : x.fmod p = x % p := Int.fmod_eq_emod_of_nonneg _ (by omega)
theorem eqm_of {p : Int} {f : Nat → Int} {n : Nat} {ms : List Int} (hp : 0 < p) (x : Is (fun j => (f j).fmod p) n ms) : Xp.Eqm p (co ms) f := fun k => by
  show ms.getD k 0 % p = f k % p
  rw [x.at_, fm_em hp, Int.emod_emod]
theorem rs_of {p : Int} {f : Nat → Int} {n : Nat} {ms : List Int} (hp : Pm p) (x : Is (fun j => (f j).fmod p) n ms) : Rs p ms := fm_rs hp x.at_
theorem nil_of {p : Int} {ms : List Int} (r : Rs p ms) (t : trim ms = ms) (e : Xp.Eqm p (co ms) (fun _ => 0)) : ms = [] := by
  rw [← t]
  refine trim_nil fun i => ?_
  have z : ms.getD i 0 % p = 0 % p := e i
  obtain ⟨a, b⟩ := r i
  rw [Int.zero_emod, Int.emod_eq_of_lt a b] at z
  exact z
theorem list_of {p : Int} {ms ns : List Int} (r : Rs p ms) (t : trim ms = ms) (r2 : Rs p ns) (t2 : trim ns = ns) (e : Xp.Eqm p (co ms) (co ns)) : ms = ns := by
  rw [← t, ← t2]
  refine trim_congr _ _ fun i => ?_
  have z : ms.getD i 0 % p = ns.getD i 0 % p := e i
  obtain ⟨a, b⟩ := r i
  obtain ⟨c, d⟩ := r2 i
  rw [Int.emod_eq_of_lt a b, Int.emod_eq_of_lt c d] at z
  exact z
theorem cv_eqm (p : Int) (xs ys : List Int) : Xp.Eqm p (cvf xs ys) (Xp.cv (co xs) (co ys)) := fun k => by rw [cvf_cv]
theorem Div.eqm {p : Int} {xs ys qs rs : List Int} (d : Div p xs ys qs rs) (hp : Pm p) (rx : Rs p xs) : Xp.Eqm p (co xs) (fun k => Xp.cv (co qs) (co ys) k + co rs k) := fun k => by
  have e := d.eq hp rx k
  show xs.getD k 0 % p = (Xp.cv (co qs) (co ys) k + rs.getD k 0) % p
  rw [← e, fm_em hp.pos, fm_em hp.pos, Int.emod_emod, Int.one_mul, Int.emod_add_emod, cvf_cv]
theorem Div.rs_r {p : Int} {xs ys qs rs : List Int} (d : Div p xs ys qs rs) (hp : Pm p) (rx : Rs p xs) : Rs p rs := fun j => by
  rw [d.r.at_]
  exact Lf_rs hp.pos rx _ _
/-- what divides without a rest -/
theorem rem_nil {p : Int} {xs ys qs rs : List Int} (d : Div p xs ys qs rs) (y : Dsr p ys) (rx : Rs p xs) (h : Xp.Dv p (co ys) (co xs)) : rs = [] := by
  have hp := pm_of y.pr
  obtain ⟨t, ft, et⟩ := h
  have e := d.eqm hp rx
  have er : Xp.Eqm p (co rs) (Xp.cv (co ys) (fun k => t k + (-1) * co qs k)) := fun k => by
    have e1 := e k
    have e2 := et k
    rw [Xp.cv_add, Xp.cv_mul, Xp.cv_comm (co ys) (co qs)]
    show co rs k % p = (Xp.cv (co ys) t k + (-1) * Xp.cv (co qs) (co ys) k) % p
    have e3 : (Xp.cv (co qs) (co ys) k + co rs k) % p = Xp.cv (co ys) t k % p := e1.symm.trans e2
    rw [show co rs k = (Xp.cv (co qs) (co ys) k + co rs k) + (-1) * Xp.cv (co qs) (co ys) k by omega, Int.add_emod, e3, ← Int.add_emod]
  obtain ⟨l, P, hl, hP, P2, P3, lP, _, _, _, ec, _⟩ := y.last
  rw [fm_em hp.pos] at ec
  have ypos := y.pos
  have less := d.less y
  have z := Xp.short_nought (p := p) (c := scl ys p) (g := co ys) (d := ys.length - 1) (by rw [ec]; exact (Int.emod_eq_of_lt (by decide) (by have := hp.lo; omega)).symm) (fun i hi => getD_over (by omega)) (ft.add ((Xp.Fi.list qs).mul (-1))) (fun k hk => by show rs.getD k 0 % p = 0; rw [getD_over (by omega)]; exact Int.zero_emod p) er
  exact nil_of (d.rs_r hp rx) d.r.tr (er.trans (((Xp.Eqm.refl p (co ys)).cv z).trans fun k => by rw [Xp.cv_zero]))
structure Po (p : Int) (xs : List Int) (n : Nat) : Prop where
  rs : Rs p xs
  tr : trim xs = xs
  len : xs.length ≤ n
/-- what stands while Euclid's turns go on -/
structure Eu (p : Int) (a b h hf hs l lf ls : List Int) : Prop where
  ph : Po p h 25
  pl : Po p l b.length
  f1 : Po p hf 26
  f2 : Po p hs 26
  g1 : Po p lf 26
  g2 : Po p ls 26
  bh : Xp.Eqm p (co h) (fun k => Xp.cv (co hf) (co a) k + Xp.cv (co hs) (co b) k)
  bl : Xp.Eqm p (co l) (fun k => Xp.cv (co lf) (co a) k + Xp.cv (co ls) (co b) k)
  dv : ∀ d, Xp.Dv p d (co h) → Xp.Dv p d (co l) → Xp.Dv p d (co a) ∧ Xp.Dv p d (co b)
  n1 : lf = [] ∨ lf.length + h.length ≤ b.length + 1
  n2 : hf.length + l.length ≤ b.length + 1
  n3 : ls = [] ∨ ls.length + h.length ≤ a.length + 1
  n4 : hs = [] ∨ hs.length + l.length ≤ a.length + 1
theorem po_nil (p : Int) (n : Nat) (h : 0 < p) : Po p [] n := ⟨Rs.nil p h, rfl, Nat.zero_le _⟩
theorem po_one {p : Int} (h : Pm p) {n : Nat} (hn : 1 ≤ n) : Po p [1] n := ⟨(Rs.nil p h.pos).add (by decide) (by have := h.lo; omega), rfl, hn⟩
theorem co_nil (k : Nat) : co [] k = 0 := rfl
theorem co_one : ∀ k : Nat, co [1] k = Xp.one k
  | 0 => rfl
  | k + 1 => rfl
theorem eqv_fun {p : Int} {f g : Nat → Int} (h : ∀ k, f k = g k) : Xp.Eqm p f g := fun k => by rw [h k]
theorem Eu.init {p : Int} {a b : List Int} (hp : Pm p) (ha : Po p a 25) (hb : Po p b 25) : Eu p a b a [1] [] b [] [1] where
  ph := ha
  pl := ⟨hb.rs, hb.tr, Nat.le_refl _⟩
  f1 := po_one hp (by decide)
  f2 := po_nil p _ hp.pos
  g1 := po_nil p _ hp.pos
  g2 := po_one hp (by decide)
  bh := eqv_fun fun k => by rw [show co [1] = Xp.one from funext co_one, Xp.cv_one', show co [] = fun _ => 0 from rfl, Xp.cv_zero', Int.add_zero]
  bl := eqv_fun fun k => by rw [show co [1] = Xp.one from funext co_one, Xp.cv_one', show co [] = fun _ => 0 from rfl, Xp.cv_zero', Int.zero_add]
  dv := fun d h1 h2 => ⟨h1, h2⟩
  n1 := .inl rfl
  n2 := by show 1 + b.length ≤ b.length + 1; omega
  n3 := .inr (by show 1 + a.length ≤ a.length + 1; omega)
  n4 := .inl rfl
theorem times_len {p : Int} {xs ys ms : List Int} {n : Nat} (x : Is (fun j => (cvf xs ys j).fmod p) n ms) : ms = [] ∨ (xs ≠ [] ∧ ys ≠ [] ∧ ms.length + 1 ≤ xs.length + ys.length) := by
  by_cases hx : xs = []
  · subst hx
    exact .inl (by
      rw [← x.tr]
      refine trim_nil fun i => ?_
      rw [x.at_]
      show (Ou [] ys 0 i).fmod p = 0
      exact Int.zero_fmod p)
  · by_cases hy : ys = []
    · subst hy
      exact .inl (by
        rw [← x.tr]
        refine trim_nil fun i => ?_
        rw [x.at_, cvf, Ou_nil]
        exact Int.zero_fmod p)
    · have lx : 0 < xs.length := List.length_pos_iff.mpr hx
      have ly : 0 < ys.length := List.length_pos_iff.mpr hy
      refine .inr ⟨hx, hy, ?_⟩
      have z := x.short (m := xs.length + ys.length - 1) (fun k hk => by
        show (cvf xs ys k).fmod p = 0
        rw [cvf_cv, Xp.cv_over (a := xs.length - 1) (b := ys.length - 1) (fun i hi => getD_over (by omega)) (fun i hi => getD_over (by omega)) (by omega)]
        exact Int.zero_fmod p)
      omega
theorem minus_len {p : Int} {xs ys ms : List Int} {n : Nat} (x : Is (fun j => (xs.getD j 0 + (p - 1) * ys.getD j 0).fmod p) n ms) : ms.length ≤ max xs.length ys.length := x.short fun k hk => by
  show (xs.getD k 0 + (p - 1) * ys.getD k 0).fmod p = 0
  rw [getD_over (a := xs) (by omega), getD_over (a := ys) (by omega), Int.mul_zero]
  exact Int.zero_fmod p
/-- one of the two rows that go with the rests -/
theorem row_step {p : Int} (hp : Pm p) {a b x y u v qs m1 m2 n1 n2 h l r : List Int} {i1 i2 j1 j2 : Nat}
    (bh : Xp.Eqm p (co h) (fun k => Xp.cv (co x) (co a) k + Xp.cv (co y) (co b) k)) (bl : Xp.Eqm p (co l) (fun k => Xp.cv (co u) (co a) k + Xp.cv (co v) (co b) k))
    (e : Xp.Eqm p (co h) (fun k => Xp.cv (co qs) (co l) k + co r k)) (e1 : Is (fun j => (cvf qs u j).fmod p) i1 m1) (e2 : Is (fun j => (cvf qs v j).fmod p) i2 m2)
    (f1 : Is (fun j => (x.getD j 0 + (p - 1) * m1.getD j 0).fmod p) j1 n1) (f2 : Is (fun j => (y.getD j 0 + (p - 1) * m2.getD j 0).fmod p) j2 n2) :
    Xp.Eqm p (co r) (fun k => Xp.cv (co n1) (co a) k + Xp.cv (co n2) (co b) k) := by
  have g : ∀ {x m u n : List Int} {i j : Nat}, Is (fun j => (cvf qs u j).fmod p) i m → Is (fun j => (x.getD j 0 + (p - 1) * m.getD j 0).fmod p) j n → Xp.Eqm p (co n) (fun k => co x k + (-1) * Xp.cv (co qs) (co u) k) := fun {x m u n i j} e f k => by
    have z1 := eqm_of hp.pos f k
    have z2 := (eqm_of hp.pos e).trans (cv_eqm p qs u) k
    rw [z1]
    show (x.getD k 0 + (p - 1) * m.getD k 0) % p = _
    have z3 : ((p - 1) * m.getD k 0) % p = ((-1) * Xp.cv (co qs) (co u) k) % p := by
      have z2' : m.getD k 0 % p = Xp.cv (co qs) (co u) k % p := z2
      rw [show (p - 1) * m.getD k 0 = (-1) * m.getD k 0 + m.getD k 0 * p by rw [Int.sub_mul, Int.mul_comm p]; omega, Int.add_mul_emod_self_right, Int.mul_emod, z2', ← Int.mul_emod]
    rw [Int.add_emod, z3, ← Int.add_emod]
  have w : ∀ {x m u n c : List Int} {i j : Nat}, Is (fun j => (cvf qs u j).fmod p) i m → Is (fun j => (x.getD j 0 + (p - 1) * m.getD j 0).fmod p) j n → Xp.Eqm p (Xp.cv (co n) (co c)) (fun k => Xp.cv (co x) (co c) k + (-1) * Xp.cv (co qs) (Xp.cv (co u) (co c)) k) := fun {x m u n c i j} e f => by
    refine ((g e f).cv (Xp.Eqm.refl p (co c))).trans (eqv_fun fun k => ?_)
    rw [Xp.cv_comm, Xp.cv_add, Xp.cv_mul, Xp.cv_comm, Xp.cv_comm (co c), Xp.cv_assoc]
  have s : Xp.Eqm p (fun k => Xp.cv (co n1) (co a) k + Xp.cv (co n2) (co b) k) (fun k => co h k + (-1) * Xp.cv (co qs) (co l) k) := by
    refine ((w e1 f1).add (w e2 f2)).trans ?_
    have t : Xp.Eqm p (fun k => co h k + (-1) * Xp.cv (co qs) (co l) k) (fun k => (Xp.cv (co x) (co a) k + Xp.cv (co y) (co b) k) + (-1) * Xp.cv (co qs) (fun k => Xp.cv (co u) (co a) k + Xp.cv (co v) (co b) k) k) := bh.add (((Xp.Eqm.refl p (co qs)).cv bl).mul (-1))
    refine Xp.Eqm.trans (eqv_fun fun k => ?_) t.symm
    rw [Xp.cv_add]
    generalize Xp.cv (co x) (co a) k = A
    generalize Xp.cv (co y) (co b) k = B
    generalize Xp.cv (co qs) (Xp.cv (co u) (co a)) k = C
    generalize Xp.cv (co qs) (Xp.cv (co v) (co b)) k = D
    omega
  refine Xp.Eqm.trans (fun k => ?_) s.symm
  have z : co h k % p = (Xp.cv (co qs) (co l) k + co r k) % p := e k
  show co r k % p = (co h k + (-1) * Xp.cv (co qs) (co l) k) % p
  rw [Int.add_emod, z, ← Int.add_emod]
  congr 1
  omega
theorem Eu.step {p : Int} {a b h hf hs l lf ls qs r m1 m2 n1 n2 : List Int} (hp : Pm p) (E : Eu p a b h hf hs l lf ls) (dl : Dsr p l) (la : a.length ≤ 25) (lb : b.length ≤ 25) (d : Div p h l qs r)
    {i1 i2 j1 j2 : Nat} (e1 : Is (fun j => (cvf qs lf j).fmod p) i1 m1) (e2 : Is (fun j => (cvf qs ls j).fmod p) i2 m2) (f1 : Is (fun j => (hf.getD j 0 + (p - 1) * m1.getD j 0).fmod p) j1 n1) (f2 : Is (fun j => (hs.getD j 0 + (p - 1) * m2.getD j 0).fmod p) j2 n2) :
    Eu p a b l lf ls r n1 n2 := by
  have less := d.less dl
  have lr : r.length ≤ h.length := d.r.len
  have lq : qs.length ≤ stp h l := d.q.len
  have lq2 : stp h l = h.length + 1 - l.length := rfl
  have e := d.eqm hp E.ph.rs
  have lpos := dl.pos
  have ll := E.pl.len
  have z1 := times_len e1
  have z2 := times_len e2
  have y1 := minus_len f1
  have y2 := minus_len f2
  have A := E.n1
  have B := E.n2
  have C := E.n3
  have D := E.n4
  have nl : ∀ {xs : List Int}, xs = [] → xs.length = 0 := fun h => by rw [h]; rfl
  have npos : ∀ {xs : List Int}, xs ≠ [] → 0 < xs.length := fun h => List.length_pos_iff.mpr h
  have k1 : n1.length + l.length ≤ b.length + 1 := by
    rcases z1 with z1 | ⟨q1, q2, q3⟩
    · have := nl z1
      omega
    · have := npos q1
      have := npos q2
      rcases A with A | A
      · exact absurd A q2
      · omega
  have k2 : n2 = [] ∨ n2.length + l.length ≤ a.length + 1 := by
    rcases z2 with z2 | ⟨q1, q2, q3⟩
    · have w := nl z2
      rcases D with D | D
      · have w2 := nl D
        exact .inl (List.length_eq_zero_iff.mp (by omega))
      · exact .inr (by omega)
    · have := npos q1
      have := npos q2
      rcases C with C | C
      · exact absurd C q2
      rcases D with D | D
      · have w2 := nl D
        exact .inr (by omega)
      · exact .inr (by omega)
  have k2' : n2.length ≤ 26 := by
    rcases k2 with k | k
    · rw [nl k]; omega
    · omega
  have k3 : lf.length + r.length ≤ b.length + 1 := by
    rcases A with A | A
    · rw [nl A]; omega
    · omega
  have k5 : ls = [] ∨ ls.length + r.length ≤ a.length + 1 := by
    rcases C with C | C
    · exact .inl C
    · exact .inr (by omega)
  exact ⟨⟨E.pl.rs, E.pl.tr, by omega⟩, ⟨d.rs_r hp E.ph.rs, d.r.tr, by omega⟩, E.g1, E.g2, ⟨rs_of hp f1, f1.tr, by omega⟩, ⟨rs_of hp f2, f2.tr, k2'⟩, E.bl, row_step hp E.bh E.bl e e1 e2 f1 f2,
    fun t h1 h2 => E.dv t (((h1.cv (Xp.Fi.list qs)).add h2).congr e.symm) h1, .inr k1, k3, k2, k5⟩
/-- the told three -/
structure Cm (p : Int) (a b g gf gs : List Int) : Prop where
  pg : Po p g 25
  pf : Po p gf 26
  ps : Po p gs 26
  made : Xp.Eqm p (co g) (fun k => Xp.cv (co gf) (co a) k + Xp.cv (co gs) (co b) k)
  dva : Xp.Dv p (co g) (co a)
  dvb : Xp.Dv p (co g) (co b)
  lev : g = [] ∨ (0 < g.length ∧ g.getD (g.length - 1) 0 = 1)
  nil : g = [] → a = [] ∧ b = []
theorem Eu.end_nil {p : Int} {a b hf hs lf ls : List Int} (E : Eu p a b [] hf hs [] lf ls) (ha : Po p a 25) (hb : Po p b 25) : Cm p a b [] hf hs := by
  obtain ⟨d1, d2⟩ := E.dv (co []) (Xp.Dv.self p _) (Xp.Dv.zero p _)
  have ea : a = [] := nil_of ha.rs ha.tr (d1.nought (Xp.Eqm.refl p _))
  have eb : b = [] := nil_of hb.rs hb.tr (d2.nought (Xp.Eqm.refl p _))
  exact ⟨E.ph, E.f1, E.f2, E.bh, d1, d2, .inl rfl, fun _ => ⟨ea, eb⟩⟩
theorem scale_is {p s : Int} (hp : Pm p) {xs ms : List Int} {n : Nat} (x : Is (fun j => (xs.getD j 0 * s).fmod p) n ms) : Xp.Eqm p (co ms) (fun k => s * co xs k) := (eqm_of hp.pos x).trans (eqv_fun fun k => Int.mul_comm _ _)
theorem Eu.end_some {p : Int} {a b h hf hs lf ls g gf gs : List Int} {i j k : Nat} (hp : Pm p) (E : Eu p a b h hf hs [] lf ls) (dh : Dsr p h)
    (x : Is (fun j => (h.getD j 0 * scl h p).fmod p) i g) (y : Is (fun j => (hf.getD j 0 * scl h p).fmod p) j gf) (z : Is (fun j => (hs.getD j 0 * scl h p).fmod p) k gs) (hi : i ≤ 25) (hj : j ≤ 26) (hk : k ≤ 26) : Cm p a b g gf gs := by
  obtain ⟨d1, d2⟩ := E.dv (co h) (Xp.Dv.self p _) (Xp.Dv.zero p _)
  obtain ⟨l, P, hl, hP, P2, P3, lP, _, _, _, ec, _⟩ := dh.last
  have hpos := dh.pos
  have top : g.getD (h.length - 1) 0 = 1 := by
    rw [x.at_, Int.mul_comm]
    exact ec
  have gl : g.length ≤ h.length := x.short fun k hk => by
    show (h.getD k 0 * scl h p).fmod p = 0
    rw [getD_over hk, Int.zero_mul]
    exact Int.zero_fmod p
  have gl2 : h.length ≤ g.length := by
    rcases Nat.lt_or_ge g.length h.length with q | q
    · exfalso
      rw [getD_over (by omega)] at top
      exact absurd top (by decide)
    · exact q
  have el : g.length = h.length := Nat.le_antisymm gl gl2
  -- h is what g times its last rest leaves
  have hg : Xp.Eqm p (co h) (fun k => co h (h.length - 1) * co g k) := fun k => by
    have e1 := scale_is hp x k
    have e2 : (scl h p * co h (h.length - 1)) % p = 1 := by
      rw [← fm_em hp.pos]
      exact ec
    show co h k % p = (co h (h.length - 1) * co g k) % p
    rw [Int.mul_emod, e1, ← Int.mul_emod, ← Int.mul_assoc, Int.mul_comm (co h (h.length - 1)), Int.mul_emod, e2, Int.one_mul, Int.emod_emod]
  have dgh : Xp.Dv p (co g) (co h) := ((Xp.Dv.self p (co g)).scale (co h (h.length - 1))).congr hg.symm
  refine ⟨⟨rs_of hp x, x.tr, Nat.le_trans x.len hi⟩, ⟨rs_of hp y, y.tr, Nat.le_trans y.len hj⟩, ⟨rs_of hp z, z.tr, Nat.le_trans z.len hk⟩, ?_, dgh.trans d1, dgh.trans d2, .inr ⟨by omega, by rw [el]; exact top⟩, fun q => ?_⟩
  · refine (scale_is hp x).trans (((E.bh).mul (scl h p)).trans ?_)
    have s1 : ∀ {u v c : List Int} {n : Nat}, Is (fun j => (u.getD j 0 * scl h p).fmod p) n v → Xp.Eqm p (Xp.cv (co v) (co c)) (fun k => scl h p * Xp.cv (co u) (co c) k) := fun {u v c n} w => ((scale_is hp w).cv (Xp.Eqm.refl p (co c))).trans (eqv_fun fun k => by rw [Xp.cv_comm, Xp.cv_mul, Xp.cv_comm])
    refine Xp.Eqm.trans (eqv_fun fun k => Int.mul_add _ _ _) ((s1 y).add (s1 z)).symm
  · rw [q] at el
    exact absurd el.symm (by show ¬ h.length = 0; omega)
/-! ### what is left by a rule -/
theorem _root_.Xh.Gr.tup {T : List (Addr × Str)} {H H' : Hp} (g : Gr T H H') {a : Addr} {xs : List V} (e : H a = some (.tup xs)) : H' a = some (.tup xs) := g.x _ _ e (fun _ z => by cases z)
theorem Po.dsr {p : Int} {xs : List Int} {n : Nat} (x : Po p xs n) (h : xs ≠ []) (hp : p ∈ primes) : Dsr p xs := ⟨List.length_pos_iff.mpr h, x.tr, x.rs, hp⟩
theorem Po.pol {K : PySem.W.Frag} {H : Hp} {a : Addr} {p : Int} {xs : List Int} (x : Po p xs 25) (e : H a = some (.tup (xs.map V.int))) : Pol K H a p xs := ⟨.inl (.inl e), x.len, x.rs, x.tr⟩
theorem Po.le {p : Int} {xs : List Int} {n m : Nat} (x : Po p xs n) (h : xs.length ≤ m) : Po p xs m := ⟨x.rs, x.tr, h⟩
structure Rem (p : Int) (R : List Int) (f : Xp.Cf) (rs : List Int) : Prop where
  po : Po p rs 24
  less : rs.length < R.length
  cg : Xp.Cg p (co R) f (co rs)
theorem Rem.congr {p : Int} {R rs : List Int} {f g : Xp.Cf} (x : Rem p R f rs) (h : Xp.Cg p (co R) g f) : Rem p R g rs := ⟨x.po, x.less, h.trans x.cg⟩
theorem Rem.uniq {p : Int} {R a b : List Int} {f g : Xp.Cf} (d : Dsr p R) (x : Rem p R f a) (y : Rem p R g b) (h : Xp.Cg p (co R) f g) : a = b := by
  have hp := pm_of d.pr
  have e : Xp.Cg p (co R) (co a) (co b) := (x.cg.symm.trans h).trans y.cg
  obtain ⟨t, ft, et⟩ := e
  obtain ⟨l, P, hl, hP, P2, P3, lP, _, _, _, ec, _⟩ := d.last
  rw [fm_em hp.pos] at ec
  have dpos := d.pos
  have l1 := x.less
  have l2 := y.less
  have z := Xp.short_nought (p := p) (c := scl R p) (g := co R) (d := R.length - 1) (by rw [ec]; exact (Int.emod_eq_of_lt (by decide) (by have := hp.lo; omega)).symm) (fun i hi => getD_over (by omega)) ft (fun k hk => by
    show (a.getD k 0 + -1 * b.getD k 0) % p = 0
    rw [getD_over (a := a) (by omega), getD_over (a := b) (by omega)]
    exact Int.zero_emod p) et
  have w := et.trans (((Xp.Eqm.refl p (co R)).cv z).trans (eqv_fun fun k => by rw [Xp.cv_zero]))
  refine list_of x.po.rs x.po.tr y.po.rs y.po.tr fun k => ?_
  have wk : (co a k + -1 * co b k) % p = 0 % p := w k
  rw [Int.zero_emod] at wk
  show co a k % p = co b k % p
  generalize co a k = u at wk
  generalize co b k = v at wk
  rw [show u = (u + -1 * v) + v by omega, Int.add_emod, wk, Int.zero_add, Int.emod_emod]
theorem Div.rem {p : Int} {xs R qs rs : List Int} (d : Div p xs R qs rs) (y : Dsr p R) (rx : Rs p xs) (hR : R.length ≤ 25) : Rem p R (co xs) rs := by
  have hp := pm_of y.pr
  have less := d.less y
  refine ⟨⟨d.rs_r hp rx, d.r.tr, by omega⟩, less, ⟨co qs, Xp.Fi.list qs, fun k => ?_⟩⟩
  have e : co xs k % p = (Xp.cv (co qs) (co R) k + co rs k) % p := d.eqm hp rx k
  show (co xs k + -1 * co rs k) % p = Xp.cv (co R) (co qs) k % p
  rw [Xp.cv_comm, Int.add_emod, e, ← Int.add_emod]
  congr 1
  omega
theorem Rem.self {p : Int} {R xs : List Int} {n : Nat} (x : Po p xs n) (h : xs.length < R.length) (hR : R.length ≤ 25) : Rem p R (co xs) xs := ⟨⟨x.rs, x.tr, by omega⟩, h, Xp.Cg.refl p _ _⟩
theorem plus_len {p : Int} {xs ys ms : List Int} {n : Nat} (x : Is (fun j => (xs.getD j 0 + ys.getD j 0).fmod p) n ms) : ms.length ≤ max xs.length ys.length := x.short fun k hk => by
  show (xs.getD k 0 + ys.getD k 0).fmod p = 0
  rw [getD_over (a := xs) (by omega), getD_over (a := ys) (by omega)]
  exact Int.zero_fmod p
theorem plus_eqm {p : Int} {xs ys ms : List Int} {n : Nat} (hp : Pm p) (x : Is (fun j => (xs.getD j 0 + ys.getD j 0).fmod p) n ms) : Xp.Eqm p (co ms) (Xp.ad (co xs) (co ys)) := eqm_of hp.pos x
theorem times_eqm {p : Int} {xs ys ms : List Int} {n : Nat} (hp : Pm p) (x : Is (fun j => (cvf xs ys j).fmod p) n ms) : Xp.Eqm p (co ms) (Xp.cv (co xs) (co ys)) := (eqm_of hp.pos x).trans (cv_eqm p xs ys)
theorem Rem.plus {p : Int} {R a b ms : List Int} {f g : Xp.Cf} {n : Nat} (hp : Pm p) (hR : R.length ≤ 25) (x : Rem p R f a) (y : Rem p R g b) (z : Is (fun j => (a.getD j 0 + b.getD j 0).fmod p) n ms) : Rem p R (Xp.ad f g) ms := by
  have l := plus_len z
  have l1 := x.less
  have l2 := y.less
  exact ⟨⟨rs_of hp z, z.tr, by omega⟩, by omega, (x.cg.ad y.cg).trans (Xp.Cg.of (plus_eqm hp z).symm)⟩
theorem Rem.times {p : Int} {R a b ms rs : List Int} {f g : Xp.Cf} {n : Nat} (hp : Pm p) (fg : Xp.Fi g) (x : Rem p R f a) (y : Rem p R g b) (z : Is (fun j => (cvf a b j).fmod p) n ms) (w : Rem p R (co ms) rs) : Rem p R (Xp.cv f g) rs :=
  w.congr ((x.cg.cv y.cg fg (Xp.Fi.list a)).trans (Xp.Cg.of (times_eqm hp z).symm))
theorem co_single (x : Int) : co [x] = Xp.sc x Xp.one := funext fun k => by
  show ([x] : List Int).getD k 0 = x * Xp.one k
  cases k with
  | zero => exact (Int.mul_one x).symm
  | succ k => exact (Int.mul_zero x).symm
theorem walk_revT {K : PySem.W.Frag} {a : Addr} {xs : List V} : Walk (RT.ItvT K a xs.length) xs.length (fun H => SqT K H a xs) (fun i H x H' => H' = H ∧ xs[xs.length - 1 - i]? = some x) :=
  ⟨fun i _ hi q => ⟨hi, xs, xs[xs.length - 1 - i]'(by omega), q, by simp [show xs.length - 1 - i < xs.length by omega]⟩, fun _ _ => Nat.le_refl _, fun _ _ _ _ _ q y => ⟨y.1, y.2 xs q⟩⟩
theorem trim_po {p x : Int} (hp : Pm p) (h0 : 0 ≤ x) (h1 : x < p) : Po p (trim [x]) 1 := ⟨fun j => by rw [trim_getD]; exact (Rs.nil p hp.pos).add h0 h1 j, trim_trim _, trim_length _⟩
theorem co_trim (ms : List Int) : co (trim ms) = co ms := funext fun k => trim_getD ms k

end Xk
end
section
set_option Elab.async false
set_option linter.all false
set_option maxRecDepth 100000
set_option maxHeartbeats 4000000
namespace Xk
open PySem PySem.Spec PyProof.Rows L2 Xh LamX NdefX
theorem sqG {K : PySem.W.Frag} {T : List (Addr × Str)} {H H' : Hp} {a : Addr} {xs : List V} (g : Gr T H H') (h : SqT K H a xs) : SqT K H' a xs := by
  rcases h with (h | ⟨o, h⟩) | h
  · exact .inl (.inl (g.x _ _ h fun _ z => by cases z))
  · exact .inl (.inr ⟨o, g.x _ _ h fun _ z => by cases z⟩)
  · exact .inr h
def spLeft (K : PySem.W.Frag) (T : List (Addr × Str)) : Sp := fun vs H Q _ => ∃ (a b : Addr) (xs R : List Int) (p : Int), vs = [.ref a, .ref b, .int p] ∧ H a = some (.tup (xs.map V.int)) ∧ SqT K H b (R.map V.int) ∧ xs.length ≤ 50 ∧ R.length ≤ 25 ∧ Rs p xs ∧ Dsr p R ∧ Tabs T H ∧
  ∀ (v : Addr) (rs : List Int) (H' : Hp), Gr T H H' → H' v = some (.tup (rs.map V.int)) → Rem p R (co xs) rs → Q (.ref v) H'
def spPut (K : PySem.W.Frag) (T : List (Addr × Str)) : Sp := fun vs H Q _ => ∃ (a o b : Addr) (xs os R : List Int) (p : Int), vs = [.ref a, .ref o, .ref b, .int p] ∧ H a = some (.tup (xs.map V.int)) ∧ H o = some (.tup (os.map V.int)) ∧ H b = some (.tup (R.map V.int)) ∧ Po p xs 25 ∧ Po p os 25 ∧ R.length ≤ 25 ∧ Dsr p R ∧ Tabs T H ∧
  ∀ (v : Addr) (rs : List Int) (H' : Hp), Gr T H H' → H' v = some (.tup (rs.map V.int)) → Rem p R (Xp.hor (co os) xs.length (co xs)) rs → Q (.ref v) H'
def spPowR (K : PySem.W.Frag) (T : List (Addr × Str)) : Sp := fun vs H Q _ => ∃ (a b : Addr) (xs R : List Int) (e : Nat) (p : Int), vs = [.ref a, .int e, .ref b, .int p] ∧ H a = some (.tup (xs.map V.int)) ∧ SqT K H b (R.map V.int) ∧ Po p xs 25 ∧ R.length ≤ 25 ∧ Dsr p R ∧ Tabs T H ∧
  ∀ (v : Addr) (rs : List Int) (H' : Hp), Gr T H H' → H' v = some (.tup (rs.map V.int)) → Rem p R (Xp.pw (co xs) e) rs → Q (.ref v) H'
/-- the lambda's of raw_power -/
def spMulR (K : PySem.W.Frag) (T : List (Addr × Str)) : List (Option V) → Sp := fun ws vs H Q _ => ∃ (b c d : Addr) (R xs ys : List Int) (p : Int), ws = [some (.int p), some (.ref b)] ∧ vs = [.ref c, .ref d] ∧ SqT K H b (R.map V.int) ∧ H c = some (.tup (xs.map V.int)) ∧ H d = some (.tup (ys.map V.int)) ∧ R.length ≤ 25 ∧ Dsr p R ∧ Po p xs 24 ∧ Po p ys 24 ∧ Tabs T H ∧
  ∀ (v : Addr) (rs : List Int) (H' : Hp), Gr T H H' → H' v = some (.tup (rs.map V.int)) → Rem p R (Xp.cv (co xs) (co ys)) rs → Q (.ref v) H'
def pwQ : Str := (envOfC "raw_power" ⟨.function, [], false, false, []⟩ 0 0 .none).qual ++ "<lambda>"
theorem three_of {H : Hp} {K : PySem.W.Frag} {a b c : Addr} {p : Int} {xs ys zs : List Int} (x : Pol K H a p xs) (y : Pol K H b p ys) (z : Pol K H c p zs) : ∀ r ∈ [V.ref a, V.ref b, V.ref c], ∃ a ns, r = .ref a ∧ Pol K H a p ns := fun r hr => by
  rcases List.mem_cons.mp hr with rfl | hr
  · exact ⟨_, _, rfl, x⟩
  · exact two_of y z r hr
def spPPut (K : PySem.W.Frag) (T : List (Addr × Str)) (C : Fin 14 → Addr) : Sp := fun vs H Q E => ∃ (a o b : Addr) (xs os R : List Int) (p : Int), vs = [.ref a, .ref o, .ref b, .int p] ∧ H a = some (.tup (xs.map V.int)) ∧ H o = some (.tup (os.map V.int)) ∧ H b = some (.tup (R.map V.int)) ∧ p ∈ primes ∧ Po p xs 25 ∧ Po p os 25 ∧ Po p R 25 ∧ Tabs T H ∧ (R = [] → Ex H E (C 2) "NoInverse") ∧
  (R ≠ [] → ∀ (v : Addr) (rs : List Int) (H' : Hp), Gr T H H' → H' v = some (.tup (rs.map V.int)) → Rem p R (Xp.hor (co os) xs.length (co xs)) rs → Q (.ref v) H')
def spPLeft (K : PySem.W.Frag) (T : List (Addr × Str)) (C : Fin 14 → Addr) : Sp := fun vs H Q E => ∃ (a b : Addr) (xs R : List Int) (e p : Int), vs = [.ref a, .int e, .ref b, .int p] ∧ H a = some (.tup (xs.map V.int)) ∧ H b = some (.tup (R.map V.int)) ∧ p ∈ primes ∧ Po p xs 25 ∧ Po p R 25 ∧ Tabs T H ∧ (e < 0 → Ex H E (C 3) "BadNumber") ∧ (0 ≤ e → R = [] → Ex H E (C 2) "NoInverse") ∧
  (0 ≤ e → R ≠ [] → ∀ (v : Addr) (rs : List Int) (H' : Hp), Gr T H H' → H' v = some (.tup (rs.map V.int)) → Rem p R (Xp.pw (co xs) e.toNat) rs → Q (.ref v) H')
section
variable {P : Program} {w : World} {K : PySem.W.Frag} {mg : Str → Option Value} {base : Heap}
theorem sc_raw_left : FnScope (["one", "rule", "prime"] : List Str) ["one", "rule", "prime"] (defScope s_raw_left) := ⟨rfl, rfl, rfl, by decide +kernel, rfl, by decide +kernel, by decide +kernel⟩
theorem ok_raw_left {TT : List (Addr × Str)} {f : Addr} {fd : FuncData} (F : FunD K "raw_left" "raw_left" (defArgs s_raw_left) (defBody s_raw_left) (defScope s_raw_left) [] [] f fd) (o_raw_parted : Own P w K mg base CX0 4 "raw_parted" ["one", "other", "prime"] [] (spPartedT K TT)) : FnOk P w K mg base CX0 5 f fd ["one", "rule", "prime"] (spLeft K TT) := by
  refine F.ok sc_raw_left (fun vs H Q E h => ?_) (fun cdv A outer s H vs Q E hr h => ?_)
  · obtain ⟨a, b, xs, R, p, rfl, _⟩ := h
    rfl
  · obtain ⟨a, b, xs, R, p, rfl, ea, eb, la, lb, rA, dB, hT, k⟩ := h
    refine ⟨_, PSs.nox (pss_one (ps_ret (pe_ix ix_tup (pe_own o_raw_parted (hr.mono (by decide)) rfl pass0 (pa_cons (pv 0) (pa_cons (pv 1) (pa_cons (pv 2) pa_nil)))) pe_int (fun _ _ => rfl)))) , ?_⟩
    exact ⟨_, rfl, _, rfl, _, rfl, a, b, xs, R, p, rfl, .inl (.inl ea), eb, la, by omega, rA, dB, hT, fun w' u v qs rs H' g' _ e1 e2 e3 dv => ⟨w', _, 1, .ref v, rfl, rfl, SqT.of e1, rfl, k v rs H' g' e3 (dv.rem dB rA lb)⟩⟩
theorem sc_raw_power : FnScope (["one", "exponent", "rule", "prime"] : List Str) ["one", "exponent", "rule", "prime"] (defScope s_raw_power) := ⟨rfl, rfl, rfl, by decide +kernel, rfl, by decide +kernel, by decide +kernel⟩
abbrev lam_pwL : Arguments × Expr × Scope := (lamP ((defBody s_raw_power).getD 0 (.Pass ⟨0, 0, 0, 0⟩)))
theorem nb_pw : ndefB (defScope s_raw_power) lam_pwL.2.2 ["prime", "rule"] = true := by decide +kernel
theorem ns_pw : NScope ["first", "second", "prime", "rule"] ["first", "second"] ["prime", "rule"] lam_pwL.2.2 := nscope_by (by decide +kernel)
theorem lam_pw {TT : List (Addr × Str)} {f : Addr} {F : NF} (o_raw_times : Own P w K mg base CX0 2 "raw_times" ["one", "other", "prime"] [] (spTimes K)) (o_raw_left : Own P w K mg base CX0 5 "raw_left" ["one", "rule", "prime"] [] (spLeft K TT)) (hp : F.params = lam_pwL.1) (hs : F.scope = lam_pwL.2.2) : NOkL P w K mg base CX0 6 f F lam_pwL.2.1 ["first", "second"] ["prime", "rule"] (spMulR K TT) := by
  obtain ⟨fn, fq, fp, fb, fs, fc, fo⟩ := F
  have hp : fp = _ := hp
  have hs : fs = _ := hs
  subst hp hs
  refine nokL_of (N := ["first", "second", "prime", "rule"]) ns_pw (fun pm ctv us hl => match us, hl with | [_, _], _ => rfl) (fun ws vs H Q E h => ?_) fun A outer s H vs ws Q E hr hw h => ?_
  · obtain ⟨b, c, d, R, xs, ys, p, _, rfl, _⟩ := h
    rfl
  · obtain ⟨b, c, d, R, xs, ys, p, rfl, rfl, eb, ec, ed, lR, dR, px, py, hT, k⟩ := h
    have hpm := pm_of dR.pr
    have l1 := px.len
    have l2 := py.len
    refine ⟨_, (pe_own o_raw_left (hr.mono (by decide)) rfl pass0 (pa_cons (pe_own o_raw_times (hr.mono (by decide)) rfl pass0 (pa_cons (pv 0) (pa_cons (pv 1) (pa_cons (pv 2) pa_nil)))) (pa_cons (pv 3) (pa_cons (pv 2) pa_nil)))), ?_⟩
    refine ⟨_, rfl, _, rfl, _, rfl, c, d, xs, ys, p, rfl, .inl (.inl ec), .inl (.inl ed), by omega, by omega, px.rs, py.rs, hpm, fun ms y q H4 s4 n4 e4 => ?_⟩
    have lms : ms.length ≤ 48 := by
      rcases times_len y with z | ⟨_, _, z⟩
      · rw [z]; decide
      · omega
    exact ⟨_, rfl, _, rfl, q, b, ms, R, p, rfl, e4, sameT s4 eb, by omega, lR, rs_of hpm y, dR, hT.ext s4, fun v rs H' g e rm => k v rs H' ((Gr.of hT s4).trans g) e (rm.congr (Xp.Cg.of (times_eqm hpm y).symm))⟩
theorem ok_raw_power {TT : List (Addr × Str)} {f cR PR g : Addr} {fd : FuncData} (F : FunD K "raw_power" "raw_power" (defArgs s_raw_power) (defBody s_raw_power) (defScope s_raw_power) [] [] f fd) (hcd : fd.code = .ref cR) (TB : TabB base mg cR PR) (hmT : (PR, pwQ) ∈ TT) (hu : ∀ p ∈ TT, p.1 = PR → p.2 = pwQ)
    (G_power_by : GivesV P w K mg base 7 6 "power_by" g TTpow) (o_raw_times : Own P w K mg base CX0 2 "raw_times" ["one", "other", "prime"] [] (spTimes K)) (o_raw_left : Own P w K mg base CX0 5 "raw_left" ["one", "rule", "prime"] [] (spLeft K TT)) : FnOk P w K mg base CX0 8 f fd ["one", "exponent", "rule", "prime"] (spPowR K TT) := by
  refine FunD_okC F hcd sc_raw_power (fun vs H Q E h => ?_) (fun A outer s H vs Q E hr h => ?_)
  · obtain ⟨a, b, xs, R, e, p, rfl, _⟩ := h
    rfl
  · obtain ⟨a, b, xs, R, e, p, rfl, ea, eb, px, lR, dR, hT, k⟩ := h
    have hpm := pm_of dR.pr
    have lx := px.len
    refine ⟨_, PSs.nox (pss_one (ps_ret (pe_giveV (mk := lamF _ lam_pwL.1 lam_pwL.2.2) (js := [3, 2]) G_power_by (fun f c' => lam_pw o_raw_times o_raw_left rfl rfl) (fun _ => rfl) (fun ok => Caps.made ok (ndef_free nb_pw) (ndef_fr nb_pw) rfl) (hr.mono (by decide)) rfl (pa_cons (pe_lamV TB rfl hmT hu rfl (ndef_free nb_pw)) (pa_cons (pe_own o_raw_left (hr.mono (by decide)) rfl pass0 (pa_cons (pe_tup (pa_cons pe_int pa_nil)) (pa_cons (pv 2) (pa_cons (pv 3) pa_nil)))) (pa_cons (pe_own o_raw_left (hr.mono (by decide)) rfl pass0 (pa_cons (pv 0) (pa_cons (pv 2) (pa_cons (pv 3) pa_nil)))) (pa_cons (pv 1) pa_nil))))))) , ?_⟩
    refine ⟨hT, fun fl c' H1 g1 nf e1 e2 _ => ?_⟩
    refine ⟨(by show 1 ≤ sizeLine; decide), fun t ht => ⟨_, rfl, _, rfl, t, b, [1], R, p, rfl, upd_same, sameT (same_upd ht) (sqG g1 eb), by decide, lR, (po_one hpm (n := 1) (Nat.le_refl _)).rs, dR, g1.t.ext (same_upd ht), fun v1 r1 H2 g2 ev1 m1 => ?_⟩⟩
    have g12 := (g1.same (same_upd (o := .tup [.int 1]) ht)).trans g2
    have G2 := (Gr.of g1.t (same_upd (o := .tup [.int 1]) ht)).trans g2
    refine ⟨_, rfl, _, rfl, _, rfl, a, b, xs, R, p, rfl, g12.tup ea, sqG g12 eb, by omega, lR, px.rs, dR, g2.t, fun v2 r2 H3 g3 ev2 m2 => ?_⟩
    have g13 := g12.trans g3
    have G3 := G2.trans g3
    refine ⟨_, rfl, fl, c', G3.x _ _ e1 lamO_ne, ?_⟩
    refine ⟨.ref v1, .ref v2, e, fun i x H => ∃ (v : Addr) (rs : List Int), x = .ref v ∧ H v = some (.tup (rs.map V.int)) ∧ Rem p R (Xp.pw (co xs) i) rs, TT, rfl, g3.t, ⟨v1, r1, rfl, g3.tup ev1, m1.congr (Xp.Cg.of (eqv_fun fun k => by rw [show co [1] = Xp.one from funext co_one]; rfl))⟩, ⟨v2, r2, rfl, ev2, m2.congr (Xp.Cg.of (eqv_fun fun k => by rw [Xp.pw_one]))⟩, ?_, ?_, ?_⟩
    · rintro i x H4 H5 g4 ⟨v, rs, rfl, ev, m⟩
      exact ⟨v, rs, rfl, g4.tup ev, m⟩
    · rintro i j x y H4 g4 ⟨v, rs, rfl, ev, m⟩ ⟨u, us, rfl, eu, n⟩ Q' q
      have g14 := g13.trans g4
      refine ⟨(G3.trans g4).x _ _ e1 lamO_ne, (G3.trans g4).x _ _ e2 codeO_ne, b, v, u, R, rs, us, p, rfl, rfl, sqG g14 eb, ev, eu, lR, dR, m.po, n.po, g4.t, fun z zs H5 g5 ez rz => q _ H5 g5 ⟨z, zs, rfl, ez, rz.congr ?_⟩⟩
      rw [Xp.pw_add]
      exact m.cg.cv n.cg ((Xp.Fi.list xs).pw j) (Xp.Fi.list rs)
    · rintro z H4 g4 ⟨v, rs, rfl, ev, m⟩
      exact k v rs H4 (g13.trans g4) ev m
end
end Xk
end
section
set_option Elab.async false
set_option linter.all false
/-! ### counting tuples of rests -/
namespace Xp
theorem nodup_lenL : ∀ {a b : List (List Int)}, a.Nodup → (∀ s ∈ a, s ∈ b) → a.length ≤ b.length
  | [], b, _, _ => Nat.zero_le _
  | x :: a, b, na, h => by
    obtain ⟨n1, n2⟩ := List.nodup_cons.mp na
    have hx := h x List.mem_cons_self
    have z := nodup_lenL (a := a) (b := b.erase x) n2 fun s hs => by
      have ne : s ≠ x := fun e => n1 (e ▸ hs)
      exact (List.mem_erase_of_ne ne).mpr (h s (List.mem_cons_of_mem _ hs))
    rw [List.length_erase_of_mem hx] at z
    have := List.length_pos_of_mem hx
    rw [List.length_cons]
    omega
theorem nodup_map {f : List Int → List Int} : ∀ {a : List (List Int)}, a.Nodup → (∀ s ∈ a, ∀ t ∈ a, f s = f t → s = t) → (a.map f).Nodup
  | [], _, _ => List.nodup_nil
  | x :: a, na, h => by
    obtain ⟨n1, n2⟩ := List.nodup_cons.mp na
    rw [List.map_cons]
    refine List.nodup_cons.mpr ⟨fun m => ?_, nodup_map n2 fun s hs t ht => h s (List.mem_cons_of_mem _ hs) t (List.mem_cons_of_mem _ ht)⟩
    obtain ⟨y, hy, e⟩ := List.mem_map.mp m
    have := h y (List.mem_cons_of_mem _ hy) x List.mem_cons_self e
    exact n1 (this ▸ hy)
theorem inj_len {f : List Int → List Int} {a b : List (List Int)} (na : a.Nodup) (i : ∀ s ∈ a, ∀ t ∈ a, f s = f t → s = t) (h : ∀ s ∈ a, f s ∈ b) : a.length ≤ b.length := by
  have z := nodup_lenL (nodup_map na i) (b := b) fun s hs => by
    obtain ⟨t, ht, rfl⟩ := List.mem_map.mp hs
    exact h t ht
  rwa [List.length_map] at z
/-- all tuples of m rests, in the order of their making -/
def tp (p : Nat) : Nat → List (List Int)
  | 0 => [[]]
  | m + 1 => (tp p m).flatMap fun t => (List.range p).map fun x => t ++ [((x : Nat) : Int)]
theorem tp_mem {p : Nat} : ∀ {m : Nat} {t : List Int}, t ∈ tp p m ↔ t.length = m ∧ ∀ x ∈ t, 0 ≤ x ∧ x < (p : Int)
  | 0, t => by
    show t ∈ [[]] ↔ _
    rw [List.mem_singleton]
    constructor
    · rintro rfl
      exact ⟨rfl, fun x hx => (nomatch hx)⟩
    · exact fun h => List.length_eq_zero_iff.mp h.1
  | m + 1, t => by
    show t ∈ (tp p m).flatMap _ ↔ _
    rw [List.mem_flatMap]
    constructor
    · rintro ⟨u, hu, ht⟩
      obtain ⟨x, hx, rfl⟩ := List.mem_map.mp ht
      obtain ⟨l, r⟩ := tp_mem.mp hu
      refine ⟨by rw [List.length_append, l]; rfl, fun y hy => ?_⟩
      rcases List.mem_append.mp hy with hy | hy
      · exact r y hy
      · rw [List.mem_singleton.mp hy]
        have := List.mem_range.mp hx
        omega
    · rintro ⟨l, r⟩
      rcases List.eq_nil_or_concat t with rfl | ⟨u, x, rfl⟩
      · cases l
      · rw [List.length_concat] at l
        rw [List.concat_eq_append] at r ⊢
        obtain ⟨x0, x1⟩ := r x (by simp)
        obtain ⟨k, rfl⟩ := Int.eq_ofNat_of_zero_le x0
        exact ⟨u, tp_mem.mpr ⟨by omega, fun y hy => r y (List.mem_append_left _ hy)⟩, List.mem_map.mpr ⟨k, List.mem_range.mpr (by omega), rfl⟩⟩
theorem tp_len (p : Nat) : ∀ m, (tp p m).length = p ^ m
  | 0 => rfl
  | m + 1 => by
    show ((tp p m).flatMap _).length = _
    rw [List.length_flatMap]
    have : ((tp p m).map fun t => ((List.range p).map fun x => t ++ [((x : Nat) : Int)]).length) = List.replicate (p ^ m) p := by
      rw [← tp_len p m]
      generalize tp p m = ts
      induction ts with
      | nil => rfl
      | cons t ts ih =>
        rw [List.map_cons, ih, List.length_map, List.length_range]
        rfl
    rw [this, List.sum_replicate_nat, Nat.pow_succ]
theorem tp_nodup (p : Nat) : ∀ m, (tp p m).Nodup
  | 0 => by simp [tp]
  | m + 1 => by
    show ((tp p m).flatMap _).Nodup
    have ih := tp_nodup p m
    generalize tp p m = ts at ih
    induction ts with
    | nil => exact List.nodup_nil
    | cons t ts ih2 =>
      obtain ⟨n1, n2⟩ := List.nodup_cons.mp ih
      rw [List.flatMap_cons]
      refine List.nodup_append.mpr ⟨?_, ih2 n2, fun a ha b hb e => ?_⟩
      · refine List.pairwise_map.mpr (List.nodup_range.imp fun h e => h ?_)
        have := List.append_cancel_left e
        injection this with h1
        exact Int.ofNat.inj h1
      · obtain ⟨x, _, rfl⟩ := List.mem_map.mp ha
        obtain ⟨u, hu, hb⟩ := List.mem_flatMap.mp hb
        obtain ⟨y, _, rfl⟩ := List.mem_map.mp hb
        have := List.append_inj_left' e rfl
        exact n1 (this ▸ hu)
/-- as many as there are of another kind -/
theorem cnt {p n m : Nat} {P : List Int → Bool} (enc dec : List Int → List Int) (h1 : ∀ t ∈ tp p n, P t = true → enc t ∈ tp p m) (i1 : ∀ s t, s ∈ tp p n → t ∈ tp p n → P s = true → P t = true → enc s = enc t → s = t)
    (h2 : ∀ s ∈ tp p m, dec s ∈ tp p n ∧ P (dec s) = true) (i2 : ∀ s t, s ∈ tp p m → t ∈ tp p m → dec s = dec t → s = t) : ((tp p n).filter P).length = p ^ m := by
  have a := inj_len (f := enc) (a := (tp p n).filter P) (b := tp p m) ((tp_nodup p n).filter _) (fun s hs t ht e => by
    obtain ⟨s1, s2⟩ := List.mem_filter.mp hs
    obtain ⟨t1, t2⟩ := List.mem_filter.mp ht
    exact i1 s t s1 t1 s2 t2 e) (fun s hs => by
    obtain ⟨s1, s2⟩ := List.mem_filter.mp hs
    exact h1 s s1 s2)
  have b := inj_len (f := dec) (a := tp p m) (b := (tp p n).filter P) (tp_nodup p m) (fun s hs t ht e => i2 s t hs ht e) (fun s hs => by
    obtain ⟨d1, d2⟩ := h2 s hs
    exact List.mem_filter.mpr ⟨d1, d2⟩)
  rw [tp_len] at a b
  omega
theorem pow_inj {p a b : Nat} (hp : 2 ≤ p) (h : p ^ a = p ^ b) : a = b := by
  rcases Nat.lt_trichotomy a b with q | q | q
  · exact absurd h (Nat.ne_of_lt (Nat.pow_lt_pow_right (by omega) q))
  · exact q
  · exact absurd h.symm (Nat.ne_of_lt (Nat.pow_lt_pow_right (by omega) q))
end Xp
end
section
set_option linter.all false
/-! Rings, ideals, what they leave; domains with finitely many elements (no program in it). -/
namespace Xp
open Lean.Grind
/-- what makes a ring -/
structure Laws (R : Type) where
  add : R → R → R
  mul : R → R → R
  neg : R → R
  o : R
  e : R
  addC : ∀ a b, add a b = add b a
  addA : ∀ a b c, add (add a b) c = add a (add b c)
  addO : ∀ a, add a o = a
  addN : ∀ a, add (neg a) a = o
  mulC : ∀ a b, mul a b = mul b a
  mulA : ∀ a b c, mul (mul a b) c = mul a (mul b c)
  mulE : ∀ a, mul a e = a
  dis : ∀ a b c, mul a (add b c) = add (mul a b) (mul a c)
namespace Laws
variable {R : Type} (L : Laws R)
def nat : Nat → R
  | 0 => L.o
  | 1 => L.e
  | n + 2 => L.add (nat (n + 1)) L.e
def int : Int → R
  | .ofNat n => L.nat n
  | .negSucc n => L.neg (L.nat (n + 1))
def pow (a : R) : Nat → R
  | 0 => L.e
  | n + 1 => L.mul (pow a n) a
theorem canc {a b c : R} (h : L.add a b = L.add a c) : b = c := by
  have e : ∀ x, L.add (L.neg a) (L.add a x) = x := fun x => by rw [← L.addA, L.addN, L.addC, L.addO]
  rw [← e b, h, e c]
theorem mulO (a : R) : L.mul a L.o = L.o := by
  apply L.canc (a := L.mul a L.o)
  rw [← L.dis, L.addO, L.addO]
theorem negneg (a : R) : L.neg (L.neg a) = a := by
  apply L.canc (a := L.neg a)
  rw [L.addN, L.addC, L.addN]
theorem nego : L.neg L.o = L.o := by
  have h := L.addN L.o
  rwa [L.addO] at h
theorem neg_mul (a b : R) : L.mul (L.neg a) b = L.neg (L.mul a b) := by
  apply L.canc (a := L.mul a b)
  rw [L.addC _ (L.neg _), L.addN, L.mulC a b, L.mulC _ b, ← L.dis, L.addC, L.addN, L.mulO]
theorem int_neg : ∀ i : Int, L.int (-i) = L.neg (L.int i)
  | .ofNat 0 => L.nego.symm
  | .ofNat (n + 1) => rfl
  | .negSucc n => (L.negneg _).symm
@[reducible] def ring : CommRing R :=
  { add := L.add, mul := L.mul, neg := L.neg, sub := fun a b => L.add a (L.neg b)
    natCast := ⟨L.nat⟩, ofNat := fun n => ⟨L.nat n⟩, nsmul := ⟨fun n a => L.mul (L.nat n) a⟩, npow := ⟨fun a n => L.pow a n⟩
    intCast := ⟨L.int⟩, zsmul := ⟨fun i a => L.mul (L.int i) a⟩
    add_zero := L.addO, add_comm := L.addC, add_assoc := L.addA, mul_assoc := L.mulA, mul_one := L.mulE
    one_mul := fun a => (L.mulC _ _).trans (L.mulE a)
    left_distrib := L.dis
    right_distrib := fun a b c => by
      show L.mul (L.add a b) c = L.add (L.mul a c) (L.mul b c)
      rw [L.mulC, L.dis, L.mulC c a, L.mulC c b]
    zero_mul := fun a => (L.mulC _ _).trans (L.mulO a)
    mul_zero := L.mulO
    pow_zero := fun _ => rfl, pow_succ := fun _ _ => rfl
    ofNat_succ := fun n => match n with
      | 0 => ((L.addC _ _).trans (L.addO L.e)).symm
      | n + 1 => rfl
    ofNat_eq_natCast := fun _ => rfl
    nsmul_eq_natCast_mul := fun _ _ => rfl
    neg_add_cancel := L.addN
    sub_eq_add_neg := fun _ _ => rfl
    neg_zsmul := fun i a => by
      show L.mul (L.int (-i)) a = L.neg (L.mul (L.int i) a)
      rw [L.int_neg, L.neg_mul]
    zsmul_natCast_eq_nsmul := fun _ _ => rfl
    intCast_ofNat := fun _ => rfl
    intCast_neg := L.int_neg
    mul_comm := L.mulC }
end Laws
/-! ### ideals -/
structure Idl (R : Type) [CommRing R] where
  mem : R → Prop
  z : mem 0
  a : ∀ {x y}, mem x → mem y → mem (x + y)
  m : ∀ {x} (r : R), mem x → mem (x * r)
namespace Idl
variable {R : Type} [CommRing R] (I : Idl R)
theorem n {x : R} (h : I.mem x) : I.mem (-x) := by
  have := I.m (-1) h
  rwa [show x * -1 = -x from by grind] at this
theorem s {x y : R} (h : I.mem x) (k : I.mem y) : I.mem (x - y) := by
  have := I.a h (I.n k)
  rwa [show x + -y = x - y from by grind] at this
theorem as {x y : R} (h : I.mem x) (e : x = y) : I.mem y := e ▸ h
def setoid : Setoid R where
  r x y := I.mem (x - y)
  iseqv := ⟨fun x => I.as I.z (by grind), fun h => I.as (I.n h) (by grind), fun h k => I.as (I.a h k) (by grind)⟩
end Idl
def Qu {R : Type} [CommRing R] (I : Idl R) := Quotient I.setoid
namespace Qu
variable {R : Type} [CommRing R] {I : Idl R}
def mk (a : R) : Qu I := Quotient.mk I.setoid a
theorem snd {a b : R} (h : I.mem (a - b)) : mk (I := I) a = mk b := Quotient.sound (s := I.setoid) h
theorem ex {a b : R} (h : mk (I := I) a = mk b) : I.mem (a - b) := Quotient.exact (s := I.setoid) h
theorem rep (x : Qu I) : ∃ a, x = mk a := Quotient.inductionOn (s := I.setoid) x fun a => ⟨a, rfl⟩
def un (f : R → R) (h : ∀ a b, I.mem (a - b) → I.mem (f a - f b)) (x : Qu I) : Qu I := Quotient.lift (s := I.setoid) (fun a => mk (f a)) (fun a b e => snd (h a b e)) x
def bi (f : R → R → R) (h : ∀ a b c d, I.mem (a - c) → I.mem (b - d) → I.mem (f a b - f c d)) (x y : Qu I) : Qu I := Quotient.lift₂ (s₁ := I.setoid) (s₂ := I.setoid) (fun a b => mk (f a b)) (fun a b c d e g => snd (h a b c d e g)) x y
def laws (I : Idl R) : Laws (Qu I) where
  add := bi (· + ·) fun a b c d h k => I.as (I.a h k) (by grind)
  mul := bi (· * ·) fun a b c d h k => I.as (I.a (I.m b h) (I.m c k)) (by grind)
  neg := un (- ·) fun a b h => I.as (I.n h) (by grind)
  o := mk 0
  e := mk 1
  addC x y := by
    obtain ⟨a, rfl⟩ := rep x; obtain ⟨b, rfl⟩ := rep y
    exact congrArg mk (Semiring.add_comm a b)
  addA x y z := by
    obtain ⟨a, rfl⟩ := rep x; obtain ⟨b, rfl⟩ := rep y; obtain ⟨c, rfl⟩ := rep z
    exact congrArg mk (Semiring.add_assoc a b c)
  addO x := by
    obtain ⟨a, rfl⟩ := rep x
    exact congrArg mk (Semiring.add_zero a)
  addN x := by
    obtain ⟨a, rfl⟩ := rep x
    exact congrArg mk (Ring.neg_add_cancel a)
  mulC x y := by
    obtain ⟨a, rfl⟩ := rep x; obtain ⟨b, rfl⟩ := rep y
    exact congrArg mk (CommSemiring.mul_comm a b)
  mulA x y z := by
    obtain ⟨a, rfl⟩ := rep x; obtain ⟨b, rfl⟩ := rep y; obtain ⟨c, rfl⟩ := rep z
    exact congrArg mk (Semiring.mul_assoc a b c)
  mulE x := by
    obtain ⟨a, rfl⟩ := rep x
    exact congrArg mk (Semiring.mul_one a)
  dis x y z := by
    obtain ⟨a, rfl⟩ := rep x; obtain ⟨b, rfl⟩ := rep y; obtain ⟨c, rfl⟩ := rep z
    exact congrArg mk (Semiring.left_distrib a b c)
instance : CommRing (Qu I) := (laws I).ring
theorem mk_add (a b : R) : mk (I := I) (a + b) = mk a + mk b := rfl
theorem mk_mul (a b : R) : mk (I := I) (a * b) = mk a * mk b := rfl
theorem mk_neg (a : R) : mk (I := I) (-a) = -mk a := rfl
theorem mk_sub (a b : R) : mk (I := I) (a - b) = mk a - mk b := by
  rw [Ring.sub_eq_add_neg, Ring.sub_eq_add_neg]
  rfl
theorem mk_zero : mk (I := I) 0 = 0 := rfl
theorem mk_one : mk (I := I) 1 = 1 := rfl
theorem mk_pow (a : R) : ∀ n : Nat, mk (I := I) (a ^ n) = mk a ^ n
  | 0 => by rw [Semiring.pow_zero, Semiring.pow_zero, mk_one]
  | n + 1 => by rw [Semiring.pow_succ, Semiring.pow_succ, mk_mul, mk_pow a n]
theorem zero_iff {a : R} : mk (I := I) a = 0 ↔ I.mem a :=
  ⟨fun h => I.as (ex (b := 0) h) (by grind), fun h => snd (b := 0) (I.as h (by grind))⟩
theorem eq_iff {a b : R} : mk (I := I) a = mk b ↔ I.mem (a - b) := ⟨ex, snd⟩
end Qu
/-! ### domains -/
class Dm (R : Type) [CommRing R] : Prop where
  ne : (1 : R) ≠ 0
  int : ∀ {a b : R}, a * b = 0 → a = 0 ∨ b = 0
/-- a list of all elements, each once -/
structure Al (R : Type) (L : List R) : Prop where
  nd : L.Nodup
  all : ∀ a, a ∈ L
def prd {R : Type} [CommRing R] : List R → R
  | [] => 1
  | x :: l => x * prd l
theorem prd_perm {R : Type} [CommRing R] {a b : List R} (h : a.Perm b) : prd a = prd b := by
  induction h with
  | nil => rfl
  | cons x _ ih => exact congrArg (x * ·) ih
  | swap x y l =>
    show y * (x * prd l) = x * (y * prd l)
    grind
  | trans _ _ a b => exact a.trans b
theorem prd_map {R : Type} [CommRing R] (c : R) : ∀ l : List R, prd (l.map (c * ·)) = c ^ l.length * prd l
  | [] => by
    show (1 : R) = c ^ 0 * 1
    rw [Semiring.pow_zero, Semiring.mul_one]
  | x :: l => by
    show c * x * prd (l.map (c * ·)) = c ^ (l.length + 1) * (x * prd l)
    rw [prd_map c l, Semiring.pow_succ]
    grind
theorem prd_ne {R : Type} [CommRing R] [Dm R] : ∀ {l : List R}, (∀ x ∈ l, x ≠ 0) → prd l ≠ 0
  | [], _ => Dm.ne
  | x :: l, h => fun e => (Dm.int e).elim (h x List.mem_cons_self) (prd_ne fun y hy => h y (List.mem_cons_of_mem _ hy))
theorem can {R : Type} [CommRing R] [Dm R] {a b c : R} (ha : a ≠ 0) (h : a * b = a * c) : b = c := by
  have : a * (b - c) = 0 := by grind
  rcases Dm.int this with e | e
  · exact absurd e ha
  · grind
open Classical in
theorem perm_of {R : Type} : ∀ {a b : List R}, a.Nodup → (∀ x ∈ a, x ∈ b) → b.length ≤ a.length → a.Perm b
  | [], b, _, _, l => by
    have : b = [] := List.eq_nil_of_length_eq_zero (Nat.le_zero.mp l)
    rw [this]
  | x :: t, b, nd, h, l => by
    obtain ⟨n1, n2⟩ := List.nodup_cons.mp nd
    have hx := h x List.mem_cons_self
    have pe := List.perm_cons_erase hx
    have le := pe.length_eq
    refine (List.Perm.cons x (perm_of n2 (fun y hy => ?_) ?_)).trans pe.symm
    · have hy2 := pe.subset (h y (List.mem_cons_of_mem _ hy))
      rcases List.mem_cons.mp hy2 with rfl | hy2
      · exact absurd hy n1
      · exact hy2
    · simp only [List.length_cons] at l le
      omega
theorem nodup_mapI {A B : Type} {f : A → B} : ∀ {a : List A}, a.Nodup → (∀ s ∈ a, ∀ t ∈ a, f s = f t → s = t) → (a.map f).Nodup
  | [], _, _ => List.nodup_nil
  | x :: t, nd, h => by
    obtain ⟨n1, n2⟩ := List.nodup_cons.mp nd
    refine List.nodup_cons.mpr ⟨fun m => ?_, nodup_mapI n2 fun s hs u hu => h s (List.mem_cons_of_mem _ hs) u (List.mem_cons_of_mem _ hu)⟩
    obtain ⟨y, hy, e⟩ := List.mem_map.mp m
    have := h x List.mem_cons_self y (List.mem_cons_of_mem _ hy) e.symm
    exact n1 (this ▸ hy)
theorem nodup_le {A : Type} : ∀ {a b : List A}, a.Nodup → (∀ s ∈ a, s ∈ b) → a.length ≤ b.length
  | [], b, _, _ => Nat.zero_le _
  | x :: t, b, nd, h => by
    classical
    obtain ⟨n1, n2⟩ := List.nodup_cons.mp nd
    have pe := List.perm_cons_erase (h x List.mem_cons_self)
    have le := pe.length_eq
    have := nodup_le (b := b.erase x) n2 fun y hy => by
      have hy2 := pe.subset (h y (List.mem_cons_of_mem _ hy))
      rcases List.mem_cons.mp hy2 with rfl | hy2
      · exact absurd hy n1
      · exact hy2
    simp only [List.length_cons] at le ⊢
    omega
open Classical in
/-- the elements that aren't nought -/
noncomputable def nzl {R : Type} [CommRing R] (L : List R) : List R := L.filter fun x => decide (x ≠ 0)
theorem nzl_mem {R : Type} [CommRing R] {L : List R} (h : Al R L) {x : R} : x ∈ nzl L ↔ x ≠ 0 := by
  unfold nzl
  rw [List.mem_filter]
  simp [h.all x]
theorem nzl_len {R : Type} [CommRing R] {L : List R} (h : Al R L) : (nzl L).length + 1 = L.length := by
  have n0 : (0 : R) ∉ nzl L := fun m => (nzl_mem h).mp m rfl
  have nd : (nzl L).Nodup := h.nd.filter _
  have p : (0 :: nzl L).Perm L := (List.perm_ext_iff_of_nodup (List.nodup_cons.mpr ⟨n0, nd⟩) h.nd).mpr fun a => by
    constructor
    · exact fun _ => h.all a
    · intro _
      by_cases e : a = 0
      · rw [e]; exact List.mem_cons_self
      · exact List.mem_cons_of_mem _ ((nzl_mem h).mpr e)
  have := p.length_eq
  simpa using this
theorem fermat1 {R : Type} [CommRing R] [Dm R] {L : List R} (h : Al R L) {a : R} (ha : a ≠ 0) : a ^ (nzl L).length = 1 := by
  have nd : (nzl L).Nodup := h.nd.filter _
  have nm : ((nzl L).map (a * ·)).Nodup := nodup_mapI nd fun s _ t _ e => can ha e
  have pm : ((nzl L).map (a * ·)).Perm (nzl L) := perm_of nm (fun x hx => by
    obtain ⟨y, hy, rfl⟩ := List.mem_map.mp hx
    refine (nzl_mem h).mpr fun e => ?_
    rcases Dm.int e with e | e
    · exact ha e
    · exact (nzl_mem h).mp hy e) (by rw [List.length_map]; exact Nat.le_refl _)
  have e := prd_perm pm
  rw [prd_map] at e
  have pn : prd (nzl L) ≠ 0 := prd_ne fun x hx => (nzl_mem h).mp hx
  exact can pn (by grind)
theorem zero_pow {R : Type} [CommRing R] {n : Nat} (h : 0 < n) : (0 : R) ^ n = 0 := by
  obtain ⟨m, rfl⟩ : ∃ m, n = m + 1 := ⟨n - 1, by omega⟩
  rw [Semiring.pow_succ, Semiring.mul_zero]
/-- each element to the count of all is itself -/
theorem fermat {R : Type} [CommRing R] [Dm R] {L : List R} (h : Al R L) (a : R) : a ^ L.length = a := by
  rw [← nzl_len h]
  by_cases ha : a = 0
  · rw [ha, zero_pow (by omega)]
  · rw [Semiring.pow_succ, fermat1 h ha, Semiring.one_mul]
/-- each but nought can be undone -/
theorem undo {R : Type} [CommRing R] [Dm R] {L : List R} (h : Al R L) {a : R} (ha : a ≠ 0) : ∃ b, a * b = 1 := by
  have e := fermat1 h ha
  have l : 0 < (nzl L).length := List.length_pos_of_mem ((nzl_mem h).mpr ha)
  obtain ⟨m, hm⟩ : ∃ m, (nzl L).length = m + 1 := ⟨(nzl L).length - 1, by omega⟩
  rw [hm, Semiring.pow_succ] at e
  exact ⟨a ^ m, by grind⟩
/-! ### how many roots -/
/-- a polynomial function of a degree below n -/
def Lo {R : Type} [CommRing R] : Nat → (R → R) → Prop
  | 0, g => ∀ x, g x = 0
  | n + 1, g => ∃ (h : R → R) (c : R), Lo n h ∧ ∀ x, g x = x * h x + c
/-- a level polynomial function of degree n -/
def Mo {R : Type} [CommRing R] : Nat → (R → R) → Prop
  | 0, g => ∀ x, g x = 1
  | n + 1, g => ∃ (h : R → R) (c : R), Mo n h ∧ ∀ x, g x = x * h x + c
section
variable {R : Type} [CommRing R]
theorem Lo.up : ∀ {n : Nat} {g : R → R}, Lo n g → Lo (n + 1) g
  | 0, g, h => ⟨fun _ => 0, 0, fun _ => rfl, fun x => by rw [h x]; grind⟩
  | n + 1, g, ⟨h, c, l, e⟩ => ⟨h, c, Lo.up l, e⟩
theorem Lo.to {n m : Nat} (h : n ≤ m) {g : R → R} (l : Lo n g) : Lo m g := by
  induction h with
  | refl => exact l
  | step _ ih => exact ih.up
theorem Mo.lo : ∀ {n : Nat} {g : R → R}, Mo n g → Lo (n + 1) g
  | 0, g, h => ⟨fun _ => 0, 1, fun _ => rfl, fun x => by rw [h x]; grind⟩
  | n + 1, g, ⟨h, c, l, e⟩ => ⟨h, c, Mo.lo l, e⟩
theorem Lo.sc (b : R) : ∀ {n : Nat} {g : R → R}, Lo n g → Lo n fun x => b * g x
  | 0, g, h => fun x => by
    show b * g x = 0
    rw [h x]; grind
  | n + 1, g, ⟨h, c, l, e⟩ => ⟨fun x => b * h x, b * c, Lo.sc b l, fun x => by
    show b * g x = _
    rw [e x]; grind⟩
theorem Lo.ad : ∀ {n : Nat} {g k : R → R}, Lo n g → Lo n k → Lo n fun x => g x + k x
  | 0, g, k, h, h2 => fun x => by
    show g x + k x = 0
    rw [h x, h2 x]; grind
  | n + 1, g, k, ⟨h, c, l, e⟩, ⟨h2, c2, l2, e2⟩ => ⟨fun x => h x + h2 x, c + c2, Lo.ad l l2, fun x => by
    show g x + k x = _
    rw [e x, e2 x]; grind⟩
theorem Mo.ad : ∀ {n : Nat} {g k : R → R}, Mo n g → Lo n k → Mo n fun x => g x + k x
  | 0, g, k, h, h2 => fun x => by
    show g x + k x = 1
    rw [h x, h2 x]; grind
  | n + 1, g, k, ⟨h, c, l, e⟩, ⟨h2, c2, l2, e2⟩ => ⟨fun x => h x + h2 x, c + c2, Mo.ad l l2, fun x => by
    show g x + k x = _
    rw [e x, e2 x]; grind⟩
theorem Mo.pw : ∀ n : Nat, Mo n fun x : R => x ^ n
  | 0 => fun x => Semiring.pow_zero x
  | n + 1 => ⟨fun x => x ^ n, 0, Mo.pw n, fun x => by
    show x ^ (n + 1) = _
    rw [Semiring.pow_succ]; grind⟩
/-- a root's part taken off -/
theorem Mo.off (a : R) : ∀ {n : Nat} {g : R → R}, Mo (n + 1) g → ∃ h, Mo n h ∧ ∀ x, g x = (x - a) * h x + g a
  | 0, g, ⟨h, c, l, e⟩ => ⟨h, l, fun x => by
    have h1 : h x = 1 := l x
    have h2 : h a = 1 := l a
    rw [e x, e a, h1, h2]; grind⟩
  | n + 1, g, ⟨h, c, l, e⟩ => by
    obtain ⟨k, lk, ek⟩ := Mo.off a l
    refine ⟨fun x => h x + a * k x, l.ad (lk.lo.sc a), fun x => ?_⟩
    have := ek x
    show g x = (x - a) * (h x + a * k x) + g a
    rw [e x, e a]
    grind
theorem Mo.roots [Dm R] : ∀ {n : Nat} {g : R → R}, Mo n g → ∀ {l : List R}, l.Nodup → (∀ x ∈ l, g x = 0) → l.length ≤ n
  | 0, g, h, l, _, z => by
    match l with
    | [] => exact Nat.le_refl _
    | x :: _ => exact absurd ((h x).symm.trans (z x List.mem_cons_self)) Dm.ne
  | n + 1, g, h, l, nd, z => by
    match l with
    | [] => exact Nat.zero_le _
    | a :: t =>
      obtain ⟨n1, n2⟩ := List.nodup_cons.mp nd
      obtain ⟨k, lk, ek⟩ := h.off a
      have := Mo.roots lk n2 fun x hx => by
        have e := ek x
        rw [z x (List.mem_cons_of_mem _ hx), z a List.mem_cons_self] at e
        have e2 : (x - a) * k x = 0 := by grind
        rcases Dm.int e2 with e3 | e3
        · refine absurd hx ?_
          have : x = a := by grind
          rw [this]
          exact n1
        · exact e3
      simp only [List.length_cons]
      omega
/-- few are their own power -/
theorem few [Dm R] {q : Nat} (hq : 2 ≤ q) {l : List R} (nd : l.Nodup) (h : ∀ x ∈ l, x ^ q = x) : l.length ≤ q := by
  have lo : Lo q fun x : R => -x := Lo.to hq ⟨fun _ => -1, 0, ⟨fun _ => 0, -1, fun _ => rfl, fun x => by grind⟩, fun x => by grind⟩
  refine Mo.roots ((Mo.pw (R := R) q).ad lo) nd fun x hx => ?_
  show x ^ q + -x = 0
  rw [h x hx]
  grind
end
end Xp
end
section
set_option linter.all false
/-! Polynomials as a ring, what a prime and a rule leave of it, whole rules (no program in it). -/
namespace Xp
open Lean.Grind
structure Po where
  c : Cf
  fi : Fi c
theorem Po.ext {a b : Po} (h : a.c = b.c) : a = b := by
  cases a; cases b
  cases h
  rfl
def poL : Laws Po where
  add a b := ⟨ad a.c b.c, a.fi.ad b.fi⟩
  mul a b := ⟨cv a.c b.c, a.fi.cv b.fi⟩
  neg a := ⟨sc (-1) a.c, a.fi.sc (-1)⟩
  o := ⟨nul, Fi.nul⟩
  e := ⟨one, Fi.one⟩
  addC a b := Po.ext (adC _ _)
  addA a b c := Po.ext (adA _ _ _)
  addO a := Po.ext (ad_nul _)
  addN a := Po.ext ((adC _ _).trans (ad_neg _))
  mulC a b := Po.ext (cvC _ _)
  mulA a b c := Po.ext (cvA _ _ _)
  mulE a := Po.ext (cv1 _)
  dis a b c := Po.ext (cv_ad _ _ _)
instance : CommRing Po := poL.ring
theorem Po.add_c (a b : Po) : (a + b).c = ad a.c b.c := rfl
theorem Po.mul_c (a b : Po) : (a * b).c = cv a.c b.c := rfl
theorem Po.neg_c (a : Po) : (-a).c = sc (-1) a.c := rfl
theorem Po.sub_c (a b : Po) : (a - b).c = ad a.c (sc (-1) b.c) := rfl
theorem Po.zero_c : (0 : Po).c = nul := rfl
theorem Po.one_c : (1 : Po).c = one := rfl
theorem Po.pow_c (a : Po) : ∀ n : Nat, (a ^ n).c = pw a.c n
  | 0 => by rw [Semiring.pow_zero]; rfl
  | n + 1 => by
    rw [Semiring.pow_succ, Po.mul_c, Po.pow_c a n, cvC]
    rfl
/-- a number as a polynomial -/
def Po.C (n : Int) : Po := ⟨sc n one, Fi.one.sc n⟩
def Po.X : Po := ⟨xs one, ⟨2, fun k hk => by
  obtain ⟨j, rfl⟩ : ∃ j, k = j + 2 := ⟨k - 2, by omega⟩
  show one (j + 1) = 0
  exact if_neg (by omega)⟩⟩
theorem Po.C_add (m n : Int) : Po.C (m + n) = Po.C m + Po.C n := Po.ext (ad_sc m n one)
theorem Po.C_one : Po.C 1 = 1 := Po.ext (sc_one one)
theorem Po.C_zero : Po.C 0 = 0 := Po.ext (sc_zero one)
theorem Po.C_mul (m n : Int) : Po.C (m * n) = Po.C m * Po.C n := Po.ext (by
  show sc (m * n) one = cv (sc m one) (sc n one)
  rw [sc_cv, cv_sc, cv1, sc_sc])
/-- multiples of a rule, by a prime -/
def idl (p : Int) (f : Cf) : Idl Po where
  mem x := Dv p f x.c
  z := Dv.zero p f
  a h k := Dv.add h k
  m r h := by
    show Dv p f (cv _ _)
    rw [cvC]
    exact Dv.cv r.fi h
abbrev Fq (p : Int) (f : Cf) := Qu (idl p f)
/-- list as coefficients -/
abbrev cf (ms : List Int) : Cf := fun k => ms.getD k 0
def Po.of (ms : List Int) : Po := ⟨cf ms, Fi.list ms⟩
def el (p : Int) (f : Cf) (ms : List Int) : Fq p f := Qu.mk (Po.of ms)
theorem mk_eq {p : Int} {f : Cf} {a b : Po} : (Qu.mk a : Fq p f) = Qu.mk b ↔ Cg p f a.c b.c := Qu.eq_iff
theorem mk_zero {p : Int} {f : Cf} {a : Po} : (Qu.mk a : Fq p f) = 0 ↔ Dv p f a.c := Qu.zero_iff
theorem el_eq {p : Int} {f : Cf} {a b : List Int} : el p f a = el p f b ↔ Cg p f (cf a) (cf b) := Qu.eq_iff
theorem Dv.cg {p : Int} {f x : Cf} : Dv p f x ↔ Cg p f x nul := by
  unfold Cg
  rw [sc_nul, ad_nul]
/-! ### a rule of a degree -/
/-- p is a prime, in the sense that what isn't nought by it can be undone -/
def Pr (p : Int) : Prop := 2 ≤ p ∧ ∀ a : Int, a % p ≠ 0 → ∃ c, (c * a) % p = 1
/-- of degree d -/
structure Dg (p : Int) (d : Nat) (f : Cf) : Prop where
  top : ∃ c, (c * f d) % p = 1
  out : ∀ k, d < k → f k = 0
def xsn : Nat → Cf → Cf
  | 0, h => h
  | n + 1, h => xs (xsn n h)
theorem cv_xs (h g : Cf) : cv (xs h) g = xs (cv h g) := by
  rw [cv_head]
  show ad (sc 0 g) (xs (cv h g)) = _
  rw [sc_zero, nul_ad]
theorem cv_xsn (g : Cf) : ∀ n h, cv (xsn n h) g = xsn n (cv h g)
  | 0, h => rfl
  | n + 1, h => by
    show cv (xs (xsn n h)) g = xs (xsn n (cv h g))
    rw [cv_xs, cv_xsn g n]
theorem xsn_at : ∀ (n : Nat) (h : Cf) (k : Nat), xsn n h (n + k) = h k
  | 0, h, k => by rw [Nat.zero_add]; rfl
  | n + 1, h, k => by
    rw [Nat.add_right_comm]
    exact xsn_at n h k
theorem Fi.xs {h : Cf} (f : Fi h) : Fi (xs h) := by
  obtain ⟨n, hn⟩ := f
  refine ⟨n + 1, fun k hk => ?_⟩
  match k, hk with
  | k + 1, hk => exact hn k (by omega)
theorem Fi.xsn {h : Cf} (f : Fi h) : ∀ n, Fi (xsn n h)
  | 0 => f
  | n + 1 => (Fi.xsn f n).xs
theorem one_mod {p : Int} (h : 2 ≤ p) : (1 : Int) % p = 1 := Int.emod_eq_of_lt (by omega) (by omega)
/-- what a rule leaves, as rests -/
theorem rem_ex {p : Nat} (hp : 2 ≤ p) {d : Nat} {f : Cf} (D : Dg p d f) : ∀ (N : Nat) (x : Cf), (∀ k, N ≤ k → x k % (p : Int) = 0) → ∃ r ∈ tp p d, Cg p f x (cf r)
  | 0, x, h => by
    refine ⟨(List.range d).map fun _ => 0, tp_mem.mpr ⟨by simp, fun y hy => ?_⟩, Cg.of fun k => ?_⟩
    · obtain ⟨_, _, rfl⟩ := List.mem_map.mp hy
      omega
    · rw [h k (Nat.zero_le _)]
      have : ((List.range d).map fun _ => (0 : Int)).getD k 0 = 0 := by
        rw [List.getD_eq_getElem?_getD, List.getElem?_map]
        cases (List.range d)[k]? <;> rfl
      rw [show cf ((List.range d).map fun _ => (0 : Int)) k = 0 from this, Int.zero_emod]
  | N + 1, x, h => by
    by_cases hd : N < d
    · refine ⟨(List.range d).map fun k => x k % (p : Int), tp_mem.mpr ⟨by simp, fun y hy => ?_⟩, Cg.of fun k => ?_⟩
      · obtain ⟨k, _, rfl⟩ := List.mem_map.mp hy
        exact ⟨Int.emod_nonneg _ (by omega), Int.emod_lt_of_pos _ (by omega)⟩
      · show x k % (p : Int) = (((List.range d).map fun k => x k % (p : Int)).getD k 0) % (p : Int)
        rw [List.getD_eq_getElem?_getD, List.getElem?_map]
        by_cases hk : k < d
        · rw [List.getElem?_range hk]
          show _ = x k % (p : Int) % (p : Int)
          rw [Int.emod_emod_of_dvd _ (Int.dvd_refl _)]
        · rw [List.getElem?_eq_none (by simp; omega)]
          show _ = 0 % (p : Int)
          rw [h k (by omega), Int.zero_emod]
    · obtain ⟨c, hc⟩ := D.top
      have key : Cg p f x (ad x (sc (-(x N * c)) (xsn (N - d) f))) := by
        have e : Dv p f (sc (x N * c) (xsn (N - d) f)) := by
          refine Dv.scale _ ?_
          have := Dv.of p f (Fi.one.xsn (N - d))
          rwa [cvC, cv_xsn, one_cv] at this
        refine Dv.congr e fun k => ?_
        show (x N * c * xsn (N - d) f k) % (p : Int) = (x k + -1 * (x k + -(x N * c) * xsn (N - d) f k)) % (p : Int)
        congr 1
        grind
      obtain ⟨r, hr, cr⟩ := rem_ex hp D N (ad x (sc (-(x N * c)) (xsn (N - d) f))) fun k hk => by
        show (x k + -(x N * c) * xsn (N - d) f k) % (p : Int) = 0
        obtain ⟨j, rfl⟩ : ∃ j, k = (N - d) + j := ⟨k - (N - d), by omega⟩
        rw [xsn_at]
        by_cases hj : j = d
        · rw [hj, show N - d + d = N by omega, show x N + -(x N * c) * f d = x N * (1 - c * f d) by grind, Int.mul_emod, Int.sub_emod, hc, one_mod (by omega)]
          simp
        · rw [D.out j (by omega), Int.mul_zero, Int.add_zero]
          exact h _ (by omega)
      exact ⟨r, hr, key.trans cr⟩
theorem rem_of {p : Nat} (hp : 2 ≤ p) {d : Nat} {f : Cf} (D : Dg p d f) {x : Cf} (h : Fi x) : ∃ r ∈ tp p d, Cg p f x (cf r) := by
  obtain ⟨N, hN⟩ := h
  exact rem_ex hp D N x fun k hk => by rw [hN k hk, Int.zero_emod]
theorem cf_out {r : List Int} {k : Nat} (h : r.length ≤ k) : cf r k = 0 := by
  show r.getD k 0 = 0
  rw [List.getD_eq_getElem?_getD, List.getElem?_eq_none h]
  rfl
theorem cf_in {r : List Int} {p : Int} (h : ∀ x ∈ r, 0 ≤ x ∧ x < p) (hp : 0 < p) (k : Nat) : 0 ≤ cf r k ∧ cf r k < p := by
  show 0 ≤ r.getD k 0 ∧ r.getD k 0 < p
  rw [List.getD_eq_getElem?_getD]
  by_cases hk : k < r.length
  · rw [List.getElem?_eq_getElem hk]
    exact h _ (List.getElem_mem hk)
  · rw [List.getElem?_eq_none (by omega)]
    exact ⟨Int.le_refl _, hp⟩
/-- short and a multiple: nought -/
theorem short_zero {p : Int} (hp : 2 ≤ p) {d : Nat} {f x : Cf} (D : Dg p d f) (hx : ∀ k, d ≤ k → x k % p = 0) (h : Dv p f x) : Eqm p x nul := by
  obtain ⟨t, ft, et⟩ := h
  obtain ⟨c, hc⟩ := D.top
  have z := short_nought (hc.trans (one_mod hp).symm) D.out ft hx et
  intro k
  rw [et k, (Eqm.refl p f).cv z k]
  show cv f nul k % p = _
  rw [cv_nul]
theorem tp_eq {p : Nat} (hp : 2 ≤ p) {d : Nat} {r s : List Int} (hr : r ∈ tp p d) (hs : s ∈ tp p d) (h : Eqm p (cf r) (cf s)) : r = s := by
  obtain ⟨l1, b1⟩ := tp_mem.mp hr
  obtain ⟨l2, b2⟩ := tp_mem.mp hs
  have e : ∀ k, cf r k = cf s k := fun k => by
    obtain ⟨u1, u2⟩ := cf_in b1 (by omega) k
    obtain ⟨v1, v2⟩ := cf_in b2 (by omega) k
    have := h k
    rwa [Int.emod_eq_of_lt u1 u2, Int.emod_eq_of_lt v1 v2] at this
  refine List.ext_getElem (by omega) fun k h1 h2 => ?_
  have := e k
  show r[k] = s[k]
  have a : cf r k = r[k] := by
    show r.getD k 0 = _
    rw [List.getD_eq_getElem?_getD, List.getElem?_eq_getElem h1]
    rfl
  have b : cf s k = s[k] := by
    show s.getD k 0 = _
    rw [List.getD_eq_getElem?_getD, List.getElem?_eq_getElem h2]
    rfl
  rw [← a, ← b, this]
theorem rem_one {p : Nat} (hp : 2 ≤ p) {d : Nat} {f : Cf} (D : Dg p d f) {r s : List Int} (hr : r ∈ tp p d) (hs : s ∈ tp p d) (h : Cg p f (cf r) (cf s)) : r = s := by
  refine tp_eq hp hr hs fun k => ?_
  have z := short_zero (by omega) D (x := ad (cf r) (sc (-1) (cf s))) (fun k hk => by
    show (cf r k + -1 * cf s k) % (p : Int) = 0
    rw [cf_out (by rw [(tp_mem.mp hr).1]; exact hk), cf_out (by rw [(tp_mem.mp hs).1]; exact hk)]
    simp) h k
  have z : (cf r k + -1 * cf s k) % (p : Int) = 0 := z.trans (Int.zero_emod _)
  have z : (cf r k - cf s k) % (p : Int) = 0 := by
    rw [← z]
    congr 1
    grind
  exact Int.emod_eq_emod_iff_emod_sub_eq_zero.mpr z
/-- all elements by a rule -/
def els (p : Nat) (d : Nat) (f : Cf) : List (Fq p f) := (tp p d).map (el p f)
theorem els_al {p : Nat} (hp : 2 ≤ p) {d : Nat} {f : Cf} (D : Dg p d f) : Al (Fq p f) (els p d f) := by
  refine ⟨nodup_mapI (tp_nodup p d) fun r hr s hs e => rem_one hp D hr hs (el_eq.mp e), fun x => ?_⟩
  obtain ⟨a, rfl⟩ := Qu.rep x
  obtain ⟨r, hr, e⟩ := rem_of hp D a.fi
  exact List.mem_map.mpr ⟨r, hr, (mk_eq.mpr e).symm⟩
theorem els_len {p d : Nat} {f : Cf} : (els p d f).length = p ^ d := by
  unfold els
  rw [List.length_map, tp_len]
/-! ### whole rules -/
/-- the level polynomial above a tuple -/
abbrev lv (t : List Int) : Cf := cf (t ++ [1])
theorem lv_dg {p : Nat} (hp : 2 ≤ p) {d : Nat} {t : List Int} (h : t ∈ tp p d) : Dg p d (lv t) := by
  have l := (tp_mem.mp h).1
  refine ⟨⟨1, ?_⟩, fun k hk => cf_out (by rw [List.length_append, l]; exact hk)⟩
  show (1 * (t ++ [1]).getD d 0) % (p : Int) = 1
  rw [List.getD_eq_getElem?_getD, List.getElem?_append_right (by omega), l, Nat.sub_self]
  show (1 * 1 : Int) % (p : Int) = 1
  exact one_mod (by omega)
/-- nothing between divides it -/
def Irr (p : Nat) (d : Nat) (f : Cf) : Prop := ∀ e, 1 ≤ e → e < d → ∀ t ∈ tp p e, ¬ Dv p (lv t) f
/-- the degree of what isn't nought -/
theorem deg_ex {p : Int} : ∀ (N : Nat) {x : Cf}, (∀ k, N ≤ k → x k % p = 0) → ¬ Eqm p x nul → ∃ e, e < N ∧ x e % p ≠ 0 ∧ ∀ k, e < k → x k % p = 0
  | 0, x, h, hx => absurd (fun k => (h k (Nat.zero_le _)).trans (Int.zero_emod p).symm) hx
  | N + 1, x, h, hx => by
    by_cases z : x N % p = 0
    · obtain ⟨e, h1, h2, h3⟩ := deg_ex N (x := x) (fun k hk => by
        by_cases e : k = N
        · rw [e, z]
        · exact h k (by omega)) hx
      exact ⟨e, by omega, h2, h3⟩
    · exact ⟨N, by omega, z, fun k hk => h k (by omega)⟩
/-- made level -/
theorem lv_ex {p : Nat} (hp : Pr p) {e : Nat} {x : Cf} (h : x e % (p : Int) ≠ 0) (o : ∀ k, e < k → x k % (p : Int) = 0) : ∃ t ∈ tp p e, ∃ c, Eqm p (lv t) (sc c x) := by
  obtain ⟨p2, hp⟩ := hp
  obtain ⟨c, hc⟩ := hp _ h
  refine ⟨(List.range e).map fun k => (c * x k) % (p : Int), tp_mem.mpr ⟨by simp, fun y hy => ?_⟩, c, fun k => ?_⟩
  · obtain ⟨k, _, rfl⟩ := List.mem_map.mp hy
    exact ⟨Int.emod_nonneg _ (by omega), Int.emod_lt_of_pos _ (by omega)⟩
  · show (((List.range e).map fun k => (c * x k) % (p : Int)) ++ [1]).getD k 0 % (p : Int) = (c * x k) % (p : Int)
    rw [List.getD_eq_getElem?_getD]
    by_cases hk : k < e
    · rw [List.getElem?_append_left (by simpa using hk), List.getElem?_map, List.getElem?_range hk]
      show (c * x k) % (p : Int) % (p : Int) = _
      rw [Int.emod_emod_of_dvd _ (Int.dvd_refl _)]
    · rw [List.getElem?_append_right (by simpa using hk)]
      by_cases he : k = e
      · rw [he, hc]
        simp only [List.length_map, List.length_range, Nat.sub_self]
        exact one_mod p2
      · rw [List.getElem?_eq_none (by simp; omega)]
        show 0 % (p : Int) = _
        rw [Int.zero_emod, Int.mul_emod, o k (by omega), Int.mul_zero, Int.zero_emod]
theorem least {P : Nat → Prop} : ∀ {n : Nat}, P n → ∃ m, P m ∧ m ≤ n ∧ ∀ k, k < m → ¬ P k := by
  intro n
  induction n using Nat.strongRecOn with
  | ind n ih =>
    intro h
    by_cases z : ∃ k, k < n ∧ P k
    · obtain ⟨k, hk, pk⟩ := z
      obtain ⟨m, h1, h2, h3⟩ := ih k hk pk
      exact ⟨m, h1, by omega, h3⟩
    · exact ⟨n, h, Nat.le_refl _, fun k hk pk => z ⟨k, hk, pk⟩⟩
/-- one that generates what it holds -/
theorem gen {p : Nat} (hp : Pr p) (I : Cf → Prop) (cg : ∀ {x y}, Eqm p x y → I x → I y) (ia : ∀ {x y}, I x → I y → I (ad x y)) (im : ∀ {x} (y : Cf), Fi y → I x → I (cv x y)) {a : Cf} (ha : I a) (fa : Fi a) (nz : ¬ Eqm p a nul) :
    ∃ e, ∃ t ∈ tp p e, I (lv t) ∧ (∀ d, a d % (p : Int) ≠ 0 → (∀ k, d < k → a k % (p : Int) = 0) → e ≤ d) ∧ ∀ y, Fi y → I y → Dv p (lv t) y := by
  have p2 := hp.1
  obtain ⟨N, hN⟩ := fa
  obtain ⟨d, _, hd, od⟩ := deg_ex (p := p) N (fun k hk => by rw [hN k hk, Int.zero_emod]) nz
  obtain ⟨e, ⟨x, ix, hx, ox⟩, le, mi⟩ := least (P := fun e => ∃ x, I x ∧ x e % (p : Int) ≠ 0 ∧ ∀ k, e < k → x k % (p : Int) = 0) (n := d) ⟨a, ha, hd, od⟩
  obtain ⟨t, ht, c, et⟩ := lv_ex hp hx ox
  have it : I (lv t) := cg et.symm (by
    have := im (sc c one) (Fi.one.sc c) ix
    rwa [cv_sc, cv1] at this)
  refine ⟨e, t, ht, it, fun d' h1 h2 => ?_, fun y fy iy => ?_⟩
  · have : d' = d := by
      by_cases g : d' < d
      · exact absurd (h2 d g) hd
      · by_cases g2 : d < d'
        · exact absurd (od d' g2) h1
        · omega
    omega
  · obtain ⟨r, hr, cr⟩ := rem_of (by omega) (lv_dg (by omega) ht) fy
    obtain ⟨q, fq, eq⟩ := cr
    have ir : I (cf r) := by
      have h1 : I (ad y (cv (lv t) (sc (-1) q))) := ia iy (im _ (fq.sc _) it)
      refine cg (fun k => ?_) h1
      show (y k + cv (lv t) (sc (-1) q) k) % (p : Int) = cf r k % (p : Int)
      rw [cv_sc]
      show (y k + -1 * cv (lv t) q k) % (p : Int) = cf r k % (p : Int)
      have := eq k
      have e1 : (y k + -1 * cf r k) % (p : Int) = cv (lv t) q k % (p : Int) := this
      rw [Int.add_emod, Int.mul_emod, ← e1, ← Int.mul_emod, ← Int.add_emod]
      congr 1
      grind
    by_cases z : Eqm p (cf r) nul
    · exact ⟨q, fq, fun k => by
        rw [← eq k]
        show y k % _ = (y k + -1 * cf r k) % (p : Int)
        rw [Int.add_emod, Int.mul_emod, z k]
        show y k % (p : Int) = (y k % (p : Int) + -1 % (p : Int) * (0 % (p : Int)) % (p : Int)) % (p : Int)
        simp⟩
    · obtain ⟨e', h1, h2, h3⟩ := deg_ex (p := p) e (x := cf r) (fun k hk => by rw [cf_out (by rw [(tp_mem.mp hr).1]; exact hk), Int.zero_emod]) z
      exact absurd ⟨cf r, ir, h2, h3⟩ (mi e' h1)
end Xp
end
section
set_option linter.all false
/-! What is whole makes a field; whole or not by x to powers of the prime (no program in it). -/
namespace Xp
open Lean.Grind
theorem Pr.le {p : Nat} (h : Pr p) : 2 ≤ p := by
  have := h.1
  omega
theorem dm_of {p : Nat} (hp : Pr p) {d : Nat} {f : Cf} (D : Dg p d f) (d1 : 1 ≤ d) (ir : Irr p d f) : Dm (Fq p f) where
  ne h := by
    have h : Dv p f one := mk_zero (a := 1).mp h
    have := short_zero hp.1 D (fun k hk => by rw [show one k = 0 from if_neg (by omega)]; exact Int.zero_emod _) h 0
    rw [show one 0 = 1 from rfl, one_mod hp.1, show nul 0 = 0 from rfl, Int.zero_emod] at this
    exact absurd this (by decide)
  int {x y} h := by
    obtain ⟨a, rfl⟩ := Qu.rep x
    obtain ⟨b, rfl⟩ := Qu.rep y
    by_cases hb : Dv p f b.c
    · exact .inr (mk_zero.mpr hb)
    · refine .inl (Classical.byContradiction fun ha => ?_)
      obtain ⟨r, hr, cr⟩ := rem_of hp.le D a.fi
      have er : (Qu.mk a : Fq p f) = el p f r := mk_eq.mpr cr
      have nz : ¬ Eqm p (cf r) nul := fun z => ha (er.trans (mk_zero.mpr ((Dv.zero p f).congr z.symm)))
      have ha2 : Dv p f (cv (cf r) b.c) := by
        rw [er] at h
        exact mk_zero (a := Po.of r * b).mp h
      obtain ⟨e', h1, h2, h3⟩ := deg_ex (p := p) d (x := cf r) (fun k hk => by rw [cf_out (by rw [(tp_mem.mp hr).1]; exact hk), Int.zero_emod]) nz
      obtain ⟨e, t, ht, it, le, all⟩ := gen hp (fun x => Dv p f (cv x b.c)) (fun {x y} g i => i.congr (g.cv (Eqm.refl _ _))) (fun {x y} i j => by
        show Dv p f (cv (ad x y) b.c)
        rw [ad_cv]
        exact i.add j) (fun {x} y fy i => by
        show Dv p f (cv (cv x y) b.c)
        rw [cvC x y, cvA]
        exact i.cv fy) ha2 (Fi.list r) nz
      have df := all f ⟨d + 1, fun k hk => D.out k (by omega)⟩ (Dv.of p f b.fi)
      have led := le e' h2 h3
      have e1 : 1 ≤ e := by
        by_cases z : e = 0
        · subst z
          have : t = [] := List.eq_nil_of_length_eq_zero (tp_mem.mp ht).1
          subst this
          refine absurd ?_ hb
          have e1 : lv [] = one := funext fun k => by
            show ([1] : List Int).getD k 0 = if k = 0 then 1 else 0
            match k with
            | 0 => rfl
            | k + 1 => rfl
          have it : Dv p f (cv (lv []) b.c) := it
          rwa [e1, one_cv] at it
        · omega
      exact ir e e1 (by omega) t ht df
theorem irr_half {p : Nat} (hp : Pr p) {d : Nat} {f : Cf} (D : Dg p d f) (h : ∀ e, 1 ≤ e → 2 * e ≤ d → ∀ t ∈ tp p e, ¬ Dv p (lv t) f) : Irr p d f := by
  intro e e1 ed t ht dv
  have ⟨q, fq, eq⟩ := dv
  by_cases h2 : 2 * e ≤ d
  · exact h e e1 h2 t ht dv
  · obtain ⟨c, hc⟩ := D.top
    have p2 := hp.le
    have fd : f d % (p : Int) ≠ 0 := fun z => by
      rw [Int.mul_emod, z, Int.mul_zero, Int.zero_emod] at hc
      exact absurd hc (by decide)
    have qz : ¬ Eqm p q nul := fun z => fd (by
      rw [eq d, (Eqm.refl _ _).cv z d]
      show cv (lv t) nul d % _ = _
      rw [cv_nul]
      exact Int.zero_emod _)
    obtain ⟨N, hN⟩ := fq
    obtain ⟨m, _, hm, om⟩ := deg_ex (p := p) N (x := q) (fun k hk => by rw [hN k hk, Int.zero_emod]) qz
    have q' : Eqm p q (fun k => if k ≤ m then q k else 0) := fun k => by
      show q k % _ = (if k ≤ m then q k else 0) % _
      by_cases g : k ≤ m
      · rw [if_pos g]
      · rw [if_neg g, om k (by omega), Int.zero_emod]
    have eq' := eq.trans ((Eqm.refl _ _).cv q')
    have lo := (lv_dg p2 ht).out
    have qo : ∀ k, m < k → (fun k => if k ≤ m then q k else 0) k = 0 := fun k hk => if_neg (by omega)
    have l1 : lv t e = 1 := by
      have l := (tp_mem.mp ht).1
      show (t ++ [1]).getD e 0 = 1
      rw [List.getD_eq_getElem?_getD, List.getElem?_append_right (by omega), l, Nat.sub_self]
      rfl
    have top : f (e + m) % (p : Int) = q m % p := by
      rw [eq' (e + m), cv_top lo qo, l1, Int.one_mul, if_pos (Nat.le_refl m)]
    have a1 : e + m ≤ d := by
      by_cases g : e + m ≤ d
      · exact g
      · rw [D.out _ (by omega), Int.zero_emod] at top
        exact absurd top.symm hm
    have a2 : d ≤ e + m := by
      by_cases g : d ≤ e + m
      · exact g
      · rw [eq' d, cv_over lo qo (by omega), Int.zero_emod] at fd
        exact absurd rfl fd
    obtain ⟨t', ht', c', et⟩ := lv_ex hp hm om
    refine h m (by omega) (by omega) t' ht' ?_
    have l2 : lv t' m = 1 := by
      have l := (tp_mem.mp ht').1
      show (t' ++ [1]).getD m 0 = 1
      rw [List.getD_eq_getElem?_getD, List.getElem?_append_right (by omega), l, Nat.sub_self]
      rfl
    have cq : (c' * q m) % (p : Int) = 1 % (p : Int) := by
      have := et m
      rw [l2] at this
      exact this.symm
    have eqq : Eqm p q (sc (q m) (lv t')) := ((et.sc (q m)).trans (by
      rw [← sc_sc]
      have : Eqm p (sc (q m * c') q) (sc 1 q) := Eqm.sc2 (by rw [Int.mul_comm]; exact cq) q
      rwa [sc_one] at this)).symm
    refine ⟨sc (q m) (lv t), (Fi.list _).sc _, (eq.trans ((Eqm.refl _ _).cv eqq)).trans (Eqm.of_eq ?_)⟩
    rw [cv_sc, cv_sc, cvC]
/-! ### the power to the prime -/
theorem pow_mulR {R : Type} [CommRing R] (x : R) (m : Nat) : ∀ n, x ^ (m * n) = (x ^ m) ^ n
  | 0 => by rw [Nat.mul_zero, Semiring.pow_zero, Semiring.pow_zero]
  | n + 1 => by rw [Nat.mul_succ, Semiring.pow_add, pow_mulR x m n, Semiring.pow_succ]
theorem one_powR {R : Type} [CommRing R] : ∀ n : Nat, (1 : R) ^ n = 1
  | 0 => Semiring.pow_zero _
  | n + 1 => by rw [Semiring.pow_succ, one_powR n, Semiring.mul_one]
/-- what makes the power to p keep sums -/
def Fb (p : Nat) : Prop := ∀ k, 0 < k → k < p → ch p k % (p : Int) = 0
theorem frobF {p : Nat} (hp : 2 ≤ p) (h : Fb p) {f : Cf} (x y : Fq p f) : (x + y) ^ p = x ^ p + y ^ p := by
  obtain ⟨a, rfl⟩ := Qu.rep x
  obtain ⟨b, rfl⟩ := Qu.rep y
  rw [← Qu.mk_add, ← Qu.mk_pow, ← Qu.mk_pow, ← Qu.mk_pow, ← Qu.mk_add]
  refine mk_eq.mpr (Cg.of ?_)
  rw [Po.pow_c, Po.add_c, Po.add_c, Po.pow_c, Po.pow_c]
  exact frob hp h _ _
theorem frobN {p : Nat} (hp : 2 ≤ p) (h : Fb p) {f : Cf} (x y : Fq p f) : ∀ k, (x + y) ^ (p ^ k) = x ^ (p ^ k) + y ^ (p ^ k)
  | 0 => by rw [Nat.pow_zero, Semiring.pow_one, Semiring.pow_one, Semiring.pow_one]
  | k + 1 => by rw [Nat.pow_succ, pow_mulR, frobN hp h x y k, frobF hp h, ← pow_mulR, ← pow_mulR]
theorem mul_powR {R : Type} [CommRing R] (x y : R) : ∀ n : Nat, (x * y) ^ n = x ^ n * y ^ n
  | 0 => by rw [Semiring.pow_zero, Semiring.pow_zero, Semiring.pow_zero, Semiring.mul_one]
  | n + 1 => by
    rw [Semiring.pow_succ, Semiring.pow_succ, Semiring.pow_succ, mul_powR x y n]
    grind
theorem Po.ind {P : Po → Prop} (z : P 0) (s : ∀ n a, P a → P (Po.C n + Po.X * a)) (a : Po) : P a := by
  obtain ⟨c, N, hN⟩ := a
  induction N generalizing c with
  | zero =>
    have : (⟨c, 0, hN⟩ : Po) = 0 := Po.ext (funext fun k => hN k (Nat.zero_le _))
    rw [this]
    exact z
  | succ N ih =>
    have h := ih (sh c) fun k hk => hN (k + 1) (by omega)
    have e : (⟨c, N + 1, hN⟩ : Po) = Po.C (c 0) + Po.X * ⟨sh c, N, fun k hk => hN (k + 1) (by omega)⟩ := Po.ext (by
      show c = ad (sc (c 0) one) (cv (xs one) (sh c))
      rw [cv_xs, one_cv]
      refine funext fun k => ?_
      match k with
      | 0 =>
        show c 0 = c 0 * 1 + 0
        omega
      | k + 1 =>
        show c (k + 1) = c 0 * one (k + 1) + c (k + 1)
        rw [show one (k + 1) = 0 from if_neg (by omega)]
        omega)
    rw [e]
    exact s _ _ h
theorem mkC_mod {p : Int} {f : Cf} (n : Int) : (Qu.mk (Po.C n) : Fq p f) = Qu.mk (Po.C (n % p)) :=
  mk_eq.mpr (Cg.of fun k => by
    show (n * one k) % p = (n % p * one k) % p
    rw [Int.mul_emod, ← Int.emod_emod_of_dvd n (Int.dvd_refl p), ← Int.mul_emod, Int.emod_emod_of_dvd _ (Int.dvd_refl p)])
theorem fixC {p : Nat} (hp : 2 ≤ p) (h : Fb p) {f : Cf} (k : Nat) (n : Int) : (Qu.mk (Po.C n) : Fq p f) ^ (p ^ k) = Qu.mk (Po.C n) := by
  rw [mkC_mod]
  obtain ⟨j, hj⟩ := Int.eq_ofNat_of_zero_le (Int.emod_nonneg n (b := (p : Int)) (by omega))
  rw [hj]
  clear hj
  have pp : 0 < p ^ k := Nat.pow_pos (by omega)
  induction j with
  | zero =>
    show (Qu.mk (Po.C 0) : Fq p f) ^ (p ^ k) = Qu.mk (Po.C 0)
    rw [Po.C_zero, Qu.mk_zero, zero_pow pp]
  | succ j ih =>
    rw [show ((j + 1 : Nat) : Int) = (j : Int) + 1 from by omega, Po.C_add, Po.C_one, Qu.mk_add, Qu.mk_one, frobN hp h, ih, one_powR]
/-- where x is its own power, each is -/
theorem fixed {p : Nat} (hp : 2 ≤ p) (h : Fb p) {f : Cf} {k : Nat} (hX : (Qu.mk Po.X : Fq p f) ^ (p ^ k) = Qu.mk Po.X) (x : Fq p f) : x ^ (p ^ k) = x := by
  obtain ⟨a, rfl⟩ := Qu.rep x
  have pp : 0 < p ^ k := Nat.pow_pos (by omega)
  refine Po.ind (P := fun a => (Qu.mk a : Fq p f) ^ (p ^ k) = Qu.mk a) ?_ (fun n a ih => ?_) a
  · rw [Qu.mk_zero, zero_pow pp]
  · show (Qu.mk (Po.C n + Po.X * a) : Fq p f) ^ (p ^ k) = Qu.mk (Po.C n + Po.X * a)
    rw [Qu.mk_add, Qu.mk_mul, frobN hp h, fixC hp h, mul_powR, hX, ih]
/-- x to q, less x -/
abbrev xq (q : Nat) : Cf := ad (pw (xs one) q) (sc (-1) (xs one))
theorem xq_iff {p : Int} {f : Cf} {q : Nat} : Dv p f (xq q) ↔ (Qu.mk Po.X : Fq p f) ^ q = Qu.mk Po.X := by
  rw [← Qu.mk_pow, mk_eq, Po.pow_c]
  exact Iff.rfl
/-- what parts has a part that divides x to a power of the prime, less x -/
theorem has_turn {p : Nat} (hp : Pr p) {d : Nat} {f : Cf} (h : ∃ e, 1 ≤ e ∧ 2 * e ≤ d ∧ ∃ t ∈ tp p e, Dv p (lv t) f) : ∃ k, 1 ≤ k ∧ 2 * k ≤ d ∧ ∃ t ∈ tp p k, Dv p (lv t) f ∧ Dv p (lv t) (xq (p ^ k)) := by
  obtain ⟨e0, h1, h2, h3⟩ := h
  obtain ⟨e, ⟨e1, t, ht, dv⟩, le, mi⟩ := least (P := fun e => 1 ≤ e ∧ ∃ t ∈ tp p e, Dv p (lv t) f) (n := e0) ⟨h1, h3⟩
  refine ⟨e, e1, by omega, t, ht, dv, xq_iff.mpr ?_⟩
  have D := lv_dg hp.le ht
  have ir : Irr p e (lv t) := fun e' g1 g2 t' ht' dv' => mi e' g2 ⟨g1, t', ht', dv'.trans dv⟩
  have := dm_of hp D e1 ir
  have := fermat (els_al hp.le D) (Qu.mk Po.X)
  rwa [els_len] at this
/-- what is whole has none -/
theorem no_turn {p : Nat} (hp : Pr p) (fb : Fb p) {d : Nat} {f : Cf} (D : Dg p d f) (d1 : 1 ≤ d) (h : ∀ e, 1 ≤ e → 2 * e ≤ d → ∀ t ∈ tp p e, ¬ Dv p (lv t) f) {k : Nat} (k1 : 1 ≤ k) (k2 : 2 * k ≤ d) {e : Nat} (e1 : 1 ≤ e) {t : List Int} (ht : t ∈ tp p e) (dv : Dv p (lv t) f) : ¬ Dv p (lv t) (xq (p ^ k)) := by
  intro dx
  have p2 := hp.le
  have ir := irr_half hp D h
  have L := lv_dg p2 ht
  obtain ⟨c, hc⟩ := D.top
  have fd : f d % (p : Int) ≠ 0 := fun z => by
    rw [Int.mul_emod, z, Int.mul_zero, Int.zero_emod] at hc
    exact absurd hc (by decide)
  have ed : e = d := by
    by_cases g : e < d
    · exact absurd dv (ir e e1 g t ht)
    · by_cases g2 : d < e
      · have := short_zero hp.1 L (fun k hk => by rw [D.out k (by omega), Int.zero_emod]) dv d
        rw [show nul d = 0 from rfl, Int.zero_emod] at this
        exact absurd this fd
      · omega
  subst ed
  have l1 : lv t e = 1 := by
    have l := (tp_mem.mp ht).1
    show (t ++ [1]).getD e 0 = 1
    rw [List.getD_eq_getElem?_getD, List.getElem?_append_right (by omega), l, Nat.sub_self]
    rfl
  have y : Eqm p (ad f (sc (-(f e)) (lv t))) nul := short_zero hp.1 L (fun k hk => by
    show (f k + -(f e) * lv t k) % (p : Int) = 0
    by_cases g : k = e
    · rw [g, l1, show f e + -(f e) * 1 = 0 by omega, Int.zero_emod]
    · rw [D.out k (by omega), L.out k (by omega), Int.mul_zero]
      exact Int.zero_emod _) (dv.add ((Dv.self _ _).scale _))
  have fl : Dv p f (lv t) := by
    refine ⟨sc c one, Fi.one.sc c, ?_⟩
    rw [cv_sc, cv1]
    intro k
    show lv t k % (p : Int) = (c * f k) % (p : Int)
    have y1 : (f k + -(f e) * lv t k) % (p : Int) = 0 := (y k).trans (Int.zero_emod _)
    have y2 : f k % (p : Int) = (f e * lv t k) % (p : Int) := Int.emod_eq_emod_iff_emod_sub_eq_zero.mpr (by rw [← y1]; congr 1; grind)
    rw [Int.mul_emod c (f k), y2, ← Int.mul_emod, show c * (f e * lv t k) = (c * f e) * lv t k by grind, Int.mul_emod, hc, Int.one_mul, Int.emod_emod_of_dvd _ (Int.dvd_refl _)]
  have hX := xq_iff.mp (fl.trans dx)
  have dm := dm_of hp D d1 ir
  have q2 : 2 ≤ p ^ k := Nat.le_trans p2 (by
    have := Nat.pow_le_pow_right (n := p) (by omega) k1
    rwa [Nat.pow_one] at this)
  have al := els_al p2 D
  have := few q2 al.nd fun x _ => fixed p2 fb hX x
  rw [els_len] at this
  have := (Nat.pow_le_pow_iff_right (by omega)).mp this
  omega
end Xp
end
section
set_option linter.all false
set_option maxHeartbeats 1000000
/-! How the power to the prime turns what a rule leaves; what a common part's length tells (no program in it). -/
namespace Xp
open Lean.Grind
/-- the same, looked up -/
def rb (p : Nat) : Bool := (((row p).take p).drop 1).all fun x => x % (p : Int) == 0
theorem fb_of {p : Nat} (h : rb p = true) : Fb p := fun k k0 k1 => by
  unfold rb at h
  rw [List.all_eq_true] at h
  unfold ch
  rw [List.getD_eq_getElem?_getD]
  cases e : (row p)[k]? with
  | none => exact Int.zero_emod _
  | some x =>
    refine of_decide_eq_true (h x (List.mem_of_getElem? (i := k - 1) ?_))
    rw [List.getElem?_drop, show 1 + (k - 1) = k by omega, List.getElem?_take_of_lt k1]
    exact e
/-- a row of numbers, put in -/
def hv {R : Type} [CommRing R] (c : Int → R) (y : R) : List Int → R
  | [] => 0
  | t :: ts => c t + y * hv c y ts
abbrev mC (p : Int) (f : Cf) (n : Int) : Fq p f := Qu.mk (Po.C n)
theorem of_cons (t : Int) (ts : List Int) : Po.of (t :: ts) = Po.C t + Po.X * Po.of ts := Po.ext (by
  show cf (t :: ts) = ad (sc t one) (cv (xs one) (cf ts))
  rw [cv_xs, one_cv]
  refine funext fun k => ?_
  match k with
  | 0 =>
    show t = t * 1 + 0
    omega
  | k + 1 =>
    show cf ts k = t * one (k + 1) + cf ts k
    rw [show one (k + 1) = 0 from if_neg (by omega)]
    omega)
theorem of_nil : Po.of [] = 0 := Po.ext (funext fun k => rfl)
theorem el_hv {p : Int} {f : Cf} : ∀ ts : List Int, el p f ts = hv (mC p f) (Qu.mk Po.X) ts
  | [] => by
    show (Qu.mk (Po.of []) : Fq p f) = 0
    rw [of_nil]
    rfl
  | t :: ts => by
    show (Qu.mk (Po.of (t :: ts)) : Fq p f) = _
    rw [of_cons, Qu.mk_add, Qu.mk_mul]
    show mC p f t + Qu.mk Po.X * el p f ts = _
    rw [el_hv ts]
    rfl
theorem hv_turn {p : Nat} (hp : 2 ≤ p) (h : Fb p) {f : Cf} (y : Fq p f) : ∀ ts : List Int, (hv (mC p f) y ts) ^ p = hv (mC p f) (y ^ p) ts
  | [] => zero_pow (by omega)
  | t :: ts => by
    show (mC p f t + y * hv (mC p f) y ts) ^ p = mC p f t + y ^ p * hv (mC p f) (y ^ p) ts
    rw [frobF hp h, mul_powR, hv_turn hp h y ts]
    have e := fixC hp h (f := f) 1 t
    rw [Nat.pow_one] at e
    rw [e]
/-- rows, weighed -/
def wgP : List Int → List (List Int) → Po
  | [], _ => 0
  | _ :: _, [] => 0
  | t :: ts, r :: rs => Po.C t * Po.of r + wgP ts rs
theorem wgP_hv {p : Int} {f : Cf} {z : Fq p f} : ∀ {ts : List Int} {rs : List (List Int)} (y : Fq p f), ts.length ≤ rs.length → (∀ (i : Nat) (r : List Int), rs[i]? = some r → y * z ^ i = el p f r) → (Qu.mk (wgP ts rs) : Fq p f) = y * hv (mC p f) z ts
  | [], rs, y, _, _ => by
    show (Qu.mk 0 : Fq p f) = y * 0
    rw [Qu.mk_zero]
    grind
  | t :: ts, [], y, h, _ => by cases h
  | t :: ts, r :: rs, y, h, g => by
    have g0 := g 0 r rfl
    rw [Semiring.pow_zero, Semiring.mul_one] at g0
    have ih := wgP_hv (z := z) (ts := ts) (rs := rs) (y * z) (Nat.le_of_succ_le_succ h) fun i r' hr => by
      rw [← g (i + 1) r' hr, Semiring.pow_succ]
      grind
    show (Qu.mk (Po.C t * Po.of r + wgP ts rs) : Fq p f) = y * (mC p f t + z * hv (mC p f) z ts)
    rw [Qu.mk_add, Qu.mk_mul, ih]
    show mC p f t * el p f r + _ = _
    rw [← g0]
    grind
theorem cgX {p : Int} {f g : Cf} {n : Nat} {ms : List Int} : Cg p f (pw (xs one) n) (cf ms) ↔ (Qu.mk Po.X : Fq p f) ^ n = el p f ms := by
  rw [← Qu.mk_pow]
  show _ ↔ (Qu.mk (Po.X ^ n) : Fq p f) = Qu.mk (Po.of ms)
  rw [mk_eq, Po.pow_c]
  exact Iff.rfl
/-- one turn more -/
theorem turn_of {p : Nat} (hp : 2 ≤ p) (h : Fb p) {f : Cf} {k : Nat} {ts ms : List Int} {rows : List (List Int)} (lt : ts.length ≤ rows.length) (hr : ∀ (i : Nat) (r : List Int), rows[i]? = some r → Cg p f (pw (xs one) (p * i)) (cf r))
    (ht : Cg p f (pw (xs one) (p ^ k)) (cf ts)) (e : Eqm p (cf ms) (wgP ts rows).c) : Cg p f (pw (xs one) (p ^ (k + 1))) (cf ms) := by
  have a := (cgX (g := nul)).mp ht
  refine (cgX (g := nul)).mpr ?_
  have b : el (p : Int) f ms = Qu.mk (wgP ts rows) := mk_eq.mpr (Cg.of e)
  rw [b, wgP_hv (z := (Qu.mk Po.X : Fq p f) ^ p) 1 lt fun i r hi => ?_, Nat.pow_succ, pow_mulR, a, el_hv, hv_turn hp h]
  · grind
  · rw [Semiring.one_mul, ← pow_mulR]
    exact (cgX (g := nul)).mp (hr i r hi)
/-- no level part of a degree divides a number that isn't nought -/
theorem lv_one {p : Nat} (hp : 2 ≤ p) {e : Nat} (e1 : 1 ≤ e) {t : List Int} (ht : t ∈ tp p e) : ¬ Dv p (lv t) one := fun h => by
  have := short_zero (by exact_mod_cast hp) (lv_dg hp ht) (fun k hk => by
    show one k % (p : Int) = 0
    rw [show one k = 0 from if_neg (by omega)]
    exact Int.zero_emod _) h 0
  rw [show nul 0 = 0 from rfl, Int.zero_emod, show one 0 = 1 from rfl, one_mod (by exact_mod_cast hp)] at this
  exact absurd this (by decide)
end Xp
end
section
set_option Elab.async false
set_option linter.all false
set_option maxRecDepth 100000
set_option maxHeartbeats 4000000
namespace Xk
open PySem PySem.Spec PyProof.Rows L2 Xh LamX NdefX
/-! ### what two polynomials have in common, level -/
theorem dv_cg {p : Int} {d f x y : Xp.Cf} (hd : Xp.Dv p d f) (c : Xp.Cg p f x y) (h : Xp.Dv p d y) : Xp.Dv p d x := by
  have a : Xp.Dv p d _ := hd.trans c
  refine (a.add h).congr (eqv_fun fun k => ?_)
  show (x k + -1 * y k) + y k = x k
  omega
theorem dv_iff {p : Int} {d f x y : Xp.Cf} (hd : Xp.Dv p d f) (c : Xp.Cg p f x y) : Xp.Dv p d x ↔ Xp.Dv p d y := ⟨dv_cg hd c.symm, dv_cg hd c⟩
/-- led to a level one -/
structure Lev (p : Int) (xs g : List Int) : Prop where
  po : Po p g 25
  len : g.length = xs.length
  dv : ∀ d, Xp.Dv p d (co g) ↔ Xp.Dv p d (co xs)
  lev : g = [] ∨ (0 < g.length ∧ g.getD (g.length - 1) 0 = 1)
theorem lev_nil {p : Int} (h : 0 < p) : Lev p [] [] := ⟨po_nil p 25 h, rfl, fun _ => Iff.rfl, .inl rfl⟩
theorem lev_of {p : Int} {xs g : List Int} {i : Nat} (hp : Pm p) (d : Dsr p xs) (l25 : xs.length ≤ 25) (x : Is (fun j => (xs.getD j 0 * scl xs p).fmod p) i g) : Lev p xs g := by
  obtain ⟨l, P, hl, hP, P2, P3, lP, _, _, _, ec, _⟩ := d.last
  have hpos := d.pos
  have top : g.getD (xs.length - 1) 0 = 1 := by
    rw [x.at_, Int.mul_comm]
    exact ec
  have gl : g.length ≤ xs.length := x.short fun k hk => by
    show (xs.getD k 0 * scl xs p).fmod p = 0
    rw [getD_over hk, Int.zero_mul]
    exact Int.zero_fmod p
  have gl2 : xs.length ≤ g.length := by
    rcases Nat.lt_or_ge g.length xs.length with q | q
    · exfalso
      rw [getD_over (by omega)] at top
      exact absurd top (by decide)
    · exact q
  have el : g.length = xs.length := Nat.le_antisymm gl gl2
  have e1 := scale_is hp x
  have hg : Xp.Eqm p (co xs) (fun k => co xs (xs.length - 1) * co g k) := fun k => by
    have e2 : (scl xs p * co xs (xs.length - 1)) % p = 1 := by
      rw [← fm_em hp.pos]
      exact ec
    show co xs k % p = (co xs (xs.length - 1) * co g k) % p
    rw [Int.mul_emod, e1 k, ← Int.mul_emod, ← Int.mul_assoc, Int.mul_comm (co xs (xs.length - 1)), Int.mul_emod, e2, Int.one_mul, Int.emod_emod]
  exact ⟨⟨rs_of hp x, x.tr, by omega⟩, el, fun t => ⟨fun h => (h.scale (co xs (xs.length - 1))).congr hg.symm, fun h => (h.scale (scl xs p)).congr e1.symm⟩, .inr ⟨by omega, by rw [el]; exact top⟩⟩
/-- the level common part -/
structure Gc (p : Int) (xs ys g : List Int) : Prop where
  po : Po p g 25
  dv : ∀ d, Xp.Dv p d (co g) ↔ (Xp.Dv p d (co xs) ∧ Xp.Dv p d (co ys))
  lev : g = [] ∨ (0 < g.length ∧ g.getD (g.length - 1) 0 = 1)
theorem last_app : ∀ {g : List Int} {e : Nat}, g.length = e + 1 → g = g.take e ++ [g.getD e 0] := fun {g e} h => by
  have e2 : g.drop e = [g.getD e 0] := by
    have lt : e < g.length := by omega
    rw [List.drop_eq_getElem_cons lt, List.drop_eq_nil_of_le (by omega), List.getD_eq_getElem?_getD, List.getElem?_eq_getElem lt]
    rfl
  rw [← e2, List.take_append_drop]
theorem Gc.len {q : Nat} (q2 : 2 ≤ q) {xs ys g : List Int} (G : Gc q xs ys g) (py : Po q ys 25) (ne : ys ≠ []) : 1 < g.length ↔ ∃ e, 1 ≤ e ∧ ∃ t ∈ Xp.tp q e, Xp.Dv q (Xp.lv t) (co xs) ∧ Xp.Dv q (Xp.lv t) (co ys) := by
  constructor
  · intro h
    obtain ⟨e, he⟩ : ∃ e, g.length = e + 1 := ⟨g.length - 1, by omega⟩
    rcases G.lev with z | ⟨_, z⟩
    · rw [z] at h
      exact absurd h (by decide)
    rw [he, Nat.add_sub_cancel] at z
    have eg := last_app he
    rw [z] at eg
    refine ⟨e, by omega, g.take e, Xp.tp_mem.mpr ⟨by rw [List.length_take]; omega, fun x hx => ?_⟩, ?_⟩
    · obtain ⟨k, hk⟩ := List.mem_iff_getElem?.mp (List.mem_of_mem_take hx)
      have := G.po.rs k
      rw [List.getD_eq_getElem?_getD, hk] at this
      exact this
    · refine (G.dv _).mp ?_
      have : Xp.lv (g.take e) = co g := by
        show co (g.take e ++ [1]) = co g
        rw [← eg]
      rw [this]
      exact Xp.Dv.self _ _
  · rintro ⟨e, e1, t, ht, d1, d2⟩
    have dg := (G.dv _).mpr ⟨d1, d2⟩
    rcases Nat.lt_or_ge 1 g.length with h | h
    · exact h
    · exfalso
      rcases G.lev with z | ⟨z0, z⟩
      · subst z
        have := ((G.dv (co [])).mp (Xp.Dv.self _ _)).2
        exact ne (nil_of py.rs py.tr (this.nought (Xp.Eqm.refl _ _)))
      · have l1 : g.length = 0 + 1 := by omega
        have eg := last_app l1
        rw [l1] at z
        rw [show g.getD 0 0 = 1 from z, List.take_zero, List.nil_append] at eg
        subst eg
        rw [show co [1] = Xp.one from funext co_one] at dg
        exact Xp.lv_one q2 e1 ht dg
def spLevel (T : List (Addr × Str)) : Sp := fun vs H Q _ => ∃ (a : Addr) (xs : List Int) (p : Int), vs = [.ref a, .int p] ∧ H a = some (.tup (xs.map V.int)) ∧ p ∈ primes ∧ Po p xs 25 ∧ Tabs T H ∧
  ∀ (v : Addr) (g : List Int) (H' : Hp), Gr T H H' → H' v = some (.tup (g.map V.int)) → Lev p xs g → Q (.ref v) H'
def spGreat (T : List (Addr × Str)) : Sp := fun vs H Q _ => ∃ (a b : Addr) (xs ys : List Int) (p : Int), vs = [.ref a, .ref b, .int p] ∧ H a = some (.tup (xs.map V.int)) ∧ H b = some (.tup (ys.map V.int)) ∧ p ∈ primes ∧ Po p xs 25 ∧ Po p ys 25 ∧ Tabs T H ∧
  ∀ (v : Addr) (g : List Int) (H' : Hp), Gr T H H' → H' v = some (.tup (g.map V.int)) → Gc p xs ys g → Q (.ref v) H'
/-- how long the tuple in a slot is -/
def lenS (i : Nat) (σ : L2.St) (H : Hp) : Nat := match σ[i]? with
  | some (some (.ref a)) => (match H a with
    | some (.tup xs) => xs.length
    | _ => 0)
  | _ => 0
theorem lenS_at {i : Nat} {σ : L2.St} {H : Hp} {a : Addr} {xs : List V} (h : σ[i]? = some (some (.ref a))) (e : H a = some (.tup xs)) : lenS i σ H = xs.length := by
  unfold lenS
  rw [h]
  show (match H a with
    | some (.tup xs) => xs.length
    | _ => 0) = _
  rw [e]
section
variable {P : Program} {w : World} {K : PySem.W.Frag} {mg : Str → Option Value} {base : Heap}
theorem sc_raw_level : FnScope (["one", "prime"] : List Str) ["one", "prime"] (defScope s_raw_level) := ⟨rfl, rfl, rfl, by decide +kernel, rfl, by decide +kernel, by decide +kernel⟩
theorem ok_raw_level {TT : List (Addr × Str)} {f : Addr} {fd : FuncData} (F : FunD K "raw_level" "raw_level" (defArgs s_raw_level) (defBody s_raw_level) (defScope s_raw_level) [] [] f fd) (o_raw_scaled : Own P w K mg base CX0 2 "raw_scaled" ["one", "rest", "prime"] [] (spScale K)) (o_rest_power : Own P w K mg base CX0 3 "rest_power" ["rest", "exponent", "prime"] [] (spRPowT TT)) : FnOk P w K mg base CX0 4 f fd ["one", "prime"] (spLevel TT) := by
  refine F.ok sc_raw_level (fun vs H Q E h => ?_) (fun cdv A outer s H vs Q E hr h => ?_)
  · obtain ⟨a, xs, p, rfl, _⟩ := h
    rfl
  · obtain ⟨a, xs, p, rfl, ea, hp, px, hT, k⟩ := h
    have hpm := pm_of hp
    have lx := px.len
    refine ⟨_, PSs.nox (pss_cons (ps_if (pt_not (pt_truth (pv 0) (by intro _; rfl))) (pss_one (ps_ret (pv 0))) pss_nil)
      (pss_one (ps_ret (pe_own o_raw_scaled (hr.mono (by decide)) rfl pass0 (pa_cons (pv 0) (pa_cons (pe_own o_rest_power (hr.mono (by decide)) rfl pass0 (pa_cons (pe_ix ix_tup (pv 0) (pe_un un_neg pe_int) (fun _ _ => rfl)) (pa_cons (pe_un un_neg pe_int) (pa_cons (pv 1) pa_nil)))) (pa_cons (pv 1) pa_nil))))))) , ?_⟩
    refine ⟨_, rfl, _, .inr (.inl ⟨_, .inl (.inl ea), rfl⟩), ?_⟩
    by_cases hx : xs = []
    · subst hx
      refine iteT ?_
      exact ⟨_, rfl, k a [] _ (Gr.refl hT) ea (lev_nil hpm.pos)⟩
    · have dx := px.dsr hx hp
      rw [show (!(xs.map V.int).isEmpty) = true from by cases xs with | nil => exact absurd rfl hx | cons _ _ => rfl]
      refine iteF ?_
      obtain ⟨c, M, hc, hM, M2, M3, cM, _, fr, es, ec, bl⟩ := dx.last
      refine ⟨_, rfl, _, rfl, _, rfl, a, _, _, .int (c : Int), rfl, rfl, .inl (.inl ea), by rw [← hc]; exact atI_last2 dx.pos, _, rfl, _, rfl, c, M, -1, by rw [hM]; rfl, M2, M3, cM, hT, fun H2 g2 => ?_⟩
      rw [fr, ← es]
      exact ⟨_, rfl, a, xs, scl xs p, p, rfl, .inl (.inl (g2.tup ea)), by omega, px.rs, hpm, fun g x q H3 s3 f3 r3 => k q g H3 (g2.same s3) r3 (lev_of hpm dx lx x)⟩
theorem sc_raw_greatest : FnScope (["one", "other", "prime", "held", "low"] : List Str) ["one", "other", "prime"] (defScope s_raw_greatest) := ⟨rfl, rfl, rfl, by decide +kernel, rfl, by decide +kernel, by decide +kernel⟩
theorem ok_raw_greatest {TT : List (Addr × Str)} {f : Addr} {fd : FuncData} (F : FunD K "raw_greatest" "raw_greatest" (defArgs s_raw_greatest) (defBody s_raw_greatest) (defScope s_raw_greatest) [] [] f fd) (o_raw_left : Own P w K mg base CX0 5 "raw_left" ["one", "rule", "prime"] [] (spLeft K TT)) (o_raw_level : Own P w K mg base CX0 4 "raw_level" ["one", "prime"] [] (spLevel TT)) : FnOk P w K mg base CX0 6 f fd ["one", "other", "prime"] (spGreat TT) := by
  refine F.ok sc_raw_greatest (fun vs H Q E h => ?_) (fun cdv A outer s H vs Q E hr h => ?_)
  · obtain ⟨a, b, xs, ys, p, rfl, _⟩ := h
    rfl
  · obtain ⟨a, b, xs, ys, p, rfl, ea, eb, hp, pa, pb, hT, k⟩ := h
    have hpm := pm_of hp
    refine ⟨_, PSs.nox (pss_cons (ps_par (i := 3) (j := 4) (by rfl) sc_raw_greatest.nd rfl rfl (by decide) rfl rfl (pa_cons (pv 0) (pa_cons (pv 1) pa_nil)) (by rfl))
      (pss_cons (ps_while PassesOwn.never (pt_truth (pv 4) (by intro _; rfl)) (pss_one (ps_par (i := 3) (j := 4) (by rfl) sc_raw_greatest.nd rfl rfl (by decide) rfl rfl (pa_cons (pv 4) (pa_cons (pe_own o_raw_left (hr.mono (by decide)) rfl pass0 (pa_cons (pv 3) (pa_cons (pv 4) (pa_cons (pv 2) pa_nil)))) pa_nil)) (by rfl))))
      (pss_one (ps_ret (pe_own o_raw_level (hr.mono (by decide)) rfl pass0 (pa_cons (pv 3) (pa_cons (pv 2) pa_nil))))))) , ?_⟩
    refine ⟨_, rfl, _, rfl, _, _, rfl, ?_⟩
    dsimp only [L2.tSeq]
    refine while_by (fun σ' H' => ∃ (ah al : Addr) (h l : List Int), σ' = [some (.ref a), some (.ref b), some (.int p), some (.ref ah), some (.ref al)] ∧ Gr TT H H' ∧ H' ah = some (.tup (h.map V.int)) ∧ H' al = some (.tup (l.map V.int)) ∧ Po p h 25 ∧ Po p l 25 ∧ ∀ d, (Xp.Dv p d (co h) ∧ Xp.Dv p d (co l)) ↔ (Xp.Dv p d (co xs) ∧ Xp.Dv p d (co ys))) (fun σ' H' => lenS 4 σ' H')
      ⟨a, b, xs, ys, rfl, Gr.refl hT, ea, eb, pa, pb, fun _ => Iff.rfl⟩ ?_ ?_
    · rintro σ' H1 ⟨ah, al, h, l, rfl, g1, eh, el, ph, pl, D⟩
      have lh := ph.len
      have ll := pl.len
      refine ⟨_, rfl, _, .inr (.inl ⟨_, .inl (.inl el), rfl⟩), ?_⟩
      by_cases hl : l = []
      · subst hl
        refine iteF ?_
        refine ⟨_, rfl, _, rfl, ah, h, p, rfl, eh, hp, ph, g1.t, fun v g H2 g2 ev L => k v g H2 (g1.trans g2) ev ⟨L.po, fun d => ?_, L.lev⟩⟩
        rw [L.dv, ← D]
        exact ⟨fun z => ⟨z, Xp.Dv.zero p d⟩, fun z => z.1⟩
      · have dl := pl.dsr hl hp
        rw [show (!(l.map V.int).isEmpty) = true from by cases l with | nil => exact absurd rfl hl | cons _ _ => rfl]
        refine iteT ?_
        refine ⟨_, rfl, _, rfl, _, rfl, _, rfl, ah, al, h, l, p, rfl, eh, SqT.of el, by omega, ll, ph.rs, dl, g1.t, fun v rs H2 g2 ev rm => ⟨_, _, rfl, ?_⟩⟩
        refine ⟨⟨al, v, l, rs, rfl, g1.trans g2, g2.tup el, ev, pl, rm.po.le (by have := rm.po.len; omega), fun d => ?_⟩, ?_⟩
        · rw [← D]
          exact ⟨fun z => ⟨(dv_iff z.1 rm.cg).mpr z.2, z.1⟩, fun z => ⟨z.2, (dv_iff z.2 rm.cg).mp z.1⟩⟩
        · rw [lenS_at (a := v) rfl ev, lenS_at (a := al) rfl el, List.length_map, List.length_map]
          exact rm.less
    · rintro σ H Q Q' m ⟨v, h1, b, h2, q⟩
      exact ⟨v, h1, b, h2, m _ _ q⟩
end
end Xk
end
section
set_option Elab.async false
set_option linter.all false
set_option maxRecDepth 100000
set_option maxHeartbeats 4000000
namespace Xk
open PySem PySem.Spec PyProof.Rows L2 Xh LamX NdefX
/-- t + u, both of rests -/
theorem catA {K : PySem.W.Frag} {H : Hp} {a b : Addr} {xs ys : List Int} {Q : VK} (ha : SqT K H a (xs.map V.int)) (hb : SqT K H b (ys.map V.int)) (l : xs.length ≤ 100) (l2 : ys.length ≤ 100) (k : ∀ r H', Same H H' → SqT K H' r ((xs ++ ys).map V.int) → Q (.ref r) H') : rCatA K (.ref a) (.ref b) H Q := by
  refine ⟨a, b, _, _, rfl, rfl, ha, hb, ?_, fun e => ?_, fun _ e => ?_, fun _ _ p hp => ?_⟩
  · rw [List.length_map, List.length_map]
    exact Nat.le_trans (show xs.length + ys.length ≤ 200 by omega) (by decide)
  · have z : xs = [] := List.map_eq_nil_iff.mp e
    subst z
    exact k b H (fun _ _ z => z) hb
  · have z : ys = [] := List.map_eq_nil_iff.mp e
    subst z
    refine k a H (fun _ _ z => z) ?_
    rw [List.append_nil]
    exact ha
  · refine k p _ (same_upd hp) (.inl (.inl ?_))
    rw [upd_same, List.map_append]
/-! ### the turns of x -/
/-- rows of numbers at the heap -/
def Rws (H : Hp) : List Addr → List (List Int) → Prop
  | [], [] => True
  | l :: ls, r :: rs => H l = some (.tup (r.map V.int)) ∧ Rws H ls rs
  | _, _ => False
theorem Rws.len {H : Hp} : ∀ {ls : List Addr} {rs : List (List Int)}, Rws H ls rs → ls.length = rs.length
  | [], [], _ => rfl
  | _ :: _, _ :: _, h => by rw [List.length_cons, List.length_cons, Rws.len h.2]
theorem Rws.keep {H H' : Hp} (k : ∀ a xs, H a = some (.tup xs) → H' a = some (.tup xs)) : ∀ {ls : List Addr} {rs : List (List Int)}, Rws H ls rs → Rws H' ls rs
  | [], [], _ => trivial
  | _ :: _, _ :: _, h => ⟨k _ _ h.1, Rws.keep k h.2⟩
theorem Rws.snoc {H : Hp} {l : Addr} {r : List Int} (e : H l = some (.tup (r.map V.int))) : ∀ {ls : List Addr} {rs : List (List Int)}, Rws H ls rs → Rws H (ls ++ [l]) (rs ++ [r])
  | [], [], _ => ⟨e, trivial⟩
  | _ :: _, _ :: _, h => ⟨h.1, Rws.snoc e h.2⟩
theorem Rws.at {H : Hp} : ∀ {ls : List Addr} {rs : List (List Int)}, Rws H ls rs → ∀ {i : Nat} {x : V}, (ls.map V.ref)[i]? = some x → ∃ (l : Addr) (r : List Int), x = .ref l ∧ rs[i]? = some r ∧ H l = some (.tup (r.map V.int))
  | [], [], _, i, x, hx => by cases hx
  | l :: ls, r :: rs, h, 0, x, hx => by
    cases hx
    exact ⟨l, r, rfl, rfl, h.1⟩
  | l :: ls, r :: rs, h, i + 1, x, hx => by
    obtain ⟨l', r', a, b, c⟩ := Rws.at h.2 (i := i) (x := x) hx
    exact ⟨l', r', a, b, c⟩
theorem kpS {H H' : Hp} (s : Same H H') : ∀ a (xs : List V), H a = some (.tup xs) → H' a = some (.tup xs) := fun _ _ e => s _ _ e
theorem kpG {T : List (Addr × Str)} {H H' : Hp} (g : Gr T H H') : ∀ a (xs : List V), H a = some (.tup xs) → H' a = some (.tup xs) := fun _ _ e => g.tup e
theorem repZ0 {K : PySem.W.Frag} {H : Hp} {Z : Addr} {k : Int} {Q : VK} (hZ : SqT K H Z [.int 0]) (h1 : -1000 ≤ k) (h2 : k ≤ 1000) (f : ∀ (r : Addr) (H' : Hp), Same H H' → SqT K H' r ((List.replicate k.toNat (0 : Int)).map V.int) → Q (.ref r) H') : rRepZ K (.ref Z) (.int k) H Q :=
  ⟨Z, k, [.int 0], rfl, rfl, hZ, by simp, h1, h2, by decide, fun e => f Z H (fun _ _ z => z) (by subst e; exact hZ), fun _ p hp => f p _ (same_upd hp) (.inl (.inl (by rw [upd_same, rep_zero])))⟩
theorem repB {K : PySem.W.Frag} {H : Hp} {Z : Addr} {k : Int} {Q : VK} (hZ : H Z = some (.tup [.int 0])) (h1 : -1000 ≤ k) (h2 : k ≤ 1000) (f : ∀ (r : Addr) (H' : Hp), Same H H' → H' r = some (.tup ((List.replicate k.toNat (0 : Int)).map V.int)) → Q (.ref r) H') : rRepZ K (.ref Z) (.int k) H Q :=
  ⟨Z, k, [.int 0], rfl, rfl, SqT.of hZ, by simp, h1, h2, by decide, fun e => f Z H (fun _ _ z => z) (by subst e; exact hZ), fun _ p hp => f p _ (same_upd hp) (by rw [upd_same, rep_zero])⟩
theorem catB {K : PySem.W.Frag} {H : Hp} {a b : Addr} {xs ys : List Int} {Q : VK} (ha : H a = some (.tup (xs.map V.int))) (hb : H b = some (.tup (ys.map V.int))) (l : xs.length ≤ 100) (l2 : ys.length ≤ 100) (k : ∀ r H', Same H H' → H' r = some (.tup ((xs ++ ys).map V.int)) → Q (.ref r) H') : rCatA K (.ref a) (.ref b) H Q := by
  refine ⟨a, b, _, _, rfl, rfl, SqT.of ha, SqT.of hb, ?_, fun e => ?_, fun _ e => ?_, fun _ _ p hp => ?_⟩
  · rw [List.length_map, List.length_map]
    exact Nat.le_trans (show xs.length + ys.length ≤ 200 by omega) (by decide)
  · have z : xs = [] := List.map_eq_nil_iff.mp e
    subst z
    exact k b H (fun _ _ z => z) hb
  · have z : ys = [] := List.map_eq_nil_iff.mp e
    subst z
    refine k a H (fun _ _ z => z) ?_
    rw [List.append_nil]
    exact ha
  · refine k p _ (same_upd hp) ?_
    rw [upd_same, List.map_append]
theorem tabsLst {T : List (Addr × Str)} {H : Hp} {D : Addr} {xs ys : List V} (t : Tabs T H) (e : H D = some (.lst xs)) : Tabs T (L2.upd H D (.lst ys)) := fun p hp => by
  obtain ⟨ps, h1, h2, h3⟩ := t p hp
  refine ⟨ps, ?_, h2, fun pos cv hc => ?_⟩
  · rw [upd_ne (fun z => by rw [z, e] at h1; cases h1)]
    exact h1
  · obtain ⟨c', e1, e2⟩ := h3 pos cv hc
    refine ⟨c', e1, ?_⟩
    rw [upd_ne (fun z => by
      rw [z, e] at e2
      unfold CodeO at e2
      cases e2)]
    exact e2
theorem slTail {K : PySem.W.Frag} {H : Hp} {v : Addr} {ms : List Int} {n : Nat} {Q : VK} (ev : H v = some (.tup (ms.map V.int))) (hn : n ≤ ms.length) (k : ∀ a H', Same H H' → H' a = some (.tup ((ms.drop n).map V.int)) → Q (.ref a) H') : rSlA K (.ref v) (some ((n : Nat) : Int)) none H Q := by
  have i2 : HT.sIx (ms.map V.int).length (ms.map V.int).length none = (ms.map V.int).length := rfl
  have i1 : HT.sIx (ms.map V.int).length 0 (some ((n : Nat) : Int)) = n := by
    show (if ((n : Nat) : Int) < 0 then (((n : Nat) : Int) + (((ms.map V.int).length : Nat) : Int)).toNat else min ((n : Nat) : Int).toNat (ms.map V.int).length) = n
    rw [if_neg (by omega), Int.toNat_natCast, List.length_map]
    omega
  refine ⟨v, _, rfl, SqT.of ev, fun h => k v H (fun _ _ z => z) ?_, fun _ p hp => k p _ (same_upd hp) ?_⟩
  · have e := h.1
    rw [i1] at e
    rw [e, List.drop_zero]
    exact ev
  · rw [upd_same]
    unfold cutV
    rw [i1, i2, List.map_drop, List.take_of_length_le (by rw [List.length_drop]; exact Nat.le_refl _)]
theorem slTailS {K : PySem.W.Frag} {H : Hp} {v : Addr} {ms : List Int} {n : Nat} {Q : VK} (ev : SqT K H v (ms.map V.int)) (n1 : 1 ≤ n) (hn : n ≤ ms.length) (k : ∀ a H', Same H H' → H' a = some (.tup ((ms.drop n).map V.int)) → Q (.ref a) H') : rSlA K (.ref v) (some ((n : Nat) : Int)) none H Q := by
  have i2 : HT.sIx (ms.map V.int).length (ms.map V.int).length none = (ms.map V.int).length := rfl
  have i1 : HT.sIx (ms.map V.int).length 0 (some ((n : Nat) : Int)) = n := by
    show (if ((n : Nat) : Int) < 0 then (((n : Nat) : Int) + (((ms.map V.int).length : Nat) : Int)).toNat else min ((n : Nat) : Int).toNat (ms.map V.int).length) = n
    rw [if_neg (by omega), Int.toNat_natCast, List.length_map]
    omega
  refine ⟨v, _, rfl, ev, fun h => k v H (fun _ _ z => z) ?_, fun _ p hp => k p _ (same_upd hp) ?_⟩
  · have e := h.1
    rw [i1] at e
    exact absurd e (by omega)
  · rw [upd_same]
    unfold cutV
    rw [i1, i2, List.map_drop, List.take_of_length_le (by rw [List.length_drop]; exact Nat.le_refl _)]
theorem slHead {K : PySem.W.Frag} {H : Hp} {v : Addr} {ms : List Int} {n : Nat} {Q : VK} (ev : H v = some (.tup (ms.map V.int))) (hn : n ≤ ms.length) (k : ∀ a H', Same H H' → H' a = some (.tup ((ms.take n).map V.int)) → Q (.ref a) H') : rSlA K (.ref v) none (some ((n : Nat) : Int)) H Q := by
  have i1 : HT.sIx (ms.map V.int).length (ms.map V.int).length (some ((n : Nat) : Int)) = n := by
    show (if ((n : Nat) : Int) < 0 then (((n : Nat) : Int) + (((ms.map V.int).length : Nat) : Int)).toNat else min ((n : Nat) : Int).toNat (ms.map V.int).length) = n
    rw [if_neg (by omega), Int.toNat_natCast, List.length_map]
    omega
  refine ⟨v, _, rfl, SqT.of ev, fun h => k v H (fun _ _ z => z) ?_, fun _ p hp => k p _ (same_upd hp) ?_⟩
  · have e := h.2
    rw [i1, List.length_map] at e
    rw [List.take_of_length_le (by omega)]
    exact ev
  · rw [upd_same, cutV_take]
theorem grLst {T : List (Addr × Str)} {H H' : Hp} {D : Addr} {xs ys : List V} (g : Gr T H H') (n : H D = none) (e : H' D = some (.lst xs)) : Gr T H (L2.upd H' D (.lst ys)) := ⟨fun a o h hn => by
  rw [upd_ne (ne_of_none h n)]
  exact g.x a o h hn, fun b hb => by
  by_cases z : b = D
  · rw [z]
    exact n
  · rw [upd_ne z] at hb
    exact g.n b hb, tabsLst g.t e⟩
theorem Rws.lst {H : Hp} {D : Addr} {xs ys : List V} {la : List Addr} {rs : List (List Int)} (h : Rws H la rs) (e : H D = some (.lst xs)) : Rws (L2.upd H D (.lst ys)) la rs := h.keep fun a us z => by
  rw [upd_ne (fun q => by rw [q, e] at z; cases z)]
  exact z
theorem tupL {H : Hp} {D : Addr} {xs ys us : List V} {a : Addr} (e : H D = some (.lst xs)) (h : H a = some (.tup us)) : L2.upd H D (.lst ys) a = some (.tup us) := by
  rw [upd_ne (fun q => by rw [q, e] at h; cases h)]
  exact h
theorem co_x : co [0, 1] = Xp.xs Xp.one := funext fun k => by
  match k with
  | 0 => rfl
  | 1 => rfl
  | k + 2 =>
    show (0 : Int) = Xp.one (k + 1)
    exact (if_neg (by omega)).symm
theorem po_x {p : Int} (h : Pm p) {n : Nat} (hn : 2 ≤ n) : Po p [0, 1] n := ⟨((Rs.nil p h.pos).add (by decide) h.pos).add (by decide) (by have := h.lo; omega), by simp [trim], hn⟩
theorem rb_primes : ∀ p ∈ primes, Xp.rb p.toNat = true := by decide +kernel
theorem fb_primes {q : Nat} (h : (q : Int) ∈ primes) : Xp.Fb q := Xp.fb_of (rb_primes _ h)
theorem pr_of {p : Int} (h : p ∈ primes) : Xp.Pr p := by
  have hm := pm_of h
  have lo := hm.lo
  refine ⟨lo, fun a ha => ?_⟩
  have n0 := Int.emod_nonneg a (show p ≠ 0 by omega)
  have n1 := Int.emod_lt_of_pos a hm.pos
  have d : Dsr p [a % p] := ⟨Nat.succ_pos _, by simp [trim, ha], (Rs.nil p hm.pos).add n0 n1, h⟩
  obtain ⟨l, P, hl, hP, P2, P3, lP, _, _, _, ec, _⟩ := d.last
  refine ⟨scl [a % p] p, ?_⟩
  have e2 : (scl [a % p] p * (a % p)) % p = 1 := by
    rw [← fm_em hm.pos]
    exact ec
  rw [Int.mul_emod, Int.emod_emod_of_dvd a (Int.dvd_refl p)] at e2
  rw [Int.mul_emod]
  exact e2
def spTrimA : Sp := fun vs H Q _ => ∃ (a : Addr) (ns : List Int), vs = [.ref a] ∧ H a = some (.tup (ns.map V.int)) ∧ ns.length ≤ 1000 ∧ ∀ (v : Addr) (H' : Hp), Same H H' → H' v = some (.tup ((trim ns).map V.int)) → Q (.ref v) H'
theorem wgP_take : ∀ (ts : List Int) (rs : List (List Int)), Xp.wgP ts (rs.take ts.length) = Xp.wgP ts rs
  | [], _ => rfl
  | _ :: _, [] => rfl
  | t :: ts, r :: rs => by
    show Xp.Po.C t * Xp.Po.of r + Xp.wgP ts (rs.take ts.length) = _
    rw [wgP_take ts rs]
    rfl
theorem wgP_snoc {t : Int} {r : List Int} (k : Nat) : ∀ {ts : List Int} {rs : List (List Int)} {i : Nat}, ts[i]? = some t → rs[i]? = some r → (Xp.wgP (ts.take (i + 1)) (rs.take (i + 1))).c k = (Xp.wgP (ts.take i) (rs.take i)).c k + t * r.getD k 0
  | [], _, _, h, _ => by cases h
  | _ :: _, [], _, _, h => by cases h
  | t' :: ts, r' :: rs, 0, h, h2 => by
    cases h
    cases h2
    show Xp.ad (Xp.cv (Xp.sc t Xp.one) (co r)) (Xp.wgP [] []).c k = 0 + _
    rw [Xp.sc_cv, Xp.one_cv]
    show t * co r k + 0 = 0 + t * co r k
    omega
  | t' :: ts, r' :: rs, i + 1, h, h2 => by
    have ih := wgP_snoc k (ts := ts) (rs := rs) (i := i) h h2
    show Xp.ad (Xp.cv (Xp.sc t' Xp.one) (co r')) (Xp.wgP (ts.take (i + 1)) (rs.take (i + 1))).c k = Xp.ad (Xp.cv (Xp.sc t' Xp.one) (co r')) (Xp.wgP (ts.take i) (rs.take i)).c k + _
    show _ + (Xp.wgP (ts.take (i + 1)) (rs.take (i + 1))).c k = (_ + (Xp.wgP (ts.take i) (rs.take i)).c k) + _
    rw [ih, Int.add_assoc]
def padL (xs : List Int) (n : Nat) : List Int := xs ++ List.replicate (n - xs.length) 0
theorem padL_len {xs : List Int} {n : Nat} (h : xs.length ≤ n) : (padL xs n).length = n := by
  unfold padL
  rw [List.length_append, List.length_replicate]
  omega
theorem co_pad (xs : List Int) (n : Nat) : co (padL xs n) = co xs := funext fun k => by
  show (xs ++ List.replicate (n - xs.length) 0).getD k 0 = xs.getD k 0
  rw [List.getD_eq_getElem?_getD, List.getD_eq_getElem?_getD]
  rcases Nat.lt_or_ge k xs.length with h | h
  · rw [List.getElem?_append_left h]
  · rw [List.getElem?_append_right h, List.getElem?_eq_none h, List.getElem?_replicate]
    split <;> rfl
def spPad (K : PySem.W.Frag) : Sp := fun vs H Q _ => ∃ (a : Addr) (xs : List Int) (n : Nat), vs = [.ref a, .int n] ∧ H a = some (.tup (xs.map V.int)) ∧ xs.length ≤ n ∧ n ≤ 24 ∧ ∀ (v : Addr) (H' : Hp), Same H H' → H' v = some (.tup ((padL xs n).map V.int)) → Q (.ref v) H'
/-- the powers of x by the prime, one by one -/
structure TRow (q : Nat) (R : List Int) (i : Nat) (r : List Int) : Prop where
  len : r.length = R.length - 1
  rs : Rs q r
  cg : Xp.Cg q (co R) (Xp.pw (Xp.xs Xp.one) (q * i)) (co r)
def spTRows (K : PySem.W.Frag) (T : List (Addr × Str)) : Sp := fun vs H Q _ => ∃ (b : Addr) (R : List Int) (q : Nat), vs = [.ref b, .int q] ∧ SqT K H b (R.map V.int) ∧ R.length ≤ 25 ∧ 2 ≤ R.length ∧ Dsr q R ∧ Tabs T H ∧
  ∀ (D : Addr) (la : List Addr) (rs : List (List Int)) (H' : Hp), Gr T H H' → H D = none → H' D = some (.lst (la.map V.ref)) → Rws H' la rs → rs.length = R.length - 1 → (∀ i r, rs[i]? = some r → TRow q R i r) → Q (.ref D) H'
def spWgh (K : PySem.W.Frag) : Sp := fun vs H Q _ => ∃ (t D s : Addr) (la : List Addr) (ts : List Int) (rs : List (List Int)) (n : Nat) (p : Int), vs = [.ref t, .ref D, .ref s, .int p] ∧ H t = some (.tup (ts.map V.int)) ∧ H D = some (.lst (la.map V.ref)) ∧ Rws H la rs ∧ SqT K H s ((List.replicate n (0 : Int)).map V.int) ∧ n ≤ 24 ∧ ts.length ≤ rs.length ∧ rs.length ≤ 24 ∧ Rs p ts ∧ (∀ r ∈ rs, r.length = n ∧ Rs p r) ∧ Pm p ∧
  ∀ (v : Addr) (ms : List Int) (H' : Hp), Same H H' → H' v = some (.tup (ms.map V.int)) → ms.length = n → Rs p ms → Xp.Eqm p (co ms) (Xp.wgP ts rs).c → Q (.ref v) H'
def spLeftS (K : PySem.W.Frag) (T : List (Addr × Str)) : Sp := fun vs H Q _ => ∃ (a b : Addr) (xs R : List Int) (p : Int), vs = [.ref a, .ref b, .int p] ∧ SqT K H a (xs.map V.int) ∧ SqT K H b (R.map V.int) ∧ xs.length ≤ 50 ∧ R.length ≤ 25 ∧ Rs p xs ∧ Dsr p R ∧ Tabs T H ∧
  ∀ (v : Addr) (rs : List Int) (H' : Hp), Gr T H H' → H' v = some (.tup (rs.map V.int)) → Rem p R (co xs) rs → Q (.ref v) H'
def spTurns (K : PySem.W.Frag) (T : List (Addr × Str)) : Sp := fun vs H Q _ => ∃ (b : Addr) (R : List Int) (n q : Nat), vs = [.ref b, .int n, .int q] ∧ SqT K H b (R.map V.int) ∧ R.length ≤ 25 ∧ 2 ≤ R.length ∧ Dsr q R ∧ n ≤ 24 ∧ Tabs T H ∧
  ∀ (D : Addr) (la : List Addr) (rs : List (List Int)) (H' : Hp), Gr T H H' → H D = none → H' D = some (.lst (la.map V.ref)) → Rws H' la rs → rs.length = n → (∀ i r, rs[i]? = some r → Rem q R (Xp.pw (Xp.xs Xp.one) (q ^ (i + 1))) r) → Q (.ref D) H'
section
variable {P : Program} {w : World} {K : PySem.W.Frag} {mg : Str → Option Value} {base : Heap}
theorem q_raw_left {TT : List (Addr × Str)} {f : Addr} {fd : FuncData} (F : FunD K "raw_left" "raw_left" (defArgs s_raw_left) (defBody s_raw_left) (defScope s_raw_left) [] [] f fd) (o_raw_parted : Own P w K mg base CX0 4 "raw_parted" ["one", "other", "prime"] [] (spPartedT K TT)) : FnOk P w K mg base CX0 5 f fd ["one", "rule", "prime"] (spLeftS K TT) := by
  refine F.ok sc_raw_left (fun vs H Q E h => ?_) (fun cdv A outer s H vs Q E hr h => ?_)
  · obtain ⟨a, b, xs, R, p, rfl, _⟩ := h
    rfl
  · obtain ⟨a, b, xs, R, p, rfl, ea, eb, la, lb, rA, dB, hT, k⟩ := h
    refine ⟨_, PSs.nox (pss_one (ps_ret (pe_ix ix_tup (pe_own o_raw_parted (hr.mono (by decide)) rfl pass0 (pa_cons (pv 0) (pa_cons (pv 1) (pa_cons (pv 2) pa_nil)))) pe_int (fun _ _ => rfl)))) , ?_⟩
    exact ⟨_, rfl, _, rfl, _, rfl, a, b, xs, R, p, rfl, ea, eb, la, by omega, rA, dB, hT, fun w' u v qs rs H' g' _ e1 e2 e3 dv => ⟨w', _, 1, .ref v, rfl, rfl, SqT.of e1, rfl, k v rs H' g' e3 (dv.rem dB rA lb)⟩⟩
theorem q_trimmed {f : Addr} {fd : FuncData} (F : FunD K "trimmed" "trimmed" (defArgs s_trimmed) (defBody s_trimmed) (defScope s_trimmed) [] [] f fd) (T : Fre mg) : FnOk P w K mg base CX0 1 f fd ["rests"] spTrimA := by
  refine F.ok sc_trimmed (fun vs H Q E h => ?_) (fun cdv A outer s H vs Q E hr h => ?_)
  · obtain ⟨a, ns, rfl, _⟩ := h
    rfl
  · obtain ⟨a, ns, rfl, ea, hl, k⟩ := h
    have hS : SqT K H a (ns.map V.int) := SqT.of ea
    refine ⟨_, PSs.nox (pss_cons (ps_set (i := 1) sc_trimmed.nd rfl (Or.inl rfl) (pe_callB call_len_seq (by rfl) T.f_len PySem.boot_len (pa_cons (pv 0) pa_nil)))
      (pss_cons (ps_while PassesOwn.never (PW.pt (pw_and (pt_cmpR op_gt (pv 1) pe_int (nomark _)) (pw_and1 (pt_cmpR op_eq (pe_ix ix_tup (pv 0) (pe_op op_sub (pv 1) pe_int) (fun _ _ => rfl)) pe_int (nomark _))))) (pss_one (ps_aug (i := 1) sc_trimmed.nd rfl (Or.inl rfl) pe_int ip_sub)))
      (pss_one (ps_ret (pe_callTy call_tuple_of (by rfl) T.f_tuple (by decide +kernel) (pa_cons (pe_slice sl_tupA (pv 0) po_none (po_some (pv 1))) pa_nil)))))) , ?_⟩
    refine ⟨_, rfl, _, _, rfl, .inr hS, ?_⟩
    refine while_by (fun σ' H' => ∃ n : Nat, σ' = [some (.ref a), some (.int n)] ∧ H' = H ∧ n ≤ ns.length ∧ ∀ i, n ≤ i → ns.getD i 0 = 0) (fun σ' _ => slotN 1 σ') ⟨ns.length, by rw [List.length_map]; rfl, rfl, Nat.le_refl _, fun i hi => by rw [List.getD_eq_getElem?_getD, List.getElem?_eq_none hi]; rfl⟩ ?_ ?_
    · rintro σ' H' ⟨n, rfl, rfl, hn, hz⟩
      have fin : n = 0 ∨ ns.getD (n - 1) 0 ≠ 0 → ns.take n = trim ns := take_trim hn hz
      have out : (n = 0 ∨ ns.getD (n - 1) 0 ≠ 0) → tRet (tCB (fun xs H Q => ∃ p ys, xs = [V.ref p] ∧ ((SqL K H p ys ∧ ∀ l, H l = none → Q (V.ref l) (L2.upd H l (.tup ys))) ∨ (SqT K H p ys ∧ Q (V.ref p) H))) (tCons (tSl (rSlA K) (tVar 0) tNoPart (tPart (tVar 1))) tNil)) { nx := fun _ H' => Q V.non H', rt := Q } [some (.ref a), some (.int n)] H' := fun hc => by
        refine ⟨_, rfl, ?_⟩
        unfold tNoPart
        refine ⟨_, rfl, n, rfl, ?_⟩
        refine slHead ea hn fun a2 H2 s2 e2 => ⟨a2, _, rfl, .inr ⟨SqT.of e2, k a2 H2 s2 ?_⟩⟩
        rw [← fin hc]
        exact e2
      refine ⟨_, rfl, _, _, rfl, rfl, _, rfl, ite2 (fun hc => ?_) (fun hc => ?_)⟩
      · have h0 : 0 < n := by
          have z := of_decide_eq_true hc
          omega
        refine ⟨_, rfl, _, rfl, _, _, rfl, rfl, a, _, _, .int (ns.getD (n - 1) 0), rfl, rfl, hS, ?_, ?_⟩
        · rw [show (n : Int) - 1 = ((n - 1 : Nat) : Int) by omega]
          exact atI_nat (map_at ns (n - 1) (by omega))
        · refine ⟨rfl, _, rfl, ite2 (fun hb => ?_) (fun hb => ?_)⟩
          · have z := V.int.inj (of_decide_eq_true hb)
            refine ⟨_, rfl, _, _, rfl, rfl, ⟨n - 1, by rw [show ((n - 1 : Nat) : Int) = (n : Int) - 1 by omega]; rfl, rfl, by omega, fun i hi => ?_⟩, ?_⟩
            · by_cases hi2 : i = n - 1
              · rw [hi2]; exact z
              · exact hz i (by omega)
            · show ((n : Int) - 1).toNat < (n : Int).toNat
              omega
          · exact out (.inr fun z => hb (decide_eq_true (by rw [z])))
      · have h0 : n = 0 := by
          by_cases z : n = 0
          · exact z
          · exact absurd (decide_eq_true (show (0 : Int) < (n : Int) by omega)) hc
        exact out (.inl h0)
    · rintro σ H Q Q' m ⟨v, h1, i, j, h2, h3, b, h4, q⟩
      refine ⟨v, h1, i, j, h2, h3, b, h4, ?_⟩
      cases b with
      | true =>
        obtain ⟨x, e1, y, e2, i2, j2, e3, e4, p1, p2, p3, p4, e5, e6, e7, e8, e9, b2, e10, q⟩ := q
        exact ⟨x, e1, y, e2, i2, j2, e3, e4, p1, p2, p3, p4, e5, e6, e7, e8, e9, b2, e10, m _ _ q⟩
      | false => exact m _ _ q
theorem sc_padded : FnScope (["one", "width"] : List Str) ["one", "width"] (defScope s_padded) := ⟨rfl, rfl, rfl, by decide +kernel, rfl, by decide +kernel, by decide +kernel⟩
theorem ok_padded {f : Addr} {fd : FuncData} (F : FunD K "padded" "padded" (defArgs s_padded) (defBody s_padded) (defScope s_padded) [] [] f fd) (T : Fre mg) : FnOk P w K mg base CX0 1 f fd ["one", "width"] (spPad K) := by
  refine F.ok sc_padded (fun vs H Q E h => ?_) (fun cdv A outer s H vs Q E hr h => ?_)
  · obtain ⟨a, xs, n, rfl, _⟩ := h
    rfl
  · obtain ⟨a, xs, n, rfl, ea, hl, hn, k⟩ := h
    refine ⟨_, PSs.nox (pss_one (ps_ret (pe_op op_catA (pv 0) (pe_op op_repZ (pe_tup (pa_cons pe_int pa_nil)) (pe_op op_sub (pv 1) (pe_callB call_len_seq (by rfl) T.f_len PySem.boot_len (pa_cons (pv 0) pa_nil))))))) , ?_⟩
    refine ⟨_, rfl, (by show 1 ≤ sizeLine; decide), fun Z hZ => ⟨_, rfl, _, rfl, a, _, rfl, .inr (SqT.of (same_upd hZ _ _ ea)), _, _, rfl, rfl, repB upd_same ?_ ?_ fun r H1 s1 e1 => ?_⟩⟩
    · rw [List.length_map]
      omega
    · rw [List.length_map]
      omega
    rw [List.length_map, show ((n : Int) - (xs.length : Int)).toNat = n - xs.length by omega] at e1
    exact catB (s1 _ _ (same_upd hZ _ _ ea)) e1 (by omega) (by rw [List.length_replicate]; omega) fun v H2 s2 e2 => k v H2 (((same_upd hZ).trans s1).trans s2) e2
theorem sc_turn_rows : FnScope (["rule", "prime", "row", "turn", "rows", "_"] : List Str) ["rule", "prime"] (defScope s_turn_rows) := ⟨rfl, rfl, rfl, by decide +kernel, rfl, by decide +kernel, by decide +kernel⟩
theorem ok_turn_rows {TT : List (Addr × Str)} {f : Addr} {fd : FuncData} (F : FunD K "turn_rows" "turn_rows" (defArgs s_turn_rows) (defBody s_turn_rows) (defScope s_turn_rows) [] [] f fd) (T : Fre mg) (o_raw_left : Own P w K mg base CX0 5 "raw_left" ["one", "rule", "prime"] [] (spLeft K TT)) (o_raw_power : Own P w K mg base CX0 8 "raw_power" ["one", "exponent", "rule", "prime"] [] (spPowR K TT)) (o_raw_times : Own P w K mg base CX0 2 "raw_times" ["one", "other", "prime"] [] (spTimes K)) (o_padded : Own P w K mg base CX0 1 "padded" ["one", "width"] [] (spPad K)) : FnOk P w K mg base CX0 9 f fd ["rule", "prime"] (spTRows K TT) := by
  refine F.ok sc_turn_rows (fun vs H Q E h => ?_) (fun cdv A outer s H vs Q E hr h => ?_)
  · obtain ⟨b, R, q, rfl, _⟩ := h
    rfl
  · obtain ⟨b, R, q, rfl, eb, lR, l2, dR, hT, k⟩ := h
    refine ⟨_, PSs.nox (pss_cons (ps_set (i := 2) sc_turn_rows.nd rfl (Or.inl rfl) (pe_own o_raw_left (hr.mono (by decide)) rfl pass0 (pa_cons (pe_tup (pa_cons pe_int pa_nil)) (pa_cons (pv 0) (pa_cons (pv 1) pa_nil)))))
      (pss_cons (ps_set (i := 3) sc_turn_rows.nd rfl (Or.inl rfl) (pe_own o_raw_power (hr.mono (by decide)) rfl pass0 (pa_cons (pe_tup (pa_cons pe_int (pa_cons pe_int pa_nil))) (pa_cons (pv 1) (pa_cons (pv 0) (pa_cons (pv 1) pa_nil))))))
      (pss_cons (ps_set (i := 4) sc_turn_rows.nd rfl (Or.inl rfl) (pe_lst pa_nil))
      (pss_cons (ps_for PassesOwn.never rfl (pi_tup (pe_slice sl_tupA (pv 0) (po_some pe_int) po_none)) (pg_name (i := 5) sc_turn_rows.nd rfl (Or.inl rfl)) (pss_cons (ps_expr (pe_bm PySem.F.plainAttrs_list PySem.F.slot_list_append PySem.F.type_list_append mt_append (pv 4) (pa_cons (pe_own o_padded (hr.mono (by decide)) rfl pass0 (pa_cons (pv 2) (pa_cons (pe_op op_sub (pe_callB call_len_seq (by rfl) T.f_len PySem.boot_len (pa_cons (pv 0) pa_nil)) pe_int) pa_nil))) pa_nil)))
      (pss_one (ps_set (i := 2) sc_turn_rows.nd rfl (Or.inl rfl) (pe_own o_raw_left (hr.mono (by decide)) rfl pass0 (pa_cons (pe_own o_raw_times (hr.mono (by decide)) rfl pass0 (pa_cons (pv 2) (pa_cons (pv 3) (pa_cons (pv 1) pa_nil)))) (pa_cons (pv 0) (pa_cons (pv 1) pa_nil))))))))
      (pss_one (ps_ret (pv 4))))))) , ?_⟩
    have hpm := pm_of dR.pr
    refine ⟨(by show 1 ≤ sizeLine; decide), fun t0 h0 => ⟨_, rfl, _, rfl, t0, b, [1], R, q, rfl, upd_same, sameT (same_upd h0) eb, by decide, lR, (po_one hpm (n := 1) (Nat.le_refl _)).rs, dR, hT.ext (same_upd h0), fun r0 w0 H1 g1 er m0 => ?_⟩⟩
    have G1 := (Gr.of hT (same_upd (o := .tup [.int 1]) h0)).trans g1
    refine ⟨(by show 2 ≤ sizeLine; decide), fun t1 h1 => ⟨_, rfl, _, rfl, _, rfl, t1, b, [0, 1], R, q, q, rfl, upd_same, sameT (same_upd h1) (sqG G1 eb), po_x hpm (by decide), lR, dR, G1.t.ext (same_upd h1), fun u us H2 g2 eu mu => ?_⟩⟩
    have G2 := (G1.same (same_upd (o := .tup [.int 0, .int 1]) h1)).trans g2
    rw [co_x] at mu
    refine ⟨(by show 0 ≤ sizeLine; decide), fun D hD => ?_⟩
    have G3 := G2.same (same_upd (o := .lst []) hD)
    refine ⟨_, rfl, 1, rfl, ?_⟩
    unfold tNoPart
    refine slTailS (n := 1) (sqG G3 eb) (Nat.le_refl 1) (by omega) fun A1 H4 s4 e4 => ⟨A1, rfl, ⟨_, SqT.of e4⟩, ?_⟩
    have G4 := G3.same s4
    have nD : H D = none := G2.n _ hD
    refine for_it (walk_tup (xs := (R.drop 1).map V.int)) (fun i σ' H' => ∃ (ar : Addr) (r : List Int) (la : List Addr) (rs : List (List Int)) (x5 : Option V), σ' = [some (.ref b), some (.int q), some (.ref ar), some (.ref u), some (.ref D), x5] ∧ Gr TT H H' ∧ H' D = some (.lst (la.map V.ref)) ∧ Rws H' la rs ∧ rs.length = i ∧ (∀ j r, rs[j]? = some r → TRow q R j r) ∧ H' ar = some (.tup (r.map V.int)) ∧ Rem q R (Xp.pw (Xp.xs Xp.one) (q * i)) r ∧ H' u = some (.tup (us.map V.int)) ∧ H' A1 = some (.tup ((R.drop 1).map V.int)))
      ⟨r0, w0, [], [], none, rfl, G4, s4 _ _ upd_same, trivial, rfl, (fun j r h => by cases h), s4 _ _ (same_upd hD _ _ (g2.tup (same_upd h1 _ _ er))), m0.congr (Xp.Cg.of (eqv_fun fun k => by rw [co_one]; rfl)), s4 _ _ (same_upd hD _ _ eu), e4⟩ (fun i σ' H' _ ⟨_, _, _, _, _, _, _, _, _, _, _, _, _, _, z⟩ => SqT.of z) ?_ ?_
    · rintro i x σ' Ha Hb hi ⟨ar, r, la, rs, x5, rfl, Ga, eD, hD2, lrs, tr, ear, mr, eu2, eA⟩ ⟨rfl, hx⟩
      rw [List.length_map, List.length_drop] at hi
      have lla := hD2.len
      have lr := mr.less
      refine ⟨_, rfl, .inl ⟨rfl, _, SqL.of eD⟩, _, rfl, _, rfl, b, _, rfl, .inr (sqG Ga eb), _, _, rfl, rfl, ar, r, R.length - 1, ?_, ear, by omega, by omega, fun v Hc sc ev => ?_⟩
      · show [V.ref ar, V.int (((R.map V.int).length : Int) - 1)] = _
        rw [List.length_map, show ((R.length : Nat) : Int) - 1 = ((R.length - 1 : Nat) : Int) by omega]
      have eDc := sc _ _ eD
      refine ⟨D, _, _, rfl, rfl, eDc, ?_, ?_⟩
      · rw [List.length_map]
        exact small1000 (by omega)
      have Gd := grLst (ys := la.map V.ref ++ [.ref v]) (Ga.same sc) nD eDc
      have hDd := (Rws.snoc ev (hD2.keep (kpS sc))).lst (ys := la.map V.ref ++ [.ref v]) eDc
      have eDd : L2.upd Hc D (.lst (la.map V.ref ++ [.ref v])) D = some (.lst ((la ++ [v]).map V.ref)) := by
        rw [upd_same, List.map_append]
        rfl
      have ear2 := tupL (ys := la.map V.ref ++ [.ref v]) eDc (sc _ _ ear)
      have eu3 := tupL (ys := la.map V.ref ++ [.ref v]) eDc (sc _ _ eu2)
      have eA3 := tupL (ys := la.map V.ref ++ [.ref v]) eDc (sc _ _ eA)
      refine ⟨_, rfl, _, rfl, _, rfl, ar, u, r, us, q, rfl, .inl (.inl ear2), .inl (.inl eu3), by omega, by have := mu.less; omega, mr.po.rs, mu.po.rs, hpm, fun ms y v2 Hd sd nd ed => ?_⟩
      have lms : ms.length ≤ 50 := by
        have l1 := mu.less
        rcases times_len y with z | ⟨_, _, z⟩
        · rw [z]; decide
        · omega
      refine ⟨_, rfl, _, rfl, v2, b, ms, R, q, rfl, ed, sameT sd (sqG Gd eb), lms, lR, rs_of hpm y, dR, Gd.t.ext sd, fun r2 rs2 He ge er2 m2 => ?_⟩
      have Ge := (Gd.same sd).trans ge
      refine ⟨r2, rs2, la ++ [v], rs ++ [padL r (R.length - 1)], _, rfl, Ge, ge.x _ _ (sd _ _ eDd) (fun _ z => by cases z), (hDd.keep (kpS sd)).keep (kpG ge), by rw [List.length_append, lrs]; rfl, fun j r' hj => ?_, er2, ?_, ge.tup (sd _ _ eu3), ge.tup (sd _ _ eA3)⟩
      · rcases Nat.lt_or_ge j rs.length with h | h
        · rw [List.getElem?_append_left h] at hj
          exact tr j r' hj
        · rw [List.getElem?_append_right h] at hj
          have j0 : j - rs.length = 0 := by
            rcases Nat.eq_zero_or_pos (j - rs.length) with z | z
            · exact z
            · rw [List.getElem?_eq_none (by rw [List.length_singleton]; exact z)] at hj
              cases hj
          rw [j0] at hj
          cases hj
          have ej : j = i := by omega
          subst ej
          refine ⟨padL_len (by omega), fun k => ?_, ?_⟩
          · rw [show (padL r (R.length - 1)).getD k 0 = r.getD k 0 from congrFun (co_pad r _) k]
            exact mr.po.rs k
          · rw [co_pad]
            exact mr.cg
      · rw [show q * (i + 1) = q * i + q from Nat.mul_succ _ _, Xp.pw_add]
        exact Rem.times hpm ((Xp.Fi.xs Xp.Fi.one).pw q) mr mu y m2
    · rintro σ' Ha ⟨ar, r, la, rs, x5, rfl, Ga, eD, hD2, lrs, tr, ear, mr, eu2, eA⟩
      refine ⟨_, rfl, k D la rs Ha Ga nD eD hD2 ?_ tr⟩
      rw [lrs, List.length_map, List.length_drop]
end
end Xk
end
section
set_option Elab.async false
set_option linter.all false
set_option maxRecDepth 100000
set_option maxHeartbeats 4000000
namespace Xk
open PySem PySem.Spec PyProof.Rows L2 Xh LamX NdefX
/-! values and slopes -/
/-- x0 + x1 n + .. -/
def ev (xs : List Int) (n : Int) : Nat → Int := fun k => Xp.sm k fun i => xs.getD i 0 * n ^ i
def hv (n p : Int) : List Int → Int
  | [] => 0
  | x :: xs => (hv n p xs * n + x).fmod p
theorem pow_mod {a p : Int} : ∀ n : Nat, (a % p) ^ n % p = a ^ n % p
  | 0 => by rw [Int.pow_zero, Int.pow_zero]
  | n + 1 => by
    rw [Int.pow_succ, Int.pow_succ, Int.mul_emod, pow_mod n, Int.emod_emod, ← Int.mul_emod]
theorem ev_cons (x : Int) (xs : List Int) (n : Int) (k : Nat) : ev (x :: xs) n (k + 1) = x + n * ev xs n k := by
  unfold ev
  rw [Xp.sm_head]
  show x * n ^ 0 + _ = _
  rw [Int.pow_zero, Int.mul_one, ← Xp.sm_mul]
  congr 1
  refine Xp.sm_congr fun i _ => ?_
  show xs.getD i 0 * n ^ (i + 1) = n * (xs.getD i 0 * n ^ i)
  rw [Int.pow_succ, Int.mul_comm n, Int.mul_assoc]
theorem hv_ev {n p : Int} (hp : 0 < p) : ∀ xs, hv n p xs = ev xs n xs.length % p
  | [] => (Int.zero_emod p).symm
  | x :: xs => by
    show (hv n p xs * n + x).fmod p = ev (x :: xs) n (xs.length + 1) % p
    rw [fm_em hp, hv_ev hp xs, ev_cons, Int.add_emod, Int.mul_emod, Int.emod_emod, ← Int.mul_emod, ← Int.add_emod, Int.add_comm, Int.mul_comm]
theorem drop_last {xs : List Int} {i : Nat} (h : i < xs.length) : xs.drop (xs.length - (i + 1)) = xs.getD (xs.length - 1 - i) 0 :: xs.drop (xs.length - i) := by
  rw [List.drop_eq_getElem_cons (by omega), List.getD_eq_getElem?_getD, List.getElem?_eq_getElem (by omega)]
  congr 1
  · show xs[xs.length - (i + 1)] = xs[xs.length - 1 - i]
    congr 1
    omega
  · congr 1
    omega
def spVal (K : PySem.W.Frag) : Sp := fun vs H Q _ => ∃ (a : Addr) (xs : List Int) (n p : Int), vs = [.ref a, .int n, .int p] ∧ SqT K H a (xs.map V.int) ∧ xs.length ≤ 100 ∧ Rs p xs ∧ 0 ≤ n ∧ n < p ∧ Pm p ∧ Q (.int (ev xs n xs.length % p)) H
def spSlope (K : PySem.W.Frag) : Sp := fun vs H Q _ => ∃ (a : Addr) (xs : List Int) (p : Int), vs = [.ref a, .int p] ∧ SqT K H a (xs.map V.int) ∧ xs.length ≤ 100 ∧ Rs p xs ∧ Pm p ∧ NewP H (fun j => (((j + 1 : Nat) : Int) * xs.getD (j + 1) 0).fmod p) 100 Q
theorem cutV_one (ns : List Int) : cutV (ns.map V.int) (some 1) none = (ns.drop 1).map V.int := by
  unfold cutV
  rw [HT.sIx_none, show (some (1 : Int)) = some (((1 : Nat) : Int)) from rfl, HT.sIx_nat, List.length_map]
  cases ns with
  | nil => rfl
  | cons n ns =>
    show (((n :: ns).map V.int).drop (min 1 (ns.length + 1))).take (ns.length + 1 - min 1 (ns.length + 1)) = ns.map V.int
    rw [show min 1 (ns.length + 1) = 1 by omega]
    show (ns.map V.int).take (ns.length + 1 - 1) = _
    rw [Nat.add_sub_cancel, List.take_of_length_le (by rw [List.length_map]; exact Nat.le_refl _)]
section
variable {P : Program} {w : World} {K : PySem.W.Frag} {mg : Str → Option Value} {base : Heap}
theorem sc_raw_value : FnScope (["one", "number", "prime", "value", "rest"] : List Str) ["one", "number", "prime"] (defScope s_raw_value) := ⟨rfl, rfl, rfl, by decide +kernel, rfl, by decide +kernel, by decide +kernel⟩
theorem ok_raw_value {f : Addr} {fd : FuncData} (F : FunD K "raw_value" "raw_value" (defArgs s_raw_value) (defBody s_raw_value) (defScope s_raw_value) [] [] f fd) (T : Fre mg) : FnOk P w K mg base CX0 1 f fd ["one", "number", "prime"] (spVal K) := by
  refine F.ok sc_raw_value (fun vs H Q E h => ?_) (fun cdv A outer s H vs Q E hr h => ?_)
  · obtain ⟨a, xs, n, p, rfl, _⟩ := h
    rfl
  · obtain ⟨a, xs, n, p, rfl, hS, hl, hR, n0, n1, hp, k⟩ := h
    have lo := hp.lo
    have hi := hp.hi
    have nz : p ≠ 0 := by omega
    refine ⟨_, PSs.nox (pss_cons (ps_set (i := 3) sc_raw_value.nd rfl (Or.inl rfl) pe_int)
      (pss_cons (ps_for PassesOwn.never rfl (RT.pi_revA (by rfl) T.f_reversed (pv 0)) (pg_name (i := 4) sc_raw_value.nd rfl (Or.inl rfl)) (pss_one (ps_set (i := 3) sc_raw_value.nd rfl (Or.inl rfl) (pe_op op_modN (pe_op op_add (pe_op op_mul (pv 3) (pv 1)) (pv 4)) (pv 2)))))
      (pss_one (ps_ret (pv 3))))) , ?_⟩
    refine ⟨_, rfl, a, _, rfl, .inr ⟨hS, ?_⟩⟩
    refine for_it (walk_revT (xs := xs.map V.int)) (fun i σ' H2 => ∃ x5 : Option V, σ' = [some (.ref a), some (.int n), some (.int p), some (.int (hv n p (xs.drop (xs.length - i)))), x5] ∧ H2 = H) ⟨none, by rw [Nat.sub_zero, List.drop_length]; rfl, rfl⟩ (fun i σ' H2 _ ⟨_, _, e⟩ => by rw [e]; exact hS) ?_ ?_
    · rintro i x σ' H2 H3 hi ⟨x5, rfl, rfl⟩ ⟨rfl, hx⟩
      rw [List.length_map] at hi hx
      have e3 := (map_at xs (xs.length - 1 - i) (by omega)).symm.trans hx
      cases e3
      have b : 0 ≤ hv n p (xs.drop (xs.length - i)) ∧ hv n p (xs.drop (xs.length - i)) < p := by
        rw [hv_ev hp.pos]
        exact ⟨Int.emod_nonneg _ nz, Int.emod_lt_of_pos _ hp.pos⟩
      refine ⟨_, rfl, _, rfl, _, _, rfl, rfl, .inl ⟨by omega, by omega⟩, _, rfl, _, _, rfl, rfl, _, rfl, _, _, rfl, rfl, nz, some (.int (xs.getD (xs.length - 1 - i) 0)), ?_, rfl⟩
      rw [drop_last hi]
      rfl
    · rintro σ' H2 ⟨x5, rfl, rfl⟩
      rw [List.length_map, Nat.sub_self, List.drop_zero, hv_ev hp.pos]
      exact ⟨_, rfl, k⟩
theorem sc_raw_slope : FnScope (["one", "prime", "place", "rest"] : List Str) ["one", "prime"] (defScope s_raw_slope) := ⟨rfl, rfl, rfl, by decide +kernel, rfl, by decide +kernel, by decide +kernel⟩
theorem ok_raw_slope {f : Addr} {fd : FuncData} (F : FunD K "raw_slope" "raw_slope" (defArgs s_raw_slope) (defBody s_raw_slope) (defScope s_raw_slope) [] [] f fd) (T : Fre mg) (o_trimmed : Own P w K mg base CX0 1 "trimmed" ["rests"] [] (spTrim K)) : FnOk P w K mg base CX0 2 f fd ["one", "prime"] (spSlope K) := by
  refine F.ok sc_raw_slope (fun vs H Q E h => ?_) (fun cdv A outer s H vs Q E hr h => ?_)
  · obtain ⟨a, xs, p, rfl, _⟩ := h
    rfl
  · obtain ⟨a, xs, p, rfl, hS, hl, hR, hp, k⟩ := h
    have lo := hp.lo
    have hi := hp.hi
    have nz : p ≠ 0 := by omega
    refine ⟨_, PSs.nox (pss_one (ps_ret (pe_own o_trimmed (hr.mono (by decide)) rfl pass0 (pa_cons (pe_slice sl_list (pe_lc (own := [("place", 2), ("rest", 3)]) (g := (gTup K 2 (gCons (gName 2) (gCons (gName 3) gNil)))) rfl sc_raw_slope.nd (pi_enT (by rfl) T.f_enumerate (pa_cons (pv 0) pa_nil)) (blkOk_by (own := [("place", 2), ("rest", 3)]) (N := ["one", "prime", "place", "rest"]) (sc := defScope s_raw_slope) (by decide +kernel)) (fun _ _ _ _ _ => pg_tup rfl (pgs_cons (pg_name (i := 2) sc_raw_slope.nd rfl (Or.inl rfl) (Or.inr rfl)) (pgs_cons (pg_name (i := 3) sc_raw_slope.nd rfl (Or.inl rfl) (Or.inr rfl)) pgs_nil))) (fun _ _ _ _ _ => pts_nil) (fun _ _ _ _ _ => (pe_op op_modN (pe_op op_mul (pv 2) (pv 3)) (pv 1)))) (po_some pe_int) po_none) pa_nil)))) , ?_⟩
    refine ⟨_, rfl, a, _, rfl, hS, fun D hD => ?_⟩
    refine lc_it (walk_enT (xs := xs.map V.int)) (fun i H1 => Same H H1 ∧ ∃ ms : List Int, H1 D = some (.lst (ms.map V.int)) ∧ ms.length = i ∧ ∀ j, j < i → ms.getD j 0 = ((j : Int) * xs.getD j 0).fmod p) ⟨same_upd hD, [], upd_same, rfl, fun j hj => absurd hj (Nat.not_lt_zero j)⟩ (fun i H1 _ h => sameT h.1 hS) ?_ ?_
    · rintro i x H1 H2 hi2 ⟨s1, ms, e1, l1, c1⟩ ⟨Tp, u, v, rfl, hTp, rfl, g1, g2⟩
      cases g1
      rw [List.length_map] at hi2
      have e3 := (map_at xs i hi2).symm.trans g2
      cases e3
      obtain ⟨r0, r1⟩ := hR i
      have s4 := s1.trans (same_upd (o := .tup [.int (i : Nat), .int (xs.getD i 0)]) hTp)
      refine ⟨Tp, _, rfl, .inl (.inl upd_same), rfl, _, _, rfl, _, _, rfl, rfl, rfl, _, rfl, _, rfl, _, _, rfl, rfl, .inr ⟨by omega, by omega⟩, _, rfl, _, _, rfl, rfl, nz, _, by rw [upd_ne (ne_of_none e1 hTp)]; exact e1, ?_, lcs hD s4, ms ++ [((i : Int) * xs.getD i 0).fmod p], ?_, ?_, fun j hj => ?_⟩
      · rw [List.length_map]
        exact small1000 (by omega)
      · rw [upd_same, List.map_append]
        rfl
      · rw [List.length_append, l1]
        rfl
      · rw [getD_app, l1]
        by_cases hj2 : j < i
        · rw [if_pos hj2]
          exact c1 j hj2
        · rw [if_neg hj2, show j = i by omega, if_pos rfl]
    · rintro H1 ⟨s1, ms, e1, l1, c1⟩
      rw [List.length_map] at l1 c1
      refine ⟨1, rfl, D, _, rfl, SqL.of e1, fun q hq => ?_⟩
      rw [cutV_one]
      have sq := same_upd (o := .lst ((ms.drop 1).map V.int)) hq
      refine ⟨q, ms.drop 1, rfl, SqL.of upd_same, by rw [List.length_drop]; omega, (k _ (is_trim (fun j => ?_) (by rw [List.length_drop]; omega))).same (s1.trans sq)⟩
      rw [List.getD_eq_getElem?_getD, List.getElem?_drop, ← List.getD_eq_getElem?_getD, Nat.add_comm 1 j]
      by_cases hj : j + 1 < xs.length
      · exact c1 _ hj
      · rw [getD_over (a := ms) (by omega), getD_over (a := xs) (by omega), Int.mul_zero, Int.zero_fmod]
end
end Xk
end
section
set_option Elab.async false
set_option linter.all false
set_option maxRecDepth 100000
set_option maxHeartbeats 4000000
namespace Xk
open PySem PySem.Spec PyProof.Rows L2 Xh LamX NdefX
/-! ### tuples in their order -/
theorem kpU {H : Hp} {D : Addr} {xs ys : List V} (e : H D = some (.lst xs)) : ∀ a us, H a = some (.tup us) → L2.upd H D (.lst ys) a = some (.tup us) := fun a us h => tupL e h
/-- tuples of values stand at these -/
def Tps (H : Hp) : List Addr → List (List V) → Prop
  | [], [] => True
  | l :: ls, r :: rs => H l = some (.tup r) ∧ Tps H ls rs
  | _, _ => False
theorem Tps.len {H : Hp} : ∀ {ls : List Addr} {rs : List (List V)}, Tps H ls rs → ls.length = rs.length
  | [], [], _ => rfl
  | _ :: _, _ :: _, h => congrArg Nat.succ (Tps.len h.2)
  | [], _ :: _, h => h.elim
  | _ :: _, [], h => h.elim
theorem Tps.keep {H H' : Hp} (k : ∀ a xs, H a = some (.tup xs) → H' a = some (.tup xs)) : ∀ {ls : List Addr} {rs : List (List V)}, Tps H ls rs → Tps H' ls rs
  | [], [], _ => trivial
  | _ :: _, _ :: _, h => ⟨k _ _ h.1, Tps.keep k h.2⟩
  | [], _ :: _, h => h.elim
  | _ :: _, [], h => h.elim
theorem Tps.app {H : Hp} {ls' : List Addr} {rs' : List (List V)} (g : Tps H ls' rs') : ∀ {ls : List Addr} {rs : List (List V)}, Tps H ls rs → Tps H (ls ++ ls') (rs ++ rs')
  | [], [], _ => g
  | _ :: _, _ :: _, h => ⟨h.1, Tps.app g h.2⟩
  | [], _ :: _, h => h.elim
  | _ :: _, [], h => h.elim
theorem Tps.snoc {H : Hp} {l : Addr} {r : List V} (e : H l = some (.tup r)) {ls : List Addr} {rs : List (List V)} (h : Tps H ls rs) : Tps H (ls ++ [l]) (rs ++ [r]) := Tps.app (ls' := [l]) (rs' := [r]) ⟨e, trivial⟩ h
theorem Tps.get {H : Hp} : ∀ {ls : List Addr} {rs : List (List V)}, Tps H ls rs → ∀ (i : Nat) (l : Addr), ls[i]? = some l → ∃ r, rs[i]? = some r ∧ H l = some (.tup r)
  | [], [], _, i, l, e => by cases e
  | _ :: _, r :: _, h, 0, l, e => by
    cases e
    exact ⟨r, rfl, h.1⟩
  | _ :: ls, _ :: rs, h, i + 1, l, e => Tps.get (ls := ls) (rs := rs) h.2 i l e
  | [], _ :: _, h, _, _, _ => h.elim
  | _ :: _, [], h, _, _, _ => h.elim
theorem Tps.at {H : Hp} {ls : List Addr} {rs : List (List V)} (h : Tps H ls rs) {i : Nat} {x : V} (hx : (ls.map V.ref)[i]? = some x) : ∃ (l : Addr) (r : List V), x = .ref l ∧ rs[i]? = some r ∧ H l = some (.tup r) := by
  rw [List.getElem?_map] at hx
  obtain ⟨l, hl, e⟩ := Option.map_eq_some_iff.mp hx
  obtain ⟨r, hr, e2⟩ := h.get i l hl
  exact ⟨l, r, e.symm, hr, e2⟩
/-- each with each rest -/
def prR (q : Nat) (xs : List V) : List (List V) := xs.flatMap fun x => (List.range q).map fun k => [x, .int ((k : Nat) : Int)]
def prC (xs ys : List V) : List (List V) := xs.flatMap fun x => ys.map fun y => [x, y]
theorem len_flat {α β : Type} {f : α → List β} {m : Nat} : ∀ xs : List α, (∀ x ∈ xs, (f x).length = m) → (xs.flatMap f).length = xs.length * m
  | [], _ => (Nat.zero_mul m).symm
  | x :: xs, h => by
    rw [List.flatMap_cons, List.length_append, h x List.mem_cons_self, len_flat xs fun y hy => h y (List.mem_cons_of_mem _ hy), List.length_cons, Nat.succ_mul, Nat.add_comm]
theorem prR_len (q : Nat) (xs : List V) : (prR q xs).length = xs.length * q := len_flat xs fun x _ => by rw [List.length_map, List.length_range]
theorem prC_len (xs ys : List V) : (prC xs ys).length = xs.length * ys.length := len_flat xs fun x _ => by rw [List.length_map]
theorem prC_mem {xs ys : List V} {z : List V} (h : z ∈ prC xs ys) : ∃ x ∈ xs, ∃ y ∈ ys, z = [x, y] := by
  obtain ⟨x, hx, hz⟩ := List.mem_flatMap.mp h
  obtain ⟨y, hy, rfl⟩ := List.mem_map.mp hz
  exact ⟨x, hx, y, hy, rfl⟩
theorem prR_at {H : Hp} {q : Nat} : ∀ {la : List Addr} {rs : List (List Int)}, Rws H la rs → ∀ (i : Nat) (z : List V), (prR q (la.map V.ref))[i]? = some z → ∃ (l : Addr) (t : List Int) (k : Nat), z = [.ref l, .int ((k : Nat) : Int)] ∧ k < q ∧ (rs.flatMap fun t => (List.range q).map fun k => t ++ [((k : Nat) : Int)])[i]? = some (t ++ [((k : Nat) : Int)]) ∧ t ∈ rs ∧ H l = some (.tup (t.map V.int))
  | [], [], _, i, z, h => by cases h
  | l :: la, t :: rs, h, i, z, hz => by
    unfold prR at hz
    rw [List.map_cons, List.flatMap_cons] at hz
    rw [List.flatMap_cons]
    by_cases hi : i < q
    · rw [List.getElem?_append_left (by rw [List.length_map, List.length_range]; exact hi), List.getElem?_map, List.getElem?_range hi] at hz
      rw [List.getElem?_append_left (by rw [List.length_map, List.length_range]; exact hi), List.getElem?_map, List.getElem?_range hi]
      cases hz
      exact ⟨l, t, i, rfl, hi, rfl, List.mem_cons_self, h.1⟩
    · rw [List.getElem?_append_right (by rw [List.length_map, List.length_range]; omega), List.length_map, List.length_range] at hz
      rw [List.getElem?_append_right (by rw [List.length_map, List.length_range]; omega), List.length_map, List.length_range]
      obtain ⟨l', t', k, e1, e2, e3, e4, e5⟩ := prR_at h.2 (i - q) z hz
      exact ⟨l', t', k, e1, e2, e3, List.mem_cons_of_mem _ e4, e5⟩
  | [], _ :: _, h, _, _, _ => h.elim
  | _ :: _, [], h, _, _, _ => h.elim
theorem small6k {n : Nat} (h : n ≤ 6000) : n < sizeLine := Nat.lt_of_le_of_lt h (by decide)
def spSize : Sp := fun vs H Q _ => ∃ (p : Int) (m : Nat), vs = [.int p, .int m] ∧ Pm p ∧ m ≤ 24 ∧ Q (.int (p ^ m)) H
def spPairs : Sp := fun vs H Q _ => ∃ (R : Addr) (xs : List V) (q : Nat), vs = [.ref R, .int q] ∧ H R = some (.lst xs) ∧ xs.length * q ≤ 3000 ∧ q ≤ 200 ∧
  ∀ (F : Addr) (qs : List Addr) (H' : Hp), Same H H' → H F = none → H' F = some (.lst (qs.map V.ref)) → Tps H' qs (prR q xs) → Q (.ref F) H'
def spTuples : Sp := fun vs H Q _ => ∃ (q m : Nat), vs = [.int q, .int m] ∧ 2 ≤ q ∧ q ≤ 200 ∧ m ≤ 24 ∧ q ^ m ≤ 2500 ∧
  ∀ (F : Addr) (la : List Addr) (H' : Hp), Same H H' → H F = none → H' F = some (.lst (la.map V.ref)) → Rws H' la (Xp.tp q m) → Q (.ref F) H'
section
variable {P : Program} {w : World} {K : PySem.W.Frag} {mg : Str → Option Value} {base : Heap}
theorem sc_law_pairs : FnScope (["_law_rows", "_law_p", "_law_found", "_law_row", "_law_rest"] : List Str) ["_law_rows", "_law_p"] (defScope s_law_pairs) := ⟨rfl, rfl, rfl, by decide +kernel, rfl, by decide +kernel, by decide +kernel⟩
theorem ok_law_pairs {f : Addr} {fd : FuncData} (F : FunD K "_law_pairs" "_law_pairs" (defArgs s_law_pairs) (defBody s_law_pairs) (defScope s_law_pairs) [] [] f fd) (T : Fre mg) : FnOk P w K mg base CX0 1 f fd ["_law_rows", "_law_p"] spPairs := by
  refine F.ok sc_law_pairs (fun vs H Q E h => ?_) (fun cdv A outer s H vs Q E hr h => ?_)
  · obtain ⟨R, xs, q, rfl, _⟩ := h
    rfl
  · obtain ⟨R, xs, q, rfl, eR, hl, hq, k⟩ := h
    refine ⟨_, PSs.nox (pss_cons (ps_set (i := 2) sc_law_pairs.nd rfl (Or.inl rfl) (pe_lst pa_nil))
      (pss_cons (ps_for PassesOwn.never rfl (pi_list (pv 0)) (pg_name (i := 3) sc_law_pairs.nd rfl (Or.inr rfl)) (pss_one (ps_set (i := 2) sc_law_pairs.nd rfl (Or.inl rfl) (pe_op op_cat (pv 2) (pe_lc (own := [("_law_rest", 4)]) rfl sc_law_pairs.nd (pi_range1 (by rfl) T.f_range (pa_cons (pv 1) pa_nil)) (blkOk_by (own := [("_law_rest", 4)]) (N := ["_law_rows", "_law_p", "_law_found", "_law_row", "_law_rest"]) (sc := defScope s_law_pairs) (by decide +kernel)) (fun _ _ _ _ _ => pg_name (i := 4) sc_law_pairs.nd rfl (Or.inl rfl) (Or.inr rfl)) (fun _ _ _ _ _ => pts_nil) (fun _ _ _ _ _ => (pe_tup (pa_cons (pv 3) (pa_cons (pv 4) pa_nil)))))))))
      (pss_one (ps_ret (pv 2))))) , ?_⟩
    refine ⟨(by show 0 ≤ sizeLine; decide), fun F0 hF0 => ?_⟩
    refine ⟨_, rfl, R, rfl, ⟨_, SqL.of (same_upd hF0 _ _ eR)⟩, ?_⟩
    refine for_it (walk_list (xs := xs)) (fun i σ' H2 => ∃ (Fa : Addr) (qs : List Addr) (x3 x4 : Option V), σ' = [some (.ref R), some (.int q), some (.ref Fa), x3, x4] ∧ Same H H2 ∧ H Fa = none ∧ H2 Fa = some (.lst (qs.map V.ref)) ∧ Tps H2 qs (prR q (xs.take i))) ⟨F0, [], none, none, rfl, same_upd hF0, hF0, upd_same, trivial⟩ (fun i σ' H2 _ ⟨_, _, _, _, _, s2, _⟩ => SqL.of (s2 _ _ eR)) ?_ ?_
    · rintro i x σ' H2 H3 hi ⟨Fa, qs, x3, x4, rfl, s2, nF, eF, hF⟩ ⟨rfl, hx⟩
      have lqs := hF.len
      rw [prR_len, List.length_take] at lqs
      have b1 : min i xs.length * q + q ≤ 3000 := by
        have e : min i xs.length + 1 ≤ xs.length := by omega
        have := Nat.mul_le_mul_right q e
        rw [Nat.succ_mul] at this
        omega
      refine ⟨_, rfl, _, rfl, (q : Int), rfl, by omega, by omega, fun D hD => ?_⟩
      rw [Int.toNat_natCast]
      refine lc_range (lo := 0) (n := q) (fun k H4 => ∃ cs : List Addr, Same H3 H4 ∧ H3 D = none ∧ H4 D = some (.lst (cs.map V.ref)) ∧ Tps H4 cs ((List.range k).map fun k => [x, .int ((k : Nat) : Int)])) ⟨[], same_upd hD, hD, upd_same, trivial⟩ ?_ ?_
      · rintro j H4 hj ⟨cs, s4, n4, e4, h4⟩
        have lcs' := h4.len
        rw [List.length_map, List.length_range] at lcs'
        refine ⟨rfl, _, rfl, _, rfl, (by show 2 ≤ sizeLine; decide), fun t ht => ?_⟩
        have st := same_upd (o := .tup [x, .int (0 + (j : Int))]) ht
        refine ⟨_, st _ _ e4, ?_, cs ++ [t], lcs n4 (s4.trans st), n4, ?_, ?_⟩
        · rw [List.length_map, lcs']
          exact small6k (by omega)
        · rw [upd_same, List.map_append]
          rfl
        · rw [List.range_succ, List.map_append]
          refine (Tps.snoc ?_ (h4.keep (kpS st))).keep (kpU (st _ _ e4))
          rw [upd_same, Int.zero_add]
      rintro H4 ⟨cs, s4, n4, e4, h4⟩
      have lcs' := h4.len
      rw [List.length_map, List.length_range] at lcs'
      refine ⟨Fa, D, _, _, rfl, rfl, s4 _ _ eF, e4, ?_, fun C hC => ?_⟩
      · rw [List.length_map, List.length_map]
        exact Nat.le_trans (show qs.length + cs.length ≤ 6000 by omega) (Nat.le_of_lt (small6k (Nat.le_refl _)))
      have sC := same_upd (o := .lst (qs.map V.ref ++ cs.map V.ref)) hC
      refine ⟨C, qs ++ cs, _, _, rfl, (s2.trans s4).trans sC, (s2.trans s4).free hC, ?_, ?_⟩
      · rw [upd_same, List.map_append]
      · rw [List.take_succ, hx]
        show Tps _ _ (prR q (xs.take i ++ [x]))
        unfold prR
        rw [List.flatMap_append]
        refine Tps.app ?_ ((hF.keep (kpS s4)).keep (kpS sC))
        rw [List.flatMap_cons, List.flatMap_nil, List.append_nil]
        exact h4.keep (kpS sC)
    · rintro σ' H2 ⟨Fa, qs, x3, x4, rfl, s2, nF, eF, hF⟩
      rw [List.take_length] at hF
      exact ⟨_, rfl, k Fa qs H2 s2 nF eF hF⟩
theorem sc_law_tuples : FnScope (["_law_p", "_law_many", "_law_found", "_law_k", "_law_row", "_law_rest"] : List Str) ["_law_p", "_law_many"] (defScope s_law_tuples) := ⟨rfl, rfl, rfl, by decide +kernel, rfl, by decide +kernel, by decide +kernel⟩
theorem ok_law_tuples {f : Addr} {fd : FuncData} (F : FunD K "_law_tuples" "_law_tuples" (defArgs s_law_tuples) (defBody s_law_tuples) (defScope s_law_tuples) [] [] f fd) (T : Fre mg) (o_law_pairs : Own P w K mg base CX0 1 "_law_pairs" ["_law_rows", "_law_p"] [] spPairs) : FnOk P w K mg base CX0 2 f fd ["_law_p", "_law_many"] spTuples := by
  refine F.ok sc_law_tuples (fun vs H Q E h => ?_) (fun cdv A outer s H vs Q E hr h => ?_)
  · obtain ⟨q, m, rfl, _⟩ := h
    rfl
  · obtain ⟨q, m, rfl, q2, q97, hm, hb, k⟩ := h
    refine ⟨_, PSs.nox (pss_cons (ps_set (i := 2) sc_law_tuples.nd rfl (Or.inl rfl) (pe_lst (pa_cons (pe_tup pa_nil) pa_nil)))
      (pss_cons (ps_for PassesOwn.never rfl (pi_range1 (by rfl) T.f_range (pa_cons (pv 1) pa_nil)) (pg_name (i := 3) sc_law_tuples.nd rfl (Or.inl rfl)) (pss_one (ps_setLc (i := 2) (own := [("_law_row", 4), ("_law_rest", 5)]) (g := (gTup K 2 (gCons (gName 4) (gCons (gName 5) gNil)))) (te := tOp (rCatA K) (tVar 4) (tTup (tCons (tVar 5) tNil))) rfl sc_law_tuples.nd rfl rfl (sw_true rfl rfl rfl (by decide +kernel)) (pi_list (pe_own o_law_pairs (hr.mono (by decide)) rfl pass0 (pa_cons (pv 2) (pa_cons (pv 0) pa_nil)))) (blkOk_by (own := [("_law_row", 4), ("_law_rest", 5)]) (N := ["_law_p", "_law_many", "_law_found", "_law_k", "_law_row", "_law_rest"]) (sc := defScope s_law_tuples) (by decide +kernel)) (fun _ _ _ _ _ => pg_tup rfl (pgs_cons (pg_name (i := 4) sc_law_tuples.nd rfl (Or.inl rfl) (Or.inr rfl)) (pgs_cons (pg_name (i := 5) sc_law_tuples.nd rfl (Or.inl rfl) (Or.inr rfl)) pgs_nil))) (fun _ _ _ _ _ => pts_nil) (fun _ _ _ _ _ => (pe_op op_catA (pv 4) (pe_tup (pa_cons (pv 5) pa_nil)))))))
      (pss_one (ps_ret (pv 2))))) , ?_⟩
    refine ⟨(by show 0 ≤ sizeLine; decide), fun t0 ht0 => ⟨(by show 1 ≤ sizeLine; decide), fun F0 hF0 => ?_⟩⟩
    have s0 := (same_upd (o := .tup []) ht0).trans (same_upd (o := .lst [.ref t0]) hF0)
    refine ⟨_, rfl, (m : Int), rfl, by omega, by omega, ?_⟩
    rw [Int.toNat_natCast]
    refine for_range (lo := 0) (n := m) (fun i σ' H2 => ∃ (Fa : Addr) (la : List Addr) (x3 x4 x5 : Option V), σ' = [some (.int q), some (.int m), some (.ref Fa), x3, x4, x5] ∧ Same H H2 ∧ H Fa = none ∧ H2 Fa = some (.lst (la.map V.ref)) ∧ Rws H2 la (Xp.tp q i)) ⟨F0, [t0], none, none, none, rfl, s0, (same_upd ht0).free hF0, upd_same, same_upd hF0 _ _ upd_same, trivial⟩ ?_ ?_
    · rintro i σ' H2 hi ⟨Fa, la, x3, x4, x5, rfl, s2, nF, eF, hF⟩
      have lla := hF.len
      rw [Xp.tp_len] at lla
      have mono : q ^ (i + 1) ≤ 2500 := Nat.le_trans (Nat.pow_le_pow_right (by omega) hi) hb
      rw [Nat.pow_succ] at mono
      refine ⟨_, rfl, _, rfl, Fa, _, q, rfl, eF, by rw [List.length_map, lla]; omega, by omega, fun Pa qs H3 s3 nP eP hPs => ?_⟩
      have lqs := hPs.len
      rw [prR_len, List.length_map, lla] at lqs
      refine ⟨Pa, rfl, ⟨_, SqL.of eP⟩, fun D hD => ?_⟩
      refine lc_it (walk_list (xs := qs.map V.ref)) (fun j H4 => ∃ lb : List Addr, Same H3 H4 ∧ H3 D = none ∧ H4 D = some (.lst (lb.map V.ref)) ∧ Rws H4 lb ((Xp.tp q (i + 1)).take j)) ⟨[], same_upd hD, hD, upd_same, trivial⟩ (fun j H4 _ ⟨_, s4, _⟩ => SqL.of (s4 _ _ eP)) ?_ ?_
      · rintro j x H4 H5 hj ⟨lb, s4, n4, e4, h4⟩ ⟨rfl, hx⟩
        rw [List.length_map] at hj
        obtain ⟨l0, z, rfl, hz, ez⟩ := (hPs.keep (kpS s4)).at hx
        obtain ⟨l, t, kk, rfl, hk, hat, tm, et⟩ := prR_at (hF.keep (kpS (s3.trans s4))) j z hz
        have lt := (Xp.tp_mem.mp tm).1
        have llb := h4.len
        rw [List.length_take] at llb
        refine ⟨l0, _, rfl, .inl (.inl ez), rfl, _, _, rfl, _, _, rfl, rfl, rfl, _, rfl, _, rfl, (by show 1 ≤ sizeLine; decide), fun u hu => ?_⟩
        have su := same_upd (o := .tup [.int ((kk : Nat) : Int)]) hu
        refine catB (xs := t) (ys := [((kk : Nat) : Int)]) (su _ _ et) upd_same (by omega) (by show 1 ≤ 100; decide) fun r H6 s6 er => ?_
        have e6 := s6 _ _ (su _ _ e4)
        refine ⟨_, e6, ?_, lb ++ [r], lcs n4 ((s4.trans su).trans s6), n4, ?_, ?_⟩
        · rw [List.length_map, llb]
          exact small6k (by omega)
        · rw [upd_same, List.map_append]
          rfl
        · rw [List.take_succ, show (Xp.tp q (i + 1))[j]? = some (t ++ [((kk : Nat) : Int)]) from hat]
          exact (Rws.snoc er ((h4.keep (kpS su)).keep (kpS s6))).keep (kpU e6)
      rintro H4 ⟨lb, s4, n4, e4, h4⟩
      rw [List.length_map, lqs, show q ^ i * q = (Xp.tp q (i + 1)).length from by rw [Xp.tp_len, Nat.pow_succ], List.take_length] at h4
      exact ⟨D, lb, _, _, _, rfl, (s2.trans s3).trans s4, (s2.trans s3).free n4, e4, h4⟩
    · rintro σ' H2 ⟨Fa, la, x3, x4, x5, rfl, s2, nF, eF, hF⟩
      exact ⟨_, rfl, k Fa la H2 s2 nF eF hF⟩
end
end Xk
end
section
set_option Elab.async false
set_option linter.all false
set_option maxRecDepth 100000
set_option maxHeartbeats 4000000
namespace Xk
open PySem PySem.Spec PyProof.Rows L2 Xh LamX NdefX
/-! ### the law's own way to tell what is whole -/
theorem eqvAll_dec : ∀ a b : List Int, PyData.eqvAll (a.map PyData.int) (b.map PyData.int) = decide (a = b)
  | [], [] => rfl
  | [], b :: bs => rfl
  | a :: as, [] => rfl
  | a :: as, b :: bs => by
    have ih := eqvAll_dec as bs
    by_cases h : a = b
    · simp [PyData.eqvAll, PyData.eqv, ih, h]
    · simp [PyData.eqvAll, PyData.eqv, ih, h]
theorem eqv_dec (a b : List Int) : PyData.eqv (.tuple (a.map PyData.int)) (.tuple (b.map PyData.int)) = decide (a = b) := by
  have z := eqvAll_dec a b
  simp [PyData.eqv, z]
def spRemR (K : PySem.W.Frag) : Sp := fun vs H Q _ => ∃ (a b : Addr) (xs R : List Int) (p : Int), vs = [.ref a, .ref b, .int p] ∧ H a = some (.tup (xs.map V.int)) ∧ H b = some (.tup (R.map V.int)) ∧ xs.length ≤ 25 ∧ R.length ≤ 25 ∧ Rs p xs ∧ Dsr p R ∧
  ∀ (v : Addr) (rs : List Int) (H' : Hp), Same H H' → H' v = some (.tup (rs.map V.int)) → (rs = [] ↔ Xp.Dv p (co R) (co xs)) → Q (.ref v) H'
def spLevL : Sp := fun vs H Q _ => ∃ (a : Addr) (xs : List Int) (p : Int), vs = [.ref a, .int p] ∧ H a = some (.tup (xs.map V.int)) ∧ xs.length ≤ 25 ∧ Dsr p xs ∧
  ∀ (v : Addr) (g : List Int) (H' : Hp), Same H H' → H' v = some (.tup (g.map V.int)) → Lev p xs g → Q (.ref v) H'
/-- small enough to try all -/
def Sm (q n : Nat) : Prop := ∀ e, 2 * e ≤ n → q ^ e ≤ 2500
def Wh (q : Nat) (xs : List Int) : Prop := ∀ e, 1 ≤ e → 2 * e ≤ xs.length - 1 → ∀ t ∈ Xp.tp q e, ¬ Xp.Dv q (Xp.lv t) (co xs)
def spFirst : Sp := fun vs H Q _ => ∃ (a : Addr) (xs : List Int) (q : Nat), vs = [.ref a, .int q] ∧ H a = some (.tup (xs.map V.int)) ∧ 2 ≤ xs.length ∧ xs.length ≤ 25 ∧ Rs q xs ∧ (q : Int) ∈ primes ∧ Sm q (xs.length - 1) ∧
  ∀ (v : Addr) (ys : List Int) (H' : Hp), Same H H' → H' v = some (.tup (ys.map V.int)) → ((ys = xs ∧ Wh q xs) ∨ (ys.length < xs.length ∧ ¬ Wh q xs)) → Q (.ref v) H'
def spIsWh : Sp := fun vs H Q _ => ∃ (a : Addr) (xs : List Int) (q : Nat), vs = [.ref a, .int q] ∧ H a = some (.tup (xs.map V.int)) ∧ 2 ≤ xs.length ∧ xs.length ≤ 25 ∧ Rs q xs ∧ (q : Int) ∈ primes ∧ Sm q (xs.length - 1) ∧
  ∀ (b : Bool) (H' : Hp), Same H H' → (b = true ↔ Wh q xs) → Q (.bl b) H'
def spNext : Sp := fun vs H Q _ => ∃ (a : Addr) (xs : List Int) (p : Int), vs = [.ref a, .int p] ∧ H a = some (.tup (xs.map V.int)) ∧ xs.length ≤ 24 ∧ Rs p xs ∧ Pm p ∧
  ∀ (v : Addr) (ys : List Int) (H' : Hp), Same H H' → H' v = some (.tup (ys.map V.int)) → ys.length = xs.length → Rs p ys → Q (.ref v) H'
def spRuleF : Sp := fun vs H Q _ => ∃ (a : Addr) (xs : List Int) (q : Nat), vs = [.ref a, .int q] ∧ H a = some (.tup (xs.map V.int)) ∧ 1 ≤ xs.length ∧ xs.length ≤ 24 ∧ Rs q xs ∧ (q : Int) ∈ primes ∧ Sm q xs.length ∧
  ∀ (v : Addr) (ys : List Int) (H' : Hp), Same H H' → H' v = some (.tup ((ys ++ [1]).map V.int)) → ys.length = xs.length → Rs q ys → Q (.ref v) H'
def spRule : Sp := fun vs H Q _ => ∃ (d : Addr) (n q : Nat), vs = [.ref d, .int n, .int q] ∧ Draw H d ∧ 1 ≤ n ∧ n ≤ 24 ∧ (q : Int) ∈ primes ∧ Sm q n ∧
  ∀ (v : Addr) (ys : List Int) (H' : Hp), H' v = some (.tup ((ys ++ [1]).map V.int)) → ys.length = n → Rs q ys → Draw H' d → But d H H' → Q (.ref v) H'
theorem Rs.app1 {p : Int} {xs : List Int} (h : Rs p xs) (hp : Pm p) : Rs p (xs ++ [1]) := fun k => by
  have lo := hp.lo
  rw [List.getD_eq_getElem?_getD]
  rcases Nat.lt_or_ge k xs.length with l | l
  · rw [List.getElem?_append_left l, ← List.getD_eq_getElem?_getD]
    exact h k
  · rw [List.getElem?_append_right l]
    rcases Nat.eq_zero_or_pos (k - xs.length) with z | z
    · rw [z]
      show 0 ≤ (1 : Int) ∧ (1 : Int) < p
      omega
    · rw [List.getElem?_eq_none (by rw [List.length_singleton]; exact z)]
      show 0 ≤ (0 : Int) ∧ (0 : Int) < p
      omega
theorem last1 (xs : List Int) : (xs ++ [1]).getD xs.length 0 = 1 := by
  rw [List.getD_eq_getElem?_getD, List.getElem?_append_right (Nat.le_refl _), Nat.sub_self]
  rfl
theorem dsr_lv {p : Int} {xs : List Int} (h : Rs p xs) (hp : p ∈ primes) : Dsr p (xs ++ [1]) := by
  refine ⟨by rw [List.length_append]; exact Nat.succ_pos _, ?_, h.app1 (pm_of hp), hp⟩
  exact trim_last (xs ++ [1]) xs.length (by rw [List.length_append]; rfl) (by rw [last1]; decide)
theorem tp_rs {q : Nat} (hp : Pm q) {e : Nat} {t : List Int} (h : t ∈ Xp.tp q e) : Rs q t := fun k => by
  obtain ⟨_, h2⟩ := Xp.tp_mem.mp h
  rw [List.getD_eq_getElem?_getD]
  cases z : t[k]? with
  | none =>
    have := hp.lo
    show 0 ≤ (0 : Int) ∧ (0 : Int) < q
    omega
  | some x => exact h2 x (List.mem_of_getElem? z)
theorem prime_le (q : Nat) (h : (q : Int) ∈ primes) : (q : Int) ≤ 97 := (show ∀ p ∈ primes, p ≤ 97 from by decide) _ h
theorem sm_big {q n : Nat} (h : (q : Int) ∈ primes) (sm : Sm q n) : (q : Int) ^ n < 2 ^ 62 := by
  have q97 : q ≤ 97 := by
    have := prime_le q h
    omega
  have q1 : 1 ≤ q := by
    have := (pm_of h).lo
    omega
  have s := sm (n / 2) (by omega)
  have a : q ^ n ≤ q ^ (n / 2 + n / 2 + 1) := Nat.pow_le_pow_right q1 (by omega)
  rw [Nat.pow_succ, Nat.pow_add] at a
  have b : q ^ (n / 2) * q ^ (n / 2) * q ≤ 2500 * 2500 * 97 := Nat.mul_le_mul (Nat.mul_le_mul s s) q97
  have c : q ^ n < 2 ^ 62 := Nat.lt_of_le_of_lt (Nat.le_trans a b) (by decide)
  exact_mod_cast c
section
variable {P : Program} {w : World} {K : PySem.W.Frag} {mg : Str → Option Value} {base : Heap}
theorem sc_law_rem : FnScope (["_law_one", "_law_other", "_law_p"] : List Str) ["_law_one", "_law_other", "_law_p"] (defScope s_law_rem) := ⟨rfl, rfl, rfl, by decide +kernel, rfl, by decide +kernel, by decide +kernel⟩
theorem ok_law_rem {f : Addr} {fd : FuncData} (F : FunD K "_law_rem" "_law_rem" (defArgs s_law_rem) (defBody s_law_rem) (defScope s_law_rem) [] [] f fd) (o_law_cut_by : Own P w K mg base CX0 2 "_law_cut_by" ["_law_one", "_law_other", "_law_p"] [] (spParted K)) : FnOk P w K mg base CX0 3 f fd ["_law_one", "_law_other", "_law_p"] (spRemR K) := by
  refine F.ok sc_law_rem (fun vs H Q E h => ?_) (fun cdv A outer s H vs Q E hr h => ?_)
  · obtain ⟨a, b, xs, R, p, rfl, _⟩ := h
    rfl
  · obtain ⟨a, b, xs, R, p, rfl, ea, eb, la, lb, rA, dB, k⟩ := h
    refine ⟨_, PSs.nox (pss_one (ps_ret (pe_ix ix_tup (pe_own o_law_cut_by (hr.mono (by decide)) rfl pass0 (pa_cons (pv 0) (pa_cons (pv 1) (pa_cons (pv 2) pa_nil)))) pe_int (fun _ _ => rfl)))) , ?_⟩
    refine ⟨_, rfl, _, rfl, _, rfl, a, b, xs, R, p, rfl, SqT.of ea, SqT.of eb, by omega, by omega, rA, dB, fun w' u v qs rs H' s' _ e1 e2 e3 dv => ⟨w', _, 1, .ref v, rfl, rfl, SqT.of e1, rfl, k v rs H' s' e3 ⟨fun z => ?_, fun h => rem_nil dv dB rA h⟩⟩⟩
    have r := dv.rem dB rA lb
    rw [z] at r
    exact r.cg.dv (Xp.Dv.zero p _)
theorem sc_law_first_part : FnScope (["_law_poly_here", "_law_p", "_law_degree", "_law_low"] : List Str) ["_law_poly_here", "_law_p"] (defScope s_law_first_part) := ⟨rfl, rfl, rfl, by decide +kernel, rfl, by decide +kernel, by decide +kernel⟩
theorem ok_law_first_part {f : Addr} {fd : FuncData} (F : FunD K "_law_first_part" "_law_first_part" (defArgs s_law_first_part) (defBody s_law_first_part) (defScope s_law_first_part) [] [] f fd) (T : Fre mg) (o_law_tuples : Own P w K mg base CX0 2 "_law_tuples" ["_law_p", "_law_many"] [] spTuples) (o_law_rem : Own P w K mg base CX0 3 "_law_rem" ["_law_one", "_law_other", "_law_p"] [] (spRemR K)) : FnOk P w K mg base CX0 4 f fd ["_law_poly_here", "_law_p"] spFirst := by
  refine F.ok sc_law_first_part (fun vs H Q E h => ?_) (fun cdv A outer s H vs Q E hr h => ?_)
  · obtain ⟨a, xs, q, rfl, _⟩ := h
    rfl
  · obtain ⟨a, xs, q, rfl, ea, l2, lx, rx, hp, sm, k⟩ := h
    have hpm := pm_of hp
    refine ⟨_, PSs.nox (pss_cons (ps_for PassesOwn.never rfl (pi_range2 (by rfl) T.f_range (pa_cons pe_int (pa_cons (pe_op op_add (pe_op op_fdivW (pe_op op_sub (pe_callB call_len_seq (by rfl) T.f_len PySem.boot_len (pa_cons (pv 0) pa_nil)) pe_int) pe_int) pe_int) pa_nil))) (pg_name (i := 2) sc_law_first_part.nd rfl (Or.inl rfl)) (pss_one (ps_for PassesOwn.never rfl (pi_list (pe_own o_law_tuples (hr.mono (by decide)) rfl pass0 (pa_cons (pv 1) (pa_cons (pv 2) pa_nil)))) (pg_name (i := 3) sc_law_first_part.nd rfl (Or.inl rfl)) (pss_one (ps_if (pt_cmpR (op_eqD hr.units) (pe_own o_law_rem (hr.mono (by decide)) rfl pass0 (pa_cons (pv 0) (pa_cons (pe_op op_catA (pv 3) (pe_tup (pa_cons pe_int pa_nil))) (pa_cons (pv 1) pa_nil)))) (pe_tup pa_nil) (nomark _)) (pss_one (ps_ret (pe_op op_catA (pv 3) (pe_tup (pa_cons pe_int pa_nil))))) pss_nil)))))
      (pss_one (ps_ret (pv 0)))) , ?_⟩
    have q2 : 2 ≤ q := by
      have := hpm.lo
      omega
    have q97 : q ≤ 200 := by
      have := (prime_le q hp)
      omega
    refine ⟨_, rfl, a, _, rfl, .inr (SqT.of ea), _, _, rfl, rfl, _, _, rfl, rfl, ⟨by decide, by decide⟩, _, _, rfl, rfl, 1, _, rfl, ?_, ?_⟩
    · rw [List.length_map]
      exact ⟨by omega, by omega, by omega, by omega⟩
    rw [List.length_map, show (((xs.length : Int) - 1) / 2 + 1 - 1).toNat = (xs.length - 1) / 2 by omega]
    refine for_range (lo := 1) (n := (xs.length - 1) / 2) (fun i σ' H' => ∃ x2 x3, σ' = [some (.ref a), some (.int q), x2, x3] ∧ Same H H' ∧ ∀ e, 1 ≤ e → e ≤ i → ∀ t ∈ Xp.tp q e, ¬ Xp.Dv q (Xp.lv t) (co xs)) ⟨none, none, rfl, fun _ _ z => z, fun e h1 h2 => absurd h1 (by omega)⟩ ?_ ?_
    · rintro i σ' H1 hi ⟨x2, x3, rfl, s1, no⟩
      refine ⟨_, rfl, _, rfl, q, i + 1, ?_, q2, q97, by omega, sm (i + 1) (by omega), fun F la H2 s2 nF eF hF => ⟨F, rfl, ⟨_, SqL.of eF⟩, ?_⟩⟩
      · show [V.int q, V.int (1 + (i : Int))] = _
        rw [show (1 : Int) + (i : Int) = ((i + 1 : Nat) : Int) by omega]
      have lla := hF.len
      refine for_it (walk_list (xs := la.map V.ref)) (fun j σ' H' => ∃ x3, σ' = [some (.ref a), some (.int q), some (.int (1 + (i : Int))), x3] ∧ Same H H' ∧ H' F = some (.lst (la.map V.ref)) ∧ Rws H' la (Xp.tp q (i + 1)) ∧ ∀ k t, k < j → (Xp.tp q (i + 1))[k]? = some t → ¬ Xp.Dv q (Xp.lv t) (co xs)) ⟨x3, rfl, s1.trans s2, eF, hF, fun k t hk => absurd hk (Nat.not_lt_zero k)⟩ (fun j σ' H' _ ⟨_, _, _, e, _⟩ => SqL.of e) ?_ ?_
      · rintro j x σ' H3 H4 hj ⟨x3, rfl, s3, eF3, hF3, noj⟩ ⟨rfl, hx⟩
        rw [List.length_map] at hj
        obtain ⟨l, t, rfl, ht, et⟩ := hF3.at hx
        have tm := List.mem_of_getElem? ht
        have lt := (Xp.tp_mem.mp tm).1
        have rt := tp_rs hpm tm
        refine ⟨_, rfl, _, rfl, (by show 1 ≤ sizeLine; decide), fun O hO => ?_⟩
        have sO := same_upd (o := .tup [.int 1]) hO
        refine catB (ys := [1]) (sO _ _ et) upd_same (by omega) (by decide) fun r H5 s5 er => ?_
        have s35 := (s3.trans sO).trans s5
        refine ⟨_, rfl, a, r, xs, t ++ [1], q, rfl, s35 _ _ ea, er, lx, by rw [List.length_append, lt]; show i + 1 + 1 ≤ 25; omega, rx, dsr_lv rt hp, fun v rs H6 s6 ev ie => ⟨(by show 0 ≤ sizeLine; decide), fun t0 h0 => ?_⟩⟩
        have s0 := same_upd (o := .tup []) h0
        refine ⟨_, _, dp_tup (SqT.of (s0 _ _ ev)), dp_tup (ns := []) (.inl (.inl upd_same)), sh_ints _, rfl, _, rfl, ?_⟩
        rw [eqv_nil]
        have s36 := (s35.trans s6).trans s0
        have sF := (sO.trans s5).trans (s6.trans s0)
        by_cases hr0 : rs = []
        · rw [decide_eq_true hr0]
          refine iteT ⟨_, rfl, (by show 1 ≤ sizeLine; decide), fun O2 hO2 => ?_⟩
          have sO2 := same_upd (o := .tup [.int 1]) hO2
          refine catB (ys := [1]) (sO2 _ _ (sF _ _ et)) upd_same (by omega) (by decide) fun v3 H7 s7 e7 => k v3 (t ++ [1]) H7 ((s36.trans sO2).trans s7) e7 (.inr ⟨?_, fun w => ?_⟩)
          · rw [List.length_append, lt]
            show i + 1 + 1 < xs.length
            omega
          · exact w (i + 1) (by omega) (by omega) t tm (ie.mp hr0)
        · rw [decide_eq_false hr0]
          refine iteF ⟨_, rfl, s36, sF _ _ eF3, hF3.keep (kpS sF), fun k' t' hk' ht' => ?_⟩
          rcases Nat.lt_or_ge k' j with h | h
          · exact noj k' t' h ht'
          · have ek : k' = j := by omega
            rw [ek, ht] at ht'
            cases ht'
            exact fun z => hr0 (ie.mpr z)
      · rintro σ' H3 ⟨x3, rfl, s3, eF3, hF3, noj⟩
        rw [List.length_map, lla] at noj
        refine ⟨_, _, rfl, s3, fun e e1 e2 t tm => ?_⟩
        rcases Nat.lt_or_ge i e with h | h
        · have ee : e = i + 1 := by omega
          subst ee
          obtain ⟨k', hk'⟩ := List.mem_iff_getElem?.mp tm
          exact noj k' t ((List.getElem?_eq_some_iff.mp hk').1) hk'
        · exact no e e1 h t tm
    · rintro σ' H1 ⟨x2, x3, rfl, s1, no⟩
      exact ⟨_, rfl, k a xs H1 s1 (s1 _ _ ea) (.inl ⟨rfl, fun e e1 e2 => no e e1 (by omega)⟩)⟩
theorem sc_law_is_whole : FnScope (["_law_poly_here", "_law_p"] : List Str) ["_law_poly_here", "_law_p"] (defScope s_law_is_whole) := ⟨rfl, rfl, rfl, by decide +kernel, rfl, by decide +kernel, by decide +kernel⟩
theorem ok_law_is_whole {f : Addr} {fd : FuncData} (F : FunD K "_law_is_whole" "_law_is_whole" (defArgs s_law_is_whole) (defBody s_law_is_whole) (defScope s_law_is_whole) [] [] f fd) (o_law_first_part : Own P w K mg base CX0 4 "_law_first_part" ["_law_poly_here", "_law_p"] [] spFirst) : FnOk P w K mg base CX0 5 f fd ["_law_poly_here", "_law_p"] spIsWh := by
  refine F.ok sc_law_is_whole (fun vs H Q E h => ?_) (fun cdv A outer s H vs Q E hr h => ?_)
  · obtain ⟨a, xs, q, rfl, _⟩ := h
    rfl
  · obtain ⟨a, xs, q, rfl, ea, l2, lx, rx, hp, sm, k⟩ := h
    refine ⟨_, PSs.nox (pss_one (ps_ret (pe_cmpR (op_eqD hr.units) (pe_own o_law_first_part (hr.mono (by decide)) rfl pass0 (pa_cons (pv 0) (pa_cons (pv 1) pa_nil))) (pv 0) (nomark _)))) , ?_⟩
    refine ⟨_, rfl, _, rfl, a, xs, q, rfl, ea, l2, lx, rx, hp, sm, fun v ys H' s' ev c => ⟨_, rfl, _, _, dp_tup (SqT.of ev), dp_tup (SqT.of (s' _ _ ea)), sh_ints _, sh_ints _, ?_⟩⟩
    rw [eqv_dec]
    refine k _ H' s' ?_
    rcases c with ⟨rfl, w⟩ | ⟨l, w⟩
    · exact ⟨fun _ => w, fun _ => decide_eq_true rfl⟩
    · exact ⟨fun e => absurd l (by rw [of_decide_eq_true e]; exact Nat.lt_irrefl _), fun z => absurd z w⟩
end
end Xk
end
section
set_option linter.all false
/-! Rows by a prime: what they span, reduced rows, that there is one reduced form (no program in it). -/
namespace Xp
/-- what is made of A -/
inductive Sp (p : Int) (A : Cf → Prop) : Cf → Prop
  | nul : Sp p A nul
  | add {u v : Cf} (c : Int) : A u → Sp p A v → Sp p A (ad (sc c u) v)
  | eqm {v w : Cf} : Sp p A v → Eqm p v w → Sp p A w
theorem Sp.one {p : Int} {A : Cf → Prop} {u : Cf} (h : A u) : Sp p A u := .eqm (.add 1 h .nul) (Eqm.of_eq (by rw [sc_one, ad_nul]))
theorem Sp.ad {p : Int} {A : Cf → Prop} {u v : Cf} (a : Sp p A u) (b : Sp p A v) : Sp p A (Xp.ad u v) := by
  induction a with
  | nul => rw [nul_ad]; exact b
  | add c h _ ih => rw [adA]; exact .add c h ih
  | eqm _ e ih => exact .eqm ih (e.ad (Eqm.refl p v))
theorem Sp.sc {p : Int} {A : Cf → Prop} {u : Cf} (c : Int) (a : Sp p A u) : Sp p A (Xp.sc c u) := by
  induction a with
  | nul => rw [sc_nul]; exact .nul
  | add d h _ ih => rw [sc_ad, ← sc_sc]; exact .add _ h ih
  | eqm _ e ih => exact .eqm ih (e.sc c)
theorem Sp.trans {p : Int} {A B : Cf → Prop} (h : ∀ u, A u → Sp p B u) {v : Cf} (a : Sp p A v) : Sp p B v := by
  induction a with
  | nul => exact .nul
  | add c hu _ ih => exact ((h _ hu).sc c).ad ih
  | eqm _ e ih => exact .eqm ih e
/-- what stands at a place where all of A are nought -/
theorem Sp.zero {p : Int} {A : Cf → Prop} {k : Nat} (h : ∀ u, A u → u k % p = 0) {v : Cf} (a : Sp p A v) : v k % p = 0 := by
  induction a with
  | nul => exact Int.zero_emod p
  | @add u v c hu _ ih =>
    show (c * u k + v k) % p = 0
    rw [Int.add_emod, Int.mul_emod, h u hu, ih, Int.mul_zero, Int.zero_emod, Int.add_zero, Int.zero_emod]
  | eqm _ e ih => rw [← e k]; exact ih
/-- a row of places and rows: each its place's own, the only one there -/
structure Red (p : Int) (L : List (Nat × Cf)) : Prop where
  one : ∀ x ∈ L, x.2 x.1 % p = 1 % p
  low : ∀ x ∈ L, ∀ k, k < x.1 → x.2 k % p = 0
  own : ∀ x ∈ L, ∀ y ∈ L, x.1 ≠ y.1 → y.2 x.1 % p = 0
  nd : (L.map (·.1)).Nodup
def rows (L : List (Nat × Cf)) : Cf → Prop := fun u => ∃ x ∈ L, x.2 = u
def lsum : List (Nat × Cf) → Cf → Cf
  | [], _ => nul
  | x :: L, v => ad (sc (v x.1) x.2) (lsum L v)
theorem lsum_ad : ∀ L v w, lsum L (ad v w) = ad (lsum L v) (lsum L w)
  | [], v, w => (ad_nul nul).symm
  | x :: L, v, w => by
    show ad (sc (v x.1 + w x.1) x.2) (lsum L (ad v w)) = _
    rw [lsum_ad L, ad_sc]
    show ad (ad (sc (v x.1) x.2) (sc (w x.1) x.2)) (ad (lsum L v) (lsum L w)) = ad (ad (sc (v x.1) x.2) (lsum L v)) (ad (sc (w x.1) x.2) (lsum L w))
    generalize sc (v x.1) x.2 = a
    generalize sc (w x.1) x.2 = b
    generalize lsum L v = c
    generalize lsum L w = d
    exact funext fun k => by show (a k + b k) + (c k + d k) = (a k + c k) + (b k + d k); omega
theorem lsum_sc (c : Int) : ∀ L v, lsum L (sc c v) = sc c (lsum L v)
  | [], v => (sc_nul c).symm
  | x :: L, v => by
    show ad (sc (c * v x.1) x.2) (lsum L (sc c v)) = sc c (ad (sc (v x.1) x.2) (lsum L v))
    rw [lsum_sc c L, sc_ad, sc_sc]
theorem lsum_eqm {p : Int} {v w : Cf} (h : Eqm p v w) : ∀ L, Eqm p (lsum L v) (lsum L w)
  | [] => Eqm.refl p _
  | x :: L => (Eqm.sc2 (h x.1) x.2).ad (lsum_eqm h L)
theorem lsum_nul : ∀ L, lsum L nul = nul
  | [] => rfl
  | x :: L => by
    show ad (sc 0 x.2) (lsum L nul) = nul
    rw [lsum_nul L, sc_zero, ad_nul]
theorem lsum_zero {p : Int} {v : Cf} : ∀ L : List (Nat × Cf), (∀ x ∈ L, v x.1 % p = 0) → Eqm p (lsum L v) nul
  | [], _ => Eqm.refl p _
  | x :: L, h => ((Eqm.sc2 (b := 0) (by rw [h x List.mem_cons_self, Int.zero_emod]) x.2).ad (lsum_zero L fun y hy => h y (List.mem_cons_of_mem _ hy))).trans (Eqm.of_eq (by rw [sc_zero, nul_ad]))
theorem Red.tail {p : Int} {x : Nat × Cf} {L : List (Nat × Cf)} (h : Red p (x :: L)) : Red p L := ⟨fun y hy => h.one y (List.mem_cons_of_mem _ hy), fun y hy => h.low y (List.mem_cons_of_mem _ hy), fun y hy z hz => h.own y (List.mem_cons_of_mem _ hy) z (List.mem_cons_of_mem _ hz), (List.nodup_cons.mp h.nd).2⟩
theorem Red.nin {p : Int} {x : Nat × Cf} {L : List (Nat × Cf)} (h : Red p (x :: L)) : ∀ y ∈ L, x.1 ≠ y.1 := fun y hy e => (List.nodup_cons.mp h.nd).1 (List.mem_map.mpr ⟨y, hy, e.symm⟩)
/-- a row of the family by itself -/
theorem Red.self {p : Int} : ∀ {L : List (Nat × Cf)}, Red p L → ∀ x ∈ L, Eqm p (lsum L x.2) x.2
  | [], _, x, hx => by cases hx
  | y :: L, h, x, hx => by
    have n := h.nin
    rcases List.mem_cons.mp hx with rfl | hx
    · have z := lsum_zero (p := p) (v := x.2) L fun z hz => h.own z (List.mem_cons_of_mem _ hz) x List.mem_cons_self (fun e => n z hz e.symm)
      exact ((Eqm.sc2 (b := 1) (h.one x List.mem_cons_self) x.2).ad z).trans (Eqm.of_eq (by rw [sc_one, ad_nul]))
    · have e : x.2 y.1 % p = 0 % p := by rw [h.own y List.mem_cons_self x (List.mem_cons_of_mem _ hx) (n x hx), Int.zero_emod]
      exact ((Eqm.sc2 e y.2).ad (h.tail.self x hx)).trans (Eqm.of_eq (by rw [sc_zero, nul_ad]))
theorem Red.made {p : Int} {L : List (Nat × Cf)} (h : Red p L) {v : Cf} (a : Sp p (rows L) v) : Eqm p v (lsum L v) := by
  induction a with
  | nul => rw [lsum_nul]; exact Eqm.refl p _
  | @add u v c hu _ ih =>
    obtain ⟨x, hx, rfl⟩ := hu
    rw [lsum_ad, lsum_sc]
    exact ((h.self x hx).symm.sc c).ad ih
  | eqm _ e ih => exact (e.symm.trans ih).trans (lsum_eqm e L)
theorem lsum_sp {p : Int} (v : Cf) : ∀ L : List (Nat × Cf), Sp p (rows L) (lsum L v)
  | [] => .nul
  | x :: L => .add _ ⟨x, List.mem_cons_self, rfl⟩ ((lsum_sp v L).trans fun u ⟨y, hy, e⟩ => .one ⟨y, List.mem_cons_of_mem _ hy, e⟩)
/-- the first place that isn't nought -/
def Ld (p : Int) (v : Cf) (s : Nat) : Prop := v s % p ≠ 0 ∧ ∀ k, k < s → v k % p = 0
theorem Red.ld {p : Int} (hp : 2 ≤ p) {L : List (Nat × Cf)} (h : Red p L) : ∀ x ∈ L, Ld p x.2 x.1 := fun x hx => ⟨by
  rw [h.one x hx, Int.emod_eq_of_lt (by decide) (by omega)]
  decide, h.low x hx⟩
theorem lsum_at {p : Int} {v : Cf} {s : Nat} : ∀ L : List (Nat × Cf), (∀ x ∈ L, (v x.1 * x.2 s) % p = 0) → lsum L v s % p = 0
  | [], _ => Int.zero_emod p
  | x :: L, h => by
    show (v x.1 * x.2 s + lsum L v s) % p = 0
    rw [Int.add_emod, h x List.mem_cons_self, lsum_at L fun y hy => h y (List.mem_cons_of_mem _ hy)]
    exact Int.zero_emod p
theorem Red.spot {p : Int} {L : List (Nat × Cf)} (h : Red p L) {v : Cf} (a : Sp p (rows L) v) {s : Nat} (l : Ld p v s) : s ∈ L.map (·.1) := by
  by_cases hs : s ∈ L.map (·.1)
  · exact hs
  · exfalso
    refine l.1 ?_
    rw [h.made a s]
    refine lsum_at L fun x hx => ?_
    have ne : x.1 ≠ s := fun e => hs (List.mem_map.mpr ⟨x, hx, e⟩)
    rcases Nat.lt_or_ge x.1 s with q | q
    · rw [Int.mul_emod, l.2 _ q, Int.zero_mul, Int.zero_emod]
    · rw [Int.mul_emod, h.low x hx s (by omega), Int.mul_zero, Int.zero_emod]
theorem Red.sub {p : Int} (hp : 2 ≤ p) {L M : List (Nat × Cf)} (h : Red p L) (g : Red p M) (e : ∀ u, rows L u → Sp p (rows M) u) : ∀ s ∈ L.map (·.1), s ∈ M.map (·.1) := fun s hs => by
  obtain ⟨x, hx, rfl⟩ := List.mem_map.mp hs
  exact g.spot (e _ ⟨x, hx, rfl⟩) (h.ld hp x hx)
/-- alike places: alike rows -/
theorem Red.row {p : Int} {L M : List (Nat × Cf)} (h : Red p L) (g : Red p M) (e : ∀ u, rows L u → Sp p (rows M) u) (sp : ∀ s ∈ M.map (·.1), s ∈ L.map (·.1)) {x y : Nat × Cf} (hx : x ∈ L) (hy : y ∈ M) (q : x.1 = y.1) : Eqm p x.2 y.2 := by
  refine (g.made (e _ ⟨x, hx, rfl⟩)).trans (Eqm.trans (fun k => ?_) (g.self y hy))
  have key : ∀ z ∈ M, x.2 z.1 % p = y.2 z.1 % p := fun z hz => by
    by_cases w : z.1 = y.1
    · rw [w, g.one y hy, ← q, h.one x hx]
    · rw [g.own z hz y hy w]
      obtain ⟨t, ht, et⟩ := List.mem_map.mp (sp z.1 (List.mem_map.mpr ⟨z, hz, rfl⟩))
      rw [← et]
      exact h.own t ht x hx (by rw [et, q]; exact w)
  have go : ∀ N : List (Nat × Cf), (∀ z ∈ N, z ∈ M) → lsum N x.2 k % p = lsum N y.2 k % p := by
    intro N
    induction N with
    | nil => intro _; rfl
    | cons z N ih =>
      intro hN
      show (x.2 z.1 * z.2 k + lsum N x.2 k) % p = (y.2 z.1 * z.2 k + lsum N y.2 k) % p
      rw [Int.add_emod, Int.mul_emod, key z (hN z List.mem_cons_self), ih fun w hw => hN w (List.mem_cons_of_mem _ hw), ← Int.mul_emod, ← Int.add_emod]
  exact go M fun _ h => h
theorem sorted_eq : ∀ {a b : List Nat}, a.Pairwise (· < ·) → b.Pairwise (· < ·) → (∀ s, s ∈ a ↔ s ∈ b) → a = b
  | [], [], _, _, _ => rfl
  | [], y :: b, _, _, h => absurd ((h y).mpr List.mem_cons_self) (by simp)
  | x :: a, [], _, _, h => absurd ((h x).mp List.mem_cons_self) (by simp)
  | x :: a, y :: b, pa, pb, h => by
    obtain ⟨p1, p2⟩ := List.pairwise_cons.mp pa
    obtain ⟨q1, q2⟩ := List.pairwise_cons.mp pb
    have e : x = y := by
      rcases List.mem_cons.mp ((h x).mp List.mem_cons_self) with e | m
      · exact e
      · rcases List.mem_cons.mp ((h y).mpr List.mem_cons_self) with e | n
        · exact e.symm
        · have := q1 x m
          have := p1 y n
          omega
    subst e
    rw [sorted_eq p2 q2 fun s => ⟨fun m => by
      rcases List.mem_cons.mp ((h s).mp (List.mem_cons_of_mem _ m)) with e | n
      · have := p1 s m
        omega
      · exact n, fun m => by
      rcases List.mem_cons.mp ((h s).mpr (List.mem_cons_of_mem _ m)) with e | n
      · have := q1 s m
        omega
      · exact n⟩]
theorem nodup_len : ∀ {a b : List Nat}, a.Nodup → (∀ s ∈ a, s ∈ b) → a.length ≤ b.length
  | [], b, _, _ => Nat.zero_le _
  | x :: a, b, na, h => by
    obtain ⟨n1, n2⟩ := List.nodup_cons.mp na
    have z := nodup_len (b := b.erase x) n2 fun s hs => by
      have ne : s ≠ x := fun e => n1 (e ▸ hs)
      exact (List.mem_erase_of_ne ne).mpr (h s (List.mem_cons_of_mem _ hs))
    have l := List.length_erase_of_mem (h x List.mem_cons_self)
    have pos : 0 < b.length := List.length_pos_of_mem (h x List.mem_cons_self)
    show a.length + 1 ≤ b.length
    omega
/-- v less its share of h at c -/
def clr (p : Int) (c : Nat) (h v : Cf) : Cf := ad v (sc (-(v c)) h)
theorem clr_at {p : Int} {c : Nat} {h v : Cf} (h1 : h c % p = 1 % p) : clr p c h v c % p = 0 := by
  show (v c + -(v c) * h c) % p = 0
  rw [Int.add_emod, Int.mul_emod, h1, ← Int.mul_emod, ← Int.add_emod, Int.mul_one, Int.add_right_neg, Int.zero_emod]
theorem clr_keep {p : Int} {c k : Nat} {h v : Cf} (h0 : h k % p = 0) : clr p c h v k % p = v k % p := by
  show (v k + -(v c) * h k) % p = v k % p
  rw [Int.add_emod, Int.mul_emod, h0, Int.mul_zero, Int.zero_emod, Int.add_zero, Int.emod_emod]
theorem clr_none {p : Int} {c : Nat} {h v : Cf} (hv : v c % p = 0) : Eqm p (clr p c h v) v := fun k => by
  show (v k + -(v c) * h k) % p = v k % p
  have e : -(v c) % p = 0 := Int.emod_eq_zero_of_dvd (Int.dvd_neg.mpr (Int.dvd_of_emod_eq_zero hv))
  rw [Int.add_emod, Int.mul_emod, e, Int.zero_mul, Int.zero_emod, Int.add_zero, Int.emod_emod]
end Xp
end
section
set_option Elab.async false
set_option linter.all false
set_option maxRecDepth 100000
set_option maxHeartbeats 4000000
namespace Xk
open PySem PySem.Spec PyProof.Rows L2 Xh LamX NdefX
/-! ### tables: rows by a prime -/
structure Rw (p : Int) (n : Nat) (r : List Int) : Prop where
  len : r.length = n
  rs : Rs p r
theorem row_eq {p : Int} {n : Nat} {r s : List Int} (a : Rw p n r) (b : Rw p n s) (e : Xp.Eqm p (co r) (co s)) : r = s := by
  apply List.ext_getElem?
  intro i
  by_cases h : i < n
  · have e1 : r.getD i 0 % p = s.getD i 0 % p := e i
    obtain ⟨r0, r1⟩ := a.rs i
    obtain ⟨s0, s1⟩ := b.rs i
    rw [Int.emod_eq_of_lt r0 r1, Int.emod_eq_of_lt s0 s1, List.getD_eq_getElem?_getD, List.getD_eq_getElem?_getD, List.getElem?_eq_getElem (by rw [a.len]; exact h), List.getElem?_eq_getElem (by rw [b.len]; exact h)] at e1
    rw [List.getElem?_eq_getElem (by rw [a.len]; exact h), List.getElem?_eq_getElem (by rw [b.len]; exact h)]
    exact congrArg some e1
  · rw [List.getElem?_eq_none (by rw [a.len]; omega), List.getElem?_eq_none (by rw [b.len]; omega)]
theorem Rw.zero {p : Int} {n : Nat} {r : List Int} (a : Rw p n r) {k : Nat} : co r k % p = 0 ↔ r.getD k 0 = 0 := by
  obtain ⟨r0, r1⟩ := a.rs k
  show r.getD k 0 % p = 0 ↔ _
  rw [Int.emod_eq_of_lt r0 r1]
/-- the rows of a table, as what they span -/
def rset (rs : List (List Int)) : Xp.Cf → Prop := fun u => ∃ r ∈ rs, co r = u
abbrev fam (sp : List Nat) (ts : List (List Int)) : List (Nat × Xp.Cf) := sp.zip (ts.map co)
theorem mem_fam {sp : List Nat} {ts : List (List Int)} {x : Nat × Xp.Cf} (h : x ∈ fam sp ts) : ∃ (j s : Nat) (r : List Int), sp[j]? = some s ∧ ts[j]? = some r ∧ x = (s, co r) := by
  obtain ⟨j, hj⟩ := List.mem_iff_getElem?.mp h
  rw [List.getElem?_zip_eq_some, List.getElem?_map] at hj
  obtain ⟨h1, h2⟩ := hj
  obtain ⟨r, hr, e⟩ := Option.map_eq_some_iff.mp h2
  exact ⟨j, x.1, r, h1, hr, by rw [e]⟩
theorem fam_mem {sp : List Nat} {ts : List (List Int)} {j s : Nat} {r : List Int} (h1 : sp[j]? = some s) (h2 : ts[j]? = some r) : (s, co r) ∈ fam sp ts := by
  refine List.mem_iff_getElem?.mpr ⟨j, ?_⟩
  rw [List.getElem?_zip_eq_some, List.getElem?_map, h2]
  exact ⟨h1, rfl⟩
theorem fam_spots {sp : List Nat} {ts : List (List Int)} (h : sp.length = ts.length) : (fam sp ts).map (·.1) = sp := by
  show (sp.zip (ts.map co)).map Prod.fst = sp
  rw [List.map_fst_zip (by rw [List.length_map]; omega)]
theorem fam_row {sp : List Nat} {ts : List (List Int)} {r : List Int} (h : sp.length = ts.length) (hr : r ∈ ts) : Xp.rows (fam sp ts) (co r) := by
  obtain ⟨j, hj⟩ := List.mem_iff_getElem?.mp hr
  have lt : j < ts.length := by
    rcases Nat.lt_or_ge j ts.length with q | q
    · exact q
    · rw [List.getElem?_eq_none q] at hj
      cases hj
  exact ⟨_, fam_mem (List.getElem?_eq_getElem (show j < sp.length by omega)) hj, rfl⟩
/-- how the rows stand at place c -/
structure St (p : Int) (n c : Nat) (rs ls : List (List Int)) (sp : List Nat) (ts : List (List Int)) : Prop where
  lrw : ∀ r ∈ ls, Rw p n r
  lz : ∀ r ∈ ls, ∀ k, k < c → r.getD k 0 = 0
  len : sp.length = ts.length
  trw : ∀ r ∈ ts, Rw p n r
  red : Xp.Red p (fam sp ts)
  srt : sp.Pairwise (· < ·)
  lt : ∀ s ∈ sp, s < c
  up : ∀ r ∈ rs, Xp.Sp p (fun u => rset ls u ∨ Xp.rows (fam sp ts) u) (co r)
  dn : ∀ u, (rset ls u ∨ Xp.rows (fam sp ts) u) → Xp.Sp p (rset rs) u
theorem St.init {p : Int} {n : Nat} {rs : List (List Int)} (h : ∀ r ∈ rs, Rw p n r) : St p n 0 rs rs [] [] where
  lrw := h
  lz := fun _ _ k hk => absurd hk (Nat.not_lt_zero k)
  len := rfl
  trw := fun _ hr => by cases hr
  red := ⟨fun _ hx => (nomatch hx), fun _ hx => (nomatch hx), fun _ hx => (nomatch hx), List.nodup_nil⟩
  srt := .nil
  lt := fun _ hs => by cases hs
  up := fun r hr => .one (.inl ⟨r, hr, rfl⟩)
  dn := fun u hu => by
    rcases hu with hu | ⟨x, hx, _⟩
    · exact .one hu
    · cases hx
theorem St.skip {p : Int} {n c : Nat} {rs ls : List (List Int)} {sp : List Nat} {ts : List (List Int)} (S : St p n c rs ls sp ts) (h : ∀ r ∈ ls, r.getD c 0 = 0) : St p n (c + 1) rs ls sp ts :=
  ⟨S.lrw, fun r hr k hk => (Nat.lt_or_ge k c).elim (fun q => S.lz r hr k q) (fun q => by rw [show k = c by omega]; exact h r hr), S.len, S.trw, S.red, S.srt, fun s hs => Nat.lt_succ_of_lt (S.lt s hs), S.up, S.dn⟩
/-- each of the one is what is cleared of the other -/
structure Clr (p : Int) (n c : Nat) (h : List Int) (as bs : List (List Int)) : Prop where
  len : bs.length = as.length
  at_ : ∀ (j : Nat) (a b : List Int), as[j]? = some a → bs[j]? = some b → Rw p n b ∧ Xp.Eqm p (co b) (Xp.clr p c (co h) (co a))
theorem Clr.of {p : Int} {n c : Nat} {h : List Int} {as bs : List (List Int)} (C : Clr p n c h as bs) {b : List Int} (hb : b ∈ bs) : ∃ a ∈ as, Rw p n b ∧ Xp.Eqm p (co b) (Xp.clr p c (co h) (co a)) := by
  obtain ⟨j, hj⟩ := List.mem_iff_getElem?.mp hb
  have lt : j < bs.length := by
    rcases Nat.lt_or_ge j bs.length with q | q
    · exact q
    · rw [List.getElem?_eq_none q] at hj
      cases hj
  have ha := List.getElem?_eq_getElem (show j < as.length by rw [← C.len]; exact lt)
  exact ⟨_, List.mem_of_getElem? ha, C.at_ j _ b ha hj⟩
theorem Clr.to {p : Int} {n c : Nat} {h : List Int} {as bs : List (List Int)} (C : Clr p n c h as bs) {a : List Int} (ha : a ∈ as) : ∃ b ∈ bs, Rw p n b ∧ Xp.Eqm p (co b) (Xp.clr p c (co h) (co a)) := by
  obtain ⟨j, hj⟩ := List.mem_iff_getElem?.mp ha
  have lt : j < as.length := by
    rcases Nat.lt_or_ge j as.length with q | q
    · exact q
    · rw [List.getElem?_eq_none q] at hj
      cases hj
  have hb := List.getElem?_eq_getElem (show j < bs.length by rw [C.len]; exact lt)
  exact ⟨_, List.mem_of_getElem? hb, C.at_ j a _ hj hb⟩
theorem clr_back {p : Int} {c : Nat} (h v : Xp.Cf) : Xp.Eqm p v (Xp.ad (Xp.sc (v c) h) (Xp.clr p c h v)) := Xp.Eqm.of_eq (funext fun k => by
  show v k = v c * h k + (v k + -(v c) * h k)
  rw [Int.neg_mul]
  omega)
theorem St.step {p : Int} {n c : Nat} {rs ls ls' : List (List Int)} {sp : List Nat} {ts ts' : List (List Int)} {r0 hs : List Int} {s : Int} (S : St p n c rs ls sp ts) (hr0 : r0 ∈ ls) (hrw : Rw p n hs) (he : Xp.Eqm p (co hs) (Xp.sc s (co r0))) (h1 : co hs c % p = 1 % p)
    (CL : Clr p n c hs ls ls') (CT : Clr p n c hs ts ts') : St p n (c + 1) rs ls' (sp ++ [c]) (ts' ++ [hs]) := by
  have hz : ∀ k, k < c → co hs k % p = 0 := fun k hk => by
    rw [he k]
    show (s * r0.getD k 0) % p = 0
    rw [S.lz r0 hr0 k hk, Int.mul_zero, Int.zero_emod]
  have hlen : (sp ++ [c]).length = (ts' ++ [hs]).length := by rw [List.length_append, List.length_append, CT.len, S.len]; rfl
  -- where a row of the new family comes from
  have mem : ∀ x ∈ fam (sp ++ [c]) (ts' ++ [hs]), (x = (c, co hs)) ∨ ∃ (j : Nat) (t : Nat) (a b : List Int), sp[j]? = some t ∧ ts[j]? = some a ∧ x = (t, co b) ∧ Rw p n b ∧ Xp.Eqm p (co b) (Xp.clr p c (co hs) (co a)) := fun x hx => by
    obtain ⟨j, t, r, h1, h2, rfl⟩ := mem_fam hx
    by_cases hj : j < sp.length
    · rw [List.getElem?_append_left hj] at h1
      have hj2 : j < ts'.length := by rw [CT.len, ← S.len]; exact hj
      rw [List.getElem?_append_left hj2] at h2
      have h3 := List.getElem?_eq_getElem (show j < ts.length by rw [← S.len]; exact hj)
      exact .inr ⟨j, t, _, r, h1, h3, rfl, CT.at_ j _ r h3 h2⟩
    · left
      have e1 : j = sp.length := by
        rcases Nat.lt_or_ge j (sp.length + 1) with q | q
        · omega
        · rw [List.getElem?_eq_none (by rw [List.length_append]; exact q)] at h1
          cases h1
      subst e1
      rw [List.getElem?_append_right (Nat.le_refl _), Nat.sub_self] at h1
      have e2 : sp.length = ts'.length := by rw [CT.len, S.len]
      rw [e2, List.getElem?_append_right (Nat.le_refl _), Nat.sub_self] at h2
      cases h1
      cases h2
      rfl
  have tc : ∀ {j t : Nat}, sp[j]? = some t → t < c := fun h => S.lt _ (List.mem_of_getElem? h)
  have srt' : (sp ++ [c]).Pairwise (· < ·) := List.pairwise_append.mpr ⟨S.srt, List.pairwise_singleton _ _, fun a ha b hb => by
    rw [List.mem_singleton.mp hb]
    exact S.lt a ha⟩
  have red' : Xp.Red p (fam (sp ++ [c]) (ts' ++ [hs])) := by
    refine ⟨fun x hx => ?_, fun x hx k hk => ?_, fun x hx y hy ne => ?_, ?_⟩
    · rcases mem x hx with rfl | ⟨j, t, a, b, q1, q2, rfl, _, e⟩
      · exact h1
      · show co b t % p = 1 % p
        rw [e t, Xp.clr_keep (hz t (tc q1))]
        exact S.red.one _ (fam_mem q1 q2)
    · rcases mem x hx with rfl | ⟨j, t, a, b, q1, q2, rfl, _, e⟩
      · exact hz k hk
      · have hk : k < t := hk
        have := tc q1
        show co b k % p = 0
        rw [e k, Xp.clr_keep (hz k (by omega))]
        exact S.red.low _ (fam_mem q1 q2) k hk
    · rcases mem x hx with rfl | ⟨j, t, a, b, q1, q2, rfl, _, e⟩
      · rcases mem y hy with rfl | ⟨j', t', a', b', q1', q2', rfl, _, e'⟩
        · exact absurd rfl ne
        · show co b' c % p = 0
          rw [e' c]
          exact Xp.clr_at h1
      · rcases mem y hy with rfl | ⟨j', t', a', b', q1', q2', rfl, _, e'⟩
        · exact hz t (tc q1)
        · show co b' t % p = 0
          rw [e' t, Xp.clr_keep (hz t (tc q1))]
          exact S.red.own _ (fam_mem q1 q2) _ (fam_mem q1' q2') ne
    · rw [fam_spots hlen]
      exact srt'.imp (fun h => Nat.ne_of_lt h)
  have hh : Xp.rows (fam (sp ++ [c]) (ts' ++ [hs])) (co hs) := fam_row hlen (List.mem_append_right _ (List.mem_singleton.mpr rfl))
  have hsp : Xp.Sp p (rset rs) (co hs) := ((S.dn _ (.inl ⟨r0, hr0, rfl⟩)).sc s).eqm he.symm
  refine ⟨fun r hr => ?_, fun r hr k hk => ?_, hlen, fun r hr => ?_, red', srt', fun t ht => ?_, fun r hr => ?_, fun u hu => ?_⟩
  · obtain ⟨a, _, h, _⟩ := CL.of hr
    exact h
  · obtain ⟨a, ha, hb, e⟩ := CL.of hr
    refine hb.zero.mp ?_
    rw [e k]
    rcases Nat.lt_or_ge k c with q | q
    · rw [Xp.clr_keep (hz k q)]
      show a.getD k 0 % p = 0
      rw [S.lz a ha k q, Int.zero_emod]
    · rw [show k = c by omega]
      exact Xp.clr_at h1
  · rcases List.mem_append.mp hr with hr | hr
    · obtain ⟨a, _, h, _⟩ := CT.of hr
      exact h
    · rw [List.mem_singleton.mp hr]
      exact hrw
  · rcases List.mem_append.mp ht with ht | ht
    · exact Nat.lt_succ_of_lt (S.lt t ht)
    · rw [List.mem_singleton.mp ht]
      exact Nat.lt_succ_self c
  · refine (S.up r hr).trans fun u hu => ?_
    have put : ∀ {a b : List Int}, Xp.Eqm p (co b) (Xp.clr p c (co hs) (co a)) → (rset ls' (co b) ∨ Xp.rows (fam (sp ++ [c]) (ts' ++ [hs])) (co b)) → Xp.Sp p (fun u => rset ls' u ∨ Xp.rows (fam (sp ++ [c]) (ts' ++ [hs])) u) (co a) := fun {a b} e hb =>
      .eqm (.add (co a c) (.inr hh) (.one hb)) (Xp.Eqm.trans ((Xp.Eqm.refl p _).ad e) (clr_back (co hs) (co a)).symm)
    rcases hu with ⟨a, ha, rfl⟩ | ⟨x, hx, rfl⟩
    · obtain ⟨b, hb, _, e⟩ := CL.to ha
      exact put e (.inl ⟨b, hb, rfl⟩)
    · obtain ⟨j, t, a, q1, q2, rfl⟩ := mem_fam hx
      obtain ⟨b, hb, _, e⟩ := CT.to (List.mem_of_getElem? q2)
      exact put e (.inr (fam_row hlen (List.mem_append_left _ hb)))
  · have get : ∀ {a b : List Int}, Xp.Eqm p (co b) (Xp.clr p c (co hs) (co a)) → Xp.Sp p (rset rs) (co a) → Xp.Sp p (rset rs) (co b) := fun {a b} e ha => (ha.ad (hsp.sc (-(co a c)))).eqm e.symm
    rcases hu with ⟨b, hb, rfl⟩ | ⟨x, hx, rfl⟩
    · obtain ⟨a, ha, _, e⟩ := CL.of hb
      exact get e (S.dn _ (.inl ⟨a, ha, rfl⟩))
    · rcases mem x hx with rfl | ⟨j, t, a, b, q1, q2, rfl, _, e⟩
      · exact hsp
      · exact get e (S.dn _ (.inr ⟨_, fam_mem q1 q2, rfl⟩))
/-- the told form of rs -/
structure Form (p : Int) (n : Nat) (rs : List (List Int)) (sp : List Nat) (ts : List (List Int)) : Prop where
  len : sp.length = ts.length
  trw : ∀ r ∈ ts, Rw p n r
  red : Xp.Red p (fam sp ts)
  srt : sp.Pairwise (· < ·)
  lt : ∀ s ∈ sp, s < n
  up : ∀ r ∈ rs, Xp.Sp p (Xp.rows (fam sp ts)) (co r)
  dn : ∀ r ∈ ts, Xp.Sp p (rset rs) (co r)
theorem St.form {p : Int} {n : Nat} {rs ls : List (List Int)} {sp : List Nat} {ts : List (List Int)} (S : St p n n rs ls sp ts) : Form p n rs sp ts :=
  ⟨S.len, S.trw, S.red, S.srt, S.lt, fun r hr => (S.up r hr).trans fun u hu => by
    rcases hu with ⟨a, ha, rfl⟩ | hu
    · refine .eqm .nul fun k => ?_
      show 0 % p = a.getD k 0 % p
      rcases Nat.lt_or_ge k n with q | q
      · rw [S.lz a ha k q]
      · rw [getD_over (by rw [(S.lrw a ha).len]; exact q)]
    · exact .one hu, fun r hr => S.dn _ (.inr (fam_row S.len hr))⟩
/-- there is one told form of what spans the same -/
theorem Form.uniq {p : Int} (hp : 2 ≤ p) {n : Nat} {rs qs : List (List Int)} {sp sq : List Nat} {ts us : List (List Int)} (F : Form p n rs sp ts) (G : Form p n qs sq us) (a : ∀ r ∈ rs, Xp.Sp p (rset qs) (co r)) (b : ∀ r ∈ qs, Xp.Sp p (rset rs) (co r)) : sp = sq ∧ ts = us := by
  have m1 : ∀ u, Xp.rows (fam sp ts) u → Xp.Sp p (Xp.rows (fam sq us)) u := fun u ⟨x, hx, e⟩ => by
    obtain ⟨j, t, r, q1, q2, rfl⟩ := mem_fam hx
    subst e
    have t1 : Xp.Sp p (rset qs) (co r) := (F.dn r (List.mem_of_getElem? q2)).trans fun u hu => by
      obtain ⟨w, hw, rfl⟩ := hu
      exact a w hw
    exact t1.trans fun u hu => by
      obtain ⟨w, hw, rfl⟩ := hu
      exact G.up w hw
  have m2 : ∀ u, Xp.rows (fam sq us) u → Xp.Sp p (Xp.rows (fam sp ts)) u := fun u ⟨x, hx, e⟩ => by
    obtain ⟨j, t, r, q1, q2, rfl⟩ := mem_fam hx
    subst e
    have t1 : Xp.Sp p (rset rs) (co r) := (G.dn r (List.mem_of_getElem? q2)).trans fun u hu => by
      obtain ⟨w, hw, rfl⟩ := hu
      exact b w hw
    exact t1.trans fun u hu => by
      obtain ⟨w, hw, rfl⟩ := hu
      exact F.up w hw
  have s1 := F.red.sub hp G.red m1
  have s2 := G.red.sub hp F.red m2
  rw [fam_spots F.len, fam_spots G.len] at s1 s2
  have es : sp = sq := Xp.sorted_eq F.srt G.srt fun s => ⟨s1 s, s2 s⟩
  refine ⟨es, ?_⟩
  subst es
  have l : ts.length = us.length := by rw [← F.len, G.len]
  apply List.ext_getElem?
  intro i
  by_cases h : i < ts.length
  · have g1 := List.getElem?_eq_getElem h
    have g2 := List.getElem?_eq_getElem (show i < us.length by omega)
    have g3 := List.getElem?_eq_getElem (show i < sp.length by rw [F.len]; exact h)
    rw [g1, g2]
    congr 1
    refine row_eq (F.trw _ (List.getElem_mem h)) (G.trw _ (List.getElem_mem _)) ?_
    exact F.red.row G.red m1 (fun s hs => by rw [fam_spots G.len] at hs; rw [fam_spots F.len]; exact hs) (fam_mem g3 g1) (fam_mem g3 g2) rfl
  · rw [List.getElem?_eq_none (by omega), List.getElem?_eq_none (by omega)]

end Xk
end
section
set_option Elab.async false
set_option linter.all false
set_option maxRecDepth 100000
set_option maxHeartbeats 4000000
namespace Xk
open PySem PySem.Spec PyProof.Rows L2 Xh LamX NdefX
theorem psNo {X : Cx} {st : Stmt} : PS X st (fun _ _ _ => False) := ⟨fun _ _ _ _ _ _ h => h.elim⟩
theorem sqD {K : PySem.W.Frag} {H : Hp} {a : Addr} {xs : List V} (e : H a = some (.tup xs)) : SqT K H a xs := .inl (.inl e)
theorem kpX {H H' : Hp} (x : ExtN H H') : ∀ a xs, H a = some (.tup xs) → H' a = some (.tup xs) := fun _ _ e => x _ _ e (fun _ z => by cases z)
theorem Rws.getA {H : Hp} : ∀ {ls : List Addr} {rs : List (List Int)}, Rws H ls rs → ∀ (i : Nat) (l : Addr), ls[i]? = some l → ∃ r, rs[i]? = some r ∧ H l = some (.tup (r.map V.int))
  | [], [], _, i, l, e => by cases e
  | _ :: _, r :: _, h, 0, l, e => by
    cases e
    exact ⟨r, rfl, h.1⟩
  | _ :: ls, _ :: rs, h, i + 1, l, e => Rws.getA (ls := ls) (rs := rs) h.2 i l e
  | [], _ :: _, h, _, _, _ => h.elim
  | _ :: _, [], h, _, _, _ => h.elim
theorem Rws.app {H : Hp} {ls' : List Addr} {rs' : List (List Int)} (g : Rws H ls' rs') : ∀ {ls : List Addr} {rs : List (List Int)}, Rws H ls rs → Rws H (ls ++ ls') (rs ++ rs')
  | [], [], _ => g
  | _ :: _, _ :: _, h => ⟨h.1, Rws.app g h.2⟩
  | [], _ :: _, h => h.elim
  | _ :: _, [], h => h.elim
theorem Rws.get {H : Hp} : ∀ {ls : List Addr} {rs : List (List Int)}, Rws H ls rs → ∀ (i : Nat) (l : Addr), ls[i]? = some l → ∃ r, rs[i]? = some r ∧ H l = some (.tup (r.map V.int))
  | [], [], _, i, l, e => by cases e
  | _ :: _, r :: _, h, 0, l, e => by
    cases e
    exact ⟨r, rfl, h.1⟩
  | _ :: ls, _ :: rs, h, i + 1, l, e => Rws.get (ls := ls) (rs := rs) h.2 i l e
  | [], _ :: _, h, _, _, _ => h.elim
  | _ :: _, [], h, _, _, _ => h.elim
theorem _root_.Xh.Gr.lt {T : List (Addr × Str)} {H H' : Hp} (g : Gr T H H') {a : Addr} {xs : List V} (e : H a = some (.lst xs)) : H' a = some (.lst xs) := g.x _ _ e (fun _ z => by cases z)
theorem atI_map {ns : List Int} {c : Nat} (h : c < ns.length) : atI (ns.map V.int) ((c : Nat) : Int) = some (.int (ns.getD c 0)) := atI_nat (map_at ns c h)
/-- what undoes a rest -/
theorem inv_of {p x : Int} (hp : p ∈ primes) (h0 : 0 ≤ x) (h1 : x < p) (hx : x ≠ 0) : ∃ l P : Nat, x = (l : Int) ∧ p = (P : Int) ∧ 2 ≤ P ∧ P ≤ 1000 ∧ l < P ∧ rpow l (-1) P = bk l P ∧ bk l P < P ∧ (((bk l P : Nat) : Int) * x) % p = 1 % p ∧ bks l P (P - 1) ≠ [] := by
  have hm := pm_of hp
  have lo := hm.lo
  have hi := hm.hi
  obtain ⟨l, hl⟩ := Int.eq_ofNat_of_zero_le h0
  obtain ⟨P, hP⟩ := Int.eq_ofNat_of_zero_le (show 0 ≤ p by omega)
  have f := undo_facts p hp l (by rw [hP, Int.toNat_natCast]; omega) (fun z => hx (by rw [hl, z]; rfl))
  rw [hP, Int.toNat_natCast] at f
  obtain ⟨f1, f2, f3, _, f5⟩ := f
  refine ⟨l, P, hl, hP, by omega, by omega, by omega, f5, f2, ?_, f1⟩
  rw [hl, hP, ← Int.natCast_mul, ← Int.natCast_emod, f3, Int.emod_eq_of_lt (by decide) (by omega)]
  rfl
def spClr : Sp := fun vs H Q _ => ∃ (r h : Addr) (rr hh : List Int) (c n : Nat) (p : Int), vs = [.ref r, .ref h, .int c, .int p] ∧ H r = some (.tup (rr.map V.int)) ∧ H h = some (.tup (hh.map V.int)) ∧ Rw p n rr ∧ Rw p n hh ∧ c < n ∧ n ≤ 50 ∧ Pm p ∧
  ∀ (v : Addr) (ms : List Int) (H' : Hp), Same H H' → H' v = some (.tup (ms.map V.int)) → Rw p n ms → Xp.Eqm p (co ms) (Xp.clr p c (co hh) (co rr)) → Q (.ref v) H'
def spStep (T : List (Addr × Str)) : Sp := fun vs H Q _ => ∃ (R : Addr) (la : List Addr) (rs : List (List Int)) (n : Nat) (p : Int), vs = [.ref R, .int n, .int p] ∧ H R = some (.lst (la.map V.ref)) ∧ Rws H la rs ∧ (∀ r ∈ rs, Rw p n r) ∧ rs.length ≤ 24 ∧ 1 ≤ n ∧ n ≤ 24 ∧ p ∈ primes ∧ Tabs T H ∧
  ∀ (D : Addr) (ds : List Addr) (sp : List Nat) (ts : List (List Int)) (H' : Hp), Gr T H H' → H D = none → H' D = some (.lst (ds.map V.ref)) → Rws H' ds ts → Form p n rs sp ts → Q (.ref D) H'
/-- rows may be wider than the places stepped over -/
def spStepW (T : List (Addr × Str)) : Sp := fun vs H Q _ => ∃ (R : Addr) (la : List Addr) (rs : List (List Int)) (n m : Nat) (p : Int), vs = [.ref R, .int n, .int p] ∧ H R = some (.lst (la.map V.ref)) ∧ Rws H la rs ∧ (∀ r ∈ rs, Rw p m r) ∧ rs.length ≤ 24 ∧ 1 ≤ n ∧ n ≤ m ∧ m ≤ 50 ∧ n ≤ 24 ∧ p ∈ primes ∧ Tabs T H ∧
  ∀ (D : Addr) (ds : List Addr) (sp : List Nat) (ls ts : List (List Int)) (H' : Hp), Gr T H H' → H D = none → H' D = some (.lst (ds.map V.ref)) → Rws H' ds ts → St p m n rs ls sp ts → Q (.ref D) H'
theorem stepW {T : List (Addr × Str)} {vs : List V} {H : Hp} {Q : VK} {E E' : XK} (h : spStep T vs H Q E) : spStepW T vs H Q E' := by
  obtain ⟨R, la, rs, n, p, rfl, eR, hR, hrw, lrs, n1, n24, hp, hT, k⟩ := h
  exact ⟨R, la, rs, n, n, p, rfl, eR, hR, hrw, lrs, n1, Nat.le_refl n, by omega, n24, hp, hT, fun D ds sp ls ts H' g nD eD hD S => k D ds sp ts H' g nD eD hD S.form⟩
theorem sp_len {sp : List Nat} {c : Nat} (s : sp.Pairwise (· < ·)) (h : ∀ x ∈ sp, x < c) : sp.length ≤ c := by
  have z := Xp.nodup_len (b := List.range c) (s.imp (fun h => Nat.ne_of_lt h)) fun x hx => List.mem_range.mpr (h x hx)
  rw [List.length_range] at z
  exact z
section
variable {P : Program} {w : World} {K : PySem.W.Frag} {mg : Str → Option Value} {base : Heap}
theorem sc_cleared : FnScope (["row", "head", "place", "prime", "share", "rest", "by"] : List Str) ["row", "head", "place", "prime"] (defScope s_cleared) := ⟨rfl, rfl, rfl, by decide +kernel, rfl, by decide +kernel, by decide +kernel⟩
theorem ok_cleared {f : Addr} {fd : FuncData} (F : FunD K "cleared" "cleared" (defArgs s_cleared) (defBody s_cleared) (defScope s_cleared) [] [] f fd) (T : Fre mg) : FnOk P w K mg base CX0 1 f fd ["row", "head", "place", "prime"] spClr := by
  refine F.ok sc_cleared (fun vs H Q E h => ?_) (fun cdv A outer s H vs Q E hr h => ?_)
  · obtain ⟨r, h, rr, hh, c, n, p, rfl, _⟩ := h
    rfl
  · obtain ⟨r, h, rr, hh, c, n, p, rfl, er, eh, wr, wh, hc, hn, hp, k⟩ := h
    have lo := hp.lo
    have hi := hp.hi
    have nz : p ≠ 0 := by omega
    have l1 := wr.len
    have l2 := wh.len
    refine ⟨_, PSs.nox (pss_cons (ps_set (i := 4) sc_cleared.nd rfl (Or.inr rfl) (pe_ix ix_tup (pv 0) (pv 2) (fun _ _ => rfl)))
      (pss_cons (ps_if (pt_cmpR op_eq (pv 4) pe_int (nomark _)) (pss_one (ps_ret (pv 0))) pss_nil)
      (pss_one (ps_ret (pe_callTy call_tuple_of (by rfl) T.f_tuple (by decide +kernel) (pa_cons (pe_lc (own := [("rest", 5), ("by", 6)]) (g := (gTup K 2 (gCons (gName 5) (gCons (gName 6) gNil)))) rfl sc_cleared.nd (RZ.pi_zipA (by rfl) T.f_zip (pa_cons (pv 0) (pa_cons (pv 1) pa_nil))) (blkOk_by (own := [("rest", 5), ("by", 6)]) (N := ["row", "head", "place", "prime", "share", "rest", "by"]) (sc := defScope s_cleared) (by decide +kernel)) (fun _ _ _ _ _ => pg_tup rfl (pgs_cons (pg_name (i := 5) sc_cleared.nd rfl (Or.inl rfl) (Or.inr rfl)) (pgs_cons (pg_name (i := 6) sc_cleared.nd rfl (Or.inl rfl) (Or.inr rfl)) pgs_nil))) (fun _ _ _ _ _ => pts_nil) (fun _ _ _ _ _ => (pe_op op_modN (pe_op op_sub (pv 5) (pe_op op_mul (pv 4) (pv 6))) (pv 3)))) pa_nil)))))) , ?_⟩
    refine ⟨_, rfl, _, rfl, r, _, _, .int (rr.getD c 0), rfl, rfl, sqD er, atI_map (by omega), ?_⟩
    refine ⟨_, rfl, rfl, _, rfl, ite2 (fun hz => ?_) (fun hz => ?_)⟩
    · have z := V.int.inj (of_decide_eq_true hz)
      refine ⟨_, rfl, k r rr H (fun _ _ z => z) er wr (Xp.clr_none ?_).symm⟩
      show rr.getD c 0 % p = 0
      rw [z, Int.zero_emod]
    · refine ⟨_, rfl, _, rfl, r, h, _, _, rfl, .inr ⟨sqD er, sqD eh, fun D hD => ?_⟩⟩
      obtain ⟨s0, s1⟩ := wr.rs c
      refine lc_it (walk_zipT (xs := rr.map V.int) (ys := hh.map V.int) (by rw [List.length_map, List.length_map]; omega)) (fun i H1 => Same H H1 ∧ ∃ ms : List Int, H1 D = some (.lst (ms.map V.int)) ∧ ms.length = i ∧ ∀ j, j < i → ms.getD j 0 = (rr.getD j 0 - rr.getD c 0 * hh.getD j 0).fmod p)
        ⟨same_upd hD, [], upd_same, rfl, fun j hj => absurd hj (Nat.not_lt_zero j)⟩ (fun i H1 _ h => ⟨sqD (h.1 _ _ er), sqD (h.1 _ _ eh)⟩) ?_ ?_
      · rintro i x H1 H2 hi2 ⟨s3, ms, e3, l3, c3⟩ ⟨Tp, x1, y1, rfl, hTp, rfl, g1, g2⟩
        rw [List.length_map] at hi2
        have h1 := (map_at rr i (by omega)).symm.trans g1
        have h2 := (map_at hh i (by omega)).symm.trans g2
        cases h1
        cases h2
        obtain ⟨b0, b1⟩ := wh.rs i
        have s4 := s3.trans (same_upd (o := .tup [.int (rr.getD i 0), .int (hh.getD i 0)]) hTp)
        refine ⟨Tp, _, rfl, .inl (.inl upd_same), rfl, _, _, rfl, _, _, rfl, rfl, rfl, _, rfl, _, rfl, _, rfl, _, _, rfl, rfl, .inl ⟨by omega, by omega⟩, _, _, rfl, rfl, _, rfl, _, _, rfl, rfl, nz, _, by rw [upd_ne (ne_of_none e3 hTp)]; exact e3, ?_, lcs hD s4, ms ++ [(rr.getD i 0 - rr.getD c 0 * hh.getD i 0).fmod p], ?_, ?_, fun j hj => ?_⟩
        · rw [List.length_map]
          exact small1000 (by omega)
        · rw [upd_same, List.map_append]
          rfl
        · rw [List.length_append, l3]
          rfl
        · rw [getD_app, l3]
          by_cases hj2 : j < i
          · rw [if_pos hj2]
            exact c3 j hj2
          · rw [if_neg hj2, show j = i by omega, if_pos rfl]
      · rintro H1 ⟨s3, ms, e3, l3, c3⟩
        rw [List.length_map] at l3 c3
        refine ⟨D, _, rfl, .inl ⟨SqL.of e3, fun v hv => ?_⟩⟩
        have cf : ∀ j, ms.getD j 0 = (rr.getD j 0 - rr.getD c 0 * hh.getD j 0).fmod p := fun j => by
          by_cases hj : j < rr.length
          · exact c3 j hj
          · rw [getD_over (by omega), getD_over (a := rr) (by omega), getD_over (a := hh) (by omega), Int.mul_zero, Int.sub_zero, Int.zero_fmod]
        refine k v ms _ (s3.trans (same_upd hv)) upd_same ⟨by omega, fm_rs hp cf⟩ fun j => ?_
        show ms.getD j 0 % p = (rr.getD j 0 + -(rr.getD c 0) * hh.getD j 0) % p
        rw [cf, fm_em hp.pos, Int.emod_emod, Int.neg_mul]
        rfl
theorem sc_raw_stepped : FnScope (["rows", "width", "prime", "left", "told", "place", "heads", "scale", "head", "row", "rest"] : List Str) ["rows", "width", "prime"] (defScope s_raw_stepped) := ⟨rfl, rfl, rfl, by decide +kernel, rfl, by decide +kernel, by decide +kernel⟩
theorem ok_raw_stepped {TT : List (Addr × Str)} {f : Addr} {fd : FuncData} (F : FunD K "raw_stepped" "raw_stepped" (defArgs s_raw_stepped) (defBody s_raw_stepped) (defScope s_raw_stepped) [] [] f fd) (T : Fre mg) (o_rest_power : Own P w K mg base CX0 3 "rest_power" ["rest", "exponent", "prime"] [] (spRPowT TT)) (o_cleared : Own P w K mg base CX0 1 "cleared" ["row", "head", "place", "prime"] [] spClr) : FnOk P w K mg base CX0 4 f fd ["rows", "width", "prime"] (spStepW TT) := by
  refine F.ok sc_raw_stepped (fun vs H Q E h => ?_) (fun cdv A outer s H vs Q E hr h => ?_)
  · obtain ⟨R, la, rs, n, m, p, rfl, _⟩ := h
    rfl
  · obtain ⟨R, la, rs, n, m, p, rfl, eR, hR, hrw, lrs, n1, nm, m50, n24, hp, hT, k⟩ := h
    have hpm := pm_of hp
    have lo := hpm.lo
    have hi := hpm.hi
    have nz : p ≠ 0 := by omega
    have lla := hR.len
    refine ⟨_, PSs.nox (pss_cons (ps_set (i := 3) sc_raw_stepped.nd rfl (Or.inl rfl) (pe_callTy call_list_of (by rfl) T.f_list (by decide +kernel) (pa_cons (pv 0) pa_nil)))
      (pss_cons (ps_set (i := 4) sc_raw_stepped.nd rfl (Or.inl rfl) (pe_lst pa_nil))
      (pss_cons (ps_for PassesOwn.never rfl (pi_range1 (by rfl) T.f_range (pa_cons (pv 1) pa_nil)) (pg_name (i := 5) sc_raw_stepped.nd rfl (Or.inr rfl)) (pss_cons (ps_setLc (i := 6) (own := [("row", 9)]) (tt := tTest (tOp _ (tOp (rIxT K) (tVar 9) (tVar 5)) (tC (.int 0)))) rfl sc_raw_stepped.nd rfl rfl (sw_true rfl rfl rfl (by decide +kernel)) (pi_list (pv 3)) (blkOk_by (own := [("row", 9)]) (N := ["rows", "width", "prime", "left", "told", "place", "heads", "scale", "head", "row", "rest"]) (sc := defScope s_raw_stepped) (by decide +kernel)) (fun _ _ _ _ _ => pg_name (i := 9) sc_raw_stepped.nd rfl (Or.inl rfl) (Or.inr rfl)) (fun _ _ _ _ _ => (pts_one (pt_cmpR op_ne (pe_ix ix_tup (pv 9) (pv 5) (fun _ _ => rfl)) pe_int (nomark _)))) (fun _ _ _ _ _ => (pv 9)))
      (pss_one (ps_if (pt_truth (pv 6) (by intro _; rfl)) (pss_cons (ps_set (i := 7) sc_raw_stepped.nd rfl (Or.inr rfl) (pe_own o_rest_power (hr.mono (by decide)) rfl pass0 (pa_cons (pe_ix ix_tup (pe_ix ix_list (pv 6) pe_int (fun _ _ => rfl)) (pv 5) (fun _ _ => rfl)) (pa_cons (pe_un un_neg pe_int) (pa_cons (pv 2) pa_nil)))))
      (pss_cons (ps_set (i := 8) sc_raw_stepped.nd rfl (Or.inr rfl) (pe_callTy call_tuple_of (by rfl) T.f_tuple (by decide +kernel) (pa_cons (pe_lc (own := [("rest", 10)]) rfl sc_raw_stepped.nd (pi_tup (pe_ix ix_list (pv 6) pe_int (fun _ _ => rfl))) (blkOk_by (own := [("rest", 10)]) (N := ["rows", "width", "prime", "left", "told", "place", "heads", "scale", "head", "row", "rest"]) (sc := defScope s_raw_stepped) (by decide +kernel)) (fun _ _ _ _ _ => pg_name (i := 10) sc_raw_stepped.nd rfl (Or.inl rfl) (Or.inr rfl)) (fun _ _ _ _ _ => pts_nil) (fun _ _ _ _ _ => (pe_op op_modN (pe_op op_mul (pv 10) (pv 7)) (pv 2)))) pa_nil)))
      (pss_cons (ps_setLc (i := 3) (own := [("row", 9)]) rfl sc_raw_stepped.nd rfl rfl (sw_true rfl rfl rfl (by decide +kernel)) (pi_list (pv 3)) (blkOk_by (own := [("row", 9)]) (N := ["rows", "width", "prime", "left", "told", "place", "heads", "scale", "head", "row", "rest"]) (sc := defScope s_raw_stepped) (by decide +kernel)) (fun _ _ _ _ _ => pg_name (i := 9) sc_raw_stepped.nd rfl (Or.inl rfl) (Or.inr rfl)) (fun _ _ _ _ _ => pts_nil) (fun _ _ _ _ _ => (pe_own o_cleared (hr.mono (by decide)) rfl pass0 (pa_cons (pv 9) (pa_cons (pv 8) (pa_cons (pv 5) (pa_cons (pv 2) pa_nil)))))))
      (pss_one (ps_set (i := 4) sc_raw_stepped.nd rfl (Or.inl rfl) (pe_op op_cat (pe_lc (own := [("row", 9)]) rfl sc_raw_stepped.nd (pi_list (pv 4)) (blkOk_by (own := [("row", 9)]) (N := ["rows", "width", "prime", "left", "told", "place", "heads", "scale", "head", "row", "rest"]) (sc := defScope s_raw_stepped) (by decide +kernel)) (fun _ _ _ _ _ => pg_name (i := 9) sc_raw_stepped.nd rfl (Or.inl rfl) (Or.inr rfl)) (fun _ _ _ _ _ => pts_nil) (fun _ _ _ _ _ => (pe_own o_cleared (hr.mono (by decide)) rfl pass0 (pa_cons (pv 9) (pa_cons (pv 8) (pa_cons (pv 5) (pa_cons (pv 2) pa_nil))))))) (pe_lst (pa_cons (pv 8) pa_nil)))))))) pss_nil))))
      (pss_one (ps_ret (pv 4)))))) , ?_⟩
    refine ⟨_, rfl, R, _, rfl, .inl (SqL.of eR), fun L hL => ?_⟩
    have s1 := same_upd (o := .lst (la.map V.ref)) hL
    refine ⟨(by show 0 ≤ sizeLine; decide), fun TL hTL => ?_⟩
    have s2 := s1.trans (same_upd (o := .lst []) hTL)
    refine ⟨_, rfl, (n : Int), rfl, by omega, by omega, ?_⟩
    rw [Int.toNat_natCast]
    refine for_range (lo := 0) (n := n) (fun c σ' H' => ∃ (L TL : Addr) (ll tl : List Addr) (ls ts : List (List Int)) (sp : List Nat) (x5 x6 x7 x8 x9 x10 : Option V), σ' = [some (.ref R), some (.int n), some (.int p), some (.ref L), some (.ref TL), x5, x6, x7, x8, x9, x10] ∧ Gr TT H H' ∧ H TL = none ∧ H' L = some (.lst (ll.map V.ref)) ∧ Rws H' ll ls ∧ H' TL = some (.lst (tl.map V.ref)) ∧ Rws H' tl ts ∧ ls.length = rs.length ∧ St p m c rs ls sp ts)
      ⟨L, TL, la, [], rs, [], [], none, none, none, none, none, none, rfl, Gr.of hT s2, s1.free hTL, same_upd hTL _ _ upd_same, hR.keep (kpS s2), upd_same, trivial, rfl, St.init hrw⟩ ?_ ?_
    · rintro c σ' H1 hc ⟨L, TL, ll, tl, ls, ts, sp, x5, x6, x7, x8, x9, x10, rfl, g1, nTL, eL, hl, eTL, ht, len, S⟩
      have lll := hl.len
      have ltl := ht.len
      have lsp := sp_len S.srt S.lt
      have lst := S.len
      refine ⟨_, rfl, L, rfl, ⟨_, SqL.of eL⟩, fun D hD => ?_⟩
      refine lc_it (walk_list (xs := ll.map V.ref)) (fun i H' => Same H1 H' ∧ ∃ (ds : List Addr) (hs : List (List Int)), H' D = some (.lst (ds.map V.ref)) ∧ Rws H' ds hs ∧ hs.length ≤ i ∧ (∀ r ∈ hs, r ∈ ls ∧ r.getD c 0 ≠ 0) ∧ (hs = [] → ∀ (j : Nat) (r : List Int), j < i → ls[j]? = some r → r.getD c 0 = 0)) ?_ (fun i H' _ h => SqL.of (h.1 _ _ eL)) ?_ ?_
      · exact ⟨same_upd hD, [], [], upd_same, trivial, Nat.le_refl _, fun r h => (nomatch h), fun _ j r h => absurd h (Nat.not_lt_zero j)⟩
      · rintro i x H2 H3 hi2 ⟨s2, ds, hs, e2, h2, l2, m2, z2⟩ ⟨rfl, hx⟩
        obtain ⟨l, r, rfl, hr, er⟩ := (hl.keep (kpS s2)).at hx
        rw [List.length_map] at hi2
        have wr := S.lrw r (List.mem_of_getElem? hr)
        have lr := wr.len
        refine ⟨rfl, _, rfl, _, rfl, l, _, _, .int (r.getD c 0), rfl, rfl, sqD er, by rw [Int.zero_add]; exact atI_map (by omega), rfl, _, rfl, ?_⟩
        by_cases hz : r.getD c 0 = 0
        · rw [show (!decide (V.int (r.getD c 0) = V.int 0)) = false from by rw [hz]; rfl]
          refine iteF ⟨s2, ds, hs, e2, h2, by omega, m2, fun h j r' hj hr' => ?_⟩
          rcases Nat.lt_or_ge j i with q | q
          · exact z2 h j r' q hr'
          · have ji : j = i := by omega
            subst ji
            rw [hr] at hr'
            cases hr'
            exact hz
        · rw [show (!decide (V.int (r.getD c 0) = V.int 0)) = true from by simpa using hz]
          refine iteT ⟨_, rfl, _, e2, ?_, lcs hD s2, ds ++ [l], hs ++ [r], ?_, ?_, ?_, fun r' hr' => ?_, fun h => ?_⟩
          · rw [List.length_map, h2.len]
            exact small1000 (by omega)
          · rw [upd_same, List.map_append]
            rfl
          · exact (Rws.snoc er h2).keep (kpU e2)
          · rw [List.length_append]
            show hs.length + 1 ≤ i + 1
            omega
          · rcases List.mem_append.mp hr' with q | q
            · exact m2 r' q
            · rw [List.mem_singleton.mp q]
              exact ⟨List.mem_of_getElem? hr, hz⟩
          · simp at h
      rintro H2 ⟨s2, ds, hs, e2, h2, l2, m2, z2⟩
      rw [List.length_map] at z2
      refine ⟨_, rfl, _, .inl ⟨_, SqL.of e2, rfl⟩, ?_⟩
      cases hs with
      | nil =>
        have hds : ds = [] := List.length_eq_zero_iff.mp h2.len
        subst hds
        refine iteF ⟨L, TL, ll, tl, ls, ts, sp, _, _, _, _, _, _, rfl, g1.same s2, nTL, s2 _ _ eL, hl.keep (kpS s2), s2 _ _ eTL, ht.keep (kpS s2), len, S.skip fun r hr => ?_⟩
        obtain ⟨j, hj⟩ := List.mem_iff_getElem?.mp hr
        refine z2 rfl j r ?_ hj
        rcases Nat.lt_or_ge j ls.length with q | q
        · omega
        · rw [List.getElem?_eq_none q] at hj
          cases hj
      | cons h0 hs =>
        obtain ⟨l0, ds', rfl⟩ : ∃ l0 ds', ds = l0 :: ds' := by
          have := h2.len
          match ds, this with
          | l0 :: ds', _ => exact ⟨l0, ds', rfl⟩
        refine iteT ?_
        obtain ⟨h0m, h0z⟩ := m2 h0 List.mem_cons_self
        have w0 := S.lrw h0 h0m
        have l0n := w0.len
        obtain ⟨b0, b1⟩ := w0.rs c
        obtain ⟨q, Mm, hq, hM, M2, M3, qM, fr, bl, ec, _⟩ := inv_of hp b0 b1 h0z
        have G2 := g1.same s2
        refine ⟨_, rfl, D, _, 0, .ref l0, rfl, rfl, SqL.of e2, atI_nat (j := 0) rfl, _, rfl, l0, _, _, .int ((q : Nat) : Int), rfl, rfl, sqD h2.1, by rw [Int.zero_add, ← hq]; exact atI_map (by omega), _, rfl, _, rfl, q, Mm, -1, by rw [hM]; rfl, M2, M3, qM, G2.t, fun H3 g3 => ?_⟩
        rw [fr]
        have G3 := G2.trans g3
        have e3 := g3.lt e2
        have el0 := g3.tup h2.1
        generalize hsv : ((bk q Mm : Nat) : Int) = sv at ec
        have sv0 : 0 ≤ sv ∧ sv < 1000 := by omega
        refine ⟨_, rfl, D, _, 0, .ref l0, rfl, rfl, SqL.of e3, atI_nat (j := 0) rfl, l0, rfl, ⟨_, sqD el0⟩, fun D2 hD2 => ?_⟩
        refine lc_it (walk_tup (xs := h0.map V.int)) (fun i H' => Same H3 H' ∧ H' D2 = some (.lst (((h0.take i).map fun x => (x * sv).fmod p).map V.int))) ?_ (fun i H' _ h => sqD (h.1 _ _ el0)) ?_ ?_
        · exact ⟨same_upd hD2, upd_same⟩
        · rintro i x Ha Hb hi2 ⟨s4, e4⟩ ⟨rfl, hx⟩
          rw [List.length_map] at hi2
          have e5 := (map_at h0 i hi2).symm.trans hx
          cases e5
          obtain ⟨r0, r1⟩ := w0.rs i
          refine ⟨rfl, _, rfl, _, rfl, _, _, rfl, rfl, .inl ⟨by omega, by omega⟩, _, rfl, _, _, rfl, rfl, nz, _, e4, small1000 (Nat.le_trans (take_len _ _ _) (by omega)), lcs hD2 s4, ?_⟩
          rw [upd_same]
          exact congrArg (fun z => some (HO.lst z)) (take_map (fun x => (x * sv).fmod p) hi2)
        rintro H4 ⟨s4, e4⟩
        rw [List.length_map, List.take_length] at e4
        refine ⟨D2, _, rfl, .inl ⟨SqL.of e4, fun hv hhv => ?_⟩⟩
        have s5 := s4.trans (same_upd (o := .tup ((h0.map fun x => (x * sv).fmod p).map V.int)) hhv)
        have ehv : L2.upd H4 hv (.tup ((h0.map fun x => (x * sv).fmod p).map V.int)) hv = some (.tup ((h0.map fun x => (x * sv).fmod p).map V.int)) := upd_same
        generalize hH5 : L2.upd H4 hv (.tup ((h0.map fun x => (x * sv).fmod p).map V.int)) = H5 at s5 ehv
        have hhc : ∀ j, (h0.map fun x => (x * sv).fmod p).getD j 0 = (h0.getD j 0 * sv).fmod p := fun j => getD_map (g := fun x => (x * sv).fmod p) (by show (0 * sv).fmod p = 0; rw [Int.zero_mul]; exact Int.zero_fmod p)
        have lhh : (h0.map fun x => (x * sv).fmod p).length = m := by rw [List.length_map]; exact l0n
        generalize (h0.map fun x => (x * sv).fmod p) = hh at ehv hhc lhh
        have whh : Rw p m hh := ⟨lhh, fm_rs hpm hhc⟩
        have ehh : Xp.Eqm p (co hh) (Xp.sc sv (co h0)) := fun j => by
          show hh.getD j 0 % p = (sv * h0.getD j 0) % p
          rw [hhc, fm_em hpm.pos, Int.emod_emod, Int.mul_comm]
        have hh1 : co hh c % p = 1 % p := by
          rw [ehh c]
          exact ec
        have G5 := G3.same s5
        have S15 : ∀ a xs, H1 a = some (.lst xs) → H5 a = some (.lst xs) := fun a xs e => s5 _ _ (g3.lt (s2 _ _ e))
        have eL5 := S15 _ _ eL
        have eTL5 := S15 _ _ eTL
        have K15 : ∀ a xs, H1 a = some (.tup xs) → H5 a = some (.tup xs) := fun a xs e => s5 _ _ (g3.tup (s2 _ _ e))
        have hl5 := hl.keep K15
        have ht5 := ht.keep K15
        refine ⟨_, rfl, L, rfl, ⟨_, SqL.of eL5⟩, fun D3 hD3 => ?_⟩
        refine lc_it (walk_list (xs := ll.map V.ref)) (fun i H' => Same H5 H' ∧ ∃ (ds : List Addr) (rs' : List (List Int)), H' D3 = some (.lst (ds.map V.ref)) ∧ Rws H' ds rs' ∧ rs'.length = i ∧ ∀ (j : Nat) (a b : List Int), ls[j]? = some a → rs'[j]? = some b → Rw p m b ∧ Xp.Eqm p (co b) (Xp.clr p c (co hh) (co a))) ?_ (fun i H' _ h => SqL.of (h.1 _ _ eL5)) ?_ ?_
        · exact ⟨same_upd hD3, [], [], upd_same, trivial, rfl, fun j a b _ z => by cases z⟩
        · rintro i x Ha Hb hi2 ⟨s2, ds, rs', e2, h2, l2, m2⟩ ⟨rfl, hx⟩
          obtain ⟨l, r, rfl, hr, er⟩ := (hl5.keep (kpS s2)).at hx
          rw [List.length_map] at hi2
          refine ⟨rfl, _, rfl, _, rfl, _, rfl, _, rfl, l, hv, r, hh, c, m, p, by rw [Int.zero_add]; rfl, er, s2 _ _ ehv, S.lrw r (List.mem_of_getElem? hr), whh, by omega, m50, hpm, fun v ms Hc sc ev wm em => ?_⟩
          refine ⟨_, sc _ _ e2, ?_, lcs hD3 (s2.trans sc), ds ++ [v], rs' ++ [ms], ?_, ?_, ?_, fun j a b ha hb => ?_⟩
          · rw [List.length_map, h2.len, l2]
            exact small1000 (by omega)
          · rw [upd_same, List.map_append]
            rfl
          · exact (Rws.snoc ev (h2.keep (kpS sc))).keep (kpU (sc _ _ e2))
          · rw [List.length_append, l2]
            rfl
          · rw [List.getElem?_append] at hb
            split at hb
            · exact m2 j a b ha hb
            · rename_i hj
              cases ej : j - rs'.length with
              | succ k => rw [ej] at hb; cases hb
              | zero =>
                rw [ej] at hb
                cases hb
                have ji : j = i := by omega
                subst ji
                rw [hr] at ha
                cases ha
                exact ⟨wm, em⟩
        rintro H6 ⟨s6, ds3, rs3, e6, h6, l6, m6⟩
        rw [List.length_map] at l6
        have eTL6 := s6 _ _ eTL5
        have ht6 := ht5.keep (kpS s6)
        have ehv6 := s6 _ _ ehv
        refine ⟨_, rfl, TL, rfl, ⟨_, SqL.of eTL6⟩, fun D4 hD4 => ?_⟩
        refine lc_it (walk_list (xs := tl.map V.ref)) (fun i H' => Same H6 H' ∧ ∃ (ds : List Addr) (rs' : List (List Int)), H' D4 = some (.lst (ds.map V.ref)) ∧ Rws H' ds rs' ∧ rs'.length = i ∧ ∀ (j : Nat) (a b : List Int), ts[j]? = some a → rs'[j]? = some b → Rw p m b ∧ Xp.Eqm p (co b) (Xp.clr p c (co hh) (co a))) ?_ (fun i H' _ h => SqL.of (h.1 _ _ eTL6)) ?_ ?_
        · exact ⟨same_upd hD4, [], [], upd_same, trivial, rfl, fun j a b _ z => by cases z⟩
        · rintro i x Ha Hb hi2 ⟨s2, ds, rs', e2, h2, l2, m2⟩ ⟨rfl, hx⟩
          obtain ⟨l, r, rfl, hr, er⟩ := (ht6.keep (kpS s2)).at hx
          rw [List.length_map] at hi2
          refine ⟨rfl, _, rfl, _, rfl, _, rfl, _, rfl, l, hv, r, hh, c, m, p, by rw [Int.zero_add]; rfl, er, s2 _ _ ehv6, S.trw r (List.mem_of_getElem? hr), whh, by omega, m50, hpm, fun v ms Hc sc ev wm em => ?_⟩
          refine ⟨_, sc _ _ e2, ?_, lcs hD4 (s2.trans sc), ds ++ [v], rs' ++ [ms], ?_, ?_, ?_, fun j a b ha hb => ?_⟩
          · rw [List.length_map, h2.len, l2]
            exact small1000 (by omega)
          · rw [upd_same, List.map_append]
            rfl
          · exact (Rws.snoc ev (h2.keep (kpS sc))).keep (kpU (sc _ _ e2))
          · rw [List.length_append, l2]
            rfl
          · rw [List.getElem?_append] at hb
            split at hb
            · exact m2 j a b ha hb
            · rename_i hj
              cases ej : j - rs'.length with
              | succ k => rw [ej] at hb; cases hb
              | zero =>
                rw [ej] at hb
                cases hb
                have ji : j = i := by omega
                subst ji
                rw [hr] at ha
                cases ha
                exact ⟨wm, em⟩
        rintro H7 ⟨s7, ds4, rs4, e7, h7, l7, m7⟩
        rw [List.length_map] at l7
        have lds4 := h7.len
        refine ⟨_, rfl, (by show 1 ≤ sizeLine; decide), fun l8 hl8 => ?_⟩
        have s8 := same_upd (o := .lst [.ref hv]) hl8
        refine ⟨D4, l8, _, _, rfl, rfl, s8 _ _ e7, upd_same, ?_, fun D5 hD5 => ?_⟩
        · rw [List.length_map]
          exact Nat.le_trans (show ds4.length + 1 ≤ 1000 by omega) (Nat.le_of_lt (small1000 (Nat.le_refl _)))
        have s9 := s8.trans (same_upd (o := .lst (ds4.map V.ref ++ [.ref hv])) hD5)
        have G9 := ((G5.same s6).same s7).same s9
        refine ⟨D3, D5, ds3, ds4 ++ [hv], rs3, rs4 ++ [hh], sp ++ [c], _, _, _, _, _, _, rfl, G9, (((G5.same s6).same s7).same s8).n _ hD5, s9 _ _ (s7 _ _ e6), (h6.keep (kpS s7)).keep (kpS s9), ?_, ?_, ?_, ?_⟩
        · rw [upd_same, List.map_append]
          rfl
        · exact Rws.snoc (s9 _ _ (s7 _ _ ehv6)) (h7.keep (kpS s9))
        · omega
        · exact S.step h0m whh ehh hh1 ⟨by omega, m6⟩ ⟨by omega, m7⟩
    · rintro σ' H' ⟨L, TL, ll, tl, ls, ts, sp, x5, x6, x7, x8, x9, x10, rfl, g, nTL, eL, hl, eTL, ht, len, S⟩
      exact ⟨_, rfl, k TL tl sp _ ts H' g nTL eTL ht S⟩
end
end Xk
end
section
set_option Elab.async false
set_option linter.all false
set_option maxRecDepth 100000
set_option maxHeartbeats 4000000
namespace Xk
open PySem PySem.Spec PyProof.Rows L2 Xh LamX NdefX
/-! ### the law's own steps -/
/-- a reduced table that spans what rs does, in any order -/
structure Fm (p : Int) (n : Nat) (rs : List (List Int)) (sp : List Nat) (ts : List (List Int)) : Prop where
  len : sp.length = ts.length
  trw : ∀ r ∈ ts, Rw p n r
  red : Xp.Red p (fam sp ts)
  lt : ∀ s ∈ sp, s < n
  up : ∀ r ∈ rs, Xp.Sp p (Xp.rows (fam sp ts)) (co r)
  dn : ∀ r ∈ ts, Xp.Sp p (rset rs) (co r)
theorem Form.fm {p : Int} {n : Nat} {rs ts : List (List Int)} {sp : List Nat} (F : Form p n rs sp ts) : Fm p n rs sp ts := ⟨F.len, F.trw, F.red, F.lt, F.up, F.dn⟩
theorem Red_at {p : Int} (hp : 2 ≤ p) {n : Nat} {sp : List Nat} {ts : List (List Int)} (R : Xp.Red p (fam sp ts)) (W : ∀ r ∈ ts, Rw p n r) {j s : Nat} {r : List Int} (h1 : sp[j]? = some s) (h2 : ts[j]? = some r) : r.getD s 0 = 1 ∧ ∀ k, k < s → r.getD k 0 = 0 := by
  have w := W r (List.mem_of_getElem? h2)
  have m := fam_mem h1 h2
  refine ⟨?_, fun k hk => w.zero.mp (R.low _ m k hk)⟩
  have e : r.getD s 0 % p = 1 % p := R.one _ m
  obtain ⟨a, b⟩ := w.rs s
  rw [Int.emod_eq_of_lt a b, Int.emod_eq_of_lt (by decide) (by omega)] at e
  exact e
section
variable {P : Program} {w : World} {K : PySem.W.Frag} {mg : Str → Option Value} {base : Heap}
end
end Xk
end
section
set_option Elab.async false
set_option linter.all false
set_option maxRecDepth 100000
set_option maxHeartbeats 4000000
namespace Xk
open PySem PySem.Spec PyProof.Rows L2 Xh LamX NdefX
theorem Fm.len_le {p : Int} {n : Nat} {rs ts : List (List Int)} {sp : List Nat} (F : Fm p n rs sp ts) : ts.length ≤ n := by
  have nd := F.red.nd
  rw [fam_spots F.len] at nd
  have z := Xp.nodup_len (b := List.range n) nd fun x hx => List.mem_range.mpr (F.lt x hx)
  rw [List.length_range] at z
  have := F.len
  omega
section
variable {P : Program} {w : World} {K : PySem.W.Frag} {mg : Str → Option Value} {base : Heap}
end
end Xk
end
section
set_option Elab.async false
set_option linter.all false
set_option maxRecDepth 100000
set_option maxHeartbeats 4000000
namespace Xk
open PySem PySem.Spec PyProof.Rows L2 Xh LamX NdefX
/-! ### rows weighed, tables drawn -/
/-- rows, each by its weight, put together -/
def wgt : List (List Int) → List Int → Xp.Cf
  | r :: rs, w :: ws => Xp.ad (Xp.sc w (co r)) (wgt rs ws)
  | _, _ => Xp.nul
theorem wgt_snoc : ∀ {rs : List (List Int)} {ws : List Int}, rs.length = ws.length → ∀ (r : List Int) (w : Int), wgt (rs ++ [r]) (ws ++ [w]) = Xp.ad (wgt rs ws) (Xp.sc w (co r))
  | [], [], _, r, w => Xp.adC _ _
  | a :: rs, b :: ws, h, r, w => by
    show Xp.ad (Xp.sc b (co a)) (wgt (rs ++ [r]) (ws ++ [w])) = Xp.ad (Xp.ad (Xp.sc b (co a)) (wgt rs ws)) (Xp.sc w (co r))
    rw [wgt_snoc (Nat.succ.inj h), Xp.adA]
  | [], _ :: _, h, _, _ => by cases h
  | _ :: _, [], h, _, _ => by cases h
theorem getD_rep0 (n j : Nat) : (List.replicate n (0 : Int)).getD j 0 = 0 := getD_rep n j
theorem Rw.nought {p : Int} (hp : Pm p) (n : Nat) : Rw p n (List.replicate n 0) := ⟨List.length_replicate, fun j => by
  rw [getD_rep]
  exact ⟨Int.le_refl _, hp.pos⟩⟩
section
variable {P : Program} {w : World} {K : PySem.W.Frag} {mg : Str → Option Value} {base : Heap}
end
end Xk
end
section
set_option Elab.async false
set_option linter.all false
set_option maxHeartbeats 1000000
/-! families of rows, each 1 at its own place and 0 at the places of the others; how many tuples they span -/
namespace Xp
structure Uni (p : Int) (L : List (Nat × Cf)) : Prop where
  one : ∀ x ∈ L, x.2 x.1 % p = 1 % p
  own : ∀ x ∈ L, ∀ y ∈ L, x.1 ≠ y.1 → y.2 x.1 % p = 0
  nd : (L.map (·.1)).Nodup
theorem Red.uni {p : Int} {L : List (Nat × Cf)} (h : Red p L) : Uni p L := ⟨h.one, h.own, h.nd⟩
theorem Uni.tail {p : Int} {x : Nat × Cf} {L : List (Nat × Cf)} (h : Uni p (x :: L)) : Uni p L := ⟨fun y hy => h.one y (List.mem_cons_of_mem _ hy), fun y hy z hz => h.own y (List.mem_cons_of_mem _ hy) z (List.mem_cons_of_mem _ hz), (List.nodup_cons.mp h.nd).2⟩
theorem Uni.nin {p : Int} {x : Nat × Cf} {L : List (Nat × Cf)} (h : Uni p (x :: L)) : ∀ y ∈ L, x.1 ≠ y.1 := fun y hy e => (List.nodup_cons.mp h.nd).1 (List.mem_map.mpr ⟨y, hy, e.symm⟩)
theorem Uni.self {p : Int} : ∀ {L : List (Nat × Cf)}, Uni p L → ∀ x ∈ L, Eqm p (lsum L x.2) x.2
  | [], _, x, hx => by cases hx
  | y :: L, h, x, hx => by
    have n := h.nin
    rcases List.mem_cons.mp hx with rfl | hx
    · have z := lsum_zero (p := p) (v := x.2) L fun z hz => h.own z (List.mem_cons_of_mem _ hz) x List.mem_cons_self (fun e => n z hz e.symm)
      exact ((Eqm.sc2 (b := 1) (h.one x List.mem_cons_self) x.2).ad z).trans (Eqm.of_eq (by rw [sc_one, ad_nul]))
    · have e : x.2 y.1 % p = 0 % p := by rw [h.own y List.mem_cons_self x (List.mem_cons_of_mem _ hx) (n x hx), Int.zero_emod]
      exact ((Eqm.sc2 e y.2).ad (h.tail.self x hx)).trans (Eqm.of_eq (by rw [sc_zero, nul_ad]))
theorem Uni.made {p : Int} {L : List (Nat × Cf)} (h : Uni p L) {v : Cf} (a : Sp p (rows L) v) : Eqm p v (lsum L v) := by
  induction a with
  | nul => rw [lsum_nul]; exact Eqm.refl p _
  | @add u v c hu _ ih =>
    obtain ⟨x, hx, rfl⟩ := hu
    rw [lsum_ad, lsum_sc]
    exact ((h.self x hx).symm.sc c).ad ih
  | eqm _ e ih => exact (e.symm.trans ih).trans (lsum_eqm e L)
/-- the rows of a family, each by its weight -/
def comb : List (Nat × Cf) → List Int → Cf
  | x :: L, a :: s => ad (sc a x.2) (comb L s)
  | _, _ => nul
theorem comb_zero {p : Int} {k : Nat} : ∀ (L : List (Nat × Cf)) (s : List Int), (∀ x ∈ L, x.2 k % p = 0) → comb L s k % p = 0
  | [], s, _ => Int.zero_emod p
  | x :: L, [], _ => Int.zero_emod p
  | x :: L, a :: s, h => by
    show (a * x.2 k + comb L s k) % p = 0
    rw [Int.add_emod, comb_zero L s fun y hy => h y (List.mem_cons_of_mem _ hy), Int.mul_emod, h x List.mem_cons_self, Int.mul_zero, Int.zero_emod]
    rfl
theorem comb_sp {p : Int} : ∀ (L : List (Nat × Cf)) (s : List Int), Sp p (rows L) (comb L s)
  | [], s => .nul
  | x :: L, [] => .nul
  | x :: L, a :: s => .add _ ⟨x, List.mem_cons_self, rfl⟩ ((comb_sp L s).trans fun u ⟨y, hy, e⟩ => .one ⟨y, List.mem_cons_of_mem _ hy, e⟩)
theorem Uni.comb_at {p : Int} : ∀ {L : List (Nat × Cf)}, Uni p L → ∀ (s : List Int) (i : Nat) (x : Nat × Cf) (a : Int), L[i]? = some x → s[i]? = some a → comb L s x.1 % p = a % p
  | [], _, _, _, _, _, hx, _ => by cases hx
  | y :: L, _, [], _, _, _, _, ha => by cases ha
  | y :: L, h, b :: s, 0, x, a, hx, ha => by
    cases hx
    cases ha
    show (b * y.2 y.1 + comb L s y.1) % p = b % p
    rw [Int.add_emod, comb_zero L s fun z hz => h.own y List.mem_cons_self z (List.mem_cons_of_mem _ hz) (h.nin z hz), Int.mul_emod, h.one y List.mem_cons_self, ← Int.mul_emod, Int.mul_one, Int.add_zero, Int.emod_emod]
  | y :: L, h, b :: s, i + 1, x, a, hx, ha => by
    have hx' : L[i]? = some x := hx
    have mx := List.mem_of_getElem? hx'
    show (b * y.2 x.1 + comb L s x.1) % p = a % p
    rw [Int.add_emod, h.tail.comb_at s i x a hx' ha, Int.mul_emod, h.own x (List.mem_cons_of_mem _ mx) y List.mem_cons_self (fun e => h.nin x mx e.symm), Int.mul_zero, Int.zero_emod, Int.zero_add, Int.emod_emod]
theorem lsum_map {v w : Cf} : ∀ L : List (Nat × Cf), (∀ x ∈ L, v x.1 = w x.1) → lsum L v = lsum L w
  | [], _ => rfl
  | x :: L, h => by
    show ad (sc (v x.1) x.2) (lsum L v) = ad (sc (w x.1) x.2) (lsum L w)
    rw [h x List.mem_cons_self, lsum_map L fun y hy => h y (List.mem_cons_of_mem _ hy)]
abbrev cof (t : List Int) : Cf := fun j => t.getD j 0
theorem tp_rs {p m : Nat} (hp : 0 < p) {t : List Int} (h : t ∈ tp p m) (k : Nat) : 0 ≤ t.getD k 0 ∧ t.getD k 0 < (p : Int) := by
  rw [List.getD_eq_getElem?_getD]
  cases e : t[k]? with
  | none => exact ⟨Int.le_refl _, by show (0 : Int) < p; omega⟩
  | some x => exact (tp_mem.mp h).2 x (List.mem_of_getElem? e)
theorem tp_ext {p m : Nat} (hp : 0 < p) {s t : List Int} (hs : s ∈ tp p m) (ht : t ∈ tp p m) (e : ∀ k, k < m → s.getD k 0 % (p : Int) = t.getD k 0 % (p : Int)) : s = t := by
  have ls := (tp_mem.mp hs).1
  have lt := (tp_mem.mp ht).1
  apply List.ext_getElem?
  intro k
  by_cases hk : k < m
  · have z := e k hk
    obtain ⟨a0, a1⟩ := tp_rs hp hs k
    obtain ⟨b0, b1⟩ := tp_rs hp ht k
    rw [Int.emod_eq_of_lt a0 a1, Int.emod_eq_of_lt b0 b1, List.getD_eq_getElem?_getD, List.getD_eq_getElem?_getD, List.getElem?_eq_getElem (by omega), List.getElem?_eq_getElem (by omega)] at z
    rw [List.getElem?_eq_getElem (by omega), List.getElem?_eq_getElem (by omega)]
    exact congrArg some z
  · rw [List.getElem?_eq_none (by omega), List.getElem?_eq_none (by omega)]
/-- a family of so many rows spans so many tuples -/
theorem Uni.count {p n : Nat} (hp : 0 < p) {L : List (Nat × Cf)} (h : Uni (p : Int) L) (lt : ∀ x ∈ L, x.1 < n) (out : ∀ x ∈ L, ∀ k, n ≤ k → x.2 k % (p : Int) = 0) {P : List Int → Bool} (hP : ∀ t ∈ tp p n, P t = true ↔ Sp (p : Int) (rows L) (cof t)) : ((tp p n).filter P).length = p ^ L.length := by
  have dl : ∀ s : List Int, ((List.range n).map fun k => comb L s k % (p : Int)) ∈ tp p n := fun s => tp_mem.mpr ⟨by rw [List.length_map, List.length_range], fun x hx => by
    obtain ⟨k, _, rfl⟩ := List.mem_map.mp hx
    exact ⟨Int.emod_nonneg _ (by omega), Int.emod_lt_of_pos _ (by omega)⟩⟩
  have dg : ∀ (s : List Int) (k : Nat), k < n → ((List.range n).map fun k => comb L s k % (p : Int)).getD k 0 = comb L s k % (p : Int) := fun s k hk => by
    rw [List.getD_eq_getElem?_getD, List.getElem?_map, List.getElem?_range hk]
    rfl
  refine cnt (fun t => L.map fun x => t.getD x.1 0) (fun s => (List.range n).map fun k => comb L s k % (p : Int)) (fun t ht _ => ?_) (fun s t hs ht ps pt e => ?_) (fun s hs => ⟨dl s, (hP _ (dl s)).mpr ?_⟩) (fun s t hs ht e => ?_)
  · exact tp_mem.mpr ⟨List.length_map .., fun x hx => by
      obtain ⟨y, _, rfl⟩ := List.mem_map.mp hx
      exact tp_rs hp ht y.1⟩
  · have z : ∀ x ∈ L, cof s x.1 = cof t x.1 := fun x hx => List.map_inj_left.mp e x hx
    have a := h.made ((hP s hs).mp ps)
    have b := h.made ((hP t ht).mp pt)
    rw [lsum_map L z] at a
    exact tp_ext hp hs ht fun k _ => (a.trans b.symm) k
  · refine (comb_sp L s).eqm fun k => ?_
    show comb L s k % (p : Int) = ((List.range n).map fun k => comb L s k % (p : Int)).getD k 0 % (p : Int)
    by_cases hk : k < n
    · rw [dg s k hk, Int.emod_emod]
    · rw [comb_zero L s fun x hx => out x hx k (by omega), List.getD_eq_getElem?_getD, List.getElem?_eq_none (by rw [List.length_map, List.length_range]; omega)]
      rfl
  · refine tp_ext hp hs ht fun i hi => ?_
    have ls := (tp_mem.mp hs).1
    have lt' := (tp_mem.mp ht).1
    have hx := List.getElem?_eq_getElem hi
    have k1 := lt _ (List.getElem_mem hi)
    have e1 : comb L s L[i].1 % (p : Int) = comb L t L[i].1 % (p : Int) := by
      rw [← dg s _ k1, ← dg t _ k1]
      exact congrArg (fun l => l.getD L[i].1 0) e
    have a := h.comb_at s i _ _ hx (List.getElem?_eq_getElem (show i < s.length by omega))
    have b := h.comb_at t i _ _ hx (List.getElem?_eq_getElem (show i < t.length by omega))
    rw [List.getD_eq_getElem?_getD, List.getD_eq_getElem?_getD, List.getElem?_eq_getElem (show i < s.length by omega), List.getElem?_eq_getElem (show i < t.length by omega)]
    exact (a.symm.trans e1).trans b
end Xp
end
section
set_option Elab.async false
set_option linter.all false
set_option maxHeartbeats 1000000
/-! what all rows of a family weigh to 0 -/
namespace Xp
def dt (n : Nat) (u v : Cf) : Int := sm n fun k => u k * v k
theorem dt_comm (n : Nat) (u v : Cf) : dt n u v = dt n v u := sm_congr fun k _ => Int.mul_comm _ _
theorem dt_ad (n : Nat) (a b v : Cf) : dt n (ad a b) v = dt n a v + dt n b v := by
  unfold dt
  rw [← sm_add]
  exact sm_congr fun k _ => Int.add_mul _ _ _
theorem dt_sc (n : Nat) (c : Int) (a v : Cf) : dt n (sc c a) v = c * dt n a v := by
  unfold dt
  rw [← sm_mul]
  exact sm_congr fun k _ => Int.mul_assoc _ _ _
theorem dt_eqm {p : Int} {n : Nat} {a a' : Cf} (h : Eqm p a a') (v : Cf) : dt n a v % p = dt n a' v % p := sm_mod (fun k => by
  rw [Int.mul_emod, h k, ← Int.mul_emod]) n
theorem dt_nul (n : Nat) (v : Cf) : dt n nul v = 0 := sm_zero fun k _ => Int.zero_mul _
/-- what is made of rows that weigh v to 0 does so too -/
theorem Sp.dt {p : Int} {A : Cf → Prop} {n : Nat} {v : Cf} (h : ∀ u, A u → dt n u v % p = 0) {u : Cf} (a : Sp p A u) : Xp.dt n u v % p = 0 := by
  induction a with
  | nul => rw [dt_nul]; exact Int.zero_emod p
  | @add u w c hu _ ih => rw [dt_ad, dt_sc, Int.add_emod, ih, Int.mul_emod, h u hu, Int.mul_zero, Int.zero_emod]; rfl
  | eqm _ e ih => rw [← dt_eqm e]; exact ih
theorem sm_at {i : Nat} {a : Int} : ∀ {n : Nat}, i < n → sm n (fun k => if k = i then a else 0) = a
  | 0, h => absurd h (Nat.not_lt_zero i)
  | n + 1, h => by
    show sm n _ + (if n = i then a else 0) = a
    by_cases e : n = i
    · rw [if_pos e, sm_zero fun k hk => if_neg (by omega)]
      omega
    · rw [if_neg e, sm_at (by omega)]
      omega
theorem sm_mod2 {p : Int} {f g : Nat → Int} {n : Nat} (h : ∀ k, k < n → f k % p = g k % p) : sm n f % p = sm n g % p := by
  rw [sm_congr (g := fun k => if k < n then f k else 0) (fun i hi => (if_pos hi).symm), sm_congr (f := g) (g := fun k => if k < n then g k else 0) (fun i hi => (if_pos hi).symm)]
  exact sm_mod (fun i => by
    by_cases hi : i < n
    · rw [if_pos hi, if_pos hi]
      exact h i hi
    · rw [if_neg hi, if_neg hi]) n
theorem sm_one {p : Int} {f : Nat → Int} {n i : Nat} (hi : i < n) (h : ∀ k, k < n → k ≠ i → f k % p = 0) : sm n f % p = f i % p := by
  rw [sm_mod2 (g := fun k => if k = i then f i else 0) fun k hk => ?_, sm_at hi]
  by_cases e : k = i
  · rw [if_pos e, e]
  · rw [if_neg e, h k hk e, Int.zero_emod]
theorem sm_two {p : Int} {f : Nat → Int} {n i j : Nat} (hi : i < n) (hj : j < n) (ne : i ≠ j) (h : ∀ k, k < n → k ≠ i → k ≠ j → f k % p = 0) : sm n f % p = (f i + f j) % p := by
  rw [sm_mod2 (g := fun k => (if k = i then f i else 0) + (if k = j then f j else 0)) fun k hk => ?_, sm_add, sm_at hi, sm_at hj]
  by_cases e : k = i
  · rw [if_pos e, if_neg (by omega), e, Int.add_zero]
  · rw [if_neg e]
    by_cases e2 : k = j
    · rw [if_pos e2, e2, Int.zero_add]
    · rw [if_neg e2, h k hk e e2, Int.add_zero, Int.zero_emod]
theorem Uni.lsum_at {p : Int} (v : Cf) : ∀ {L : List (Nat × Cf)}, Uni p L → ∀ x ∈ L, lsum L v x.1 % p = v x.1 % p
  | [], _, x, hx => by cases hx
  | y :: L, h, x, hx => by
    show (v y.1 * y.2 x.1 + lsum L v x.1) % p = _
    rcases List.mem_cons.mp hx with rfl | hx
    · rw [Int.add_emod, Xp.lsum_at L fun z hz => by rw [Int.mul_emod, h.own x List.mem_cons_self z (List.mem_cons_of_mem _ hz) (h.nin z hz), Int.mul_zero, Int.zero_emod], Int.mul_emod, h.one x List.mem_cons_self, ← Int.mul_emod, Int.mul_one, Int.add_zero, Int.emod_emod]
    · rw [Int.add_emod, h.tail.lsum_at v x hx, Int.mul_emod, h.own x (List.mem_cons_of_mem _ hx) y List.mem_cons_self (fun e => h.nin x hx e.symm), Int.mul_zero, Int.zero_emod, Int.zero_add, Int.emod_emod]
/-- the told row of the free place c -/
structure Bas (p : Int) (L : List (Nat × Cf)) (c : Nat) (b : Cf) : Prop where
  one : b c % p = 1 % p
  at_ : ∀ x ∈ L, b x.1 % p = (-(x.2 c)) % p
  els : ∀ k, k ≠ c → k ∉ L.map (·.1) → b k % p = 0
theorem Bas.ker {p : Int} {n c : Nat} {L : List (Nat × Cf)} {b : Cf} (h : Uni p L) (B : Bas p L c b) (hc : c < n) (cn : c ∉ L.map (·.1)) (lt : ∀ x ∈ L, x.1 < n) : ∀ x ∈ L, dt n x.2 b % p = 0 := fun x hx => by
  have ne : c ≠ x.1 := fun e => cn (List.mem_map.mpr ⟨x, hx, e.symm⟩)
  unfold dt
  rw [sm_two hc (lt x hx) ne fun k _ k1 k2 => ?_]
  · have e1 : (x.2 c * b c) % p = (x.2 c) % p := by rw [Int.mul_emod, B.one, ← Int.mul_emod, Int.mul_one]
    have e2 : (x.2 x.1 * b x.1) % p = (-(x.2 c)) % p := by rw [Int.mul_emod, h.one x hx, B.at_ x hx, ← Int.mul_emod, Int.one_mul]
    rw [Int.add_emod, e1, e2, ← Int.add_emod, Int.add_right_neg, Int.zero_emod]
  · by_cases hs : k ∈ L.map (·.1)
    · obtain ⟨y, hy, rfl⟩ := List.mem_map.mp hs
      rw [Int.mul_emod, h.own y hy x hx k2, Int.zero_mul, Int.zero_emod]
    · rw [Int.mul_emod, B.els k k1 hs, Int.mul_zero, Int.zero_emod]
/-- the told rows, one for each free place -/
structure Free (p : Int) (n : Nat) (L B : List (Nat × Cf)) : Prop where
  bas : ∀ y ∈ B, Bas p L y.1 y.2
  lt : ∀ y ∈ B, y.1 < n
  nin : ∀ y ∈ B, y.1 ∉ L.map (·.1)
  all : ∀ c, c < n → c ∉ L.map (·.1) → c ∈ B.map (·.1)
  nd : (B.map (·.1)).Nodup
theorem Free.uni {p : Int} {n : Nat} {L B : List (Nat × Cf)} (F : Free p n L B) : Uni p B := ⟨fun y hy => (F.bas y hy).one, fun x hx y hy ne => (F.bas y hy).els x.1 ne (F.nin x hx), F.nd⟩
theorem Free.out {p : Int} {n : Nat} {L B : List (Nat × Cf)} (F : Free p n L B) (lt : ∀ x ∈ L, x.1 < n) : ∀ y ∈ B, ∀ k, n ≤ k → y.2 k % p = 0 := fun y hy k hk => (F.bas y hy).els k (fun e => by have := F.lt y hy; omega) fun m => by
  obtain ⟨x, hx, rfl⟩ := List.mem_map.mp m
  have := lt x hx
  omega
/-- what they span is what the family weighs to 0 -/
theorem Free.iff {p : Int} {n : Nat} {L B : List (Nat × Cf)} (h : Uni p L) (lt : ∀ x ∈ L, x.1 < n) (F : Free p n L B) {v : Cf} (out : ∀ k, n ≤ k → v k % p = 0) : Sp p (rows B) v ↔ ∀ x ∈ L, dt n x.2 v % p = 0 := by
  have one : ∀ x ∈ L, ∀ u, rows B u → dt n u x.2 % p = 0 := fun x hx u ⟨y, hy, e⟩ => by
    rw [← e, dt_comm]
    exact (F.bas y hy).ker h (F.lt y hy) (F.nin y hy) lt x hx
  constructor
  · intro a x hx
    rw [dt_comm]
    exact a.dt (one x hx)
  · intro k
    have ls : Sp p (rows B) (lsum B v) := lsum_sp v B
    refine ls.eqm fun j => ?_
    have diff : ∀ j, (v j - lsum B v j) % p = 0 → lsum B v j % p = v j % p := fun j e => by
      have := Int.emod_emod_of_dvd (v j) (Int.dvd_refl p)
      exact ((Int.emod_emod_of_dvd _ (Int.dvd_refl p)).symm.trans (Int.emod_emod_of_dvd _ (Int.dvd_refl p))).trans ((Int.emod_eq_emod_iff_emod_sub_eq_zero).mpr e).symm
    have fr : ∀ c, c < n → c ∉ L.map (·.1) → lsum B v c % p = v c % p := fun c hc cn => by
      obtain ⟨y, hy, rfl⟩ := List.mem_map.mp (F.all c hc cn)
      exact F.uni.lsum_at v y hy
    by_cases hj : j < n
    · by_cases hs : j ∈ L.map (·.1)
      · obtain ⟨x, hx, rfl⟩ := List.mem_map.mp hs
        have e1 : dt n x.2 (ad v (sc (-1) (lsum B v))) % p = 0 := by
          rw [dt_comm, dt_ad, dt_sc, Int.add_emod, dt_comm n v, k x hx, Int.mul_emod, ls.dt (one x hx), Int.mul_zero, Int.zero_emod]
          rfl
        unfold dt at e1
        rw [sm_one (lt x hx) fun i hi ne => ?_] at e1
        · have e2 : (x.2 x.1 * (v x.1 + -1 * lsum B v x.1)) % p = (v x.1 + -1 * lsum B v x.1) % p := by rw [Int.mul_emod, h.one x hx, ← Int.mul_emod, Int.one_mul]
          refine diff _ ?_
          rw [show v x.1 - lsum B v x.1 = v x.1 + -1 * lsum B v x.1 by omega, ← e2]
          exact e1
        · show (x.2 i * (v i + -1 * lsum B v i)) % p = 0
          by_cases hi2 : i ∈ L.map (·.1)
          · obtain ⟨y, hy, rfl⟩ := List.mem_map.mp hi2
            rw [Int.mul_emod, h.own y hy x hx ne, Int.zero_mul, Int.zero_emod]
          · have z := fr i hi hi2
            have z2 : (v i + -1 * lsum B v i) % p = 0 := by
              rw [show v i + -1 * lsum B v i = v i - lsum B v i by omega]
              exact (Int.emod_eq_emod_iff_emod_sub_eq_zero).mp z.symm
            rw [Int.mul_emod, z2, Int.mul_zero, Int.zero_emod]
      · exact fr j hj hs
    · rw [out j (by omega)]
      exact ls.zero fun u ⟨y, hy, e⟩ => e ▸ F.out lt y hy j (by omega)
/-- as many as the width less the family -/
theorem Free.len {p : Int} {n : Nat} {L B : List (Nat × Cf)} (h : Uni p L) (lt : ∀ x ∈ L, x.1 < n) (F : Free p n L B) : B.length + L.length = n := by
  have a := nodup_len (a := B.map (·.1) ++ L.map (·.1)) (b := List.range n) (List.nodup_append.mpr ⟨F.nd, h.nd, fun s hs t ht e => by
    obtain ⟨y, hy, rfl⟩ := List.mem_map.mp hs
    exact F.nin y hy (e ▸ ht)⟩) fun s hs => by
      rcases List.mem_append.mp hs with hs | hs
      · obtain ⟨y, hy, rfl⟩ := List.mem_map.mp hs
        exact List.mem_range.mpr (F.lt y hy)
      · obtain ⟨y, hy, rfl⟩ := List.mem_map.mp hs
        exact List.mem_range.mpr (lt y hy)
  have b := nodup_len (a := List.range n) (b := B.map (·.1) ++ L.map (·.1)) List.nodup_range fun s hs => by
    have hs := List.mem_range.mp hs
    by_cases q : s ∈ L.map (·.1)
    · exact List.mem_append_right _ q
    · exact List.mem_append_left _ (F.all s hs q)
  rw [List.length_append, List.length_map, List.length_map, List.length_range] at a b
  omega
end Xp
namespace Xp
open Classical in
/-- two such families that span the same have the same number of rows -/
theorem Uni.same_len {p n : Nat} (hp : 2 ≤ p) {U B : List (Nat × Cf)} (u : Uni (p : Int) U) (b : Uni (p : Int) B) (lu : ∀ x ∈ U, x.1 < n) (ou : ∀ x ∈ U, ∀ k, n ≤ k → x.2 k % (p : Int) = 0) (lb : ∀ x ∈ B, x.1 < n) (ob : ∀ x ∈ B, ∀ k, n ≤ k → x.2 k % (p : Int) = 0)
    (e : ∀ v, Sp (p : Int) (rows U) v ↔ Sp (p : Int) (rows B) v) : U.length = B.length := by
  have a := u.count (by omega) lu ou (P := fun t => decide (Sp (p : Int) (rows U) (cof t))) (fun t _ => decide_eq_true_iff)
  have c := b.count (by omega) lb ob (P := fun t => decide (Sp (p : Int) (rows U) (cof t))) (fun t _ => decide_eq_true_iff.trans (e _))
  exact pow_inj hp (a.symm.trans c)
end Xp
end
section
set_option Elab.async false
set_option linter.all false
set_option maxHeartbeats 1000000
/-! what the told rows of the free places weigh to 0 is spanned by the family -/
namespace Xp
theorem Free.dual {p : Int} {n : Nat} {L B : List (Nat × Cf)} (h : Uni p L) (lt : ∀ x ∈ L, x.1 < n) (ol : ∀ x ∈ L, ∀ k, n ≤ k → x.2 k % p = 0) (F : Free p n L B) {v : Cf} (out : ∀ k, n ≤ k → v k % p = 0) : Sp p (rows L) v ↔ ∀ y ∈ B, dt n y.2 v % p = 0 := by
  have one : ∀ y ∈ B, ∀ u, rows L u → dt n u y.2 % p = 0 := fun y hy u ⟨x, hx, e⟩ => by
    rw [← e]
    exact (F.bas y hy).ker h (F.lt y hy) (F.nin y hy) lt x hx
  constructor
  · intro a y hy
    rw [dt_comm]
    exact a.dt (one y hy)
  · intro k
    have ls : Sp p (rows L) (lsum L v) := lsum_sp v L
    refine ls.eqm fun j => ?_
    have diff : ∀ j, (v j - lsum L v j) % p = 0 → lsum L v j % p = v j % p := fun j e => by
      exact ((Int.emod_eq_emod_iff_emod_sub_eq_zero).mpr e).symm
    have sp : ∀ x ∈ L, lsum L v x.1 % p = v x.1 % p := fun x hx => h.lsum_at v x hx
    by_cases hj : j < n
    · by_cases hs : j ∈ L.map (·.1)
      · obtain ⟨x, hx, rfl⟩ := List.mem_map.mp hs
        exact sp x hx
      · obtain ⟨y, hy, rfl⟩ := List.mem_map.mp (F.all j hj hs)
        have e1 : dt n y.2 (ad v (sc (-1) (lsum L v))) % p = 0 := by
          rw [dt_comm, dt_ad, dt_sc, Int.add_emod, dt_comm n v, k y hy, Int.mul_emod, ls.dt (one y hy), Int.mul_zero, Int.zero_emod]
          rfl
        unfold dt at e1
        rw [sm_one hj fun i hi ne => ?_] at e1
        · have e2 : (y.2 y.1 * (v y.1 + -1 * lsum L v y.1)) % p = (v y.1 + -1 * lsum L v y.1) % p := by rw [Int.mul_emod, (F.bas y hy).one, ← Int.mul_emod, Int.one_mul]
          refine diff _ ?_
          rw [show v y.1 - lsum L v y.1 = v y.1 + -1 * lsum L v y.1 by omega, ← e2]
          exact e1
        · show (y.2 i * (v i + -1 * lsum L v i)) % p = 0
          by_cases hi2 : i ∈ L.map (·.1)
          · obtain ⟨x, hx, rfl⟩ := List.mem_map.mp hi2
            have z2 : (v x.1 + -1 * lsum L v x.1) % p = 0 := by
              rw [show v x.1 + -1 * lsum L v x.1 = v x.1 - lsum L v x.1 by omega]
              exact (Int.emod_eq_emod_iff_emod_sub_eq_zero).mp (sp x hx).symm
            rw [Int.mul_emod, z2, Int.mul_zero, Int.zero_emod]
          · rw [Int.mul_emod, (F.bas y hy).els i ne hi2, Int.zero_mul, Int.zero_emod]
    · rw [out j (by omega)]
      exact ls.zero fun u ⟨x, hx, e⟩ => e ▸ ol x hx j (by omega)
end Xp
end
section
set_option Elab.async false
set_option linter.all false
set_option maxRecDepth 100000
set_option maxHeartbeats 4000000
namespace Xk
open PySem PySem.Spec PyProof.Rows L2 Xh LamX NdefX
/-! ### the first place that isn't nought; the row that is 1 at one place -/
def spHead (K : PySem.W.Frag) : Sp := fun vs H Q _ => ∃ (a : Addr) (r : List Int) (s : Nat), vs = [.ref a] ∧ SqT K H a (r.map V.int) ∧ s < r.length ∧ r.length ≤ 50 ∧ r.getD s 0 ≠ 0 ∧ (∀ k, k < s → r.getD k 0 = 0) ∧ Q (.int (s : Nat)) H
def unitL (c n : Nat) : List Int := List.replicate c 0 ++ [1] ++ List.replicate (n - c - 1) 0
def spUnit (K : PySem.W.Frag) : Sp := fun vs H Q _ => ∃ c n : Nat, vs = [.int c, .int n] ∧ c < n ∧ n ≤ 50 ∧ ∀ (a : Addr) (H' : Hp), Same H H' → SqT K H' a ((unitL c n).map V.int) → Q (.ref a) H'
section
variable {P : Program} {w : World} {K : PySem.W.Frag} {mg : Str → Option Value} {base : Heap}
theorem sc_head_place : FnScope (["row", "place"] : List Str) ["row"] (defScope s_head_place) := ⟨rfl, rfl, rfl, by decide +kernel, rfl, by decide +kernel, by decide +kernel⟩
theorem ok_head_place {f : Addr} {fd : FuncData} (F : FunD K "head_place" "head_place" (defArgs s_head_place) (defBody s_head_place) (defScope s_head_place) [] [] f fd) (T : Fre mg) : FnOk P w K mg base CX0 1 f fd ["row"] (spHead K) := by
  refine F.ok sc_head_place (fun vs H Q E h => ?_) (fun cdv A outer s H vs Q E hr h => ?_)
  · obtain ⟨a, r, s, rfl, _⟩ := h
    rfl
  · obtain ⟨a, r, t, rfl, hS, ht, hl, h1, h0, k⟩ := h
    refine ⟨_, PSs.nox (pss_cons (ps_set (i := 1) sc_head_place.nd rfl (Or.inl rfl) pe_int)
      (pss_cons (ps_while PassesOwn.never (pt_cmpR op_eq (pe_ix ix_tup (pv 0) (pv 1) (fun _ _ => rfl)) pe_int (nomark _)) (pss_one (ps_aug (i := 1) sc_head_place.nd rfl (Or.inl rfl) pe_int ip_add)))
      (pss_one (ps_ret (pv 1))))) , ?_⟩
    refine while_by (fun σ' H' => ∃ n : Nat, σ' = [some (.ref a), some (.int n)] ∧ H' = H ∧ n ≤ t) (fun σ' _ => t - slotN 1 σ') ⟨0, rfl, rfl, Nat.zero_le _⟩ ?_ ?_
    · rintro σ' H' ⟨n, rfl, rfl, hn⟩
      refine ⟨_, rfl, _, rfl, a, _, _, .int (r.getD n 0), rfl, rfl, hS, atI_map (by omega), rfl, _, rfl, ite2 (fun hb => ?_) (fun hb => ?_)⟩
      · have z := V.int.inj (of_decide_eq_true hb)
        have lt : n < t := by
          rcases Nat.lt_or_ge n t with q | q
          · exact q
          · rw [show n = t by omega] at z
            exact absurd z h1
        refine ⟨_, rfl, _, _, rfl, rfl, ⟨n + 1, rfl, rfl, by omega⟩, ?_⟩
        show t - ((n : Int) + 1).toNat < t - (n : Int).toNat
        omega
      · have e : n = t := by
          rcases Nat.lt_or_ge n t with q | q
          · exact absurd (decide_eq_true (by rw [h0 n q])) hb
          · omega
        subst e
        exact ⟨_, rfl, k⟩
    · rintro σ H Q Q' m ⟨x, e1, y, e2, p1, p2, p3, p4, e5, e6, e7, e8, e9, b2, e10, q⟩
      exact ⟨x, e1, y, e2, p1, p2, p3, p4, e5, e6, e7, e8, e9, b2, e10, m _ _ q⟩
theorem sc_unit_row : FnScope (["place", "width"] : List Str) ["place", "width"] (defScope s_unit_row) := ⟨rfl, rfl, rfl, by decide +kernel, rfl, by decide +kernel, by decide +kernel⟩
theorem ok_unit_row {f : Addr} {fd : FuncData} (F : FunD K "unit_row" "unit_row" (defArgs s_unit_row) (defBody s_unit_row) (defScope s_unit_row) [] [] f fd) (T : Fre mg) : FnOk P w K mg base CX0 1 f fd ["place", "width"] (spUnit K) := by
  refine F.ok sc_unit_row (fun vs H Q E h => ?_) (fun cdv A outer s H vs Q E hr h => ?_)
  · obtain ⟨c, n, rfl, _⟩ := h
    rfl
  · obtain ⟨c, n, rfl, hc, hn, k⟩ := h
    refine ⟨_, PSs.nox (pss_one (ps_ret (pe_op op_catA (pe_op op_catA (pe_op op_repZ (pe_tup (pa_cons pe_int pa_nil)) (pv 0)) (pe_tup (pa_cons pe_int pa_nil))) (pe_op op_repZ (pe_tup (pa_cons pe_int pa_nil)) (pe_op op_sub (pe_op op_sub (pv 1) (pv 0)) pe_int))))) , ?_⟩
    refine ⟨(by show 1 ≤ sizeLine; decide), fun Z hZ => ⟨_, rfl, repZ0 (SqT.of upd_same) (by omega) (by omega) fun r1 H1 s1 e1 => ⟨(by show 1 ≤ sizeLine; decide), fun O hO => ?_⟩⟩⟩
    rw [Int.toNat_natCast] at e1
    have sO := same_upd (o := .tup [.int 1]) hO
    refine catA (ys := [1]) (sameT sO e1) (SqT.of upd_same) (by rw [List.length_replicate]; omega) (by decide) fun r2 H2 s2 e2 => ?_
    refine ⟨(by show 1 ≤ sizeLine; decide), fun Z2 hZ2 => ⟨_, rfl, _, rfl, _, _, rfl, rfl, _, _, rfl, rfl, repZ0 (SqT.of upd_same) (by omega) (by omega) fun r3 H3 s3 e3 => ?_⟩⟩
    have sZ2 := same_upd (o := .tup [.int 0]) hZ2
    rw [show ((n : Int) - (c : Int) - 1).toNat = n - c - 1 by omega] at e3
    refine catA (sameT (sZ2.trans s3) e2) e3 ?_ ?_ fun r4 H4 s4 e4 => k r4 H4 ((((same_upd hZ).trans s1).trans (sO.trans s2)).trans ((sZ2.trans s3).trans s4)) e4
    · rw [List.length_append, List.length_replicate]
      show c + 1 ≤ 100
      omega
    · rw [List.length_replicate]
      omega
end
end Xk
end
section
set_option Elab.async false
set_option linter.all false
set_option maxRecDepth 100000
set_option maxHeartbeats 4000000
namespace Xk
open PySem PySem.Spec PyProof.Rows L2 Xh LamX NdefX
/-! ### a dict of places and rows -/
theorem dc_it {J : It} {n : Nat} {G : Hp → Prop} {Y : Nat → Hp → V → Hp → Prop} (w : Walk J n G Y) {g : TG} {tt : TT} {tk tv : TE} {vs : List Nat} {σ : L2.St} {H1 : Hp} {D : Addr} {Qd : Hp → Prop} (Pv : Nat → Hp → Prop) (h0 : Pv 0 (L2.upd H1 D (.dK []))) (hG : ∀ i H, i ≤ n → Pv i H → G H)
    (hs : ∀ i x H H', i < n → Pv i H → Y i H x H' → g x (wipe σ vs) H' fun σ2 H2 => wipe σ2 vs = wipe σ vs ∧ tt σ2 H2 fun b H3 =>
      if b = true then tk σ2 H3 fun y H4 => tv σ2 H4 fun z H5 => ∃ kvs k, y = kV k ∧ H5 D = some (.dK kvs) ∧ kvs.length < sizeLine ∧ Pv (i + 1) (L2.upd H5 D (.dK (putK kvs k z))) else Pv (i + 1) H3) (hd : ∀ H, Pv n H → Qd H) :
    ∃ W : Nat → Nat → Hp → Prop, (∃ m, W 0 m (L2.upd H1 D (.dK []))) ∧ ∀ i m H, W i m H →
      (J.stop i H ∧ Qd H) ∨ (J.go i H ∧ ∃ Nx : Hp → Prop, (∀ H', Nx H' → ∃ m', m' < m ∧ W (i + 1) m' H') ∧ ∀ x H', J.yld i H x H' → g x (wipe σ vs) H' fun σ2 H2 => wipe σ2 vs = wipe σ vs ∧ tt σ2 H2 fun b H3 =>
        if b = true then tk σ2 H3 fun y H4 => tv σ2 H4 fun z H5 => ∃ kvs k, y = kV k ∧ H5 D = some (.dK kvs) ∧ kvs.length < sizeLine ∧ Nx (L2.upd H5 D (.dK (putK kvs k z))) else Nx H3) := by
  refine ⟨fun i m H => m = n - i ∧ i ≤ n ∧ Pv i H, ⟨n, rfl, Nat.zero_le _, h0⟩, ?_⟩
  rintro i m H ⟨rfl, hi, pv⟩
  have q := hG i H hi pv
  by_cases lt : i < n
  · exact .inr ⟨w.1 i H lt q, Pv (i + 1), fun H' p' => ⟨n - (i + 1), by omega, rfl, lt, p'⟩, fun x H' y => hs i x H H' lt pv (w.3 i H x H' lt q y)⟩
  · have e : i = n := by omega
    subst e
    exact .inl ⟨w.2 H q, hd H pv⟩
def kvs (sp : List Nat) (la : List Addr) : List (Key × V) := (sp.zip la).map fun x => (.inl ((x.1 : Nat) : Int), .ref x.2)
theorem kvs_len {sp : List Nat} {la : List Addr} (h : sp.length = la.length) : (kvs sp la).length = sp.length := by
  unfold kvs
  rw [List.length_map, List.length_zip]
  omega
theorem kvs_snoc {sp : List Nat} {la : List Addr} (h : sp.length = la.length) (s : Nat) (l : Addr) : kvs (sp ++ [s]) (la ++ [l]) = kvs sp la ++ [(.inl ((s : Nat) : Int), .ref l)] := by
  unfold kvs
  rw [List.zip_append h, List.map_append]
  rfl
theorem kvs_find {c : Nat} : ∀ {sp : List Nat} {la : List Addr}, sp.length = la.length → (valV (kvs sp la) (.inl ((c : Nat) : Int))).isSome = decide (c ∈ sp)
  | [], [], _ => rfl
  | s :: sp, l :: la, h => by
    have ih := kvs_find (c := c) (sp := sp) (la := la) (Nat.succ.inj h)
    show (valV ((.inl ((s : Nat) : Int), .ref l) :: kvs sp la) _).isSome = _
    by_cases e : s = c
    · subst e
      rw [valV_pos rfl, decide_eq_true (List.mem_cons_self)]
      rfl
    · rw [valV_neg (fun z => e (by injection z with z; omega)), ih]
      refine decide_eq_decide.mpr ⟨fun m => List.mem_cons_of_mem _ m, fun m => ?_⟩
      rcases List.mem_cons.mp m with z | m
      · exact absurd z.symm e
      · exact m
  | [], _ :: _, h => by cases h
  | _ :: _, [], h => by cases h
theorem kvs_put {sp : List Nat} {la : List Addr} (h : sp.length = la.length) {s : Nat} (n : s ∉ sp) (l : Addr) : putK (kvs sp la) (.inl ((s : Nat) : Int)) (.ref l) = kvs (sp ++ [s]) (la ++ [l]) := by
  rw [kvs_snoc h]
  unfold putK
  rw [if_neg]
  intro z
  obtain ⟨x, hx, e⟩ := List.any_eq_true.mp z
  unfold kvs at hx
  obtain ⟨y, hy, rfl⟩ := List.mem_map.mp hx
  have e : (Sum.inl ((y.1 : Nat) : Int) : Key) = .inl ((s : Nat) : Int) := of_decide_eq_true e
  injection e with e
  have e2 : y.1 = s := by omega
  exact n (e2 ▸ (List.of_mem_zip hy).1)
theorem kvs_at {sp : List Nat} {la : List Addr} {i s : Nat} {l : Addr} (h1 : sp[i]? = some s) (h2 : la[i]? = some l) : (kvs sp la)[i]? = some (.inl ((s : Nat) : Int), .ref l) := by
  unfold kvs
  have z : (sp.zip la)[i]? = some (s, l) := List.getElem?_zip_eq_some.mpr ⟨h1, h2⟩
  rw [List.getElem?_map, z]
  rfl
end Xk
end
section
set_option Elab.async false
set_option linter.all false
set_option maxRecDepth 100000
set_option maxHeartbeats 4000000
namespace Xk
open PySem PySem.Spec PyProof.Rows L2 Xh LamX NdefX
theorem unitL_len {c n : Nat} (h : c < n) : (unitL c n).length = n := by
  unfold unitL
  rw [List.length_append, List.length_append, List.length_replicate, List.length_replicate]
  show c + 1 + (n - c - 1) = n
  omega
theorem unitL_at (c n k : Nat) : (unitL c n).getD k 0 = if k = c then 1 else 0 := by
  unfold unitL
  rw [List.append_assoc, List.getD_eq_getElem?_getD, List.getElem?_append]
  by_cases h : k < c
  · rw [if_pos (by rw [List.length_replicate]; exact h), ← List.getD_eq_getElem?_getD, getD_rep, if_neg (by omega)]
  · rw [if_neg (by rw [List.length_replicate]; exact h), List.length_replicate]
    by_cases e : k = c
    · rw [e, Nat.sub_self, if_pos rfl]
      rfl
    · rw [if_neg e]
      obtain ⟨m, hm⟩ : ∃ m, k - c = m + 1 := ⟨k - c - 1, by omega⟩
      rw [hm]
      show ((List.replicate (n - c - 1) (0 : Int))[m]?).getD 0 = 0
      rw [← List.getD_eq_getElem?_getD]
      exact getD_rep _ _
/-- the told rows of the free places below c -/
structure FreeT (p : Int) (sp : List Nat) (ts : List (List Int)) (c : Nat) (cs : List Nat) (bs : List (List Int)) : Prop where
  len : cs.length = bs.length
  lt : ∀ y ∈ cs, y < c
  nin : ∀ y ∈ cs, y ∉ sp
  all : ∀ y, y < c → y ∉ sp → y ∈ cs
  nd : cs.Nodup
  bas : ∀ (i y : Nat) (b : List Int), cs[i]? = some y → bs[i]? = some b → Xp.Bas p (fam sp ts) y (co b)
theorem FreeT.init (p : Int) (sp : List Nat) (ts : List (List Int)) : FreeT p sp ts 0 [] [] := ⟨rfl, fun _ h => (nomatch h), fun _ h => (nomatch h), fun y h => absurd h (Nat.not_lt_zero y), List.nodup_nil, fun _ _ _ h => by cases h⟩
theorem FreeT.skip {p : Int} {sp : List Nat} {ts : List (List Int)} {c : Nat} {cs : List Nat} {bs : List (List Int)} (F : FreeT p sp ts c cs bs) (h : c ∈ sp) : FreeT p sp ts (c + 1) cs bs := ⟨F.len, fun y hy => Nat.lt_succ_of_lt (F.lt y hy), F.nin, fun y hy n => (Nat.lt_or_ge y c).elim (fun q => F.all y q n) (fun q => absurd ((show y = c by omega) ▸ h) n), F.nd, F.bas⟩
theorem FreeT.step {p : Int} {sp : List Nat} {ts : List (List Int)} {c : Nat} {cs : List Nat} {bs : List (List Int)} {b : List Int} (F : FreeT p sp ts c cs bs) (h : c ∉ sp) (B : Xp.Bas p (fam sp ts) c (co b)) : FreeT p sp ts (c + 1) (cs ++ [c]) (bs ++ [b]) := by
  refine ⟨by rw [List.length_append, List.length_append, F.len]; rfl, fun y hy => ?_, fun y hy => ?_, fun y hy n => ?_, ?_, fun i y b' h1 h2 => ?_⟩
  · rcases List.mem_append.mp hy with hy | hy
    · exact Nat.lt_succ_of_lt (F.lt y hy)
    · rw [List.mem_singleton.mp hy]
      exact Nat.lt_succ_self c
  · rcases List.mem_append.mp hy with hy | hy
    · exact F.nin y hy
    · rw [List.mem_singleton.mp hy]
      exact h
  · rcases Nat.lt_or_ge y c with q | q
    · exact List.mem_append_left _ (F.all y q n)
    · exact List.mem_append_right _ (List.mem_singleton.mpr (by omega))
  · exact List.nodup_append.mpr ⟨F.nd, by simp, fun a ha b hb e => by
      have := F.lt a ha
      rw [e, List.mem_singleton.mp hb] at this
      exact absurd this (Nat.lt_irrefl c)⟩
  · by_cases hi : i < cs.length
    · rw [List.getElem?_append_left hi] at h1
      rw [List.getElem?_append_left (by rw [← F.len]; exact hi)] at h2
      exact F.bas i y b' h1 h2
    · have e : i = cs.length := by
        have := (List.getElem?_eq_some_iff.mp h1).1
        rw [List.length_append] at this
        have : i < cs.length + 1 := this
        omega
      subst e
      rw [List.getElem?_append_right (Nat.le_refl _), Nat.sub_self] at h1
      rw [F.len, List.getElem?_append_right (Nat.le_refl _), Nat.sub_self] at h2
      cases h1
      cases h2
      exact B
def spKer (T : List (Addr × Str)) : Sp := fun vs H Q _ => ∃ (R : Addr) (la : List Addr) (rs : List (List Int)) (n : Nat) (p : Int), vs = [.ref R, .int n, .int p] ∧ H R = some (.lst (la.map V.ref)) ∧ Rws H la rs ∧ (∀ r ∈ rs, Rw p n r) ∧ rs.length ≤ 24 ∧ 1 ≤ n ∧ n ≤ 24 ∧ p ∈ primes ∧ Tabs T H ∧
  ∀ (D : Addr) (ds : List Addr) (sp sq : List Nat) (ts us bs : List (List Int)) (H' : Hp), Gr T H H' → H D = none → H' D = some (.lst (ds.map V.ref)) → Rws H' ds us → Form p n rs sp ts → Form p n bs sq us → (∃ cs, FreeT p sp ts n cs bs) → (∀ r ∈ bs, Rw p n r) → Q (.ref D) H'
section
variable {P : Program} {w : World} {K : PySem.W.Frag} {mg : Str → Option Value} {base : Heap}
theorem sc_raw_kernel : FnScope (["rows", "width", "prime", "heads", "row", "basis", "free", "told", "place"] : List Str) ["rows", "width", "prime"] (defScope s_raw_kernel) := ⟨rfl, rfl, rfl, by decide +kernel, rfl, by decide +kernel, by decide +kernel⟩
theorem ok_raw_kernel {TT : List (Addr × Str)} {f : Addr} {fd : FuncData} (F : FunD K "raw_kernel" "raw_kernel" (defArgs s_raw_kernel) (defBody s_raw_kernel) (defScope s_raw_kernel) [] [] f fd) (T : Fre mg) (o_raw_stepped : Own P w K mg base CX0 4 "raw_stepped" ["rows", "width", "prime"] [] (spStepW TT)) (o_head_place : Own P w K mg base CX0 1 "head_place" ["row"] [] (spHead K)) (o_unit_row : Own P w K mg base CX0 1 "unit_row" ["place", "width"] [] (spUnit K)) : FnOk P w K mg base CX0 5 f fd ["rows", "width", "prime"] (spKer TT) := by
  refine F.ok sc_raw_kernel (fun vs H Q E h => ?_) (fun cdv A outer s H vs Q E hr h => ?_)
  · obtain ⟨R, la, rs, n, p, rfl, _⟩ := h
    rfl
  · obtain ⟨R, la, rs, n, p, rfl, eR, hR, hrw, lrs, n1, n24, hp, hT, k⟩ := h
    refine ⟨_, PSs.nox (pss_cons (ps_setDc (i := 3) (own := [("row", 4)]) rfl sc_raw_kernel.nd rfl rfl (sw_trueD rfl rfl rfl (by decide +kernel)) (pi_list (pe_own o_raw_stepped (hr.mono (by decide)) rfl pass0 (pa_cons (pv 0) (pa_cons (pv 1) (pa_cons (pv 2) pa_nil))))) (blkOk_by (own := [("row", 4)]) (N := ["rows", "width", "prime", "heads", "row", "basis", "free", "told", "place"]) (sc := defScope s_raw_kernel) (by decide +kernel)) (fun _ _ _ _ _ => pg_name (i := 4) sc_raw_kernel.nd rfl (Or.inl rfl) (Or.inr rfl)) (fun _ _ _ _ _ => pts_nil) (fun _ _ _ _ _ => (pe_own o_head_place (hr.mono (by decide)) rfl pass0 (pa_cons (pv 4) pa_nil))) (fun _ _ _ _ _ => (pv 4)))
      (pss_cons (ps_set (i := 5) sc_raw_kernel.nd rfl (Or.inl rfl) (pe_lst pa_nil))
      (pss_cons (ps_for PassesOwn.never rfl (pi_range1 (by rfl) T.f_range (pa_cons (pv 1) pa_nil)) (pg_name (i := 6) sc_raw_kernel.nd rfl (Or.inl rfl)) (pss_one (ps_if (pt_cmp (pc_dnotin (Nat.lt_of_le_of_lt (Nat.add_le_add_left (by decide) _) hr.units) (pv 6) (pv 3))) (pss_cons (ps_set (i := 7) sc_raw_kernel.nd rfl (Or.inl rfl) (pe_callTy call_list_of (by rfl) T.f_list (by decide +kernel) (pa_cons (pe_own o_unit_row (hr.mono (by decide)) rfl pass0 (pa_cons (pv 6) (pa_cons (pv 1) pa_nil))) pa_nil)))
      (pss_cons (ps_lock (ps_for PassesOwn.never rfl (pi_items (pv 3)) (pg_tup rfl (pgs_cons (pg_name (i := 8) sc_raw_kernel.nd rfl (Or.inl rfl)) (pgs_cons (pg_name (i := 4) sc_raw_kernel.nd rfl (Or.inl rfl)) pgs_nil))) (pss_one (ps_asg (pe_op op_modN (pe_un un_neg (pe_ix ix_tup (pv 4) (pv 6) (fun _ _ => rfl))) (pv 2)) (pg_sub (pv 7) (pv 8) set_list)))))
      (pss_one (ps_expr (pe_bm PySem.F.plainAttrs_list PySem.F.slot_list_append PySem.F.type_list_append mt_append (pv 5) (pa_cons (pe_callTy call_tuple_of (by rfl) T.f_tuple (by decide +kernel) (pa_cons (pv 7) pa_nil)) pa_nil)))))) pss_nil)))
      (pss_one (ps_ret (pe_own o_raw_stepped (hr.mono (by decide)) rfl pass0 (pa_cons (pv 5) (pa_cons (pv 1) (pa_cons (pv 2) pa_nil))))))))) , ?_⟩
    have hpm := pm_of hp
    have lo := hpm.lo
    have hi := hpm.hi
    have nz : p ≠ 0 := by omega
    refine ⟨_, rfl, _, rfl, _, rfl, R, la, rs, n, n, p, rfl, eR, hR, hrw, lrs, n1, Nat.le_refl n, by omega, n24, hp, hT, fun L ll sp _ ts H1 g1 nL eL hL S => ?_⟩
    have F := S.form
    have lll := hL.len
    have lts := F.fm.len_le
    have lsp := F.len
    refine ⟨L, rfl, ⟨_, SqL.of eL⟩, fun D hD => ?_⟩
    refine dc_it (walk_list (xs := ll.map V.ref)) (fun i H' => Same H1 H' ∧ H1 D = none ∧ H' D = some (.dK (kvs (sp.take i) (ll.take i)))) ⟨same_upd hD, hD, upd_same⟩ (fun i H' _ h => SqL.of (h.1 _ _ eL)) ?_ ?_
    · rintro i x H2 H3 hi2 ⟨s2, n2, e2⟩ ⟨rfl, hx⟩
      rw [List.length_map] at hi2
      obtain ⟨l, r, rfl, hr, er⟩ := (hL.keep (kpS s2)).at hx
      obtain ⟨t, ht⟩ : ∃ t, sp[i]? = some t := ⟨_, List.getElem?_eq_getElem (show i < sp.length by omega)⟩
      have hl2 : ll[i]? = some l := by
        rw [List.getElem?_map] at hx
        obtain ⟨z, hz, e⟩ := Option.map_eq_some_iff.mp hx
        cases e
        exact hz
      obtain ⟨r1, rz⟩ := Red_at lo F.red F.trw ht hr
      have wr := F.trw r (List.mem_of_getElem? hr)
      have lr := wr.len
      have tn := F.lt t (List.mem_of_getElem? ht)
      refine ⟨rfl, _, rfl, l, r, t, rfl, sqD er, by omega, by omega, by rw [r1]; decide, rz, _, rfl, _, .inl ((t : Nat) : Int), rfl, e2, ?_, lcs n2 s2, n2, ?_⟩
      · rw [kvs_len (by rw [List.length_take, List.length_take]; omega), List.length_take]
        exact small1000 (by omega)
      · rw [upd_same, kvs_put (by rw [List.length_take, List.length_take]; omega) ?_ l, List.take_succ, List.take_succ, ht, hl2]
        · rfl
        · intro m
          obtain ⟨j, hj, e⟩ := List.mem_iff_getElem.mp m
          rw [List.length_take] at hj
          rw [List.getElem_take] at e
          have tt := List.getElem?_eq_some_iff.mp ht
          have := List.pairwise_iff_getElem.mp F.srt j i (by omega) tt.1 (by omega)
          rw [e, tt.2] at this
          exact absurd this (Nat.lt_irrefl _)
    rintro H2 ⟨s2, n2, e2⟩
    rw [List.length_map, lll, ← lsp, List.take_length, lsp, ← lll, List.take_length] at e2
    refine ⟨(by show 0 ≤ sizeLine; decide), fun BL hBL => ⟨_, rfl, (n : Int), rfl, by omega, by omega, ?_⟩⟩
    rw [Int.toNat_natCast]
    refine for_range (lo := 0) (n := n) (fun c σ' H' => ∃ (bl : List Addr) (bs : List (List Int)) (cs : List Nat) (x4 x6 x7 x8 : Option V), σ' = [some (.ref R), some (.int n), some (.int p), some (.ref D), x4, some (.ref BL), x6, x7, x8] ∧ Same H2 H' ∧ H' BL = some (.lst (bl.map V.ref)) ∧ Rws H' bl bs ∧ (∀ r ∈ bs, Rw p n r) ∧ FreeT p sp ts c cs bs)
      ⟨[], [], [], none, none, none, none, rfl, same_upd hBL, upd_same, trivial, fun _ h => (nomatch h), FreeT.init p sp ts⟩ ?_ ?_
    · rintro c σ' H3 hc ⟨bl, bs, cs, x4, x6, x7, x8, rfl, s3, e3, h3, w3, FT⟩
      have eD := s3 _ _ e2
      have lbl := h3.len
      have lbs : bs.length ≤ c := by
        rw [← FT.len]
        have z := Xp.nodup_len (b := List.range c) FT.nd fun x hx => List.mem_range.mpr (FT.lt x hx)
        rwa [List.length_range] at z
      refine ⟨_, rfl, _, rfl, D, _, rfl, .inl ⟨kvs sp ll, .inl (0 + (c : Int)), .inl eD, rfl, rfl⟩, _, rfl, ?_⟩
      rw [Int.zero_add, kvs_find (by omega)]
      by_cases hcs : c ∈ sp
      · rw [decide_eq_true hcs]
        exact iteF ⟨bl, bs, cs, _, _, _, _, rfl, s3, e3, h3, w3, FT.skip hcs⟩
      · rw [decide_eq_false hcs]
        refine iteT ⟨_, rfl, _, rfl, c, n, rfl, hc, by omega, fun a Ha sa ea => ⟨a, _, rfl, .inr ea, fun TL hTL => ?_⟩⟩
        have nTL2 : H2 TL = none := (s3.trans sa).free hTL
        have nBL2 : H2 BL = none := hBL
        have eDx : L2.upd Ha TL (.lst ((unitL c n).map V.int)) D = some (.dK (kvs sp ll)) := same_upd hTL _ _ (sa _ _ eD)
        have eTx : L2.upd Ha TL (.lst ((unitL c n).map V.int)) TL = some (.lst ((unitL c n).map V.int)) := upd_same
        have sx : Same H3 (L2.upd Ha TL (.lst ((unitL c n).map V.int))) := sa.trans (same_upd hTL)
        generalize hHx : L2.upd Ha TL (.lst ((unitL c n).map V.int)) = Hx at eDx eTx sx
        have neD : D ≠ TL := fun z => by
          rw [z, nTL2] at e2
          cases e2
        refine ⟨D, .dK (kvs sp ll), eDx, trivial, fun od => ?_⟩
        refine ⟨_, rfl, D, od, kvs sp ll, rfl, upd_same, ?_⟩
        refine for_it (walk_items (kvs := kvs sp ll)) (fun j σ' H' => ∃ (ms : List Int) (x4 x8 : Option V), σ' = [some (.ref R), some (.int n), some (.int p), some (.ref D), x4, some (.ref BL), some (.int c), some (.ref TL), x8] ∧ H' D = some (.frz od (.dK (kvs sp ll))) ∧ (∀ b o, Hx b = some o → b ≠ D → b ≠ TL → H' b = some o) ∧ H' TL = some (.lst (ms.map V.int)) ∧ ms.length = n ∧ (∀ k, k ∉ sp.take j → ms.getD k 0 = if k = c then 1 else 0) ∧ ∀ (i t : Nat) (r : List Int), i < j → sp[i]? = some t → ts[i]? = some r → ms.getD t 0 = (-(r.getD c 0)).fmod p)
          ⟨unitL c n, x4, x8, rfl, upd_same, fun b o h nb _ => by rw [upd_ne nb]; exact h, by rw [upd_ne (Ne.symm neD)]; exact eTx, unitL_len hc, fun k _ => unitL_at c n k, fun i _ _ h => absurd h (Nat.not_lt_zero i)⟩ (fun i σ' H' _ ⟨_, _, _, _, q, _⟩ => q) ?_ ?_
        · rintro j x σ' H4 H5 hj ⟨ms, x4, x8, rfl, eF, kp, eT, lm, m1, m2⟩ ⟨Tp, u, v, rfl, hTp, rfl, g1', g2'⟩
          rw [kvs_len (by omega)] at hj
          obtain ⟨t, ht⟩ : ∃ t, sp[j]? = some t := ⟨_, List.getElem?_eq_getElem hj⟩
          obtain ⟨l, hl⟩ : ∃ l, ll[j]? = some l := ⟨_, List.getElem?_eq_getElem (show j < ll.length by omega)⟩
          have kj := kvs_at ht hl
          have g1' : (kvs sp ll)[j]?.map (fun kv => kV kv.1) = some u := g1'
          have g2' : (kvs sp ll)[j]?.map Prod.snd = some v := g2'
          rw [kj] at g1' g2'
          cases g1'
          cases g2'
          obtain ⟨r, hr, er0⟩ := hL.getA j l hl
          have erx : Hx l = some (.tup (r.map V.int)) := sx _ _ (s3 _ _ (s2 _ _ er0))
          have nlD : l ≠ D := fun z => by rw [z, eDx] at erx; cases erx
          have nlT : l ≠ TL := fun z => by rw [z, eTx] at erx; cases erx
          have er := same_upd (o := .tup [.int (t : Nat), .ref l]) hTp _ _ (kp _ _ erx nlD nlT)
          have eT5 := same_upd (o := .tup [.int (t : Nat), .ref l]) hTp _ _ eT
          have eF5 := same_upd (o := .tup [.int (t : Nat), .ref l]) hTp _ _ eF
          have tn := F.lt t (List.mem_of_getElem? ht)
          have lr := (F.trw r (List.mem_of_getElem? hr)).len
          refine ⟨Tp, _, rfl, .inl (.inl upd_same), rfl, _, _, rfl, _, _, rfl, rfl, ?_⟩
          refine ⟨_, rfl, _, rfl, l, _, _, .int (r.getD c 0), rfl, rfl, sqD er, atI_map (by omega), _, rfl, _, rfl, _, _, rfl, rfl, nz, _, rfl, _, rfl, TL, _, _, t, rfl, rfl, eT5, ixN_nat (by rw [List.length_map]; omega), ?_⟩
          refine ⟨ms.set t ((-(r.getD c 0)).fmod p), _, _, rfl, ?_, fun b o h nb nt => ?_, ?_, by rw [List.length_set]; exact lm, fun k hk => ?_, fun i t' r' hi2 ht' hr' => ?_⟩
          · rw [upd_ne neD]
            exact eF5
          · rw [upd_ne nt]
            exact same_upd hTp _ _ (kp b o h nb nt)
          · rw [upd_same, List.map_set]
          · rw [List.take_succ, ht] at hk
            have k1 : k ∉ sp.take j := fun m => hk (List.mem_append_left _ m)
            have k2 : k ≠ t := fun z => hk (List.mem_append_right _ (by rw [z]; exact List.mem_singleton.mpr rfl))
            rw [getD_set (by omega), if_neg k2]
            exact m1 k k1
          · rw [getD_set (by omega)]
            have a1 := List.getElem?_eq_some_iff.mp ht
            have a2 := List.getElem?_eq_some_iff.mp ht'
            rcases Nat.lt_or_ge i j with q | q
            · have z := List.pairwise_iff_getElem.mp F.srt i j a2.1 a1.1 q
              rw [a1.2, a2.2] at z
              rw [if_neg (by omega)]
              exact m2 i t' r' q ht' hr'
            · have e : i = j := by omega
              subst e
              rw [ht] at ht'
              rw [hr] at hr'
              cases ht'
              cases hr'
              rw [if_pos rfl]
        · rintro σ' H4 ⟨ms, x4, x8, rfl, eF, kp, eT, lm, m1, m2⟩
          rw [kvs_len (by omega)] at m1 m2
          rw [List.take_length] at m1
          refine ⟨eF, ?_⟩
          have eT' : L2.upd H4 D (.dK (kvs sp ll)) TL = some (.lst (ms.map V.int)) := by rw [upd_ne (Ne.symm neD)]; exact eT
          have sy : ∀ b o, Hx b = some o → b ≠ TL → L2.upd H4 D (.dK (kvs sp ll)) b = some o := fun b o h nb => by
            by_cases z : b = D
            · rw [z, upd_same]
              rw [z, eDx] at h
              exact h
            · rw [upd_ne z]
              exact kp b o h z nb
          generalize hHy : L2.upd H4 D (.dK (kvs sp ll)) = Hy at eT' sy
          have neB : BL ≠ TL := fun z => by
            have := sa _ _ e3
            rw [z, hTL] at this
            cases this
          have eB := sy _ _ (sx _ _ e3) neB
          refine ⟨_, rfl, .inl ⟨rfl, _, SqL.of eB⟩, _, rfl, TL, _, rfl, .inl ⟨SqL.of eT', fun v hv => ?_⟩⟩
          have sv := same_upd (o := .tup (ms.map V.int)) hv
          have s2y : Same H2 Hy := fun b o h => sy b o (sx _ _ (s3 _ _ h)) (fun z => by rw [z, nTL2] at h; cases h)
          have wm : Rw p n ms := by
            refine ⟨lm, fun k => ?_⟩
            by_cases hk : k ∈ sp
            · obtain ⟨i, hi2⟩ := List.mem_iff_getElem?.mp hk
              have il := (List.getElem?_eq_some_iff.mp hi2).1
              rw [m2 i k _ il hi2 (List.getElem?_eq_getElem (show i < ts.length by omega))]
              exact ⟨Int.fmod_nonneg_of_pos _ hpm.pos, Int.fmod_lt_of_pos _ hpm.pos⟩
            · rw [m1 k hk]
              split <;> omega
          have bas : Xp.Bas p (fam sp ts) c (co ms) := by
            refine ⟨?_, fun x hx => ?_, fun k k1 k2 => ?_⟩
            · show ms.getD c 0 % p = 1 % p
              rw [m1 c hcs, if_pos rfl]
            · obtain ⟨i, t, r, q1, q2, rfl⟩ := mem_fam hx
              show ms.getD t 0 % p = (-(r.getD c 0)) % p
              rw [m2 i t r (List.getElem?_eq_some_iff.mp q1).1 q1 q2, fm_em hpm.pos, Int.emod_emod]
            · rw [fam_spots lsp] at k2
              show ms.getD k 0 % p = 0
              rw [m1 k k2, if_neg k1, Int.zero_emod]
          refine ⟨BL, _, _, rfl, rfl, sv _ _ eB, ?_, bl ++ [v], bs ++ [ms], cs ++ [c], _, _, _, _, rfl, lcs nBL2 (s2y.trans sv), ?_, ?_, fun q hq => ?_, FT.step hcs bas⟩
          · rw [List.length_map, lbl]
            exact small1000 (by omega)
          · rw [upd_same, List.map_append]
            rfl
          · refine (Rws.snoc upd_same (h3.keep (fun b xs h => sv _ _ (sy _ _ (sx _ _ h) (fun z => ?_))))).keep (kpU (sv _ _ eB))
            have := sa _ _ h
            rw [z, hTL] at this
            cases this
          · rcases List.mem_append.mp hq with hq | hq
            · exact w3 q hq
            · rw [List.mem_singleton.mp hq]
              exact wm
    · rintro σ' H3 ⟨bl, bs, cs, x4, x6, x7, x8, rfl, s3, e3, h3, w3, FT⟩
      have g3 := g1.same (s2.trans s3)
      refine ⟨_, rfl, _, rfl, _, rfl, BL, bl, bs, n, n, p, rfl, e3, h3, w3, ?_, n1, Nat.le_refl n, by omega, n24, hp, g3.t, fun D' ds sq _ us H' g' nD' eD' hD' S' => k D' ds sp sq ts us bs H' (g3.trans g') (g3.n _ nD') eD' hD' F S'.form ⟨cs, FT⟩ w3⟩
      rw [← FT.len]
      have z := Xp.nodup_len (b := List.range n) FT.nd fun x hx => List.mem_range.mpr (FT.lt x hx)
      rw [List.length_range] at z
      omega
end
end Xk
end
section
set_option Elab.async false
set_option linter.all false
set_option maxRecDepth 100000
set_option maxHeartbeats 4000000
namespace Xk
open PySem PySem.Spec PyProof.Rows L2 Xh LamX NdefX
/-! ### kernels: what they are told to be -/
theorem FreeT.free {p : Int} {n : Nat} {sp cs : List Nat} {ts bs : List (List Int)} (F : FreeT p sp ts n cs bs) (ln : sp.length = ts.length) : Xp.Free p n (fam sp ts) (fam cs bs) := by
  refine ⟨fun y hy => ?_, fun y hy => ?_, fun y hy => ?_, fun c hc hn => ?_, ?_⟩
  · obtain ⟨j, s, r, h1, h2, rfl⟩ := mem_fam hy
    exact F.bas j s r h1 h2
  · obtain ⟨j, s, r, h1, h2, rfl⟩ := mem_fam hy
    exact F.lt s (List.mem_of_getElem? h1)
  · obtain ⟨j, s, r, h1, h2, rfl⟩ := mem_fam hy
    rw [fam_spots ln]
    exact F.nin s (List.mem_of_getElem? h1)
  · rw [fam_spots ln] at hn
    rw [fam_spots F.len]
    exact F.all c hc hn
  · rw [fam_spots F.len]
    exact F.nd
/-- us: the told kernel of rs -/
structure Kn (p : Int) (n : Nat) (rs : List (List Int)) (sp sq : List Nat) (ts us bs : List (List Int)) : Prop where
  F : Form p n rs sp ts
  G : Form p n bs sq us
  fr : ∃ cs, FreeT p sp ts n cs bs
  w : ∀ r ∈ bs, Rw p n r
section
variable {p : Int} {n : Nat} {rs ts us bs : List (List Int)} {sp sq : List Nat}
theorem Form.ltf (F : Form p n rs sp ts) : ∀ x ∈ fam sp ts, x.1 < n := fun x hx => by
  obtain ⟨j, s, r, h1, h2, rfl⟩ := mem_fam hx
  exact F.lt s (List.mem_of_getElem? h1)
theorem Rw.out {r : List Int} (w : Rw p n r) : ∀ k, n ≤ k → co r k % p = 0 := fun k hk => by
  show r.getD k 0 % p = 0
  rw [getD_over (by rw [w.len]; exact hk), Int.zero_emod]
theorem Form.outf (F : Form p n rs sp ts) : ∀ x ∈ fam sp ts, ∀ k, n ≤ k → x.2 k % p = 0 := fun x hx => by
  obtain ⟨j, s, r, h1, h2, rfl⟩ := mem_fam hx
  exact (F.trw r (List.mem_of_getElem? h2)).out
theorem Kn.span (N : Kn p n rs sp sq ts us bs) {cs : List Nat} (FT : FreeT p sp ts n cs bs) (v : Xp.Cf) : Xp.Sp p (Xp.rows (fam sq us)) v ↔ Xp.Sp p (Xp.rows (fam cs bs)) v := by
  constructor
  · exact fun h => h.trans fun u hu => by
      obtain ⟨x, hx, e⟩ := hu
      obtain ⟨j, s, r, h1, h2, rfl⟩ := mem_fam hx
      subst e
      exact (N.G.dn r (List.mem_of_getElem? h2)).trans fun u hu => by
        obtain ⟨b, hb, rfl⟩ := hu
        exact .one (fam_row FT.len hb)
  · exact fun h => h.trans fun u hu => by
      obtain ⟨x, hx, e⟩ := hu
      obtain ⟨j, s, r, h1, h2, rfl⟩ := mem_fam hx
      subst e
      exact N.G.up r (List.mem_of_getElem? h2)
/-- it spans what all rows weigh to 0 -/
theorem Kn.iff (N : Kn p n rs sp sq ts us bs) {v : Xp.Cf} (out : ∀ k, n ≤ k → v k % p = 0) : Xp.Sp p (Xp.rows (fam sq us)) v ↔ ∀ r ∈ rs, Xp.dt n (co r) v % p = 0 := by
  obtain ⟨cs, FT⟩ := N.fr
  rw [N.span FT, (FT.free N.F.len).iff N.F.red.uni N.F.ltf out]
  constructor
  · exact fun h r hr => Xp.Sp.dt (fun u ⟨x, hx, e⟩ => e ▸ h x hx) (N.F.up r hr)
  · intro h x hx
    obtain ⟨j, s, r, h1, h2, rfl⟩ := mem_fam hx
    exact Xp.Sp.dt (fun u ⟨x, hx, e⟩ => e ▸ h x hx) (N.F.dn r (List.mem_of_getElem? h2))
theorem Kn.zero (N : Kn p n rs sp sq ts us bs) : ∀ r ∈ rs, ∀ u ∈ us, Xp.dt n (co r) (co u) % p = 0 := fun r hr u hu =>
  (N.iff (N.G.trw u hu).out).mp (.one (fam_row N.G.len hu)) r hr
theorem Kn.len (hp : 2 ≤ p) (N : Kn p n rs sp sq ts us bs) : us.length + ts.length = n := by
  obtain ⟨cs, FT⟩ := N.fr
  obtain ⟨q, rfl⟩ := Int.eq_ofNat_of_zero_le (show 0 ≤ p by omega)
  have a := (FT.free N.F.len).len N.F.red.uni N.F.ltf
  have b := Xp.Uni.same_len (p := q) (n := n) (by omega) N.G.red.uni (FT.free N.F.len).uni N.G.ltf N.G.outf (FT.free N.F.len).lt ((FT.free N.F.len).out N.F.ltf) (N.span FT)
  have l1 : (fam sq us).length = us.length := by
    show (sq.zip (us.map co)).length = _
    rw [List.length_zip, List.length_map, N.G.len]
    omega
  have l2 : (fam sp ts).length = ts.length := by
    show (sp.zip (ts.map co)).length = _
    rw [List.length_zip, List.length_map, N.F.len]
    omega
  omega
theorem Kn.cnt {q : Nat} (hq : 2 ≤ q) (N : Kn (q : Int) n rs sp sq ts us bs) {P : List Int → Bool} (hP : ∀ t ∈ Xp.tp q n, P t = true ↔ ∀ r ∈ rs, Xp.dt n (co r) (co t) % (q : Int) = 0) : ((Xp.tp q n).filter P).length = q ^ us.length := by
  have z := N.G.red.uni.count (p := q) (n := n) (by omega) N.G.ltf N.G.outf (P := P) fun t ht => (hP t ht).trans (N.iff fun k hk => ?_).symm
  · rw [z]
    congr 1
    show (sq.zip (us.map co)).length = _
    rw [List.length_zip, List.length_map, N.G.len]
    omega
  · show t.getD k 0 % (q : Int) = 0
    rw [getD_over (by rw [(Xp.tp_mem.mp ht).1]; exact hk), Int.zero_emod]
/-- one row by itself, 1 at its first place -/
theorem Form.one {r : List Int} {s : Nat} (w : Rw p n r) (hs : s < n) (h1 : r.getD s 0 % p = 1 % p) (lo : ∀ k, k < s → r.getD k 0 % p = 0) : Form p n [r] [s] [r] := by
  have m : ∀ x ∈ fam [s] [r], x = (s, co r) := fun x hx => List.mem_singleton.mp hx
  refine ⟨rfl, fun u hu => ?_, ⟨fun x hx => ?_, fun x hx k hk => ?_, fun x hx y hy ne => ?_, (by show [s].Nodup; simp)⟩, List.pairwise_singleton _ _, fun t ht => ?_, fun u hu => ?_, fun u hu => ?_⟩
  · rw [List.mem_singleton.mp hu]
    exact w
  · rw [m x hx]
    exact h1
  · rw [m x hx] at hk ⊢
    exact lo k hk
  · rw [m x hx, m y hy] at ne
    exact absurd rfl ne
  · rw [List.mem_singleton.mp ht]
    exact hs
  · rw [List.mem_singleton.mp hu]
    exact .one ⟨_, List.mem_singleton.mpr rfl, rfl⟩
  · rw [List.mem_singleton.mp hu]
    exact .one ⟨_, List.mem_singleton.mpr rfl, rfl⟩
end
section
variable {P : Program} {w : World} {K : PySem.W.Frag} {mg : Str → Option Value} {base : Heap}
end
end Xk
end
section
set_option Elab.async false
set_option linter.all false
/-! Level things of a ring with greatest common ones, and how they part (no program in it). -/
namespace Xp
open Lean.Grind
/-- a ring, some of its things called level, with degrees -/
structure Lvs (A : Type) [CommRing A] where
  L : Nat → A → Prop
  one : L 0 1
  nought : ∀ {a}, L 0 a → a = 1
  mul : ∀ {m n a b}, L m a → L n b → L (m + n) (a * b)
  uniq : ∀ {m n a}, L m a → L n a → m = n
  gcd : ∀ {m a}, L m a → ∀ b, ∃ k h u v, L k h ∧ (∃ c, a = h * c) ∧ (∃ c, b = h * c) ∧ h = u * a + v * b
  quot : ∀ {m k a h c}, L m a → L k h → a = h * c → k ≤ m ∧ L (m - k) c
  canc : ∀ {m a x y}, L m a → a * x = a * y → x = y
def Div {A : Type} [CommRing A] (a b : A) : Prop := ∃ c, b = a * c
section
variable {A : Type} [CommRing A]
theorem Div.refl (a : A) : Div a a := ⟨1, by grind⟩
theorem Div.trans {a b c : A} (h : Div a b) (g : Div b c) : Div a c := by
  obtain ⟨x, rfl⟩ := h
  obtain ⟨y, rfl⟩ := g
  exact ⟨x * y, by grind⟩
theorem Div.add {a b c : A} (h : Div a b) (g : Div a c) : Div a (b + c) := by
  obtain ⟨x, rfl⟩ := h
  obtain ⟨y, rfl⟩ := g
  exact ⟨x + y, by grind⟩
theorem Div.sub {a b c : A} (h : Div a b) (g : Div a c) : Div a (b - c) := by
  obtain ⟨x, rfl⟩ := h
  obtain ⟨y, rfl⟩ := g
  exact ⟨x - y, by grind⟩
theorem Div.mulL {a b : A} (h : Div a b) (c : A) : Div a (c * b) := by
  obtain ⟨x, rfl⟩ := h
  exact ⟨c * x, by grind⟩
theorem Div.mulR {a b : A} (h : Div a b) (c : A) : Div a (b * c) := by
  obtain ⟨x, rfl⟩ := h
  exact ⟨x * c, by grind⟩
theorem Div.zero (a : A) : Div a 0 := ⟨0, by grind⟩
theorem Div.one (a : A) : Div 1 a := ⟨a, by grind⟩
namespace Lvs
variable (V : Lvs A)
/-- whole: level, no level part but itself -/
structure W (w : A) : Prop where
  ex : ∃ k, 1 ≤ k ∧ V.L k w
  no : ∀ {j h}, V.L j h → Div h w → h = 1 ∨ h = w
variable {V}
theorem W.ne_one {w : A} (h : V.W w) : w ≠ 1 := fun e => by
  obtain ⟨k, k1, l⟩ := h.ex
  rw [e] at l
  have := V.uniq l V.one
  omega
theorem W.not_one {w : A} (h : V.W w) : ¬ Div w 1 := fun ⟨c, e⟩ => by
  obtain ⟨k, k1, l⟩ := h.ex
  have := (V.quot V.one l e).1
  omega
/-- two without a common part but 1 -/
def Cop (a b : A) : Prop := ∃ u v : A, 1 = u * a + v * b
theorem Cop.symm {a b : A} (h : Cop a b) : Cop b a := by
  obtain ⟨u, v, e⟩ := h
  exact ⟨v, u, by grind⟩
theorem Cop.mul {a b c : A} (h : Cop a b) (g : Cop a c) : Cop a (b * c) := by
  obtain ⟨u, v, e⟩ := h
  obtain ⟨x, y, f⟩ := g
  exact ⟨u * (x * a + y * c) + v * b * x, v * y, by
    have : (1 : A) = (u * a + v * b) * (x * a + y * c) := by rw [← e, ← f]; grind
    rw [this]
    grind⟩
theorem Cop.div {a b x : A} (h : Cop a b) (ha : Div a x) (hb : Div b x) : Div (a * b) x := by
  obtain ⟨u, v, e⟩ := h
  obtain ⟨c, e1⟩ := ha
  obtain ⟨d, e2⟩ := hb
  refine ⟨u * d + v * c, ?_⟩
  have : x = (u * a + v * b) * x := by rw [← e]; grind
  rw [this]
  have h1 : u * a * x = a * b * (u * d) := by rw [e2]; grind
  have h2 : v * b * x = a * b * (v * c) := by rw [e1]; grind
  grind
theorem Cop.of_mul {a b x : A} (h : Cop a b) (g : Div a (b * x)) : Div a x := by
  obtain ⟨u, v, e⟩ := h
  obtain ⟨c, e1⟩ := g
  refine ⟨u * x + v * c, ?_⟩
  have : x = (u * a + v * b) * x := by rw [← e]; grind
  rw [this]
  have h2 : v * b * x = a * (v * c) := by grind
  grind
theorem W.cop {w a : A} (h : V.W w) (n : ¬ Div w a) : Cop w a := by
  obtain ⟨k, _, l⟩ := h.ex
  obtain ⟨j, d, u, v, ld, d1, d2, e⟩ := V.gcd l a
  rcases h.no ld d1 with rfl | rfl
  · exact ⟨u, v, e⟩
  · exact absurd d2 n
/-- what is whole parts a product's part -/
theorem W.prime {w a b : A} (h : V.W w) (d : Div w (a * b)) : Div w a ∨ Div w b := by
  by_cases n : Div w a
  · exact .inl n
  · exact .inr ((h.cop n).of_mul d)
theorem W.pow {w a : A} (h : V.W w) : ∀ n : Nat, Div w (a ^ n) → Div w a
  | 0, d => absurd (by rwa [Semiring.pow_zero] at d) h.not_one
  | n + 1, d => by
    rw [Semiring.pow_succ] at d
    rcases h.prime d with d | d
    · exact W.pow h n d
    · exact d
theorem W.eq {w x : A} (h : V.W w) (g : V.W x) (d : Div w x) : w = x := by
  obtain ⟨k, _, l⟩ := h.ex
  rcases g.no l d with e | e
  · exact absurd e h.ne_one
  · exact e
theorem W.ne_cop {w x : A} (h : V.W w) (g : V.W x) (n : w ≠ x) : Cop w x := h.cop fun d => n (h.eq g d)
theorem least1 {P : Nat → Prop} {n : Nat} (h : P n) : ∃ m, P m ∧ ∀ k, k < m → ¬ P k := by
  induction n using Nat.strongRecOn with
  | _ n ih =>
    by_cases g : ∃ k, k < n ∧ P k
    · obtain ⟨k, h1, h2⟩ := g
      exact ih k h1 h2
    · exact ⟨n, h, fun k hk hp => g ⟨k, hk, hp⟩⟩
/-- a level thing that isn't 1 has a whole part -/
theorem has {n : Nat} {f : A} (l : V.L n f) (n1 : 1 ≤ n) : ∃ w, V.W w ∧ Div w f := by
  obtain ⟨m, ⟨m1, w, lw, dw⟩, least⟩ := least1 (P := fun m => 1 ≤ m ∧ ∃ w, V.L m w ∧ Div w f) ⟨n1, f, l, Div.refl f⟩
  refine ⟨w, ⟨⟨m, m1, lw⟩, fun {j h} lh dh => ?_⟩, dw⟩
  obtain ⟨c, e⟩ := dh
  obtain ⟨jm, lc⟩ := V.quot lw lh e
  by_cases j0 : j = 0
  · subst j0
    exact .inl (V.nought lh)
  · by_cases jm2 : j < m
    · exact absurd ⟨by omega, h, lh, Div.trans ⟨c, e⟩ dw⟩ (least j jm2)
    · have : m - j = 0 := by omega
      rw [this] at lc
      right
      rw [e, V.nought lc]
      grind
/-- no whole part twice -/
def Sqf (V : Lvs A) (f : A) : Prop := ∀ w, V.W w → ¬ Div (w * w) f
theorem Sqf.part {f g : A} (h : V.Sqf f) (d : Div g f) : V.Sqf g := fun w hw x => h w hw (x.trans d)
/-- what has all whole parts of a thing without repeated ones has the thing -/
theorem Sqf.div : ∀ {n : Nat} {f : A} (x : A), V.L n f → V.Sqf f → (∀ w, V.W w → Div w f → Div w x) → Div f x := by
  intro n
  induction n using Nat.strongRecOn with
  | _ n ih =>
    intro f x l s h
    by_cases n0 : n = 0
    · subst n0
      rw [V.nought l]
      exact Div.one x
    · obtain ⟨w, hw, dw⟩ := has l (by omega)
      obtain ⟨k, k1, lw⟩ := hw.ex
      obtain ⟨g, e⟩ := dw
      obtain ⟨kn, lg⟩ := V.quot l lw e
      obtain ⟨y, ey⟩ := h w hw ⟨g, e⟩
      have sg : V.Sqf g := s.part ⟨w, by grind⟩
      have := ih (n - k) (by omega) y lg sg fun w' hw' d' => by
        have ne : w ≠ w' := fun z => s w hw (by
          obtain ⟨c, ec⟩ := d'
          exact ⟨c, by rw [e, ec, ← z]; grind⟩)
        have d2 := h w' hw' (d'.trans ⟨w, by grind⟩)
        rw [ey] at d2
        exact (hw'.ne_cop hw (fun z => ne z.symm)).of_mul d2
      obtain ⟨c, ec⟩ := this
      exact ⟨c, by rw [ey, ec, e]; grind⟩
/-- nothing whole in common: no common part -/
theorem cop_of {n : Nat} {f g : A} (l : V.L n f) (h : ∀ w, V.W w → Div w f → ¬ Div w g) : Cop f g := by
  obtain ⟨k, d, u, v, ld, d1, d2, e⟩ := V.gcd l g
  by_cases k0 : k = 0
  · subst k0
    rw [V.nought ld] at e
    exact ⟨u, v, e⟩
  · obtain ⟨w, hw, dw⟩ := has ld (by omega)
    exact absurd (dw.trans d2) (h w hw (dw.trans d1))
end Lvs
end
end Xp
end
section
set_option Elab.async false
set_option linter.all false
/-! Whole parts taken out; the part that has each whole one once. -/
namespace Xp
open Lean.Grind
section
variable {A : Type} [CommRing A]
namespace Lvs
variable {V : Lvs A}
theorem lpow {k : Nat} {a : A} (l : V.L k a) : ∀ n : Nat, V.L (n * k) (a ^ n)
  | 0 => by
    rw [Semiring.pow_zero, Nat.zero_mul]
    exact V.one
  | n + 1 => by
    rw [Semiring.pow_succ, Nat.succ_mul]
    exact V.mul (lpow l n) l
/-- a whole part taken out as often as it goes -/
theorem took {w : A} (hw : V.W w) : ∀ {n : Nat} {f : A}, V.L n f → ∃ (m : Nat) (g : A) (j : Nat), f = w ^ m * g ∧ ¬ Div w g ∧ V.L j g ∧ j ≤ n := by
  intro n
  induction n using Nat.strongRecOn with
  | _ n ih =>
    intro f l
    by_cases d : Div w f
    · obtain ⟨k, k1, lw⟩ := hw.ex
      obtain ⟨c, e⟩ := d
      obtain ⟨kn, lc⟩ := V.quot l lw e
      obtain ⟨m, g, j, e2, n2, lg, jn⟩ := ih (n - k) (by omega) lc
      exact ⟨m + 1, g, j, by rw [e, e2, Semiring.pow_succ]; grind, n2, lg, by omega⟩
    · exact ⟨0, f, n, by rw [Semiring.pow_zero]; grind, d, l, Nat.le_refl n⟩
theorem W.not_pow {w x : A} (hw : V.W w) (hx : V.W x) (ne : w ≠ x) (n : Nat) : ¬ Div w (x ^ n) := fun d => ne (hw.eq hx (hw.pow n d))
/-- the whole parts of what is left -/
theorem took_iff {w f g : A} {m : Nat} (hw : V.W w) (e : f = w ^ m * g) (n : ¬ Div w g) {x : A} (hx : V.W x) : Div x g ↔ Div x f ∧ x ≠ w := by
  constructor
  · intro d
    exact ⟨by rw [e]; exact d.mulL _, fun z => n (z ▸ d)⟩
  · rintro ⟨d, ne⟩
    rw [e] at d
    rcases hx.prime d with d | d
    · exact absurd d (hx.not_pow hw ne m)
    · exact d
/-- l: the whole parts of f, each once -/
structure Ws (V : Lvs A) (f : A) (l : List A) : Prop where
  nd : l.Nodup
  iff : ∀ w, w ∈ l ↔ V.W w ∧ Div w f
theorem Ws.nil : V.Ws 1 [] := ⟨List.nodup_nil, fun w => ⟨fun h => (List.not_mem_nil h).elim, fun h => absurd h.2 h.1.not_one⟩⟩
/-- some taken out wholly, then the rest -/
inductive Out (V : Lvs A) : A → List A → A → Prop
  | nil (f) : Out V f [] f
  | cons {f w g h : A} {l : List A} {m : Nat} (e : f = w ^ m * g) (n : ¬ Div w g) (o : Out V g l h) : Out V f (w :: l) h
theorem Out.iff {f h : A} {l : List A} (o : V.Out f l h) (hl : ∀ w ∈ l, V.W w) {x : A} (hx : V.W x) : Div x h ↔ Div x f ∧ x ∉ l := by
  induction o with
  | nil f => exact ⟨fun d => ⟨d, List.not_mem_nil⟩, fun d => d.1⟩
  | @cons f w g h l m e n o ih =>
    have hw := hl w List.mem_cons_self
    rw [ih (fun y hy => hl y (List.mem_cons_of_mem _ hy)), took_iff hw e n hx, List.mem_cons]
    constructor
    · rintro ⟨⟨h1, h2⟩, h3⟩
      exact ⟨h1, fun z => z.elim h2 h3⟩
    · rintro ⟨h1, h2⟩
      exact ⟨⟨h1, fun z => h2 (.inl z)⟩, fun z => h2 (.inr z)⟩
theorem Ws.step {f s h : A} {l k : List A} (a : V.Ws s l) (d : Div s f) (o : V.Out f l h) (b : V.Ws h k) : V.Ws f (l ++ k) := by
  have hl : ∀ w ∈ l, V.W w := fun w hw => ((a.iff w).mp hw).1
  refine ⟨List.nodup_append.mpr ⟨a.nd, b.nd, fun x hx y hy z => ?_⟩, fun w => ?_⟩
  · subst z
    have := (b.iff x).mp hy
    exact ((o.iff hl this.1).mp this.2).2 hx
  · rw [List.mem_append, a.iff, b.iff]
    constructor
    · rintro (⟨h1, h2⟩ | ⟨h1, h2⟩)
      · exact ⟨h1, h2.trans d⟩
      · exact ⟨h1, ((o.iff hl h1).mp h2).1⟩
    · rintro ⟨h1, h2⟩
      by_cases m : w ∈ l
      · exact .inl ((a.iff w).mp m)
      · exact .inr ⟨h1, (o.iff hl h1).mpr ⟨h2, m⟩⟩
theorem Ws.perm {f : A} {l k : List A} (a : V.Ws f l) (p : k.Perm l) : V.Ws f k := ⟨p.nodup_iff.mpr a.nd, fun w => p.mem_iff.trans (a.iff w)⟩
/-! a slope: what is left of f by its greatest common one with its slope -/
structure Slope (D : A → A) : Prop where
  mul : ∀ a b, D (a * b) = D a * b + a * D b
theorem Slope.one {D : A → A} (h : Slope D) : D 1 = 0 := by
  have := h.mul 1 1
  have e : (1 : A) * 1 = 1 := by grind
  rw [e] at this
  grind
theorem Slope.pow {D : A → A} (h : Slope D) (w : A) : ∀ n : Nat, ∃ k, D (w ^ (n + 1)) = w ^ n * k
  | 0 => ⟨D w, by
    have e : w ^ (0 + 1) = w := by rw [Semiring.pow_succ, Semiring.pow_zero]; grind
    rw [e, Semiring.pow_zero]
    grind⟩
  | n + 1 => by
    obtain ⟨k, e⟩ := Slope.pow h w n
    refine ⟨k + D w, ?_⟩
    rw [Semiring.pow_succ w (n + 1), h.mul, e, Semiring.pow_succ w n]
    grind
theorem sqf_of {D : A → A} (h : Slope D) {f c s : A} {n : Nat} (lc : V.L n c) (e : f = c * s) (g : ∀ x, Div x f → Div x (D f) → Div x c) : V.Sqf s := by
  intro w hw d
  obtain ⟨y, ey⟩ := d
  obtain ⟨a, z, j, ec, nz, _, _⟩ := took hw lc
  have ef : f = w ^ (a + 1) * (w * (z * y)) := by
    rw [e, ec, ey, Semiring.pow_succ]
    grind
  have d1 : Div (w ^ (a + 1)) f := ⟨_, ef⟩
  have d2 : Div (w ^ (a + 1)) (D f) := by
    obtain ⟨k, ek⟩ := h.pow w a
    rw [ef, h.mul, ek]
    refine ⟨k * (z * y) + D (w * (z * y)), ?_⟩
    rw [Semiring.pow_succ]
    grind
  obtain ⟨q, eq⟩ := g _ d1 d2
  obtain ⟨k, k1, lw⟩ := hw.ex
  have : w ^ a * z = w ^ a * (w * q) := by
    rw [← ec, eq, Semiring.pow_succ]
    grind
  exact nz ⟨q, V.canc (lpow lw a) this⟩
end Lvs
end
end Xp
end
section
set_option Elab.async false
set_option linter.all false
/-! Steady things by a level one: as many as there are rests by its whole parts. -/
namespace Xp
open Lean.Grind
theorem nodup_leC {α : Type} : ∀ {l k : List α}, l.Nodup → (∀ x ∈ l, x ∈ k) → l.length ≤ k.length
  | [], k, _, _ => Nat.zero_le _
  | x :: l, k, h, s => by
    classical
    have hx := s x List.mem_cons_self
    obtain ⟨n1, n2⟩ := List.nodup_cons.mp h
    have := nodup_leC (l := l) (k := k.erase x) n2 fun y hy => (List.mem_erase_of_ne (fun e : y = x => n1 (by rw [← e]; exact hy))).mpr (s y (List.mem_cons_of_mem _ hy))
    rw [List.length_erase_of_mem hx] at this
    have hk := List.length_pos_of_mem hx
    rw [List.length_cons]
    omega
def tups {α : Type} (K : List α) : Nat → List (List α)
  | 0 => [[]]
  | n + 1 => K.flatMap fun k => (tups K n).map fun t => k :: t
theorem tups_mem {α : Type} {K : List α} : ∀ {n : Nat} {t : List α}, t ∈ tups K n ↔ t.length = n ∧ ∀ x ∈ t, x ∈ K
  | 0, t => by
    show t ∈ [[]] ↔ _
    rw [List.mem_singleton]
    constructor
    · rintro rfl
      exact ⟨rfl, fun x h => (List.not_mem_nil h).elim⟩
    · rintro ⟨h, _⟩
      exact List.eq_nil_of_length_eq_zero h
  | n + 1, t => by
    show t ∈ K.flatMap _ ↔ _
    rw [List.mem_flatMap]
    constructor
    · rintro ⟨k, hk, h⟩
      obtain ⟨u, hu, rfl⟩ := List.mem_map.mp h
      obtain ⟨h1, h2⟩ := tups_mem.mp hu
      refine ⟨by rw [List.length_cons, h1], fun x hx => ?_⟩
      rcases List.mem_cons.mp hx with rfl | hx
      · exact hk
      · exact h2 x hx
    · rintro ⟨h1, h2⟩
      cases t with
      | nil => cases h1
      | cons k u =>
        exact ⟨k, h2 k List.mem_cons_self, List.mem_map.mpr ⟨u, tups_mem.mpr ⟨Nat.succ.inj h1, fun x hx => h2 x (List.mem_cons_of_mem _ hx)⟩, rfl⟩⟩
theorem tups_len {α : Type} (K : List α) : ∀ n, (tups K n).length = K.length ^ n
  | 0 => rfl
  | n + 1 => by
    show (K.flatMap _).length = _
    rw [List.length_flatMap]
    have : (K.map fun k => ((tups K n).map fun t => k :: t).length) = K.map fun _ => K.length ^ n := List.map_congr_left fun k _ => by rw [List.length_map, tups_len K n]
    rw [this, List.map_const', List.sum_replicate_nat, Nat.pow_succ, Nat.mul_comm]
theorem tups_nd {α : Type} {K : List α} (h : K.Nodup) : ∀ n, (tups K n).Nodup
  | 0 => List.nodup_cons.mpr ⟨List.not_mem_nil, List.nodup_nil⟩
  | n + 1 => by
    show (K.flatMap _).Nodup
    have ih := tups_nd h n
    generalize tups K n = T at ih
    induction K with
    | nil => exact List.nodup_nil
    | cons k K ihK =>
      obtain ⟨n1, n2⟩ := List.nodup_cons.mp h
      rw [List.flatMap_cons]
      refine List.nodup_append.mpr ⟨?_, ihK n2, fun x hx y hy e => ?_⟩
      · exact List.Pairwise.map _ (fun a b hab e => hab (List.cons.inj e).2) ih
      · subst e
        obtain ⟨u, _, rfl⟩ := List.mem_map.mp hx
        obtain ⟨j, hj, h2⟩ := List.mem_flatMap.mp hy
        obtain ⟨v, _, e⟩ := List.mem_map.mp h2
        exact n1 ((List.cons.inj e).1 ▸ hj)
section
variable {A : Type} [CommRing A]
theorem sub_pow (a b : A) : ∀ n : Nat, Div (a - b) (a ^ n - b ^ n)
  | 0 => ⟨0, by rw [Semiring.pow_zero, Semiring.pow_zero]; grind⟩
  | n + 1 => by
    obtain ⟨c, e⟩ := sub_pow a b n
    refine ⟨c * a + b ^ n, ?_⟩
    rw [Semiring.pow_succ, Semiring.pow_succ]
    have : a ^ n * a - b ^ n * b = (a ^ n - b ^ n) * a + b ^ n * (a - b) := by grind
    rw [this, e]
    grind
namespace Lvs
variable {V : Lvs A}
/-- the constants -/
structure Cst (V : Lvs A) (p : Nat) (C : A → Prop) : Prop where
  zero : C 0
  one : C 1
  add : ∀ {a b}, C a → C b → C (a + b)
  sub : ∀ {a b}, C a → C b → C (a - b)
  mul : ∀ {a b}, C a → C b → C (a * b)
  pow : ∀ {a}, C a → a ^ p = a
  own : ∀ {a w}, C a → V.W w → Div w a → a = 0
def prod : List A → A
  | [] => 1
  | a :: l => a * prod l
/-- x is b by P, one after another -/
def Rep : List A → List A → A → Prop
  | P :: Ps, b :: bs, x => Div P (x - b) ∧ Rep Ps bs x
  | [], [], _ => True
  | _, _, _ => False
theorem rep_len : ∀ {Ps bs : List A} {x : A}, Rep Ps bs x → Ps.length = bs.length
  | [], [], _, _ => rfl
  | [], _ :: _, _, h => h.elim
  | _ :: _, [], _, h => h.elim
  | _ :: Ps, _ :: bs, x, h => by rw [List.length_cons, List.length_cons, rep_len h.2]
theorem rep_by : ∀ {Ps bs : List A} {x y : A}, Rep Ps bs x → Div (prod Ps) (y - x) → Rep Ps bs y
  | [], [], _, _, _, _ => trivial
  | [], _ :: _, _, _, h, _ => h.elim
  | _ :: _, [], _, _, h, _ => h.elim
  | P :: Ps, b :: bs, x, y, h, d => by
    have e : y - b = (x - b) + (y - x) := by grind
    have d1 : Div P (y - x) := Div.trans ⟨prod Ps, rfl⟩ d
    have d2 : Div (prod Ps) (y - x) := Div.trans ⟨P, by show P * prod Ps = prod Ps * P; grind⟩ d
    exact ⟨by rw [e]; exact h.1.add d1, rep_by h.2 d2⟩
/-- two by two without a common part -/
def Coq : List A → Prop
  | [] => True
  | P :: Ps => Cop P (prod Ps) ∧ Coq Ps
theorem rep_has : ∀ {Ps : List A}, Coq Ps → ∀ {bs : List A}, Ps.length = bs.length → ∃ x, Rep Ps bs x
  | [], _, [], _ => ⟨0, trivial⟩
  | [], _, _ :: _, h => by cases h
  | _ :: _, _, [], h => by cases h
  | P :: Ps, c, b :: bs, h => by
    obtain ⟨y, hy⟩ := rep_has c.2 (bs := bs) (Nat.succ.inj h)
    obtain ⟨u, v, e⟩ := c.1
    refine ⟨y + v * prod Ps * (b - y), ?_, rep_by hy ?_⟩
    · refine ⟨u * (y - b), ?_⟩
      have : v * prod Ps = 1 - u * P := by grind
      rw [this]
      grind
    · exact ⟨v * (b - y), by grind⟩
/-- what is steady by a level thing -/
def St (p : Nat) (f v : A) : Prop := Div f (v ^ p - v)
theorem rep_st {p : Nat} {C : A → Prop} (K : V.Cst p C) : ∀ {Ps bs : List A} {x : A}, Coq Ps → Rep Ps bs x → (∀ b ∈ bs, C b) → St p (prod Ps) x
  | [], [], x, _, _, _ => Div.one _
  | [], _ :: _, _, _, h, _ => h.elim
  | _ :: _, [], _, _, h, _ => h.elim
  | P :: Ps, b :: bs, x, c, h, hb => by
    refine c.1.div ?_ (rep_st K c.2 h.2 fun y hy => hb y (List.mem_cons_of_mem _ hy))
    have e : x ^ p - x = (x ^ p - b ^ p) - (x - b) := by
      rw [K.pow (hb b List.mem_cons_self)]
      grind
    rw [e]
    exact (h.1.trans (sub_pow x b p)).sub h.1
theorem rep_eq {p : Nat} {C : A → Prop} (K : V.Cst p C) : ∀ {Ps bs cs : List A} {x : A}, (∀ P ∈ Ps, ∃ n, 1 ≤ n ∧ V.L n P) → Rep Ps bs x → Rep Ps cs x → (∀ b ∈ bs, C b) → (∀ c ∈ cs, C c) → bs = cs
  | [], [], [], _, _, _, _, _, _ => rfl
  | [], _ :: _, _, _, _, h, _, _, _ => h.elim
  | [], [], _ :: _, _, _, _, h, _, _ => h.elim
  | _ :: _, [], _, _, _, h, _, _, _ => h.elim
  | _ :: _, _ :: _, [], _, _, _, h, _, _ => h.elim
  | P :: Ps, b :: bs, c :: cs, x, hP, h, g, hb, hc => by
    have tl := rep_eq K (fun Q hQ => hP Q (List.mem_cons_of_mem _ hQ)) h.2 g.2 (fun y hy => hb y (List.mem_cons_of_mem _ hy)) (fun y hy => hc y (List.mem_cons_of_mem _ hy))
    obtain ⟨n, n1, l⟩ := hP P List.mem_cons_self
    obtain ⟨w, hw, dw⟩ := has l n1
    have e : b - c = (x - c) - (x - b) := by grind
    have d : Div w (b - c) := dw.trans (by rw [e]; exact g.1.sub h.1)
    have z := K.own (K.sub (hb b List.mem_cons_self) (hc c List.mem_cons_self)) hw d
    rw [tl, show b = c by grind]
/-- a sum by constants -/
def comb' : List A → List A → A
  | a :: as, m :: ms => a * m + comb' as ms
  | _, _ => 0
/-- ms: the steady things by s are their sums by constants -/
def Gen (V : Lvs A) (p : Nat) (C : A → Prop) (s : A) (ms : List A) : Prop := ∀ v, St p s v → ∃ as, as.length = ms.length ∧ (∀ a ∈ as, C a) ∧ Div s (v - comb' as ms)
/-- no more parts than masks -/
theorem parts_le {p : Nat} (p2 : 2 ≤ p) {C : A → Prop} (K : V.Cst p C) {Ks : List A} (kn : Ks.Nodup) (kl : Ks.length = p) (ki : ∀ a, a ∈ Ks ↔ C a) {ms Ps : List A} (g : V.Gen p C (prod Ps) ms) (c : Coq Ps) (hP : ∀ P ∈ Ps, ∃ n, 1 ≤ n ∧ V.L n P) : Ps.length ≤ ms.length := by
  have pick : ∀ bs : List A, ∃ as : List A, bs ∈ tups Ks Ps.length → as ∈ tups Ks ms.length ∧ Rep Ps bs (comb' as ms) := fun bs => by
    by_cases hb : bs ∈ tups Ks Ps.length
    · obtain ⟨h1, h2⟩ := tups_mem.mp hb
      obtain ⟨x, hx⟩ := rep_has c (bs := bs) h1.symm
      obtain ⟨as, a1, a2, a3⟩ := g x (rep_st K c hx fun b hb => (ki b).mp (h2 b hb))
      refine ⟨as, fun _ => ⟨tups_mem.mpr ⟨a1, fun a ha => (ki a).mpr (a2 a ha)⟩, rep_by hx ?_⟩⟩
      obtain ⟨q, e⟩ := a3
      exact ⟨-q, by grind⟩
    · exact ⟨[], fun h => absurd h hb⟩
  have nd : ((tups Ks Ps.length).map fun bs => Classical.choose (pick bs)).Nodup := List.pairwise_map.mpr ((tups_nd kn Ps.length).imp_of_mem fun {bs cs} hb hc ne e => ne (by
    have r1 := (Classical.choose_spec (pick bs) hb).2
    have r2 := (Classical.choose_spec (pick cs) hc).2
    rw [← e] at r2
    exact rep_eq K hP r1 r2 (fun b h => (ki b).mp ((tups_mem.mp hb).2 b h)) (fun b h => (ki b).mp ((tups_mem.mp hc).2 b h))))
  have le := nodup_leC nd (k := tups Ks ms.length) fun x hx => by
    obtain ⟨bs, hb, rfl⟩ := List.mem_map.mp hx
    exact (Classical.choose_spec (pick bs) hb).1
  rw [List.length_map, tups_len, tups_len, kl] at le
  exact (Nat.pow_le_pow_iff_right (show 1 < p by omega)).mp le
end Lvs
end
end Xp
end
section
set_option Elab.async false
set_option linter.all false
/-! When the parts by the masks are whole. -/
namespace Xp
open Lean.Grind
section
variable {A : Type} [CommRing A]
namespace Lvs
variable {V : Lvs A}
theorem prod_app : ∀ (a b : List A), prod (a ++ b) = prod a * prod b
  | [], b => by show prod b = 1 * prod b; grind
  | x :: a, b => by
    show x * prod (a ++ b) = x * prod a * prod b
    rw [prod_app a b]
    grind
theorem prod_mem : ∀ {l : List A} {P : A}, P ∈ l → Div P (prod l)
  | x :: l, P, h => by
    rcases List.mem_cons.mp h with rfl | h
    · exact ⟨prod l, rfl⟩
    · exact (prod_mem h).mulL x
theorem prod_lv : ∀ {l : List A}, (∀ P ∈ l, ∃ n, V.L n P) → ∃ n, V.L n (prod l)
  | [], _ => ⟨0, V.one⟩
  | P :: l, h => by
    obtain ⟨n, hn⟩ := h P List.mem_cons_self
    obtain ⟨m, hm⟩ := prod_lv (l := l) fun Q hQ => h Q (List.mem_cons_of_mem _ hQ)
    exact ⟨n + m, V.mul hn hm⟩
theorem coq_of : ∀ {Ps : List A}, (∀ P ∈ Ps, ∃ n, V.L n P) → V.Sqf (prod Ps) → Coq Ps
  | [], _, _ => trivial
  | P :: Ps, h, s => by
    obtain ⟨n, l⟩ := h P List.mem_cons_self
    refine ⟨cop_of l fun w hw d1 d2 => s w hw ?_, coq_of (fun Q hQ => h Q (List.mem_cons_of_mem _ hQ)) (s.part ⟨P, by show P * prod Ps = prod Ps * P; grind⟩)⟩
    obtain ⟨a, ea⟩ := d1
    obtain ⟨b, eb⟩ := d2
    refine ⟨a * b, ?_⟩
    show P * prod Ps = _
    rw [ea, eb]
    grind
/-- a level thing that isn't whole parts -/
theorem splits {n : Nat} {P : A} (l : V.L n P) (n1 : 1 ≤ n) (no : ¬ V.W P) : ∃ h c j k, P = h * c ∧ V.L j h ∧ V.L k c ∧ 1 ≤ j ∧ 1 ≤ k := by
  obtain ⟨w, hw, c, e⟩ := has l n1
  obtain ⟨j, j1, lw⟩ := hw.ex
  obtain ⟨jn, lc⟩ := V.quot l lw e
  by_cases z : n - j = 0
  · rw [z] at lc
    have : P = w := by rw [e, V.nought lc]; grind
    exact absurd (this ▸ hw) no
  · exact ⟨w, c, j, n - j, e, lw, lc, j1, by omega⟩
theorem prime_list {w : A} (hw : V.W w) : ∀ {Ps : List A}, Div w (prod Ps) → ∃ P ∈ Ps, Div w P
  | [], d => absurd d hw.not_one
  | P :: Ps, d => by
    rcases hw.prime (show Div w (P * prod Ps) from d) with d | d
    · exact ⟨P, List.mem_cons_self, d⟩
    · obtain ⟨Q, hQ, dQ⟩ := prime_list hw d
      exact ⟨Q, List.mem_cons_of_mem _ hQ, dQ⟩
theorem ws_of {Ps : List A} (h : ∀ P ∈ Ps, V.W P) (s : V.Sqf (prod Ps)) : V.Ws (prod Ps) Ps := by
  refine ⟨?_, fun w => ⟨fun hw => ⟨h w hw, prod_mem hw⟩, fun ⟨hw, d⟩ => ?_⟩⟩
  · induction Ps with
    | nil => exact List.nodup_nil
    | cons P Ps ih =>
      have hP := h P List.mem_cons_self
      refine List.nodup_cons.mpr ⟨fun m => s P hP ?_, ih (fun Q hQ => h Q (List.mem_cons_of_mem _ hQ)) (s.part ⟨P, by show P * prod Ps = prod Ps * P; grind⟩)⟩
      obtain ⟨c, e⟩ := prod_mem m
      refine ⟨c, ?_⟩
      show P * prod Ps = _
      rw [e]
      grind
  · obtain ⟨P, hP, dP⟩ := prime_list hw d
    rw [hw.eq (h P hP) dP]
    exact hP
/-- as many parts as masks: each is whole -/
theorem whole_count {p : Nat} (p2 : 2 ≤ p) {C : A → Prop} (K : V.Cst p C) {Ks : List A} (kn : Ks.Nodup) (kl : Ks.length = p) (ki : ∀ a, a ∈ Ks ↔ C a) {ms Ps : List A} (g : V.Gen p C (prod Ps) ms) (s : V.Sqf (prod Ps)) (hP : ∀ P ∈ Ps, ∃ n, 1 ≤ n ∧ V.L n P) (e : Ps.length = ms.length) : ∀ P ∈ Ps, V.W P := fun P hm => by
  refine Classical.byContradiction fun no => ?_
  obtain ⟨n, n1, l⟩ := hP P hm
  obtain ⟨h, c, j, k, e1, lh, lc, j1, k1⟩ := splits l n1 no
  obtain ⟨l1, l2, rfl⟩ := List.append_of_mem hm
  have ep : prod (l1 ++ h :: c :: l2) = prod (l1 ++ P :: l2) := by
    rw [prod_app, prod_app]
    show prod l1 * (h * (c * prod l2)) = prod l1 * (P * prod l2)
    rw [e1]
    grind
  have hP' : ∀ Q ∈ l1 ++ h :: c :: l2, ∃ n, 1 ≤ n ∧ V.L n Q := fun Q hQ => by
    rcases List.mem_append.mp hQ with hQ | hQ
    · exact hP Q (List.mem_append_left _ hQ)
    rcases List.mem_cons.mp hQ with rfl | hQ
    · exact ⟨j, j1, lh⟩
    rcases List.mem_cons.mp hQ with rfl | hQ
    · exact ⟨k, k1, lc⟩
    · exact hP Q (List.mem_append_right _ (List.mem_cons_of_mem _ hQ))
  have := parts_le p2 K kn kl ki (ms := ms) (Ps := l1 ++ h :: c :: l2) (by rw [ep]; exact g) (coq_of (fun Q hQ => (hP' Q hQ).imp fun _ h => h.2) (by rw [ep]; exact s)) hP'
  rw [← e] at this
  simp at this
  omega
/-- constant by P -/
def Con (C : A → Prop) (P v : A) : Prop := ∃ k, C k ∧ Div P (v - k)
theorem con_comb {p : Nat} {C : A → Prop} (K : V.Cst p C) {P : A} : ∀ {as ms : List A}, (∀ a ∈ as, C a) → (∀ m ∈ ms, Con C P m) → Con C P (comb' as ms)
  | [], [], _, _ => ⟨0, K.zero, 0, by show (0 : A) - 0 = P * 0; grind⟩
  | [], _ :: _, _, _ => ⟨0, K.zero, 0, by show (0 : A) - 0 = P * 0; grind⟩
  | _ :: _, [], _, _ => ⟨0, K.zero, 0, by show (0 : A) - 0 = P * 0; grind⟩
  | a :: as, m :: ms, ha, hm => by
    obtain ⟨k, ck, q, e⟩ := con_comb K (as := as) (ms := ms) (fun b hb => ha b (List.mem_cons_of_mem _ hb)) (fun b hb => hm b (List.mem_cons_of_mem _ hb))
    obtain ⟨j, cj, r, f⟩ := hm m List.mem_cons_self
    refine ⟨a * j + k, K.add (K.mul (ha a List.mem_cons_self) cj) ck, a * r + q, ?_⟩
    show a * m + comb' as ms - (a * j + k) = _
    have : a * m + comb' as ms - (a * j + k) = a * (m - j) + (comb' as ms - k) := by grind
    rw [this, e, f]
    grind
/-- all masks constant by a part: it is whole -/
theorem whole_full {p : Nat} {C : A → Prop} (K : V.Cst p C) (p1 : 1 ≤ p) {s P : A} {ms : List A} {N n : Nat} (ls : V.L N s) (sq : V.Sqf s) (g : V.Gen p C s ms) (d : Div P s) (l : V.L n P) (n1 : 1 ≤ n) (hc : ∀ m ∈ ms, Con C P m) : V.W P := by
  refine Classical.byContradiction fun no => ?_
  obtain ⟨w, hw, c, e⟩ := has l n1
  obtain ⟨j, j1, lw⟩ := hw.ex
  obtain ⟨jn, lc⟩ := V.quot l lw e
  by_cases z : n - j = 0
  · rw [z] at lc
    have : P = w := by rw [e, V.nought lc]; grind
    exact no (this ▸ hw)
  obtain ⟨x, hx, dx⟩ := has lc (by omega)
  obtain ⟨y, ey⟩ := d
  have es : s = w * (c * y) := by rw [ey, e]; grind
  have nd : ¬ Div w (c * y) := fun ⟨q, eq⟩ => sq w hw ⟨q, by rw [es, eq]; grind⟩
  obtain ⟨u, v, e1⟩ := hw.cop nd
  -- v * (c * y) is 1 by w, 0 by the rest
  have d1 : Div w (v * (c * y) - 1) := ⟨-u, by grind⟩
  have d2 : Div (c * y) (v * (c * y)) := (Div.refl _).mulL v
  generalize v * (c * y) = t at d1 d2
  have st : St p s t := by
    rw [es]
    refine Cop.div (hw.cop nd) ?_ ?_
    · have e2 : t ^ p - t = (t ^ p - 1 ^ p) - (t - 1) := by
        rw [K.pow K.one]
        grind
      rw [e2]
      exact (d1.trans (sub_pow t 1 p)).sub d1
    · obtain ⟨p', rfl⟩ : ∃ p', p = p' + 1 := ⟨p - 1, by omega⟩
      rw [Semiring.pow_succ]
      exact (d2.mulL _).sub d2
  obtain ⟨as, a1, a2, a3⟩ := g t st
  obtain ⟨k, ck, dk⟩ := con_comb K a2 hc
  have dP : Div P (t - k) := by
    have e3 : t - k = (t - comb' as ms) + (comb' as ms - k) := by grind
    rw [e3]
    exact (Div.trans ⟨y, ey⟩ a3).add dk
  have dw : Div w (t - k) := Div.trans ⟨c, e⟩ dP
  have dxP : Div x P := dx.trans ⟨w, by rw [e]; grind⟩
  have k0 : k = 0 := K.own ck hx (by
    have e4 : k = t - (t - k) := by grind
    rw [e4]
    exact (dx.trans (Div.trans ⟨y, rfl⟩ d2)).sub (dxP.trans dP))
  have o : Div w 1 := by
    have e5 : (1 : A) = (t - k) - (t - 1) := by rw [k0]; grind
    rw [e5]
    exact dw.sub d1
  exact hw.not_one o
end Lvs
end
end Xp
end
section
set_option Elab.async false
set_option linter.all false
/-! Polynomials by a prime: a ring with level things. -/
namespace Xp
open Lean.Grind
abbrev Fx (p : Nat) := Fq (p : Int) nul
theorem cg_nul {p : Int} {x y : Cf} : Cg p nul x y ↔ Eqm p x y := by
  constructor
  · intro h k
    have z := h.nought (Eqm.refl p nul) k
    have z : (x k + -1 * y k) % p = 0 := z.trans (Int.zero_emod p)
    exact Int.emod_eq_emod_iff_emod_sub_eq_zero.mpr (by rw [← z]; congr 1; omega)
  · exact Cg.of
theorem fx_eq {p : Nat} {a b : Po} : (Qu.mk a : Fx p) = Qu.mk b ↔ Eqm p a.c b.c := mk_eq.trans cg_nul
theorem fx_div {p : Nat} {a b : Po} : Div (Qu.mk a : Fx p) (Qu.mk b) ↔ Dv p a.c b.c := by
  constructor
  · rintro ⟨c, e⟩
    obtain ⟨q, rfl⟩ := Qu.rep c
    have e : (Qu.mk b : Fx p) = Qu.mk (a * q) := e
    exact ⟨q.c, q.fi, fx_eq.mp e⟩
  · rintro ⟨q, fq, e⟩
    exact ⟨Qu.mk ⟨q, fq⟩, (fx_eq (a := b) (b := a * ⟨q, fq⟩)).mpr e⟩
/-- level by p, of degree d -/
structure Lm (p : Nat) (d : Nat) (x : Cf) : Prop where
  top : x d % (p : Int) = 1
  out : ∀ k, d < k → x k % (p : Int) = 0
theorem Lm.cg {p d : Nat} {x y : Cf} (h : Lm p d x) (e : Eqm p x y) : Lm p d y := ⟨(e d).symm.trans h.top, fun k hk => (e k).symm.trans (h.out k hk)⟩
theorem cut_eqm {p : Int} {f : Cf} {a : Nat} (h : ∀ i, a < i → f i % p = 0) : Eqm p f (fun k => if k ≤ a then f k else 0) := fun k => by
  show f k % p = (if k ≤ a then f k else 0) % p
  by_cases g : k ≤ a
  · rw [if_pos g]
  · rw [if_neg g, h k (by omega), Int.zero_emod]
theorem cvm_top {p : Int} {f g : Cf} {a b : Nat} (hf : ∀ i, a < i → f i % p = 0) (hg : ∀ i, b < i → g i % p = 0) : cv f g (a + b) % p = (f a * g b) % p ∧ ∀ k, a + b < k → cv f g k % p = 0 := by
  have e := (cut_eqm hf).cv (cut_eqm hg)
  have hf' : ∀ i, a < i → (fun k => if k ≤ a then f k else 0) i = 0 := fun i hi => if_neg (by omega)
  have hg' : ∀ i, b < i → (fun k => if k ≤ b then g k else 0) i = 0 := fun i hi => if_neg (by omega)
  constructor
  · rw [e (a + b), cv_top hf' hg']
    show ((if a ≤ a then f a else 0) * (if b ≤ b then g b else 0)) % p = _
    rw [if_pos (Nat.le_refl a), if_pos (Nat.le_refl b)]
  · intro k hk
    rw [e k, cv_over hf' hg' hk, Int.zero_emod]
theorem Lm.mul {p m n : Nat} (p2 : 2 ≤ p) {x y : Cf} (a : Lm p m x) (b : Lm p n y) : Lm p (m + n) (cv x y) := by
  obtain ⟨h1, h2⟩ := cvm_top a.out b.out
  refine ⟨?_, h2⟩
  rw [h1, Int.mul_emod, a.top, b.top]
  exact one_mod (by omega)
theorem Lm.uniq {p m n : Nat} {x : Cf} (a : Lm p m x) (b : Lm p n x) : m = n := by
  by_cases h : m < n
  · have := a.out n h
    rw [b.top] at this
    cases this
  · by_cases g : n < m
    · have := b.out m g
      rw [a.top] at this
      cases this
    · omega
theorem pr_mul {p : Nat} (hp : Pr p) {a b : Int} (ha : a % (p : Int) ≠ 0) (hb : b % (p : Int) ≠ 0) : (a * b) % (p : Int) ≠ 0 := fun z => by
  obtain ⟨c, hc⟩ := hp.2 a ha
  have : b % (p : Int) = 0 := by
    have e : (c * (a * b)) % (p : Int) = 0 := by rw [Int.mul_emod, z, Int.mul_zero, Int.zero_emod]
    rw [← Int.mul_assoc, Int.mul_emod, hc, Int.one_mul, Int.emod_emod_of_dvd _ (Int.dvd_refl _)] at e
    exact e
  exact hb this
/-- a product with a level one is nought only of nought -/
theorem Lm.can {p m : Nat} (hp : Pr p) {x q : Cf} (a : Lm p m x) (fq : Fi q) (e : Eqm p (cv x q) nul) : Eqm p q nul := by
  refine Classical.byContradiction fun no => ?_
  obtain ⟨N, hN⟩ := fq
  obtain ⟨d, _, h1, h2⟩ := deg_ex (p := p) N (x := q) (fun k hk => by rw [hN k hk, Int.zero_emod]) no
  have := (cvm_top a.out h2).1
  rw [e (m + d), show nul (m + d) = 0 from rfl, Int.zero_emod, Int.mul_emod, a.top, Int.one_mul, Int.emod_emod_of_dvd _ (Int.dvd_refl _)] at this
  exact h1 this.symm
theorem Lm.quot {p m k : Nat} (hp : Pr p) {x h q : Cf} (a : Lm p m x) (b : Lm p k h) (fq : Fi q) (e : Eqm p x (cv h q)) : k ≤ m ∧ Lm p (m - k) q := by
  have p2 := hp.1
  have no : ¬ Eqm p q nul := fun z => by
    have t := e m
    rw [a.top, (Eqm.refl _ _).cv z m] at t
    have : cv h nul m = 0 := by rw [cv_nul]; rfl
    rw [this, Int.zero_emod] at t
    cases t
  obtain ⟨N, hN⟩ := fq
  obtain ⟨d, _, h1, h2⟩ := deg_ex (p := p) N (x := q) (fun k hk => by rw [hN k hk, Int.zero_emod]) no
  obtain ⟨t1, t2⟩ := cvm_top b.out h2
  have t3 : (h k * q d) % (p : Int) = q d % (p : Int) := by
    rw [Int.mul_emod, b.top, Int.one_mul, Int.emod_emod_of_dvd _ (Int.dvd_refl _)]
  have em : m = k + d := by
    by_cases g : m < k + d
    · have := a.out (k + d) g
      rw [e (k + d), t1, t3] at this
      exact absurd this h1
    · by_cases g2 : k + d < m
      · have := t2 m g2
        rw [← e m, a.top] at this
        cases this
      · omega
  refine ⟨by omega, ?_⟩
  rw [show m - k = d by omega]
  refine ⟨?_, h2⟩
  rw [← t3, ← t1, ← e (k + d), ← em]
  exact a.top
theorem lv_lm {p d : Nat} (p2 : 2 ≤ p) {t : List Int} (h : t ∈ tp p d) : Lm p d (lv t) := by
  have l := (tp_mem.mp h).1
  refine ⟨?_, fun k hk => by rw [show lv t k = 0 from cf_out (by rw [List.length_append, l]; exact hk), Int.zero_emod]⟩
  show (t ++ [1]).getD d 0 % (p : Int) = 1
  rw [List.getD_eq_getElem?_getD, List.getElem?_append_right (by omega), l, Nat.sub_self]
  exact one_mod (by omega)
def LvF (p : Nat) (d : Nat) (a : Fx p) : Prop := ∃ b : Po, a = Qu.mk b ∧ Lm p d b.c
theorem lvF_mk {p d : Nat} {b : Po} : LvF p d (Qu.mk b) ↔ Lm p d b.c := by
  constructor
  · rintro ⟨c, e, h⟩
    exact h.cg (fx_eq.mp e.symm)
  · exact fun h => ⟨b, rfl, h⟩
theorem mk_ad {p : Nat} (a b : Po) : (Qu.mk (a + b) : Fx p) = Qu.mk a + Qu.mk b := rfl
/-- polynomials by p -/
def lvsF {p : Nat} (hp : Pr p) : Lvs (Fx p) where
  L := LvF p
  one := ⟨1, rfl, one_mod hp.1, fun k hk => by
    show one k % (p : Int) = 0
    rw [show one k = 0 from if_neg (by omega), Int.zero_emod]⟩
  nought {a} h := by
    obtain ⟨b, rfl, h⟩ := h
    refine (fx_eq (a := b) (b := 1)).mpr fun k => ?_
    show b.c k % (p : Int) = one k % (p : Int)
    by_cases g : k = 0
    · rw [g, h.top]
      exact (one_mod hp.1).symm
    · rw [h.out k (by omega), show one k = 0 from if_neg g, Int.zero_emod]
  mul {m n a b} h g := by
    obtain ⟨x, rfl, h⟩ := h
    obtain ⟨y, rfl, g⟩ := g
    exact ⟨x * y, rfl, h.mul hp.le g⟩
  uniq {m n a} h g := by
    obtain ⟨x, rfl, h⟩ := h
    exact h.uniq (lvF_mk.mp g)
  gcd {m a} h b := by
    obtain ⟨x, rfl, h⟩ := h
    obtain ⟨y, rfl⟩ := Qu.rep b
    have nz : ¬ Eqm p x.c nul := fun z => by
      have := z m
      rw [h.top, show nul m = 0 from rfl, Int.zero_emod] at this
      cases this
    obtain ⟨e, t, ht, ⟨u, v, fu, fv, it⟩, _, all⟩ := gen hp (fun z => ∃ u v, Fi u ∧ Fi v ∧ Eqm p z (ad (cv u x.c) (cv v y.c))) (fun {z z'} g ⟨u, v, fu, fv, i⟩ => ⟨u, v, fu, fv, g.symm.trans i⟩)
      (fun {z z'} ⟨u, v, fu, fv, i⟩ ⟨u', v', fu', fv', i'⟩ => ⟨ad u u', ad v v', fu.add fu', fv.add fv', (i.add i').trans (Eqm.of_eq (by
        rw [ad_cv, ad_cv]
        funext k
        show cv u x.c k + cv v y.c k + (cv u' x.c k + cv v' y.c k) = cv u x.c k + cv u' x.c k + (cv v y.c k + cv v' y.c k)
        omega))⟩)
      (fun {z} q fq ⟨u, v, fu, fv, i⟩ => ⟨cv u q, cv v q, fu.cv fq, fv.cv fq, (i.cv (Eqm.refl p q)).trans (Eqm.of_eq (by
        rw [ad_cv, cvA u q, cvC q, ← cvA, cvA v q, cvC q, ← cvA]))⟩)
      (a := x.c) ⟨one, nul, Fi.one, ⟨0, fun _ _ => rfl⟩, Eqm.of_eq (by
        rw [one_cv, nul_cv]
        funext k
        show x.c k = x.c k + 0
        omega)⟩ x.fi nz
    have dx := all x.c x.fi ⟨one, nul, Fi.one, ⟨0, fun _ _ => rfl⟩, Eqm.of_eq (by
        rw [one_cv, nul_cv]
        funext k
        show x.c k = x.c k + 0
        omega)⟩
    have dy := all y.c y.fi ⟨nul, one, ⟨0, fun _ _ => rfl⟩, Fi.one, Eqm.of_eq (by
        rw [one_cv, nul_cv]
        funext k
        show y.c k = 0 + y.c k
        omega)⟩
    refine ⟨e, Qu.mk (Po.of (t ++ [1])), Qu.mk ⟨u, fu⟩, Qu.mk ⟨v, fv⟩, ⟨_, rfl, lv_lm hp.le ht⟩, fx_div.mpr dx, fx_div.mpr dy, ?_⟩
    exact (fx_eq (a := Po.of (t ++ [1])) (b := ⟨u, fu⟩ * x + ⟨v, fv⟩ * y)).mpr it
  quot {m k a h c} la lh e := by
    obtain ⟨x, rfl, la⟩ := la
    obtain ⟨y, rfl, lh⟩ := lh
    obtain ⟨q, rfl⟩ := Qu.rep c
    obtain ⟨h1, h2⟩ := la.quot hp lh q.fi (fx_eq (a := x) (b := y * q) |>.mp e)
    exact ⟨h1, q, rfl, h2⟩
  canc {m a x y} la e := by
    obtain ⟨f, rfl, la⟩ := la
    obtain ⟨u, rfl⟩ := Qu.rep x
    obtain ⟨v, rfl⟩ := Qu.rep y
    have e1 : (Qu.mk (f * (u - v)) : Fx p) = Qu.mk 0 := by
      show Qu.mk f * (Qu.mk u - Qu.mk v) = 0
      have : (Qu.mk f : Fx p) * Qu.mk u = Qu.mk f * Qu.mk v := e
      grind
    have e2 := la.can hp (u - v).fi (fx_eq.mp e1)
    have e3 : (Qu.mk (u - v) : Fx p) = Qu.mk 0 := fx_eq.mpr e2
    have e4 : (Qu.mk u : Fx p) - Qu.mk v = 0 := e3
    grind
end Xp
end
section
set_option linter.all false
set_option maxHeartbeats 1000000
/-! Turns of what a rule leaves, by rows; how often (no program in it). -/
namespace Xp
open Lean.Grind
theorem turn_el {p : Nat} (hp : 2 ≤ p) (h : Fb p) {f : Cf} {ts ms : List Int} {rows : List (List Int)} (lt : ts.length ≤ rows.length) (hr : ∀ (i : Nat) (r : List Int), rows[i]? = some r → Cg p f (pw (xs one) (p * i)) (cf r))
    (e : Eqm p (cf ms) (wgP ts rows).c) : el (p : Int) f ms = (el (p : Int) f ts) ^ p := by
  have b : el (p : Int) f ms = Qu.mk (wgP ts rows) := mk_eq.mpr (Cg.of e)
  rw [b, wgP_hv (z := (Qu.mk Po.X : Fq p f) ^ p) 1 lt fun i r hi => ?_, el_hv, hv_turn hp h]
  · grind
  · rw [Semiring.one_mul, ← pow_mulR]
    exact (cgX (g := nul)).mp (hr i r hi)
theorem pow_pow {R : Type} [CommRing R] (x : R) (q a b : Nat) : (x ^ (q ^ a)) ^ (q ^ b) = x ^ (q ^ (a + b)) := by
  rw [← pow_mulR, ← Nat.pow_add]
theorem pow_succ' {R : Type} [CommRing R] (x : R) (q a : Nat) : (x ^ (q ^ a)) ^ q = x ^ (q ^ (a + 1)) := by
  rw [← pow_mulR, ← Nat.pow_succ]
theorem pow_many {R : Type} [CommRing R] {x : R} {q n : Nat} (h : x ^ (q ^ n) = x) : ∀ m, x ^ (q ^ (n * m)) = x
  | 0 => by rw [Nat.mul_zero, Nat.pow_zero, Semiring.pow_one]
  | m + 1 => by rw [Nat.mul_succ, ← pow_pow, pow_many h m, h]
/-- the least count of turns -/
def LeastT {R : Type} [CommRing R] (q : Nat) (x : R) (m : Nat) : Prop := 1 ≤ m ∧ x ^ (q ^ m) = x ∧ ∀ j, 1 ≤ j → j < m → x ^ (q ^ j) ≠ x
theorem LeastT.uniq {R : Type} [CommRing R] {q : Nat} {x : R} {m n : Nat} (a : LeastT q x m) (b : LeastT q x n) : m = n := by
  rcases Nat.lt_trichotomy m n with h | h | h
  · exact absurd a.2.1 (b.2.2 m a.1 h)
  · exact h
  · exact absurd b.2.1 (a.2.2 n b.1 h)
theorem el_pw {p : Int} {f : Cf} {ms zs : List Int} {e : Nat} : el p f zs = (el p f ms) ^ e ↔ Cg p f (pw (cf ms) e) (cf zs) := by
  show (Qu.mk (Po.of zs) : Fq p f) = (Qu.mk (Po.of ms)) ^ e ↔ _
  rw [← Qu.mk_pow]
  constructor
  · intro h
    have := (mk_eq.mp h).symm
    rwa [Po.pow_c] at this
  · intro h
    refine (mk_eq.mpr ?_)
    rw [Po.pow_c]
    exact h.symm
end Xp
end
section
set_option linter.all false
set_option maxHeartbeats 1000000
/-! Rows over a ring with all its elements told: worth, roots, the row that roots build; least rows (no program in it). -/
namespace Xp
open Lean.Grind
section
variable {R : Type} [CommRing R]
/-- the worth of a row at y -/
def hvR (y : R) : List R → R
  | [] => 0
  | c :: cs => c + y * hvR y cs
/-- a row times x less r, with what is carried -/
def offR (r : R) : List R → R → List R
  | [], c => [c]
  | a :: as, c => (c - r * a) :: offR r as a
def builtR (rs : List R) : List R := rs.foldl (fun t r => offR r t 0) [1]
theorem offR_len (r : R) : ∀ (as : List R) (c : R), (offR r as c).length = as.length + 1
  | [], c => rfl
  | a :: as, c => by
    show (offR r as a).length + 1 = as.length + 1 + 1
    rw [offR_len r as a]
theorem offR_hv (r y : R) : ∀ (as : List R) (c : R), hvR y (offR r as c) = c + (y - r) * hvR y as
  | [], c => by
    show c + y * 0 = c + (y - r) * 0
    grind
  | a :: as, c => by
    show (c - r * a) + y * hvR y (offR r as a) = c + (y - r) * (a + y * hvR y as)
    rw [offR_hv r y as a]
    grind
theorem offR_snoc (r : R) : ∀ (as : List R) (c b : R), ∃ ds, offR r (as ++ [b]) c = ds ++ [b]
  | [], c, b => ⟨[c - r * b], rfl⟩
  | a :: as, c, b => by
    obtain ⟨ds, e⟩ := offR_snoc r as a b
    exact ⟨(c - r * a) :: ds, by show (c - r * a) :: offR r (as ++ [b]) a = _; rw [e]; rfl⟩
theorem built_go (y : R) : ∀ (rs t : List R) (ds : List R), t = ds ++ [1] → (∃ es, rs.foldl (fun t r => offR r t 0) t = es ++ [1] ∧ es.length = ds.length + rs.length) ∧ (hvR y t = 0 ∨ y ∈ rs → hvR y (rs.foldl (fun t r => offR r t 0) t) = 0)
  | [], t, ds, e => ⟨⟨ds, e, rfl⟩, fun h => h.elim id fun h => nomatch h⟩
  | r :: rs, t, ds, e => by
    obtain ⟨es, e2⟩ := offR_snoc r ds 0 1
    rw [← e] at e2
    have l : es.length = ds.length + 1 := by
      have := congrArg List.length e2
      rw [offR_len, e, List.length_append, List.length_append] at this
      exact (Nat.add_right_cancel this).symm
    obtain ⟨⟨fs, e3, l3⟩, h3⟩ := built_go y rs _ es e2
    refine ⟨⟨fs, e3, by rw [l3, l, List.length_cons]; omega⟩, fun h => h3 ?_⟩
    rcases h with h | h
    · left
      rw [offR_hv, h]
      grind
    · rcases List.mem_cons.mp h with rfl | h
      · left
        rw [offR_hv]
        grind
      · exact .inr h
theorem builtR_ex (rs : List R) : ∃ es, builtR rs = es ++ [1] ∧ es.length = rs.length := by
  obtain ⟨⟨es, e, l⟩, _⟩ := built_go (0 : R) rs [1] [] rfl
  exact ⟨es, e, by rw [l]; exact Nat.zero_add _⟩
theorem builtR_root {rs : List R} {y : R} (h : y ∈ rs) : hvR y (builtR rs) = 0 := (built_go y rs [1] [] rfl).2 (.inr h)
theorem mo_row {b c : R} (e : c * b = 1) : ∀ ds : List R, Mo ds.length fun y => b * hvR y (ds ++ [c])
  | [] => fun y => by
    show b * (c + y * 0) = 1
    grind
  | d :: ds => ⟨fun y => b * hvR y (ds ++ [c]), b * d, mo_row e ds, fun y => by
    show b * (d + y * hvR y (ds ++ [c])) = y * (b * hvR y (ds ++ [c])) + b * d
    grind⟩
theorem hvR_zero (y : R) : ∀ ds : List R, hvR y (ds ++ [0]) = hvR y ds
  | [] => by
    show (0 : R) + y * 0 = 0
    grind
  | d :: ds => by
    show d + y * hvR y (ds ++ [0]) = d + y * hvR y ds
    rw [hvR_zero y ds]
/-- a row with more roots than places is nought -/
theorem nul_row [Dm R] {L : List R} (al : Al R L) {l : List R} (nd : l.Nodup) : ∀ (n : Nat) {cs : List R}, cs.length = n → (∀ y ∈ l, hvR y cs = 0) → cs.length ≤ l.length → ∀ c ∈ cs, c = 0
  | 0, cs, e, _, _ => fun c hc => by
    rw [List.length_eq_zero_iff.mp e] at hc
    cases hc
  | n + 1, cs, e, z, h => by
    obtain ⟨ds, c, rfl⟩ : ∃ ds c, cs = ds ++ [c] := ⟨cs.dropLast, cs.getLast (fun z => by rw [z] at e; cases e), (List.dropLast_concat_getLast _).symm⟩
    rw [List.length_append] at e h
    have e : ds.length + 1 = n + 1 := e
    have h : ds.length + 1 ≤ l.length := h
    by_cases c0 : c = 0
    · subst c0
      have ih := nul_row al nd n (cs := ds) (by omega) (fun y hy => by rw [← hvR_zero]; exact z y hy) (by omega)
      intro x hx
      rcases List.mem_append.mp hx with hx | hx
      · exact ih x hx
      · exact List.mem_singleton.mp hx
    · exfalso
      obtain ⟨b, hb⟩ := undo al c0
      have := (mo_row hb ds).roots nd fun y hy => by
        show b * hvR y (ds ++ [c]) = 0
        rw [z y hy]
        grind
      omega
theorem hvR_sub (y : R) : ∀ as bs : List R, as.length = bs.length → hvR y (List.zipWith (· - ·) as bs) = hvR y as - hvR y bs
  | [], [], _ => by
    show (0 : R) = 0 - 0
    grind
  | a :: as, b :: bs, h => by
    show (a - b) + y * hvR y (List.zipWith (· - ·) as bs) = (a + y * hvR y as) - (b + y * hvR y bs)
    rw [hvR_sub y as bs (Nat.succ.inj h)]
    grind
theorem zip_nul : ∀ as bs : List R, as.length = bs.length → (∀ c ∈ List.zipWith (· - ·) as bs, c = 0) → as = bs
  | [], [], _, _ => rfl
  | a :: as, b :: bs, h, z => by
    have h1 : a - b = 0 := z _ List.mem_cons_self
    rw [zip_nul as bs (Nat.succ.inj h) fun c hc => z c (List.mem_cons_of_mem _ hc), show a = b by grind]
theorem hvR_app (y : R) : ∀ as bs : List R, hvR y (as ++ bs) = hvR y as + y ^ as.length * hvR y bs
  | [], bs => by
    show hvR y bs = 0 + y ^ 0 * hvR y bs
    rw [Semiring.pow_zero]
    grind
  | a :: as, bs => by
    show a + y * hvR y (as ++ bs) = (a + y * hvR y as) + y ^ (as.length + 1) * hvR y bs
    rw [hvR_app y as bs, Semiring.pow_succ]
    grind
/-- two level rows with as many like roots as their degree are one -/
theorem one_row [Dm R] {L : List R} (al : Al R L) {l : List R} (nd : l.Nodup) {as bs : List R} (h : as.length = bs.length) (hl : as.length ≤ l.length) (z : ∀ y ∈ l, hvR y (as ++ [1]) = hvR y (bs ++ [1])) : as = bs := by
  refine zip_nul as bs h (nul_row al nd _ rfl (fun y hy => ?_) (by rw [List.length_zipWith]; omega))
  have := z y hy
  rw [hvR_app, hvR_app, h] at this
  rw [hvR_sub y as bs h]
  grind
end
theorem hvR_pow {p : Nat} (hp : 2 ≤ p) (h : Fb p) {f : Cf} (y : Fq p f) : ∀ cs : List (Fq p f), (hvR y cs) ^ p = hvR (y ^ p) (cs.map (· ^ p))
  | [] => zero_pow (by omega)
  | c :: cs => by
    show (c + y * hvR y cs) ^ p = c ^ p + y ^ p * hvR (y ^ p) (cs.map (· ^ p))
    rw [frobF hp h, mul_powR, hvR_pow hp h y cs]
/-- the row that roots build, where a turn keeps the roots, is its own turn -/
theorem built_fix {p : Nat} (hp : 2 ≤ p) (h : Fb p) {f : Cf} [Dm (Fq p f)] {L : List (Fq p f)} (al : Al (Fq p f) L) {rs : List (Fq p f)} (nd : rs.Nodup) (cl : ∀ y ∈ rs, ∃ z ∈ rs, z ^ p = y) : ∀ c ∈ builtR rs, c ^ p = c := by
  obtain ⟨es, e, l⟩ := builtR_ex rs
  have k : es.map (· ^ p) = es := one_row al nd (List.length_map ..) (by rw [List.length_map]; omega) fun y hy => by
    obtain ⟨z, hz, rfl⟩ := cl y hy
    have r := builtR_root hz
    have r2 := builtR_root hy
    rw [e] at r r2
    have := hvR_pow hp h z (es ++ [1])
    rw [r, List.map_append, show [(1 : Fq p f)].map (· ^ p) = [1] from by rw [List.map_cons, one_powR]; rfl, zero_pow (by omega)] at this
    rw [← this, r2]
  intro c hc
  rw [e] at hc
  rcases List.mem_append.mp hc with hc | hc
  · obtain ⟨i, hi⟩ := List.mem_iff_getElem?.mp hc
    have : (es.map (· ^ p))[i]? = some c := by rw [k]; exact hi
    rw [List.getElem?_map, hi] at this
    exact Option.some.inj this
  · rw [List.mem_singleton.mp hc]
    exact one_powR p
end Xp
end
section
set_option linter.all false
set_option maxHeartbeats 1000000
/-! The row that a number's turns build: fixed by the turn, the only one of its degree with the number as a root (no program in it). -/
namespace Xp
open Lean.Grind
section
variable {R : Type} [CommRing R]
/-- a number's turns -/
def turnsL (q : Nat) (y : R) (m : Nat) : List R := (List.range m).map fun i => y ^ (q ^ i)
theorem turnsL_len (q : Nat) (y : R) (m : Nat) : (turnsL q y m).length = m := by
  unfold turnsL
  rw [List.length_map, List.length_range]
theorem turnsL_nodup {q : Nat} {y : R} {m : Nat} (h : LeastT q y m) : (turnsL q y m).Nodup := by
  obtain ⟨m1, hm, no⟩ := h
  have key : ∀ i j, i < j → j < m → y ^ (q ^ i) ≠ y ^ (q ^ j) := fun i j ij jm e => by
    refine no (i + (m - j)) (by omega) (by omega) ?_
    rw [← pow_pow, e, pow_pow, show j + (m - j) = m by omega, hm]
  refine nodup_mapI List.nodup_range fun i hi j hj e => ?_
  have hi := List.mem_range.mp hi
  have hj := List.mem_range.mp hj
  rcases Nat.lt_trichotomy i j with g | g | g
  · exact absurd e (key i j g hj)
  · exact g
  · exact absurd e.symm (key j i g hi)
theorem turnsL_mem {q : Nat} {y : R} {m : Nat} (m1 : 1 ≤ m) : y ∈ turnsL q y m := by
  unfold turnsL
  exact List.mem_map.mpr ⟨0, List.mem_range.mpr m1, by rw [Nat.pow_zero, Semiring.pow_one]⟩
theorem turnsL_cl {q : Nat} {y : R} {m : Nat} (h : LeastT q y m) : ∀ x ∈ turnsL q y m, ∃ z ∈ turnsL q y m, z ^ q = x := fun x hx => by
  obtain ⟨m1, hm, _⟩ := h
  obtain ⟨i, hi, rfl⟩ := List.mem_map.mp hx
  have hi := List.mem_range.mp hi
  rcases Nat.eq_zero_or_pos i with z | z
  · subst z
    refine ⟨y ^ (q ^ (m - 1)), List.mem_map.mpr ⟨m - 1, List.mem_range.mpr (by omega), rfl⟩, ?_⟩
    rw [pow_succ', show m - 1 + 1 = m by omega, hm, Nat.pow_zero, Semiring.pow_one]
  · refine ⟨y ^ (q ^ (i - 1)), List.mem_map.mpr ⟨i - 1, List.mem_range.mpr (by omega), rfl⟩, ?_⟩
    rw [pow_succ', show i - 1 + 1 = i by omega]
end
section
variable {p : Nat} {f : Cf}
/-- a row of rests is worth at a turn what the turn makes of its worth -/
theorem fix_worth (hp : 2 ≤ p) (h : Fb p) {es : List (Fq p f)} (fx : ∀ c ∈ es, c ^ p = c) (y : Fq p f) : ∀ i, hvR (y ^ (p ^ i)) es = (hvR y es) ^ (p ^ i)
  | 0 => by rw [Nat.pow_zero, Semiring.pow_one, Semiring.pow_one]
  | i + 1 => by
    have e : es.map (· ^ p) = es := by
      refine List.ext_getElem (List.length_map ..) fun j a b => ?_
      rw [List.getElem_map]
      exact fx _ (List.getElem_mem b)
    have := hvR_pow hp h (y ^ (p ^ i)) es
    rw [e, fix_worth hp h fx y i, pow_succ', pow_succ'] at this
    exact this.symm
theorem fix_roots (hp : 2 ≤ p) (h : Fb p) {es : List (Fq p f)} (fx : ∀ c ∈ es, c ^ p = c) {y : Fq p f} (z : hvR y es = 0) (m : Nat) : ∀ x ∈ turnsL p y m, hvR x es = 0 := fun x hx => by
  obtain ⟨i, _, rfl⟩ := List.mem_map.mp hx
  rw [fix_worth hp h fx, z]
  exact zero_pow (Nat.pow_pos (by omega))
theorem snoc_fix {es : List (Fq p f)} (fx : ∀ c ∈ es, c ^ p = c) : ∀ c ∈ es ++ [1], c ^ p = c := fun c hc => by
  rcases List.mem_append.mp hc with hc | hc
  · exact fx c hc
  · rw [List.mem_singleton.mp hc]
    exact one_powR p
/-- the only level row of rests of a number's degree with it as a root -/
theorem least_one (hp : 2 ≤ p) (h : Fb p) [Dm (Fq p f)] {L : List (Fq p f)} (al : Al (Fq p f) L) {y : Fq p f} {m : Nat} (lt : LeastT p y m) {as bs : List (Fq p f)} (la : as.length = m) (lb : bs.length = m) (fa : ∀ c ∈ as, c ^ p = c) (fb : ∀ c ∈ bs, c ^ p = c) (za : hvR y (as ++ [1]) = 0) (zb : hvR y (bs ++ [1]) = 0) : as = bs :=
  one_row al (turnsL_nodup lt) (la.trans lb.symm) (by rw [turnsL_len]; omega) fun x hx => by rw [fix_roots hp h (snoc_fix fa) za m x hx, fix_roots hp h (snoc_fix fb) zb m x hx]
/-- a row of rests of less places than a number's degree with it as a root is nought -/
theorem least_nul (hp : 2 ≤ p) (h : Fb p) [Dm (Fq p f)] {L : List (Fq p f)} (al : Al (Fq p f) L) {y : Fq p f} {m : Nat} (lt : LeastT p y m) {as : List (Fq p f)} (la : as.length ≤ m) (fa : ∀ c ∈ as, c ^ p = c) (za : hvR y as = 0) : ∀ c ∈ as, c = 0 :=
  nul_row al (turnsL_nodup lt) _ rfl (fun x hx => fix_roots hp h fa za m x hx) (by rw [turnsL_len]; exact la)
/-- what a number's turns build -/
theorem least_built (hp : 2 ≤ p) (h : Fb p) [Dm (Fq p f)] {L : List (Fq p f)} (al : Al (Fq p f) L) {y : Fq p f} {m : Nat} (lt : LeastT p y m) : ∃ es, builtR (turnsL p y m) = es ++ [1] ∧ es.length = m ∧ (∀ c ∈ es, c ^ p = c) ∧ hvR y (es ++ [1]) = 0 := by
  obtain ⟨es, e, l⟩ := builtR_ex (turnsL p y m)
  have fx := built_fix hp h al (turnsL_nodup lt) (turnsL_cl lt)
  rw [e] at fx
  refine ⟨es, e, l.trans (turnsL_len p y m), fun c hc => fx c (List.mem_append_left _ hc), ?_⟩
  rw [← e]
  exact builtR_root (turnsL_mem lt.1)
/-- a turn has the same least row -/
theorem least_turn {y : Fq p f} {m : Nat} (lt : LeastT p y m) : LeastT p (y ^ p) m := by
  obtain ⟨m1, hm, no⟩ := lt
  have c : ∀ k, (y ^ p) ^ (p ^ k) = y ^ (p ^ (k + 1)) := fun k => by
    have := pow_pow y p 1 k
    rw [Nat.pow_one] at this
    rw [this, Nat.add_comm]
  refine ⟨m1, by rw [c, ← pow_succ', hm], fun j j1 j2 e => no j j1 j2 ?_⟩
  rw [c] at e
  have h2 : (y ^ (p ^ (j + 1))) ^ (p ^ (m - 1)) = (y ^ p) ^ (p ^ (m - 1)) := by rw [e]
  rw [pow_pow, c, show m - 1 + 1 = m by omega, hm, show j + 1 + (m - 1) = j + m by omega] at h2
  have h3 := pow_pow y p m j
  rw [hm, Nat.add_comm m j, h2] at h3
  exact h3
end
end Xp
end
section
set_option linter.all false
set_option maxHeartbeats 1000000
/-! The worth of a polynomial over rests at what a rule leaves: sums, products (no program in it). -/
namespace Xp
open Lean.Grind
section
variable {p : Int} {g : Cf}
def evC (y : Fq p g) : Nat → Cf → Fq p g
  | 0, _ => 0
  | n + 1, f => mC p g (f 0) + y * evC y n (sh f)
theorem mC_add (a b : Int) : mC p g (a + b) = mC p g a + mC p g b := by
  show (Qu.mk (Po.C (a + b)) : Fq p g) = _
  rw [Po.C_add, Qu.mk_add]
theorem mC_mul (a b : Int) : mC p g (a * b) = mC p g a * mC p g b := by
  show (Qu.mk (Po.C (a * b)) : Fq p g) = _
  rw [Po.C_mul, Qu.mk_mul]
theorem mC_zero : mC p g 0 = 0 := by
  show (Qu.mk (Po.C 0) : Fq p g) = _
  rw [Po.C_zero, Qu.mk_zero]
theorem mC_one : mC p g 1 = 1 := by
  show (Qu.mk (Po.C 1) : Fq p g) = _
  rw [Po.C_one, Qu.mk_one]
theorem mC_eqm {a b : Int} (h : a % p = b % p) : mC p g a = mC p g b := by
  rw [show mC p g a = mC p g (a % p) from mkC_mod a, h]
  exact (mkC_mod b).symm
theorem ev_ad (y : Fq p g) : ∀ n f h, evC y n (ad f h) = evC y n f + evC y n h
  | 0, f, h => by
    show (0 : Fq p g) = 0 + 0
    grind
  | n + 1, f, h => by
    show mC p g (f 0 + h 0) + y * evC y n (ad (sh f) (sh h)) = (mC p g (f 0) + y * evC y n (sh f)) + (mC p g (h 0) + y * evC y n (sh h))
    rw [ev_ad y n, mC_add]
    grind
theorem ev_sc (y : Fq p g) (c : Int) : ∀ n f, evC y n (sc c f) = mC p g c * evC y n f
  | 0, f => by
    show (0 : Fq p g) = mC p g c * 0
    grind
  | n + 1, f => by
    show mC p g (c * f 0) + y * evC y n (sc c (sh f)) = mC p g c * (mC p g (f 0) + y * evC y n (sh f))
    rw [ev_sc y c n, mC_mul]
    grind
theorem ev_nul (y : Fq p g) : ∀ n, evC y n nul = 0
  | 0 => rfl
  | n + 1 => by
    show mC p g 0 + y * evC y n nul = 0
    rw [ev_nul y n, mC_zero]
    grind
theorem ev_ext (y : Fq p g) : ∀ n f, (∀ k, n ≤ k → f k = 0) → ∀ d, evC y (n + d) f = evC y n f
  | 0, f, h, d => by
    rw [show f = nul from funext fun k => h k (Nat.zero_le _), ev_nul, ev_nul]
  | n + 1, f, h, d => by
    rw [show n + 1 + d = (n + d) + 1 by omega]
    show _ + y * evC y (n + d) (sh f) = _ + y * evC y n (sh f)
    rw [ev_ext y n (sh f) (fun k hk => h (k + 1) (by omega)) d]
theorem ev_eqm (y : Fq p g) : ∀ n {f h : Cf}, Eqm p f h → evC y n f = evC y n h
  | 0, f, h, e => rfl
  | n + 1, f, h, e => by
    show mC p g (f 0) + y * evC y n (sh f) = mC p g (h 0) + y * evC y n (sh h)
    rw [mC_eqm (e 0), ev_eqm y n (f := sh f) (h := sh h) fun k => e (k + 1)]
theorem ev_xs (y : Fq p g) (n : Nat) (h : Cf) : evC y (n + 1) (xs h) = y * evC y n h := by
  show mC p g 0 + y * evC y n (sh (xs h)) = _
  rw [mC_zero, show sh (xs h) = h from rfl]
  grind
theorem ev_cv (y : Fq p g) : ∀ n f, (∀ k, n ≤ k → f k = 0) → ∀ h m, (∀ k, m ≤ k → h k = 0) → evC y (n + m) (cv f h) = evC y n f * evC y m h
  | 0, f, hf, h, m, hh => by
    rw [show f = nul from funext fun k => hf k (Nat.zero_le _), nul_cv, ev_nul]
    show 0 = (0 : Fq p g) * _
    grind
  | n + 1, f, hf, h, m, hh => by
    rw [cv_head, ev_ad, ev_sc, show n + 1 + m = m + (n + 1) by omega, ev_ext y m h hh (n + 1), show m + (n + 1) = (n + m) + 1 by omega, ev_xs, ev_cv y n (sh f) (fun k hk => hf (k + 1) (by omega)) h m hh]
    show _ = (mC p g (f 0) + y * evC y n (sh f)) * evC y m h
    grind
theorem ev_hv (y : Fq p g) : ∀ ts : List Int, evC y ts.length (cf ts) = hv (mC p g) y ts
  | [] => rfl
  | t :: ts => by
    show mC p g t + y * evC y ts.length (sh (cf (t :: ts))) = mC p g t + y * hv (mC p g) y ts
    rw [show sh (cf (t :: ts)) = cf ts from rfl, ev_hv y ts]
theorem hv_hvR (y : Fq p g) : ∀ ts : List Int, hv (mC p g) y ts = hvR y (ts.map (mC p g))
  | [] => rfl
  | t :: ts => by
    show mC p g t + y * hv (mC p g) y ts = mC p g t + y * hvR y (ts.map (mC p g))
    rw [hv_hvR y ts]
end
end Xp
end
section
set_option linter.all false
set_option maxHeartbeats 1000000
/-! The least row of a number is whole (no program in it). -/
namespace Xp
open Lean.Grind
section
variable {p : Nat} {g : Cf}
theorem mC_fix (hp : 2 ≤ p) (h : Fb p) (ts : List Int) : ∀ c ∈ ts.map (mC (p : Int) g), c ^ p = c := fun c hc => by
  obtain ⟨t, _, rfl⟩ := List.mem_map.mp hc
  have := fixC hp h (f := g) 1 t
  rwa [Nat.pow_one] at this
theorem mC_nul (hp : 2 ≤ p) {d : Nat} (D : Dg p d g) (d1 : 1 ≤ d) {c : Int} (z : mC (p : Int) g c = 0) : c % (p : Int) = 0 := by
  have h : Dv p g (Po.C c).c := mk_zero.mp z
  have e := short_zero (by omega) D (x := (Po.C c).c) (fun k hk => by
    show (c * one k) % (p : Int) = 0
    rw [show one k = 0 from if_neg (by omega), Int.mul_zero, Int.zero_emod]) h 0
  have e : (c * 1) % (p : Int) = 0 % (p : Int) := e
  rwa [Int.mul_one, Int.zero_emod] at e
theorem worth_nul (hp : 2 ≤ p) (h : Fb p) {d : Nat} (D : Dg p d g) (d1 : 1 ≤ d) [Dm (Fq p g)] {L : List (Fq p g)} (al : Al (Fq p g) L) {y : Fq p g} {m : Nat} (lt : LeastT p y m) {ts : List Int} (l : ts.length ≤ m) (z : hv (mC (p : Int) g) y ts = 0) : ∀ t ∈ ts, t % (p : Int) = 0 := fun t ht => by
  rw [hv_hvR] at z
  exact mC_nul hp D d1 (least_nul hp h al lt (by rw [List.length_map]; exact l) (mC_fix hp h ts) z _ (List.mem_map_of_mem ht))
theorem cf_bd (ts : List Int) : ∀ k, ts.length ≤ k → cf ts k = 0 := fun k hk => cf_out hk
/-- the least row of a number is whole -/
theorem least_whole (hp : 2 ≤ p) (h : Fb p) {d : Nat} (D : Dg p d g) (d1 : 1 ≤ d) [Dm (Fq p g)] {L : List (Fq p g)} (al : Al (Fq p g) L) {y : Fq p g} {m : Nat} (lt : LeastT p y m) {cs : List Int} (hc : cs ∈ tp p m) (z : hv (mC (p : Int) g) y (cs ++ [1]) = 0) {e : Nat} (e1 : 1 ≤ e) (em : e < m) {t : List Int} (ht : t ∈ tp p e) : ¬ Dv p (lv t) (lv cs) := by
  rintro ⟨u, ⟨N0, hN0⟩, eu⟩
  have lc : (cs ++ [1]).length = m + 1 := by rw [List.length_append, (tp_mem.mp hc).1]; rfl
  have lt1 : (t ++ [1]).length = e + 1 := by rw [List.length_append, (tp_mem.mp ht).1]; rfl
  have hN : ∀ k, N0 + m ≤ k → u k = 0 := fun k hk => hN0 k (by omega)
  have zc : ∀ k, evC y (m + 1 + k) (lv cs) = 0 := fun k => by
    rw [ev_ext y (m + 1) (lv cs) (fun j hj => cf_bd _ j (by omega)) k, ← lc, ev_hv, z]
  have pr := ev_cv y (e + 1) (lv t) (fun j hj => cf_bd _ j (by omega)) u (N0 + m) hN
  rw [← ev_eqm y _ eu, show e + 1 + (N0 + m) = m + 1 + (e + N0) by omega, zc] at pr
  rcases Dm.int pr.symm with z1 | z2
  · rw [← lt1, ev_hv] at z1
    have := worth_nul hp h D d1 al lt (by omega) z1 1 (List.mem_append_right _ List.mem_cons_self)
    rw [one_mod (by omega)] at this
    omega
  · obtain ⟨r, hr, w, ⟨M, hM⟩, ew⟩ := rem_of hp (lv_dg hp hc) (x := u) ⟨_, hN⟩
    have lr := (tp_mem.mp hr).1
    have pw := ev_cv y (m + 1) (lv cs) (fun j hj => cf_bd _ j (by omega)) w M hM
    have zc0 := zc 0
    rw [Nat.add_zero] at zc0
    rw [zc0, show (0 : Fq p g) * evC y M w = 0 by grind] at pw
    have big := ev_ext y (m + 1 + M) (cv (lv cs) w) (fun k hk => cv_over (a := m) (b := M) (fun i hi => cf_bd _ i (by omega)) (fun i hi => hM i (by omega)) (by omega)) (N0 + m)
    rw [pw, ← ev_eqm y _ ew, ev_ad, ev_sc] at big
    have bu := ev_ext y (N0 + m) u hN (m + 1 + M)
    rw [Nat.add_comm (N0 + m), z2] at bu
    have br := ev_ext y r.length (cf r) (cf_bd r) (1 + M + (N0 + m))
    rw [ev_hv, lr, show m + (1 + M + (N0 + m)) = m + 1 + M + (N0 + m) by omega] at br
    rw [bu, br] at big
    have n1 : mC (p : Int) g (-1) + 1 = 0 := by
      rw [← mC_one, ← mC_add]
      exact mC_zero
    have zr : hv (mC (p : Int) g) y r = 0 := by grind
    have rz := worth_nul hp h D d1 al lt (Nat.le_of_eq lr) zr
    have rk : ∀ k, cf r k % (p : Int) = 0 := fun k => by
      show r.getD k 0 % (p : Int) = 0
      rw [List.getD_eq_getElem?_getD]
      cases hk : r[k]? with
      | none => exact Int.zero_emod _
      | some x => exact rz x (List.mem_of_getElem? hk)
    have e2 : Eqm p u (cv (lv cs) w) := fun k => by
      rw [← ew k]
      show u k % (p : Int) = (u k + -1 * cf r k) % (p : Int)
      obtain ⟨q, hq⟩ := Int.dvd_of_emod_eq_zero (rk k)
      rw [hq, show u k + -1 * ((p : Int) * q) = u k + (p : Int) * (-q) by rw [Int.mul_neg]; omega, Int.add_mul_emod_self_left]
    have e3 : Eqm p (lv cs) (cv (lv cs) (cv (lv t) w)) := fun k => by
      rw [eu k, ((Eqm.refl p (lv t)).cv e2) k, ← cvA, cvC (lv t) (lv cs), cvA]
    obtain ⟨c, hcc⟩ := (lv_dg hp hc).top
    have fw : Fi (cv (lv t) w) := Fi.cv (Fi.list (t ++ [1])) ⟨M, hM⟩
    have sn := short_nought (u := ad (cv (lv t) w) (sc (-1) one)) (r := nul) (hcc.trans (one_mod (by omega)).symm) (lv_dg hp hc).out (fw.add (Fi.one.sc (-1))) (fun k _ => Int.zero_emod _) (fun k => by
      rw [cv_ad, cv_sc, cv1]
      show 0 % (p : Int) = (cv (lv cs) (cv (lv t) w) k + -1 * lv cs k) % (p : Int)
      rw [show cv (lv cs) (cv (lv t) w) k + -1 * lv cs k = cv (lv cs) (cv (lv t) w) k - lv cs k by omega, Int.sub_emod, ← e3 k, Int.sub_self])
    refine lv_one hp e1 ht ⟨w, ⟨M, hM⟩, fun k => ?_⟩
    have sk : (cv (lv t) w k + -1 * one k) % (p : Int) = 0 % (p : Int) := sn k
    rw [Int.zero_emod] at sk
    obtain ⟨q, hq⟩ := Int.dvd_of_emod_eq_zero sk
    rw [show cv (lv t) w k = one k + (p : Int) * q by omega, Int.add_mul_emod_self_left]
end
end Xp
end
section
set_option Elab.async false
set_option linter.all false
/-! Slopes, constants and steady things among the polynomials by a prime. -/
namespace Xp
open Lean.Grind
/-- the slope of a polynomial -/
def dr (f : Cf) : Cf := fun k => ((k : Int) + 1) * f (k + 1)
def Po.D (a : Po) : Po := ⟨dr a.c, by
  obtain ⟨N, h⟩ := a.fi
  exact ⟨N, fun k hk => by
    show ((k : Int) + 1) * a.c (k + 1) = 0
    rw [h (k + 1) (by omega), Int.mul_zero]⟩⟩
theorem xs_cv' (h : Cf) : cv (xs one) h = xs h := by
  rw [cv_xs, one_cv]
theorem D_add (a b : Po) : (a + b).D = a.D + b.D := Po.ext (funext fun k => by
  show ((k : Int) + 1) * (a.c (k + 1) + b.c (k + 1)) = ((k : Int) + 1) * a.c (k + 1) + ((k : Int) + 1) * b.c (k + 1)
  rw [Int.mul_add])
theorem D_C (n : Int) (b : Po) : (Po.C n * b).D = Po.C n * b.D := Po.ext (by
  show dr (cv (sc n one) b.c) = cv (sc n one) (dr b.c)
  rw [cvC (sc n one), cv_sc, cvC, one_cv, cvC (sc n one), cv_sc, cvC, one_cv]
  funext k
  show ((k : Int) + 1) * (n * b.c (k + 1)) = n * (((k : Int) + 1) * b.c (k + 1))
  rw [← Int.mul_assoc, Int.mul_comm _ n, Int.mul_assoc])
theorem D_X (a : Po) : (Po.X * a).D = a + Po.X * a.D := Po.ext (by
  show dr (cv (xs one) a.c) = ad a.c (cv (xs one) (dr a.c))
  rw [xs_cv', xs_cv']
  funext k
  show ((k : Int) + 1) * a.c k = a.c k + xs (dr a.c) k
  cases k with
  | zero => show ((0 : Nat) + 1 : Int) * a.c 0 = a.c 0 + 0; simp
  | succ k =>
    show (((k + 1 : Nat) : Int) + 1) * a.c (k + 1) = a.c (k + 1) + ((k : Int) + 1) * a.c (k + 1)
    rw [show ((k + 1 : Nat) : Int) = (k : Int) + 1 by omega, Int.add_mul, Int.one_mul, Int.add_comm])
theorem D_zero : (0 : Po).D = 0 := Po.ext (funext fun k => by
  show ((k : Int) + 1) * 0 = 0
  rw [Int.mul_zero])
theorem D_Cn (n : Int) : (Po.C n).D = 0 := Po.ext (funext fun k => by
  show ((k : Int) + 1) * (n * one (k + 1)) = 0
  rw [show one (k + 1) = 0 from if_neg (by omega), Int.mul_zero, Int.mul_zero])
theorem D_mul (a b : Po) : (a * b).D = a.D * b + a * b.D := by
  revert b
  refine Po.ind (P := fun a => ∀ b, (a * b).D = a.D * b + a * b.D) ?_ ?_ a
  · intro b
    have e : (0 : Po) * b = 0 := by grind
    rw [e, D_zero]
    grind
  · intro n a ih b
    have e : (Po.C n + Po.X * a) * b = Po.C n * b + Po.X * (a * b) := by grind
    rw [e, D_add, D_C, D_X, D_add, D_Cn, D_X, ih b]
    grind
def Dx {p : Nat} : Fx p → Fx p := Qu.un Po.D fun a b h => by
  have h : Dv p nul (a - b).c := h
  have h := h.nought (Eqm.refl _ _)
  show Dv p nul (a.D - b.D).c
  refine (Dv.zero p nul).congr fun k => ?_
  show 0 % (p : Int) = (((k : Int) + 1) * a.c (k + 1) + -1 * (((k : Int) + 1) * b.c (k + 1))) % (p : Int)
  have e : (a.c (k + 1) + -1 * b.c (k + 1)) % (p : Int) = 0 := (h (k + 1)).trans (Int.zero_emod _)
  have e2 : ((k : Int) + 1) * a.c (k + 1) + -1 * (((k : Int) + 1) * b.c (k + 1)) = ((k : Int) + 1) * (a.c (k + 1) + -1 * b.c (k + 1)) := by grind
  rw [e2, Int.mul_emod, e, Int.mul_zero, Int.zero_emod]
theorem dx_slope {p : Nat} : Lvs.Slope (Dx (p := p)) := ⟨fun a b => by
  obtain ⟨x, rfl⟩ := Qu.rep a
  obtain ⟨y, rfl⟩ := Qu.rep b
  show (Qu.mk (x * y).D : Fx p) = Qu.mk x.D * Qu.mk y + Qu.mk x * Qu.mk y.D
  rw [D_mul]
  rfl⟩
/-! constants -/
def Cs (p : Nat) (a : Fx p) : Prop := ∃ c : Int, a = mC (p : Int) nul c
theorem fx_C {p : Nat} {i j : Int} (h : mC (p : Int) nul i = mC (p : Int) nul j) : i % (p : Int) = j % (p : Int) := by
  have := fx_eq.mp h 0
  have e : ∀ n : Int, (Po.C n).c 0 = n := fun n => by
    show n * one 0 = n
    rw [show one 0 = 1 from rfl, Int.mul_one]
  rwa [e, e] at this
theorem cs_cst {p : Nat} (hp : Pr p) (fb : Fb p) : (lvsF hp).Cst p (Cs p) where
  zero := ⟨0, mC_zero.symm⟩
  one := ⟨1, mC_one.symm⟩
  add := by
    rintro a b ⟨c, rfl⟩ ⟨d, rfl⟩
    exact ⟨c + d, (mC_add c d).symm⟩
  sub := by
    rintro a b ⟨c, rfl⟩ ⟨d, rfl⟩
    refine ⟨c - d, ?_⟩
    have := mC_add (p := (p : Int)) (g := nul) (c - d) d
    rw [show c - d + d = c by omega] at this
    grind
  mul := by
    rintro a b ⟨c, rfl⟩ ⟨d, rfl⟩
    exact ⟨c * d, (mC_mul c d).symm⟩
  pow := by
    rintro a ⟨c, rfl⟩
    have := fixC hp.le fb (f := nul) 1 c
    rwa [Nat.pow_one] at this
  own := by
    rintro a w ⟨c, rfl⟩ hw d
    by_cases z : c % (p : Int) = 0
    · rw [mC_eqm (b := 0) (by rw [z, Int.zero_emod])]
      exact mC_zero
    · obtain ⟨e, he⟩ := hp.2 c z
      refine absurd ?_ hw.not_one
      have : (1 : Fx p) = mC (p : Int) nul e * mC (p : Int) nul c := by
        rw [← mC_mul, mC_eqm (b := 1) (by rw [he, one_mod hp.1])]
        exact mC_one.symm
      rw [this]
      exact d.mulL _
def ksF (p : Nat) : List (Fx p) := (List.range p).map fun i : Nat => mC (p : Int) nul (i : Int)
theorem ksF_nd {p : Nat} : (ksF p).Nodup := nodup_mapI List.nodup_range fun i hi j hj e => by
  have hi := List.mem_range.mp hi
  have hj := List.mem_range.mp hj
  have := fx_C e
  rw [Int.emod_eq_of_lt (by omega) (by omega), Int.emod_eq_of_lt (by omega) (by omega)] at this
  omega
theorem ksF_len {p : Nat} : (ksF p).length = p := by
  unfold ksF
  rw [List.length_map, List.length_range]
theorem ksF_iff {p : Nat} (p0 : 0 < p) (a : Fx p) : a ∈ ksF p ↔ Cs p a := by
  constructor
  · intro h
    obtain ⟨i, _, rfl⟩ := List.mem_map.mp h
    exact ⟨_, rfl⟩
  · rintro ⟨c, rfl⟩
    have h1 := Int.emod_nonneg c (b := (p : Int)) (by omega)
    have h2 := Int.emod_lt_of_pos c (b := (p : Int)) (by omega)
    refine List.mem_map.mpr ⟨(c % (p : Int)).toNat, List.mem_range.mpr (by omega), ?_⟩
    rw [show (((c % (p : Int)).toNat : Nat) : Int) = c % (p : Int) by omega]
    exact mC_eqm (Int.emod_emod_of_dvd _ (Int.dvd_refl _))
end Xp
end
section
set_option Elab.async false
set_option linter.all false
/-! What is steady by a whole one is a constant by it. -/
namespace Xp
open Lean.Grind
theorem lm_lv {p d : Nat} (hp : Pr p) {x : Cf} (h : Lm p d x) : ∃ t ∈ tp p d, Eqm p (lv t) x := by
  obtain ⟨t, ht, c, e⟩ := lv_ex hp (by rw [h.top]; decide) h.out
  refine ⟨t, ht, e.trans fun k => ?_⟩
  have e1 := (lv_lm hp.le ht).top
  rw [e d] at e1
  have e1 : (c * x d) % (p : Int) = 1 := e1
  rw [Int.mul_emod, h.top, Int.mul_one, Int.emod_emod_of_dvd _ (Int.dvd_refl _)] at e1
  show (c * x k) % (p : Int) = x k % (p : Int)
  rw [Int.mul_emod, e1, Int.one_mul, Int.emod_emod_of_dvd _ (Int.dvd_refl _)]
theorem w_irr {p : Nat} (hp : Pr p) {w : Fx p} (hw : (lvsF hp).W w) : ∃ (k : Nat) (t : List Int), 1 ≤ k ∧ t ∈ tp p k ∧ w = el (p : Int) nul (t ++ [1]) ∧ Irr p k (lv t) := by
  obtain ⟨k, k1, b, rfl, lb⟩ := hw.ex
  obtain ⟨t, ht, et⟩ := lm_lv hp lb
  have ew : (Qu.mk b : Fx p) = el (p : Int) nul (t ++ [1]) := (fx_eq (a := b) (b := Po.of (t ++ [1]))).mpr et.symm
  refine ⟨k, t, k1, ht, ew, fun e e1 ek s hs dv => ?_⟩
  have ls : (lvsF hp).L e (el (p : Int) nul (s ++ [1])) := ⟨_, rfl, lv_lm hp.le hs⟩
  rcases hw.no ls (by rw [ew]; exact (fx_div (a := Po.of (s ++ [1])) (b := Po.of (t ++ [1]))).mpr dv) with z | z
  · rw [z] at ls
    have := (lvsF hp).uniq ls (lvsF hp).one
    omega
  · rw [z] at ls
    have := (lvsF hp).uniq ls ⟨b, rfl, lb⟩
    omega
theorem con_w {p : Nat} (hp : Pr p) (fb : Fb p) {w v : Fx p} (hw : (lvsF hp).W w) (st : Lvs.St p w v) : Lvs.Con (Cs p) w v := by
  obtain ⟨k, t, k1, ht, rfl, ir⟩ := w_irr hp hw
  have D := lv_dg hp.le ht
  have dm := dm_of hp D k1 ir
  obtain ⟨b, rfl⟩ := Qu.rep v
  have s1 : (Qu.mk b : Fq (p : Int) (lv t)) ^ p = Qu.mk b := by
    have st : Div (Qu.mk (Po.of (t ++ [1])) : Fx p) (Qu.mk (b ^ p - b)) := by
      rw [Qu.mk_sub, Qu.mk_pow]
      exact st
    have := fx_div.mp st
    have : (Qu.mk (b ^ p - b) : Fq (p : Int) (lv t)) = 0 := mk_zero.mpr this
    rw [Qu.mk_sub, Qu.mk_pow] at this
    grind
  rcases Classical.em (∃ c : Nat, c < p ∧ (Qu.mk b : Fq (p : Int) (lv t)) = mC (p : Int) (lv t) c) with ⟨c, _, e⟩ | no
  · refine ⟨mC (p : Int) nul c, ⟨c, rfl⟩, ?_⟩
    have e2 : (Qu.mk (b - Po.C c) : Fq (p : Int) (lv t)) = 0 := by
      rw [Qu.mk_sub, e]
      show mC (p : Int) (lv t) c - mC (p : Int) (lv t) c = 0
      grind
    exact (fx_div (a := Po.of (t ++ [1])) (b := b - Po.C c)).mpr (mk_zero.mp e2)
  exfalso
  have nd : ((Qu.mk b : Fq (p : Int) (lv t)) :: (List.range p).map fun c : Nat => mC (p : Int) (lv t) c).Nodup := by
    refine List.nodup_cons.mpr ⟨fun hm => ?_, nodup_mapI List.nodup_range fun i hi j hj e => ?_⟩
    · obtain ⟨c, hc, e⟩ := List.mem_map.mp hm
      exact no ⟨c, List.mem_range.mp hc, e.symm⟩
    · have hi := List.mem_range.mp hi
      have hj := List.mem_range.mp hj
      have z : mC (p : Int) (lv t) ((i : Int) - (j : Int)) = 0 := by
        have a := mC_add (p := (p : Int)) (g := lv t) ((i : Int) - j) j
        rw [show (i : Int) - j + j = i by omega] at a
        have e : mC (p : Int) (lv t) (i : Int) = mC (p : Int) (lv t) (j : Int) := e
        grind
      have z := mC_nul hp.le D k1 z
      have := Int.emod_eq_emod_iff_emod_sub_eq_zero.mpr z
      rw [Int.emod_eq_of_lt (by omega) (by omega), Int.emod_eq_of_lt (by omega) (by omega)] at this
      omega
  have := few hp.le nd fun y hy => by
    rcases List.mem_cons.mp hy with rfl | hy
    · exact s1
    · obtain ⟨c, _, rfl⟩ := List.mem_map.mp hy
      have := fixC hp.le fb (f := lv t) 1 c
      rwa [Nat.pow_one] at this
  rw [List.length_cons, List.length_map, List.length_range] at this
  omega
end Xp
end
section
set_option Elab.async false
set_option linter.all false
/-! No slope: a power by the prime. Half of the rests. -/
namespace Xp
open Lean.Grind
/-- the coefficients p apart -/
def spr (p : Nat) (a : Cf) : Cf := fun k => if k % p = 0 then a (k / p) else 0
theorem xsn_low : ∀ (n : Nat) (h : Cf) (k : Nat), k < n → xsn n h k = 0
  | n + 1, h, 0, _ => rfl
  | n + 1, h, k + 1, hk => xsn_low n h k (by omega)
theorem X_pow (n : Nat) : (Po.X ^ n).c = xsn n one := by
  rw [Po.pow_c]
  induction n with
  | zero => rfl
  | succ n ih =>
    show cv (xs one) (pw (xs one) n) = xs (xsn n one)
    rw [show pw Po.X.c n = pw (xs one) n from rfl] at ih
    rw [xs_cv', ih]
theorem spr_step {p : Nat} (p0 : 0 < p) (n : Int) (a : Po) : spr p (Po.C n + Po.X * a).c = ad (sc n one) (xsn p (spr p a.c)) := by
  have e : (Po.C n + Po.X * a).c = ad (sc n one) (xs a.c) := by
    show ad (sc n one) (cv (xs one) a.c) = _
    rw [xs_cv']
  rw [e]
  funext k
  show (if k % p = 0 then n * one (k / p) + xs a.c (k / p) else 0) = n * one k + xsn p (spr p a.c) k
  by_cases hk : k < p
  · rw [xsn_low p _ k hk]
    by_cases k0 : k = 0
    · subst k0
      rw [if_pos (Nat.zero_mod p), Nat.zero_div]
      rfl
    · rw [if_neg (by rw [Nat.mod_eq_of_lt hk]; exact k0), show one k = 0 from if_neg k0]
      omega
  · obtain ⟨j, rfl⟩ : ∃ j, k = p + j := ⟨k - p, by omega⟩
    rw [xsn_at, show one (p + j) = 0 from if_neg (by have := p0; omega), Nat.add_mod_left, Nat.add_comm p j, Nat.add_div_right j p0]
    show (if j % p = 0 then n * one (j / p + 1) + a.c (j / p) else 0) = n * 0 + (if j % p = 0 then a.c (j / p) else 0)
    rw [show one (j / p + 1) = 0 from if_neg (Nat.succ_ne_zero _)]
    by_cases g : j % p = 0
    · rw [if_pos g, if_pos g]
    · rw [if_neg g, if_neg g]
      omega
theorem spr_fi {p : Nat} (p0 : 0 < p) {a : Cf} (h : Fi a) : Fi (spr p a) := by
  obtain ⟨N, h⟩ := h
  refine ⟨p * N, fun k hk => ?_⟩
  unfold spr
  by_cases g : k % p = 0
  · rw [if_pos g, h _ ((Nat.le_div_iff_mul_le p0).mpr (by rw [Nat.mul_comm]; exact hk))]
  · rw [if_neg g]
/-- the power by the prime -/
theorem spr_pow {p : Nat} (hp : Pr p) (fb : Fb p) (a : Po) : (Qu.mk a : Fx p) ^ p = Qu.mk ⟨spr p a.c, spr_fi (by have := hp.le; omega) a.fi⟩ := by
  have p0 : 0 < p := by have := hp.le; omega
  refine Po.ind (P := fun a => (Qu.mk a : Fx p) ^ p = Qu.mk ⟨spr p a.c, spr_fi p0 a.fi⟩) ?_ ?_ a
  · have e : (⟨spr p (0 : Po).c, spr_fi p0 (0 : Po).fi⟩ : Po) = 0 := Po.ext (funext fun k => by
      show (if k % p = 0 then (0 : Int) else 0) = 0
      split <;> rfl)
    rw [e]
    show (0 : Fx p) ^ p = 0
    exact zero_pow p0
  · intro n a ih
    have h1 : (Qu.mk (Po.C n + Po.X * a) : Fx p) = mC (p : Int) nul n + Qu.mk Po.X * Qu.mk a := rfl
    have h2 : (mC (p : Int) nul n : Fx p) ^ p = mC (p : Int) nul n := by
      have := fixC hp.le fb (f := nul) 1 n
      rwa [Nat.pow_one] at this
    rw [h1, frobF hp.le fb, h2, mul_powR, ih, ← Qu.mk_pow]
    have e : (⟨spr p (Po.C n + Po.X * a).c, spr_fi p0 (Po.C n + Po.X * a).fi⟩ : Po) = Po.C n + Po.X ^ p * ⟨spr p a.c, spr_fi p0 a.fi⟩ := Po.ext (by
      show spr p (Po.C n + Po.X * a).c = ad (sc n one) (cv (Po.X ^ p).c (spr p a.c))
      rw [X_pow, cv_xsn, one_cv, spr_step p0])
    rw [e]
    rfl
/-- no slope: only the coefficients p apart -/
theorem dr_nul {p : Nat} (hp : Pr p) {f : Cf} (h : Eqm p (dr f) nul) : Eqm p f (spr p fun j => f (p * j)) := fun k => by
  unfold spr
  show f k % (p : Int) = (if k % p = 0 then f (p * (k / p)) else 0) % (p : Int)
  by_cases g : k % p = 0
  · rw [if_pos g, show p * (k / p) = k from Nat.mul_div_cancel' (Nat.dvd_of_mod_eq_zero g)]
  · rw [if_neg g]
    cases k with
    | zero => exact absurd (Nat.zero_mod p) g
    | succ k =>
      have e := h k
      have e : (((k : Int) + 1) * f (k + 1)) % (p : Int) = 0 := e.trans (Int.zero_emod _)
      refine Classical.byContradiction fun no => ?_
      refine pr_mul hp (a := (k : Int) + 1) (b := f (k + 1)) (fun z => g ?_) (fun z => no (by rw [z, Int.zero_emod])) e
      have z : (((k + 1 : Nat) : Int)) % (p : Int) = 0 := by
        rw [← z]
        congr 1
      omega
namespace Lvs
theorem Ws.pow {A : Type} [CommRing A] {V : Lvs A} {g : A} {l : List A} {p : Nat} (p1 : 1 ≤ p) (h : V.Ws g l) : V.Ws (g ^ p) l := ⟨h.nd, fun w => by
  rw [h.iff]
  constructor
  · rintro ⟨h1, h2⟩
    refine ⟨h1, ?_⟩
    obtain ⟨n, rfl⟩ : ∃ n, p = n + 1 := ⟨p - 1, by omega⟩
    rw [Semiring.pow_succ]
    exact h2.mulL _
  · rintro ⟨h1, h2⟩
    exact ⟨h1, h1.pow p h2⟩⟩
end Lvs
/-! half of the rests -/
def halfF (p : Nat) (t : Int) : Prop := (mC (p : Int) nul t : Fx p) ^ (p / 2) = 1
theorem halfF_mod {p : Nat} {a b : Int} (h : a % (p : Int) = b % (p : Int)) : halfF p a ↔ halfF p b := by
  unfold halfF
  rw [mC_eqm h]
theorem half_sep {p : Nat} (hp : Pr p) {a b : Int} (ne : a % (p : Int) ≠ b % (p : Int)) : ∃ c : Nat, c < p ∧ ¬ (halfF p (a + c) ↔ halfF p (b + c)) := by
  have p2 := hp.le
  refine Classical.byContradiction fun no => ?_
  have all : ∀ c : Nat, c < p → (halfF p (a + c) ↔ halfF p (b + c)) := fun c hc => Classical.byContradiction fun z => no ⟨c, hc, z⟩
  have st : ∀ t : Int, halfF p t ↔ halfF p (t + (b - a)) := fun t => by
    have m0 := Int.emod_nonneg (t - a) (show (p : Int) ≠ 0 by omega)
    have m1 := Int.emod_lt_of_pos (t - a) (show (0 : Int) < p by omega)
    have h := all ((t - a) % (p : Int)).toNat (by omega)
    rw [Int.toNat_of_nonneg m0] at h
    rw [halfF_mod (a := t) (b := a + (t - a) % (p : Int)) (by rw [Int.add_emod_emod, show a + (t - a) = t by omega]), h]
    exact halfF_mod (by rw [Int.add_emod_emod, show b + (t - a) = t + (b - a) by omega])
  have go : ∀ j : Nat, halfF p 0 ↔ halfF p ((j : Int) * (b - a)) := fun j => by
    induction j with
    | zero => rw [show ((0 : Nat) : Int) * (b - a) = 0 by simp]
    | succ j ih =>
      rw [ih, st, show ((j + 1 : Nat) : Int) * (b - a) = (j : Int) * (b - a) + (b - a) by rw [Int.natCast_add, Int.add_mul]; simp]
  have nz : (b - a) % (p : Int) ≠ 0 := fun z => ne (Int.emod_eq_emod_iff_emod_sub_eq_zero.mpr (by
    have : (a - b) % (p : Int) = 0 := by
      rw [show a - b = -(b - a) by omega]
      exact Int.emod_eq_zero_of_dvd ((Int.dvd_neg).mpr (Int.dvd_of_emod_eq_zero z))
    exact this))
  obtain ⟨c, hc⟩ := hp.2 _ nz
  have m0 := Int.emod_nonneg c (show (p : Int) ≠ 0 by omega)
  have g := go (c % (p : Int)).toNat
  rw [Int.toNat_of_nonneg m0] at g
  have h1 : halfF p (c % (p : Int) * (b - a)) := by
    refine (halfF_mod (b := 1) (by rw [Int.mul_emod, Int.emod_emod_of_dvd _ (Int.dvd_refl _), ← Int.mul_emod, hc, one_mod hp.1])).mpr ?_
    unfold halfF
    rw [mC_one, one_powR]
  have h0 := g.mpr h1
  unfold halfF at h0
  rw [mC_zero, zero_pow (by omega)] at h0
  have := fx_eq (p := p) (a := 0) (b := 1) |>.mp h0 0
  have this : (0 : Int) % (p : Int) = 1 % (p : Int) := this
  rw [Int.zero_emod, one_mod hp.1] at this
  cases this
end Xp
end
section
set_option Elab.async false
set_option linter.all false
/-! What is steady and no constant by a thing without repeated parts parts it; products of parts. -/
namespace Xp
open Lean.Grind
/-- two whole parts by which v leaves unlike constants -/
theorem two_parts {p n : Nat} (hp : Pr p) (fb : Fb p) {P v : Fx p} (l : (lvsF hp).L n P) (n1 : 1 ≤ n) (sq : (lvsF hp).Sqf P) (st : Lvs.St p P v) (no : ¬ Lvs.Con (Cs p) P v) :
    ∃ w1 w2 : Fx p, ∃ a b : Int, (lvsF hp).W w1 ∧ (lvsF hp).W w2 ∧ Div w1 P ∧ Div w2 P ∧ Div w1 (v - mC (p : Int) nul a) ∧ Div w2 (v - mC (p : Int) nul b) ∧ a % (p : Int) ≠ b % (p : Int) := by
  obtain ⟨w1, h1, d1⟩ := Lvs.has l n1
  obtain ⟨k1, ⟨a, rfl⟩, e1⟩ := con_w hp fb h1 (show Lvs.St p w1 v from d1.trans st)
  refine Classical.byContradiction fun no2 => no ⟨mC (p : Int) nul a, ⟨a, rfl⟩, Lvs.Sqf.div _ l sq fun w hw dw => ?_⟩
  obtain ⟨k2, ⟨b, rfl⟩, e2⟩ := con_w hp fb hw (show Lvs.St p w v from dw.trans st)
  by_cases e : a % (p : Int) = b % (p : Int)
  · rw [mC_eqm e]
    exact e2
  · exact absurd ⟨w1, w, a, b, h1, hw, d1, dw, e1, e2, e⟩ no2
/-- what leaves nought by just the parts by which v leaves a rest of one half -/
def hlf (p : Nat) (v : Fx p) (s : Nat) : Fx p := (v + mC (p : Int) nul s) ^ (p / 2) - 1
theorem hlf_iff {p : Nat} (hp : Pr p) (fb : Fb p) {w v : Fx p} {a : Int} (hw : (lvsF hp).W w) (d : Div w (v - mC (p : Int) nul a)) (s : Nat) : Div w (hlf p v s) ↔ halfF p (a + s) := by
  have K := cs_cst hp fb
  have d1 : Div w (v + mC (p : Int) nul s - mC (p : Int) nul (a + s)) := by
    have e : v + mC (p : Int) nul s - mC (p : Int) nul (a + s) = v - mC (p : Int) nul a := by
      rw [mC_add]
      grind
    rw [e]
    exact d
  have d2 : Div w ((v + mC (p : Int) nul s) ^ (p / 2) - mC (p : Int) nul (a + s) ^ (p / 2)) := d1.trans (sub_pow _ _ _)
  have cp : ∀ n : Nat, Cs p (mC (p : Int) nul (a + s) ^ n) := fun n => by
    induction n with
    | zero => rw [Semiring.pow_zero]; exact K.one
    | succ n ih => rw [Semiring.pow_succ]; exact K.mul ih ⟨_, rfl⟩
  constructor
  · intro h
    have d3 := h.sub d2
    have e : hlf p v s - ((v + mC (p : Int) nul s) ^ (p / 2) - mC (p : Int) nul (a + s) ^ (p / 2)) = mC (p : Int) nul (a + s) ^ (p / 2) - 1 := by
      unfold hlf
      grind
    rw [e] at d3
    have z := K.own (K.sub (cp _) K.one) hw d3
    unfold halfF
    grind
  · intro h
    have h : mC (p : Int) nul (a + s) ^ (p / 2) = 1 := h
    rw [h] at d2
    exact d2
/-- .. so some shift parts it -/
theorem split_shift {p n : Nat} (hp : Pr p) (fb : Fb p) {P v : Fx p} (l : (lvsF hp).L n P) (n1 : 1 ≤ n) (sq : (lvsF hp).Sqf P) (st : Lvs.St p P v) (no : ¬ Lvs.Con (Cs p) P v) :
    ∃ s : Nat, s < p ∧ ∀ (h : Fx p) (k : Nat), (lvsF hp).L k h → Div h P → Div h (hlf p v s) → (∀ x, Div x P → Div x (hlf p v s) → Div x h) → 1 ≤ k ∧ k < n := by
  obtain ⟨w1, w2, a, b, h1, h2, d1, d2, e1, e2, ne⟩ := two_parts hp fb l n1 sq st no
  obtain ⟨s, hs, sep⟩ := half_sep hp ne
  refine ⟨s, hs, fun h k lh hP hH all => ?_⟩
  have kn : k ≤ n := by
    obtain ⟨c, ec⟩ := hP
    exact ((lvsF hp).quot l lh ec).1
  have key : ∀ {x y : Fx p}, (lvsF hp).W x → (lvsF hp).W y → Div x P → Div y P → Div x (hlf p v s) → ¬ Div y (hlf p v s) → 1 ≤ k ∧ k < n := fun {x y} hx hy dx dy hdx hdy => by
    constructor
    · rcases Nat.lt_or_ge k 1 with z | z
      · have k0 : k = 0 := by omega
        subst k0
        have xh := all x dx hdx
        rw [(lvsF hp).nought lh] at xh
        exact absurd xh hx.not_one
      · exact z
    · rcases Nat.lt_or_ge k n with z | z
      · exact z
      · exfalso
        obtain ⟨c, ec⟩ := hP
        obtain ⟨_, lc⟩ := (lvsF hp).quot l lh ec
        rw [show n - k = 0 by omega] at lc
        rw [(lvsF hp).nought lc] at ec
        have : P = h := by rw [ec]; grind
        exact hdy (dy.trans (this ▸ hH))
  have i1 := hlf_iff hp fb h1 e1 s
  have i2 := hlf_iff hp fb h2 e2 s
  rcases Classical.em (Div w1 (hlf p v s)) with q1 | q1
  · rcases Classical.em (Div w2 (hlf p v s)) with q2 | q2
    · exact absurd ⟨fun _ => i2.mp q2, fun _ => i1.mp q1⟩ sep
    · exact key h1 h2 d1 d2 q1 q2
  · rcases Classical.em (Div w2 (hlf p v s)) with q2 | q2
    · exact key h2 h1 d2 d1 q2 q1
    · exact absurd ⟨fun z => absurd (i1.mpr z) q1, fun z => absurd (i2.mpr z) q2⟩ sep
section
variable {A : Type} [CommRing A] {V : Lvs A}
theorem Lvs.Con.part {C : A → Prop} {P Q v : A} (h : Lvs.Con C P v) (d : Div Q P) : Lvs.Con C Q v := by
  obtain ⟨k, c, e⟩ := h
  exact ⟨k, c, d.trans e⟩
theorem Lvs.St.part {p : Nat} {P Q v : A} (h : Lvs.St p P v) (d : Div Q P) : Lvs.St p Q v := d.trans h
/-- all parts taken out: nothing is left -/
theorem Lvs.Out.lv {f h : A} {l : List A} (o : V.Out f l h) (hl : ∀ w ∈ l, V.W w) : ∀ {n : Nat}, V.L n f → ∃ k, k ≤ n ∧ V.L k h := by
  induction o with
  | nil f => exact fun {n} lf => ⟨n, Nat.le_refl n, lf⟩
  | @cons f w g h l m e nd o ih =>
    intro n lf
    obtain ⟨k, k1, lw⟩ := (hl w List.mem_cons_self).ex
    obtain ⟨_, lg⟩ := V.quot lf (Lvs.lpow lw m) e
    obtain ⟨j, hj, lh⟩ := ih (fun x hx => hl x (List.mem_cons_of_mem _ hx)) lg
    exact ⟨j, by omega, lh⟩
theorem Lvs.Out.done {f h : A} {l : List A} {n : Nat} (o : V.Out f l h) (hl : ∀ w ∈ l, V.W w) (lf : V.L n f) (all : ∀ w, V.W w → Div w f → w ∈ l) : h = 1 := by
  obtain ⟨k, _, lh⟩ := o.lv hl lf
  by_cases k0 : k = 0
  · subst k0
    exact V.nought lh
  · obtain ⟨w, hw, dw⟩ := Lvs.has lh (by omega)
    have z := (o.iff hl hw).mp dw
    exact absurd (all w hw z.1) z.2
/-- each with how often it stands there -/
structure Lvs.Cnt (V : Lvs A) (f : A) (w : A) (m : Nat) : Prop where
  ex : ∃ g, f = w ^ m * g ∧ ¬ Div w g
theorem Lvs.Cnt.uniq {f w : A} {m n : Nat} (hw : V.W w) (a : V.Cnt f w m) (b : V.Cnt f w n) : m = n := by
  obtain ⟨k, k1, lw⟩ := hw.ex
  have go : ∀ {m n : Nat} {g h : A}, w ^ m * g = w ^ n * h → ¬ Div w g → ¬ Div w h → ¬ m < n := fun {m n g h} e ng nh lt => by
    obtain ⟨j, rfl⟩ : ∃ j, n = m + (j + 1) := ⟨n - m - 1, by omega⟩
    have e2 : w ^ m * g = w ^ m * (w ^ (j + 1) * h) := by rw [e, Semiring.pow_add]; grind
    have e3 := V.canc (Lvs.lpow lw m) e2
    exact ng ⟨w ^ j * h, by rw [e3, Semiring.pow_succ]; grind⟩
  obtain ⟨g, e1, n1⟩ := a.ex
  obtain ⟨h, e2, n2⟩ := b.ex
  have z1 := go (e1.symm.trans e2) n1 n2
  have z2 := go (e2.symm.trans e1) n2 n1
  omega
theorem Lvs.Cnt.pos {f w : A} {m : Nat} (d : Div w f) (a : V.Cnt f w m) : 1 ≤ m := by
  obtain ⟨g, e, n⟩ := a.ex
  rcases Nat.lt_or_ge m 1 with z | z
  · have m0 : m = 0 := by omega
    subst m0
    rw [Semiring.pow_zero] at e
    exact absurd (by rw [show g = f by grind]; exact d) n
  · exact z
/-- counts do not change when others are taken out -/
theorem Lvs.Cnt.out {f g w x : A} {j m : Nat} (hw : V.W w) (hx : V.W x) (ne : w ≠ x) (e : f = x ^ j * g) (c : V.Cnt g w m) : V.Cnt f w m := by
  obtain ⟨h, e2, n⟩ := c.ex
  refine ⟨x ^ j * h, by rw [e, e2]; grind, fun d => ?_⟩
  rcases hw.prime d with d | d
  · exact hw.not_pow hx ne j d
  · exact n d
/-- the product of the parts with their counts -/
theorem Lvs.Out.prod {f h : A} {l : List A} (o : V.Out f l h) (nd : l.Nodup) (hl : ∀ w ∈ l, V.W w) : ∀ (cs : List Nat), cs.length = l.length → (∀ (i : Nat) (w : A) (c : Nat), l[i]? = some w → cs[i]? = some c → V.Cnt f w c) → f = (l.zip cs).foldr (fun x a => x.1 ^ x.2 * a) h := by
  induction o with
  | nil f =>
    intro cs hc _
    rw [List.zip_nil_left]
    rfl
  | @cons f w g h l m e n o ih =>
    intro cs hc all
    cases cs with
    | nil => cases hc
    | cons c cs =>
      have c0 := all 0 w c rfl rfl
      have ec : m = c := Lvs.Cnt.uniq (hl w List.mem_cons_self) ⟨g, e, n⟩ c0
      subst ec
      have nd' := List.nodup_cons.mp nd
      have z := ih nd'.2 (fun x hx => hl x (List.mem_cons_of_mem _ hx)) cs (Nat.succ.inj hc) fun i x c' h1 h2 => by
        have hx := hl x (List.mem_cons_of_mem _ (List.mem_of_getElem? h1))
        have hw := hl w List.mem_cons_self
        have ne : x ≠ w := fun z => nd'.1 (z ▸ List.mem_of_getElem? h1)
        have cf := all (i + 1) x c' h1 h2
        have hex : ∃ m2, V.Cnt g x m2 := by
          obtain ⟨g2, e2, n2⟩ := cf.ex
          -- x ^ c' parts g
          refine Classical.byContradiction fun no => ?_
          have step : ∀ j : Nat, ∃ q, g = x ^ j * q := fun j => by
            induction j with
            | zero => exact ⟨g, by rw [Semiring.pow_zero]; grind⟩
            | succ j ihj =>
              obtain ⟨q, eq⟩ := ihj
              rcases Classical.em (Div x q) with ⟨r, er⟩ | nq
              · exact ⟨r, by rw [eq, er, Semiring.pow_succ]; grind⟩
              · exact absurd ⟨j, q, eq, nq⟩ no
          obtain ⟨q, eq⟩ := step (c' + 1)
          obtain ⟨k, k1, lx⟩ := hx.ex
          have e3 : x ^ c' * g2 = x ^ c' * (x * (w ^ m * q)) := by
            rw [← e2, e, eq, Semiring.pow_succ]
            grind
          exact n2 ⟨_, V.canc (Lvs.lpow lx c') e3⟩
        obtain ⟨m2, hm2⟩ := hex
        have := Lvs.Cnt.uniq hx cf (hm2.out hx hw ne e)
        rw [this]
        exact hm2
      show f = w ^ m * (l.zip cs).foldr (fun x a => x.1 ^ x.2 * a) h
      rw [← z]
      exact e
end
end Xp
end
section
set_option Elab.async false
set_option linter.all false
/-! Steady things by tables; the parts of a thing without repeated ones, told by masks. -/
namespace Xp
open Lean.Grind
/-- a list of coefficients, by a prime -/
abbrev exF (p : Nat) (ms : List Int) : Fx p := el (p : Int) nul ms
theorem wgP_at : ∀ (ts : List Int) (rs : List (List Int)) (k : Nat), ts.length = rs.length → (wgP ts rs).c k = sm ts.length fun i => ts.getD i 0 * (rs.getD i []).getD k 0
  | [], [], k, _ => rfl
  | t :: ts, r :: rs, k, h => by
    show cv (sc t one) (cf r) k + (wgP ts rs).c k = sm (ts.length + 1) _
    rw [wgP_at ts rs k (Nat.succ.inj h), sm_head, cv_comm, cv_sc, cv1]
    rfl
  | [], _ :: _, _, h => by cases h
  | _ :: _, [], _, h => by cases h
theorem wgP_out {n : Nat} (ts : List Int) (rs : List (List Int)) (h : ts.length = rs.length) (hl : ∀ r ∈ rs, r.length = n) (k : Nat) (hk : n ≤ k) : (wgP ts rs).c k = 0 := by
  rw [wgP_at ts rs k h]
  refine sm_zero fun i hi => ?_
  have : (rs.getD i []).getD k 0 = 0 := by
    rw [List.getD_eq_getElem?_getD (l := rs)]
    cases e : rs[i]? with
    | none => rfl
    | some r =>
      show r.getD k 0 = 0
      rw [List.getD_eq_getElem?_getD, List.getElem?_eq_none (by rw [hl r (List.mem_of_getElem? e)]; exact hk)]
      rfl
  rw [this, Int.mul_zero]
theorem sub_cf (a b : Cf) : ad a (sc (-1) b) = fun k => a k - b k := funext fun k => by
  show a k + -1 * b k = a k - b k
  omega
/-- what the columns of the turned powers, less one at their own place, weigh to nought is steady -/
theorem steady_iff {p n : Nat} (hp : Pr p) (fb : Fb p) {R : List Int} (D : Dg p n (cf R)) {rs : List (List Int)} (lr : rs.length = n) (hr : ∀ (i : Nat) (r : List Int), rs[i]? = some r → Cg p (cf R) (pw (xs one) (p * i)) (cf r)) (hl : ∀ r ∈ rs, r.length = n)
    {tc : Nat → Cf} (ht : ∀ k, k < n → ∀ i, i < n → tc k i % (p : Int) = ((rs.getD i []).getD k 0 - (if i = k then 1 else 0)) % (p : Int)) {v : List Int} (lv : v.length = n) :
    (∀ k, k < n → dt n (tc k) (cf v) % (p : Int) = 0) ↔ Lvs.St p (exF p R) (exF p v) := by
  have hp2 := hp.le
  have e1 : (el (p : Int) (cf R) v) ^ p = Qu.mk (wgP v rs) := by
    rw [wgP_hv (z := (Qu.mk Po.X : Fq p (cf R)) ^ p) 1 (by omega) fun i r hi => ?_, el_hv, hv_turn hp2 fb]
    · grind
    · rw [Semiring.one_mul, ← pow_mulR]
      exact (cgX (g := nul)).mp (hr i r hi)
  have key : ∀ k, k < n → dt n (tc k) (cf v) % (p : Int) = ((wgP v rs).c k - cf v k) % (p : Int) := fun k hk => by
    have e2 : (wgP v rs).c k - cf v k = sm n fun i => ((rs.getD i []).getD k 0 - (if i = k then 1 else 0)) * cf v i := by
      rw [wgP_at v rs k (by omega), lv]
      have e3 : (sm n fun i => ((rs.getD i []).getD k 0 - (if i = k then 1 else 0)) * cf v i) + (sm n fun i => if i = k then cf v k else 0) = sm n fun i => v.getD i 0 * (rs.getD i []).getD k 0 := by
        rw [← sm_add]
        refine sm_congr fun i _ => ?_
        by_cases h : i = k
        · rw [if_pos h, if_pos h, h]
          show (_ - 1) * v.getD k 0 + v.getD k 0 = v.getD k 0 * _
          rw [Int.sub_mul, Int.one_mul, Int.mul_comm]
          omega
        · rw [if_neg h, if_neg h, Int.sub_zero, Int.add_zero, Int.mul_comm]
      rw [sm_at hk] at e3
      omega
    rw [e2]
    refine sm_mod2 fun i hi => ?_
    show (tc k i * cf v i) % (p : Int) = _
    rw [Int.mul_emod, ht k hk i hi, ← Int.mul_emod]
  have e4 : Lvs.St p (exF p R) (exF p v) ↔ (Qu.mk (wgP v rs) : Fq p (cf R)) = el (p : Int) (cf R) v := by
    have a1 : Lvs.St p (exF p R) (exF p v) ↔ Dv p (cf R) (((Po.of v) ^ p - Po.of v) : Po).c := by
      refine Iff.trans ?_ (fx_div (a := Po.of R) (b := (Po.of v) ^ p - Po.of v))
      show Div (Qu.mk (Po.of R) : Fx p) ((Qu.mk (Po.of v) : Fx p) ^ p - Qu.mk (Po.of v)) ↔ _
      rw [Qu.mk_sub, Qu.mk_pow]
    rw [a1, ← mk_zero, Qu.mk_sub, Qu.mk_pow]
    show (el (p : Int) (cf R) v) ^ p - el (p : Int) (cf R) v = 0 ↔ _
    rw [e1]
    constructor
    · intro h
      grind
    · intro h
      rw [h]
      grind
  rw [e4]
  constructor
  · intro h
    refine (mk_eq (a := wgP v rs) (b := Po.of v)).mpr (Cg.of fun k => ?_)
    show (wgP v rs).c k % (p : Int) = cf v k % (p : Int)
    by_cases hk : k < n
    · have z := h k hk
      rw [key k hk] at z
      exact Int.emod_eq_emod_iff_emod_sub_eq_zero.mpr z
    · rw [wgP_out v rs (by omega) hl k (by omega), show cf v k = 0 from by
        show v.getD k 0 = 0
        rw [List.getD_eq_getElem?_getD, List.getElem?_eq_none (by omega)]
        rfl]
  · intro h k hk
    have z := (mk_eq (a := wgP v rs) (b := Po.of v)).mp h
    have z : Dv p (cf R) (ad (wgP v rs).c (sc (-1) (cf v))) := z
    have o := short_zero (by exact_mod_cast hp2) D (fun k hk => by
      rw [sub_cf]
      show ((wgP v rs).c k - cf v k) % (p : Int) = 0
      rw [wgP_out v rs (by omega) hl k hk, show cf v k = 0 from by
        show v.getD k 0 = 0
        rw [List.getD_eq_getElem?_getD, List.getElem?_eq_none (by omega)]
        rfl]
      exact Int.zero_emod _) z k
    rw [sub_cf] at o
    rw [key k hk]
    exact o.trans (Int.zero_emod _)
theorem comb_add {A : Type} [CommRing A] : ∀ {as ms : List A} (j : Nat) (c m : A), as.length = ms.length → ms[j]? = some m → ∃ bs : List A, bs.length = ms.length ∧ (∀ b ∈ bs, b ∈ as ∨ ∃ a ∈ as, b = a + c) ∧ Lvs.comb' bs ms = Lvs.comb' as ms + c * m
  | [], [], j, c, m, _, e => by cases e
  | a :: as, x :: ms, 0, c, m, h, e => by
    cases e
    refine ⟨(a + c) :: as, h, fun b hb => ?_, ?_⟩
    · rcases List.mem_cons.mp hb with rfl | hb
      · exact .inr ⟨a, List.mem_cons_self, rfl⟩
      · exact .inl (List.mem_cons_of_mem _ hb)
    · show (a + c) * x + Lvs.comb' as ms = a * x + Lvs.comb' as ms + c * x
      grind
  | a :: as, x :: ms, j + 1, c, m, h, e => by
    obtain ⟨bs, h1, h2, h3⟩ := comb_add (as := as) (ms := ms) j c m (Nat.succ.inj h) e
    refine ⟨a :: bs, congrArg Nat.succ h1, fun b hb => ?_, ?_⟩
    · rcases List.mem_cons.mp hb with rfl | hb
      · exact .inl List.mem_cons_self
      · rcases h2 b hb with z | ⟨a', ha, z⟩
        · exact .inl (List.mem_cons_of_mem _ z)
        · exact .inr ⟨a', List.mem_cons_of_mem _ ha, z⟩
    · show a * x + Lvs.comb' bs ms = a * x + Lvs.comb' as ms + c * m
      rw [h3]
      grind
  | [], _ :: _, _, _, _, h, _ => by cases h
  | _ :: _, [], _, _, _, h, _ => by cases h
theorem comb_zero' {A : Type} [CommRing A] : ∀ ms : List A, Lvs.comb' (List.replicate ms.length 0) ms = 0
  | [] => rfl
  | m :: ms => by
    show (0 : A) * m + Lvs.comb' (List.replicate ms.length 0) ms = 0
    rw [comb_zero' ms]
    grind
/-- what is spanned is a sum by constants -/
theorem span_comb {p : Nat} (hp : Pr p) (fb : Fb p) {ms : List (List Int)} {v : Cf} (h : Sp (p : Int) (fun u => ∃ m ∈ ms, u = cf m) v) : ∀ b : Po, Eqm p b.c v → ∃ as : List (Fx p), as.length = (ms.map (exF p)).length ∧ (∀ a ∈ as, Cs p a) ∧ (Qu.mk b : Fx p) = Lvs.comb' as (ms.map (exF p)) := by
  have K := cs_cst hp fb
  induction h with
  | nul =>
    intro b e
    refine ⟨List.replicate (ms.map (exF p)).length 0, List.length_replicate, fun a ha => ?_, ?_⟩
    · rw [List.eq_of_mem_replicate ha]
      exact K.zero
    · rw [comb_zero']
      exact fx_eq (b := 0) |>.mpr e
  | @add u w c hu _ ih =>
    intro b e
    obtain ⟨m, hm, rfl⟩ := hu
    obtain ⟨j, hj⟩ := List.mem_iff_getElem?.mp hm
    obtain ⟨as, l1, h1, e1⟩ := ih (b - Po.C c * Po.of m) (fun k => by
      have z := e k
      have e5 : (b - Po.C c * Po.of m).c = fun k => b.c k - c * cf m k := by
        have e6 : (Po.C c * Po.of m).c = sc c (cf m) := by
          show cv (sc c one) (cf m) = _
          rw [cvC, cv_sc, cv1]
        show ad b.c (sc (-1) (Po.C c * Po.of m).c) = _
        rw [e6, sub_cf]
        rfl
      rw [e5]
      have z : b.c k % (p : Int) = (c * cf m k + w k) % (p : Int) := z
      show (b.c k - c * cf m k) % (p : Int) = w k % (p : Int)
      rw [Int.sub_emod, z, ← Int.sub_emod]
      congr 1
      omega)
    obtain ⟨bs, l2, h2, e2⟩ := comb_add (as := as) (ms := ms.map (exF p)) j (mC (p : Int) nul c) (exF p m) l1 (by rw [List.getElem?_map, hj]; rfl)
    refine ⟨bs, l2, fun x hx => ?_, ?_⟩
    · rcases h2 x hx with z | ⟨a, ha, rfl⟩
      · exact h1 x z
      · exact K.add (h1 a ha) ⟨c, rfl⟩
    · rw [e2, ← e1, Qu.mk_sub, Qu.mk_mul]
      show (Qu.mk b : Fx p) = Qu.mk b - mC (p : Int) nul c * exF p m + mC (p : Int) nul c * exF p m
      grind
  | eqm _ g ih => exact fun b e => ih b (e.trans g.symm)
/-- a table's kernel makes the steady things -/
theorem gen_of {p n : Nat} (hp : Pr p) (fb : Fb p) {R : List Int} (D : Dg p n (cf R)) {ms : List (List Int)} (h : ∀ v : List Int, v.length = n → Lvs.St p (exF p R) (exF p v) → Sp (p : Int) (fun u => ∃ m ∈ ms, u = cf m) (cf v)) : (lvsF hp).Gen p (Cs p) (exF p R) (ms.map (exF p)) := fun x st => by
  obtain ⟨b, rfl⟩ := Qu.rep x
  obtain ⟨r, hr, cg⟩ := rem_of hp.le D b.fi
  have dv : Div (exF p R) (Qu.mk b - exF p r) := by
    have z : Dv p (cf R) (b - Po.of r).c := cg
    have := (fx_div (a := Po.of R) (b := b - Po.of r)).mpr z
    rw [Qu.mk_sub] at this
    exact this
  have st2 : Lvs.St p (exF p R) (exF p r) := by
    have d1 := dv.trans (sub_pow (Qu.mk b : Fx p) (exF p r) p)
    have st : Div (exF p R) ((Qu.mk b : Fx p) ^ p - Qu.mk b) := st
    have d2 := (st.sub d1).add dv
    have e : (Qu.mk b : Fx p) ^ p - Qu.mk b - ((Qu.mk b : Fx p) ^ p - exF p r ^ p) + (Qu.mk b - exF p r) = exF p r ^ p - exF p r := by grind
    rw [e] at d2
    exact d2
  obtain ⟨as, l, c, e⟩ := span_comb hp fb (h r (tp_mem.mp hr).1 st2) (Po.of r) (Eqm.refl _ _)
  refine ⟨as, l, c, ?_⟩
  rw [← e]
  exact dv
/-- the end of the masks: all whole -/
theorem single_done {p : Nat} (hp : Pr p) (fb : Fb p) {N : Nat} {s : Fx p} {masks told : List (Fx p)} (lv : (lvsF hp).L N s) (sq : (lvsF hp).Sqf s) (g : (lvsF hp).Gen p (Cs p) s masks) (e : Lvs.prod told = s) (hl : ∀ P ∈ told, ∃ n, 1 ≤ n ∧ (lvsF hp).L n P)
    (h : masks.length ≤ told.length ∨ ∀ P ∈ told, ∀ m ∈ masks, Lvs.Con (Cs p) P m) : (lvsF hp).Ws s told := by
  subst e
  have K := cs_cst hp fb
  have p0 : 0 < p := by have := hp.le; omega
  have hl' : ∀ P ∈ told, ∃ n, (lvsF hp).L n P := fun P hP => let ⟨n, _, z⟩ := hl P hP; ⟨n, z⟩
  have W : ∀ P ∈ told, (lvsF hp).W P := by
    rcases h with h | h
    · have le := Lvs.parts_le hp.le K ksF_nd ksF_len (ksF_iff p0) g (Lvs.coq_of hl' sq) hl
      exact Lvs.whole_count hp.le K ksF_nd ksF_len (ksF_iff p0) g sq hl (by omega)
    · intro P hP
      obtain ⟨n, n1, l⟩ := hl P hP
      exact Lvs.whole_full K p0 lv sq g (Lvs.prod_mem hP) l n1 (h P hP)
  exact Lvs.ws_of W sq
end Xp
end
section
set_option Elab.async false
set_option linter.all false
set_option maxRecDepth 100000
set_option maxHeartbeats 4000000
namespace Xk
open PySem PySem.Spec PyProof.Rows L2 Xh LamX NdefX
/-! ### polynomials by a prime as level things -/
/-- level, of degree n -/
structure Lvl (q n : Nat) (ms : List Int) : Prop where
  po : Po q ms 25
  len : ms.length = n + 1
  top : ms.getD n 0 = 1
abbrev VV {q : Nat} (hq : (q : Int) ∈ primes) := Xp.lvsF (p := q) (pr_of hq)
theorem ex_eq {q : Nat} {a b : List Int} : Xp.exF q a = Xp.exF q b ↔ Xp.Eqm q (co a) (co b) := Xp.fx_eq (a := Xp.Po.of a) (b := Xp.Po.of b)
theorem ex_div {q : Nat} {a b : List Int} : Xp.Div (Xp.exF q a) (Xp.exF q b) ↔ Xp.Dv q (co a) (co b) := Xp.fx_div (a := Xp.Po.of a) (b := Xp.Po.of b)
theorem ex_nil {q : Nat} : Xp.exF q [] = 0 := Xp.fx_eq (a := Xp.Po.of []) (b := 0) |>.mpr (Xp.Eqm.refl _ _)
theorem ex_inj {q n m : Nat} {a b : List Int} (x : Po q a n) (y : Po q b m) (e : Xp.exF q a = Xp.exF q b) : a = b := list_of x.rs x.tr y.rs y.tr (ex_eq.mp e)
theorem ex_zero {q n : Nat} {a : List Int} (x : Po q a n) (e : Xp.exF q a = 0) : a = [] := nil_of x.rs x.tr (Xp.fx_eq (a := Xp.Po.of a) (b := 0) |>.mp e)
theorem ex_one {q : Nat} : Xp.exF q [1] = 1 := Xp.fx_eq (a := Xp.Po.of [1]) (b := 1) |>.mpr (Xp.Eqm.of_eq (show co [1] = Xp.one from funext co_one))
theorem ex_const {q : Nat} (c : Int) : Xp.exF q [c] = Xp.mC (q : Int) Xp.nul c := Xp.fx_eq (a := Xp.Po.of [c]) (b := Xp.Po.C c) |>.mpr (Xp.Eqm.of_eq (co_single c))
theorem ex_mul {q : Nat} {a b c : List Int} (e : Xp.Eqm q (co c) (Xp.cv (co a) (co b))) : Xp.exF q c = Xp.exF q a * Xp.exF q b := Xp.fx_eq (a := Xp.Po.of c) (b := Xp.Po.of a * Xp.Po.of b) |>.mpr e
theorem ex_add {q : Nat} {a b c : List Int} (e : Xp.Eqm q (co c) (Xp.ad (co a) (co b))) : Xp.exF q c = Xp.exF q a + Xp.exF q b := Xp.fx_eq (a := Xp.Po.of c) (b := Xp.Po.of a + Xp.Po.of b) |>.mpr e
/-- what a rule leaves, by things -/
theorem ex_rem {q : Nat} {R rs : List Int} {f : Xp.Po} (x : Rem q R f.c rs) : Xp.Div (Xp.exF q R) (Xp.Qu.mk f - Xp.exF q rs) := by
  have z : Xp.Dv q (co R) (f - Xp.Po.of rs).c := x.cg
  have := (Xp.fx_div (a := Xp.Po.of R) (b := f - Xp.Po.of rs)).mpr z
  rw [Xp.Qu.mk_sub] at this
  exact this
theorem Lvl.lm {q n : Nat} {ms : List Int} (hq : (q : Int) ∈ primes) (x : Lvl q n ms) : Xp.Lm q n (co ms) := by
  have hp := pm_of hq
  refine ⟨?_, fun k hk => ?_⟩
  · show ms.getD n 0 % (q : Int) = 1
    rw [x.top]
    exact Int.emod_eq_of_lt (by decide) (by have := hp.lo; omega)
  · show ms.getD k 0 % (q : Int) = 0
    rw [getD_over (by rw [x.len]; omega), Int.zero_emod]
theorem Lvl.L {q n : Nat} {ms : List Int} (hq : (q : Int) ∈ primes) (x : Lvl q n ms) : (VV hq).L n (Xp.exF q ms) := ⟨Xp.Po.of ms, rfl, x.lm hq⟩
theorem lvl_of {q n : Nat} {ms : List Int} (hq : (q : Int) ∈ primes) (x : Po q ms 25) (h : (VV hq).L n (Xp.exF q ms)) : Lvl q n ms := by
  have l : Xp.Lm q n (co ms) := Xp.lvF_mk.mp h
  have hp := pm_of hq
  have lo := hp.lo
  have t := l.top
  have t : ms.getD n 0 % (q : Int) = 1 := t
  have hn : n < ms.length := by
    rcases Nat.lt_or_ge n ms.length with z | z
    · exact z
    · rw [getD_over z, Int.zero_emod] at t
      exact absurd t (by decide)
  have ne : ms ≠ [] := fun z => by rw [z] at hn; exact absurd hn (Nat.not_lt_zero _)
  have tl := trim_ne ms ne x.tr
  have el : ms.length = n + 1 := by
    rcases Nat.lt_or_ge n (ms.length - 1) with z | z
    · have o := l.out _ z
      have o : ms.getD (ms.length - 1) 0 % (q : Int) = 0 := o
      obtain ⟨r0, r1⟩ := x.rs (ms.length - 1)
      rw [Int.emod_eq_of_lt r0 r1] at o
      exact absurd o tl
    · omega
  obtain ⟨r0, r1⟩ := x.rs n
  rw [Int.emod_eq_of_lt r0 r1] at t
  exact ⟨x, el, t⟩
theorem Lvl.ne {q n : Nat} {ms : List Int} (x : Lvl q n ms) : ms ≠ [] := fun z => by
  have := x.len
  rw [z] at this
  cases this
theorem Lvl.dsr {q n : Nat} {ms : List Int} (hq : (q : Int) ∈ primes) (x : Lvl q n ms) : Dsr q ms := x.po.dsr x.ne hq
theorem Lvl.le {q n : Nat} {ms : List Int} (x : Lvl q n ms) : n ≤ 24 := by
  have := x.po.len
  have := x.len
  omega
theorem Lvl.nz {q n : Nat} {ms : List Int} (hq : (q : Int) ∈ primes) (x : Lvl q n ms) : Xp.exF q ms ≠ 0 := fun z => x.ne (ex_zero x.po z)
theorem Lvl.dg {q n : Nat} {ms : List Int} (hq : (q : Int) ∈ primes) (x : Lvl q n ms) : Xp.Dg q n (Xp.cf ms) := ⟨⟨1, by
  show (1 * ms.getD n 0) % (q : Int) = 1
  rw [x.top]
  exact Int.emod_eq_of_lt (by decide) (by have := (pm_of hq).lo; omega)⟩, fun k hk => getD_over (by rw [x.len]; omega)⟩
theorem lvl_one {q : Nat} (hq : (q : Int) ∈ primes) : Lvl q 0 [1] := ⟨po_one (pm_of hq) (by decide), rfl, rfl⟩
theorem Lvl.zero {q : Nat} {ms : List Int} (x : Lvl q 0 ms) : ms = [1] := by
  have l := x.len
  have t := x.top
  match ms, l with
  | [a], _ =>
    have t : a = 1 := t
    rw [t]
/-- parted: by things -/
theorem Div.ex {q : Nat} {xs ys qs rs : List Int} (hq : (q : Int) ∈ primes) (rx : Rs q xs) (d : Div q xs ys qs rs) : Xp.exF q xs = Xp.exF q qs * Xp.exF q ys + Xp.exF q rs :=
  Xp.fx_eq (a := Xp.Po.of xs) (b := Xp.Po.of qs * Xp.Po.of ys + Xp.Po.of rs) |>.mpr (d.eqm (pm_of hq) rx)
theorem Div.none {q : Nat} {xs ys qs rs : List Int} (hq : (q : Int) ∈ primes) (rx : Rs q xs) (dy : Dsr q ys) (d : Div q xs ys qs rs) (l : ys.length ≤ 25) : rs = [] ↔ Xp.Div (Xp.exF q ys) (Xp.exF q xs) := by
  have hp := pm_of hq
  constructor
  · intro e
    have z := d.ex hq rx
    rw [e, ex_nil] at z
    exact ⟨Xp.exF q qs, by rw [z]; grind⟩
  · intro h
    have z := ex_div.mp h
    have r1 : Rem q ys (co xs) rs := d.rem dy rx l
    have r2 : Rem q ys Xp.nul [] := ⟨po_nil q 24 hp.pos, dy.pos, Xp.Cg.refl _ _ _⟩
    exact Rem.uniq dy r1 r2 (Xp.Dv.cg.mp z)
/-- a level one parted by a level part -/
theorem Lvl.part {q n k : Nat} {xs ys qs rs : List Int} (hq : (q : Int) ∈ primes) (x : Lvl q n xs) (y : Lvl q k ys) (h : Xp.Div (Xp.exF q ys) (Xp.exF q xs)) (d : Div q xs ys qs rs) : rs = [] ∧ k ≤ n ∧ Lvl q (n - k) qs ∧ Xp.exF q xs = Xp.exF q ys * Xp.exF q qs := by
  have hp := pm_of hq
  have e := (d.none hq x.po.rs (y.dsr hq) y.po.len).mpr h
  have z := d.ex hq x.po.rs
  rw [e, ex_nil] at z
  have z : Xp.exF q xs = Xp.exF q ys * Xp.exF q qs := by rw [z]; grind
  obtain ⟨k1, k2⟩ := (VV hq).quot (x.L hq) (y.L hq) z
  have ql : qs.length ≤ 25 := by
    have := d.q.len
    have := x.po.len
    have := (y.dsr hq).pos
    have : stp xs ys = xs.length + 1 - ys.length := rfl
    omega
  exact ⟨e, k1, lvl_of hq ⟨d.rs_q hp, d.q.tr, ql⟩ k2, z⟩
/-- the greatest common one of a level one with another -/
theorem Gc.ex {q n : Nat} {xs ys g : List Int} (hq : (q : Int) ∈ primes) (x : Lvl q n xs) (G : Gc q xs ys g) : ∃ k, k ≤ n ∧ Lvl q k g ∧ Xp.Div (Xp.exF q g) (Xp.exF q xs) ∧ Xp.Div (Xp.exF q g) (Xp.exF q ys) ∧ ∀ z, Xp.Div z (Xp.exF q xs) → Xp.Div z (Xp.exF q ys) → Xp.Div z (Xp.exF q g) := by
  have dg := (G.dv (co g)).mp (Xp.Dv.self _ _)
  have d1 : Xp.Div (Xp.exF q g) (Xp.exF q xs) := ex_div.mpr dg.1
  have ne : g ≠ [] := fun z => by
    rw [z, ex_nil] at d1
    obtain ⟨c, e⟩ := d1
    exact x.nz hq (by rw [e]; grind)
  obtain ⟨k, lk⟩ : ∃ k, g.length = k + 1 := ⟨g.length - 1, by have := List.length_pos_iff.mpr ne; omega⟩
  have lg : Lvl q k g := by
    rcases G.lev with z | ⟨_, z⟩
    · exact absurd z ne
    · rw [lk, Nat.add_sub_cancel] at z
      exact ⟨G.po, lk, z⟩
  obtain ⟨c, ec⟩ := d1
  refine ⟨k, ((VV hq).quot (x.L hq) (lg.L hq) ec).1, lg, ⟨c, ec⟩, ex_div.mpr dg.2, fun z h1 h2 => ?_⟩
  obtain ⟨b, rfl⟩ := Xp.Qu.rep z
  have h1 := Xp.fx_div (a := b) (b := Xp.Po.of xs) |>.mp h1
  have h2 := Xp.fx_div (a := b) (b := Xp.Po.of ys) |>.mp h2
  exact Xp.fx_div (a := b) (b := Xp.Po.of g) |>.mpr ((G.dv _).mpr ⟨h1, h2⟩)
end Xk
end
section
set_option Elab.async false
set_option linter.all false
set_option maxRecDepth 100000
set_option maxHeartbeats 4000000
namespace Xk
open PySem PySem.Spec PyProof.Rows L2 Xh LamX NdefX
/-! ### half of the rests; a part taken out -/
def spHalfM (T : List (Addr × Str)) : Sp := fun vs H Q _ => ∃ (m P : Addr) (v R : List Int) (s q n : Nat), vs = [.ref m, .int s, .ref P, .int q] ∧ H m = some (.tup (v.map V.int)) ∧ H P = some (.tup (R.map V.int)) ∧ (q : Int) ∈ primes ∧ Lvl q n R ∧ 1 ≤ n ∧ Po q v 24 ∧ s < q ∧ Tabs T H ∧
  ∀ (a : Addr) (ms : List Int) (H' : Hp), Gr T H H' → H' a = some (.tup (ms.map V.int)) → Po q ms 25 → Xp.Div (Xp.exF q R) (Xp.exF q ms - Xp.hlf q (Xp.exF q v) s) → Q (.ref a) H'
section
variable {P : Program} {w : World} {K : PySem.W.Frag} {mg : Str → Option Value} {base : Heap}
theorem sc_half_mask : FnScope (["mask", "shift", "part", "prime", "moved"] : List Str) ["mask", "shift", "part", "prime"] (defScope s_half_mask) := ⟨rfl, rfl, rfl, by decide +kernel, rfl, by decide +kernel, by decide +kernel⟩
theorem ok_half_mask {TT : List (Addr × Str)} {f : Addr} {fd : FuncData} (F : FunD K "half_mask" "half_mask" (defArgs s_half_mask) (defBody s_half_mask) (defScope s_half_mask) [] [] f fd) (T : Fre mg) (o_raw_plus : Own P w K mg base CX0 2 "raw_plus" ["one", "other", "prime"] [] (spPlus K)) (o_trimmed : Own P w K mg base CX0 1 "trimmed" ["rests"] [] (spTrim K)) (o_raw_minus : Own P w K mg base CX0 3 "raw_minus" ["one", "other", "prime"] [] (spMinus K)) (o_raw_power : Own P w K mg base CX0 8 "raw_power" ["one", "exponent", "rule", "prime"] [] (spPowR K TT)) : FnOk P w K mg base CX0 9 f fd ["mask", "shift", "part", "prime"] (spHalfM TT) := by
  refine F.ok sc_half_mask (fun vs H Q E h => ?_) (fun cdv A outer s H vs Q E hr h => ?_)
  · obtain ⟨m, P, v, R, s, q, n, rfl, _⟩ := h
    rfl
  · obtain ⟨m, PP, v, R, s, q, n, rfl, em, eP, hq, lv, n1, pv', hs, hT, k⟩ := h
    have hp := pm_of hq
    have lo := hp.lo
    have hi := hp.hi
    have lR := lv.po.len
    have lV := pv'.len
    refine ⟨_, PSs.nox (pss_cons (ps_set (i := 4) sc_half_mask.nd rfl (Or.inl rfl) (pe_own o_raw_plus (hr.mono (by decide)) rfl pass0 (pa_cons (pv 0) (pa_cons (pe_own o_trimmed (hr.mono (by decide)) rfl pass0 (pa_cons (pe_lst (pa_cons (pv 1) pa_nil)) pa_nil)) (pa_cons (pv 3) pa_nil)))))
      (pss_one (ps_ret (pe_own o_raw_minus (hr.mono (by decide)) rfl pass0 (pa_cons (pe_own o_raw_power (hr.mono (by decide)) rfl pass0 (pa_cons (pv 4) (pa_cons (pe_op op_fdivW (pv 3) pe_int) (pa_cons (pv 2) (pa_cons (pv 3) pa_nil))))) (pa_cons (pe_tup (pa_cons pe_int pa_nil)) (pa_cons (pv 3) pa_nil))))))) , ?_⟩
    refine ⟨_, rfl, ⟨_, rfl, (by show 1 ≤ sizeLine; decide), fun L hL => ?_⟩⟩
    have sL := same_upd (o := .lst [.int (s : Nat)]) hL
    refine ⟨L, [(s : Int)], rfl, SqL.of upd_same, (by show 1 ≤ 1000; decide), fun t H1 s1 n1' e1 => ?_⟩
    have s01 := sL.trans s1
    have rS : Rs q (trim [(s : Int)]) := fun j => by
      rw [trim_getD]
      exact (Rs.nil q hp.pos).add (by omega) (by omega) j
    have lS : (trim [(s : Int)]).length ≤ 1 := trim_length _
    refine ⟨_, rfl, m, t, v, trim [(s : Int)], q, rfl, .inl (.inl (s01 _ _ em)), .inl (.inl e1), by omega, by omega, pv'.rs, rS, hp, fun mv hmv a H2 s2 n2 e2 => ?_⟩
    have s02 := s01.trans s2
    have lmv : mv.length ≤ 24 := by
      have := plus_len hmv
      omega
    have pmv : Po q mv 25 := ⟨rs_of hp hmv, hmv.tr, by omega⟩
    have rP : SqT K H2 PP (R.map V.int) := .inl (.inl (s02 _ _ eP))
    refine ⟨_, rfl, _, rfl, ?_⟩
    refine ⟨_, _, rfl, rfl, ⟨by decide, by decide⟩, _, rfl, _, rfl, a, PP, mv, R, q / 2, q, rfl, e2, rP, pmv, lR, lv.dsr hq, hT.ext s02, fun u rs H3 g3 eu rm => ?_⟩
    refine ⟨(by show 1 ≤ sizeLine; decide), fun O hO => ?_⟩
    have sO := same_upd (o := .tup [.int 1]) hO
    have lrs := rm.po.len
    refine ⟨_, rfl, u, O, rs, [1], q, rfl, .inl (.inl (sO _ _ eu)), .inl (.inl upd_same), by omega, (by show 1 ≤ 100; decide), rm.po.rs, (po_one hp (n := 1) (by decide)).rs, hp, fun ms hms b H4 s4 n4 e4 => ?_⟩
    have lms : ms.length ≤ 25 := hms.short fun k hk => by
      show (rs.getD k 0 + ((q : Int) - 1) * ([1] : List Int).getD k 0).fmod q = 0
      rw [getD_over (a := rs) (by omega), getD_over (a := [1]) (show 1 ≤ k by omega), Int.mul_zero]
      exact Int.zero_fmod _
    refine k b ms H4 (((Gr.of hT s02).trans g3).same (sO.trans s4)) e4 ⟨rs_of hp hms, hms.tr, lms⟩ ?_
    have e1 : Xp.exF q mv = Xp.exF q v + Xp.mC (q : Int) Xp.nul s := by
      rw [← ex_const, ← show Xp.exF q (trim [(s : Int)]) = Xp.exF q [(s : Int)] from ex_eq.mpr (eqv_fun fun j => trim_getD _ _)]
      exact ex_add (plus_eqm hp hmv)
    have e2' : Xp.exF q ms = Xp.exF q rs - 1 := by
      rw [← ex_one]
      refine Xp.fx_eq (a := Xp.Po.of ms) (b := Xp.Po.of rs - Xp.Po.of [1]) |>.mpr ?_
      refine (eqm_of hp.pos hms).trans fun j => ?_
      show (rs.getD j 0 + ((q : Int) - 1) * ([1] : List Int).getD j 0) % (q : Int) = (rs.getD j 0 + -1 * ([1] : List Int).getD j 0) % (q : Int)
      rw [show rs.getD j 0 + ((q : Int) - 1) * ([1] : List Int).getD j 0 = rs.getD j 0 + -1 * ([1] : List Int).getD j 0 + (q : Int) * ([1] : List Int).getD j 0 by rw [Int.sub_mul]; omega, Int.add_mul_emod_self_left]
    have d1 := ex_rem (f := (Xp.Po.of mv) ^ (q / 2)) (show Rem q R ((Xp.Po.of mv) ^ (q / 2)).c rs by rw [Xp.Po.pow_c]; exact rm)
    rw [Xp.Qu.mk_pow] at d1
    have d1 : Xp.Div (Xp.exF q R) (Xp.exF q mv ^ (q / 2) - Xp.exF q rs) := d1
    unfold Xp.hlf
    rw [← e1, e2']
    have e3 : Xp.exF q rs - 1 - (Xp.exF q mv ^ (q / 2) - 1) = 0 - (Xp.exF q mv ^ (q / 2) - Xp.exF q rs) := by grind
    rw [e3]
    exact (Xp.Div.zero _).sub d1
end
end Xk
end
section
set_option Elab.async false
set_option linter.all false
set_option maxRecDepth 100000
set_option maxHeartbeats 4000000
namespace Xk
open PySem PySem.Spec PyProof.Rows L2 Xh LamX NdefX
/-! ### a part taken out -/
structure Tk (q : Nat) (ws xs : List Int) (c : Nat) (os : List Int) : Prop where
  po : Po q os 25
  ne : os ≠ []
  len : os.length ≤ xs.length
  ex : Xp.exF q xs = Xp.exF q ws ^ c * Xp.exF q os
def spTaken (T : List (Addr × Str)) : Sp := fun vs H Q _ => ∃ (a b : Addr) (xs ws : List Int) (q k : Nat), vs = [.ref a, .ref b, .int q] ∧ H a = some (.tup (xs.map V.int)) ∧ H b = some (.tup (ws.map V.int)) ∧ (q : Int) ∈ primes ∧ Po q xs 25 ∧ xs ≠ [] ∧ Lvl q k ws ∧ 1 ≤ k ∧ Tabs T H ∧
  ∀ (t u : Addr) (c : Nat) (os : List Int) (H' : Hp), Gr T H H' → H' t = some (.tup [.int c, .ref u]) → H' u = some (.tup (os.map V.int)) → Tk q ws xs c os → ¬ Xp.Div (Xp.exF q ws) (Xp.exF q os) → Q (.ref t) H'
theorem Tk.step {q k : Nat} {ws xs os qs rs : List Int} {c : Nat} (hq : (q : Int) ∈ primes) (lw : Lvl q k ws) (k1 : 1 ≤ k) (x : Tk q ws xs c os) (d : Div q os ws qs rs) (e : rs = []) : Tk q ws xs (c + 1) qs ∧ qs.length < os.length := by
  have hp := pm_of hq
  have z := d.ex hq x.po.rs
  rw [e, ex_nil] at z
  have ne : qs ≠ [] := fun h => by
    rw [h, ex_nil] at z
    exact x.ne (ex_zero x.po (by rw [z]; grind))
  have l1 := d.q.len
  have l2 : stp os ws = os.length + 1 - ws.length := rfl
  have l3 := lw.len
  have l4 := x.po.len
  have l5 := x.len
  have l6 := List.length_pos_iff.mpr x.ne
  have lt : qs.length < os.length := by omega
  exact ⟨⟨⟨d.rs_q hp, d.q.tr, by omega⟩, ne, by omega, by rw [x.ex, z, Lean.Grind.Semiring.pow_succ]; grind⟩, lt⟩
section
variable {P : Program} {w : World} {K : PySem.W.Frag} {mg : Str → Option Value} {base : Heap}
theorem sc_taken_out : FnScope (["poly", "part", "prime", "count", "quotient", "left"] : List Str) ["poly", "part", "prime"] (defScope s_taken_out) := ⟨rfl, rfl, rfl, by decide +kernel, rfl, by decide +kernel, by decide +kernel⟩
theorem ok_taken_out {TT : List (Addr × Str)} {f : Addr} {fd : FuncData} (F : FunD K "taken_out" "taken_out" (defArgs s_taken_out) (defBody s_taken_out) (defScope s_taken_out) [] [] f fd) (o_raw_parted : Own P w K mg base CX0 4 "raw_parted" ["one", "other", "prime"] [] (spPartedT K TT)) : FnOk P w K mg base CX0 5 f fd ["poly", "part", "prime"] (spTaken TT) := by
  refine F.ok sc_taken_out (fun vs H Q E h => ?_) (fun cdv A outer s H vs Q E hr h => ?_)
  · obtain ⟨a, b, xs, ws, q, k, rfl, _⟩ := h
    rfl
  · obtain ⟨a, b, xs, ws, q, k, rfl, ea, eb, hq, px, nx, lw, k1, hT, kk⟩ := h
    have hp := pm_of hq
    have lx := px.len
    have lwl := lw.po.len
    have dw := lw.dsr hq
    refine ⟨_, PSs.nox (pss_cons (ps_set (i := 3) sc_taken_out.nd rfl (Or.inl rfl) pe_int)
      (pss_cons (ps_asg (pe_own o_raw_parted (hr.mono (by decide)) rfl pass0 (pa_cons (pv 0) (pa_cons (pv 1) (pa_cons (pv 2) pa_nil)))) (pg_tup rfl (pgs_cons (pg_name (i := 4) sc_taken_out.nd rfl (Or.inl rfl)) (pgs_cons (pg_name (i := 5) sc_taken_out.nd rfl (Or.inl rfl)) pgs_nil))))
      (pss_cons (ps_while PassesOwn.never (pt_not (pt_truth (pv 5) (by intro _; rfl))) (pss_cons (ps_aug (i := 3) sc_taken_out.nd rfl (Or.inl rfl) pe_int ip_add)
      (pss_cons (ps_set (i := 0) sc_taken_out.nd rfl (Or.inl rfl) (pv 4))
      (pss_one (ps_asg (pe_own o_raw_parted (hr.mono (by decide)) rfl pass0 (pa_cons (pv 0) (pa_cons (pv 1) (pa_cons (pv 2) pa_nil)))) (pg_tup rfl (pgs_cons (pg_name (i := 4) sc_taken_out.nd rfl (Or.inl rfl)) (pgs_cons (pg_name (i := 5) sc_taken_out.nd rfl (Or.inl rfl)) pgs_nil))))))))
      (pss_one (ps_ret (pe_tup (pa_cons (pv 3) (pa_cons (pv 0) pa_nil)))))))) , ?_⟩
    refine ⟨_, rfl, _, rfl, _, rfl, a, b, xs, ws, q, rfl, .inl (.inl ea), .inl (.inl eb), by omega, by omega, px.rs, dw, hT, fun w0 u v qs rs H1 g1 nw e1 e2 e3 dv => ?_⟩
    refine ⟨w0, _, rfl, SqT.of e1, rfl, _, _, rfl, _, _, rfl, rfl, ?_⟩
    refine while_by (fun σ' H' => ∃ (a' u v : Addr) (c : Nat) (os qs rs : List Int), σ' = [some (.ref a'), some (.ref b), some (.int q), some (.int c), some (.ref u), some (.ref v)] ∧ Gr TT H H' ∧ H' a' = some (.tup (os.map V.int)) ∧ H' u = some (.tup (qs.map V.int)) ∧ H' v = some (.tup (rs.map V.int)) ∧ Tk q ws xs c os ∧ Div q os ws qs rs) (fun σ' H' => lenS 0 σ' H')
      ⟨a, u, v, 0, xs, qs, rs, rfl, g1, g1.tup ea, e2, e3, ⟨px, nx, Nat.le_refl _, by rw [Lean.Grind.Semiring.pow_zero]; grind⟩, dv⟩ ?_ ?_
    · rintro σ' H2 ⟨a', u, v, c, os, qs, rs, rfl, g2, ea', eu, ev, tk, d⟩
      have lo := tk.po.len
      refine ⟨_, rfl, _, .inr (.inl ⟨_, .inl (.inl ev), rfl⟩), ?_⟩
      by_cases hr : rs = []
      · subst hr
        refine iteT ?_
        obtain ⟨tk2, lt⟩ := Tk.step hq lw k1 tk d rfl
        have lq := tk2.po.len
        refine ⟨_, rfl, _, _, rfl, rfl, ?_⟩
        refine ⟨_, rfl, ?_⟩
        refine ⟨_, rfl, _, rfl, _, rfl, u, b, qs, ws, q, rfl, .inl (.inl eu), .inl (.inl (g2.tup eb)), by omega, by omega, tk2.po.rs, dw, g2.t, fun w0 u' v' qs' rs' H3 g3 nw e1 e2 e3 dv' => ?_⟩
        refine ⟨w0, _, rfl, SqT.of e1, rfl, _, _, rfl, _, _, rfl, rfl, ?_⟩
        refine ⟨⟨u, u', v', c + 1, qs, qs', rs', rfl, g2.trans g3, g3.tup eu, e2, e3, tk2, dv'⟩, ?_⟩
        rw [lenS_at (a := u) rfl (g3.tup eu), lenS_at (a := a') rfl ea', List.length_map, List.length_map]
        exact lt
      · rw [show (!(rs.map V.int).isEmpty) = true from by cases rs with | nil => exact absurd rfl hr | cons _ _ => rfl]
        refine iteF ?_
        refine ⟨_, rfl, _, rfl, (by show 2 ≤ sizeLine; decide), fun t ht => ?_⟩
        have st := same_upd (o := .tup [.int (c : Nat), .ref a']) ht
        exact kk t a' c os _ (g2.same st) upd_same (st _ _ ea') tk fun z => hr ((d.none hq tk.po.rs dw lwl).mpr z)
    · rintro σ H Q Q' m ⟨v, h1, b, h2, q⟩
      exact ⟨v, h1, b, h2, m _ _ q⟩
end
end Xk
end
section
set_option Elab.async false
set_option linter.all false
set_option maxRecDepth 100000
set_option maxHeartbeats 4000000
namespace Xk
open PySem PySem.Spec PyProof.Rows L2 Xh LamX NdefX
/-! ### parted by a mask -/
/-- level parts, their product, by each of them the mask a constant -/
structure Pts (q n : Nat) (R v : List Int) (rs : List (List Int)) : Prop where
  lv : ∀ r ∈ rs, ∃ k, 1 ≤ k ∧ Lvl q k r
  pr : Xp.Lvs.prod (rs.map (Xp.exF q)) = Xp.exF q R
  con : ∀ r ∈ rs, Xp.Lvs.Con (Xp.Cs q) (Xp.exF q r) (Xp.exF q v)
  len : rs.length ≤ n
theorem Pts.one {q n : Nat} {R v : List Int} (lv : Lvl q n R) (n1 : 1 ≤ n) (h : Xp.Lvs.Con (Xp.Cs q) (Xp.exF q R) (Xp.exF q v)) : Pts q n R v [R] := by
  refine ⟨fun r hr => ?_, ?_, fun r hr => ?_, n1⟩
  · rw [List.mem_singleton.mp hr]
    exact ⟨n, n1, lv⟩
  · show Xp.exF q R * 1 = Xp.exF q R
    grind
  · rw [List.mem_singleton.mp hr]
    exact h
theorem con_by {q : Nat} {R r : Xp.Fx q} {v u : Xp.Fx q} (h : Xp.Lvs.Con (Xp.Cs q) r u) (d : Xp.Div r R) (e : Xp.Div R (v - u)) : Xp.Lvs.Con (Xp.Cs q) r v := by
  obtain ⟨k, ck, dk⟩ := h
  refine ⟨k, ck, ?_⟩
  have z := (d.trans e).add dk
  have e2 : v - u + (u - k) = v - k := by grind
  rw [e2] at z
  exact z
theorem st_by {q : Nat} {R v u : Xp.Fx q} (h : Xp.Lvs.St q R v) (e : Xp.Div R (v - u)) : Xp.Lvs.St q R u := by
  have d1 := e.trans (Xp.sub_pow v u q)
  have h : Xp.Div R (v ^ q - v) := h
  have z := (h.sub d1).add e
  have e2 : v ^ q - v - (v ^ q - u ^ q) + (v - u) = u ^ q - u := by grind
  rw [e2] at z
  exact z
theorem Pts.join {q n k : Nat} {R v u g o : List Int} {as bs : List (List Int)} (kn : k ≤ n) (e : Xp.exF q R = Xp.exF q g * Xp.exF q o) (d : Xp.Div (Xp.exF q R) (Xp.exF q v - Xp.exF q u)) (x : Pts q k g u as) (y : Pts q (n - k) o u bs) : Pts q n R v (as ++ bs) := by
  refine ⟨fun r hr => ?_, ?_, fun r hr => ?_, ?_⟩
  · rcases List.mem_append.mp hr with hr | hr
    · exact x.lv r hr
    · exact y.lv r hr
  · rw [List.map_append, Xp.Lvs.prod_app, x.pr, y.pr, e]
  · rcases List.mem_append.mp hr with hr | hr
    · refine con_by (R := Xp.exF q R) (x.con r hr) ?_ d
      have := Xp.Lvs.prod_mem (List.mem_map_of_mem (f := Xp.exF q) hr)
      rw [x.pr] at this
      rw [e]
      exact this.mulR _
    · refine con_by (R := Xp.exF q R) (y.con r hr) ?_ d
      have := Xp.Lvs.prod_mem (List.mem_map_of_mem (f := Xp.exF q) hr)
      rw [y.pr] at this
      rw [e]
      exact this.mulL _
  · rw [List.length_append]
    have := x.len
    have := y.len
    omega
def spSplit (N : Nat) (T : List (Addr × Str)) : Sp := fun vs H Q _ => ∃ (P m : Addr) (R v : List Int) (q n : Nat) (hq : (q : Int) ∈ primes), vs = [.ref P, .ref m, .int q] ∧ H P = some (.tup (R.map V.int)) ∧ H m = some (.tup (v.map V.int)) ∧ Lvl q n R ∧ 1 ≤ n ∧ n ≤ N ∧ (VV hq).Sqf (Xp.exF q R) ∧ Po q v 24 ∧ Xp.Lvs.St q (Xp.exF q R) (Xp.exF q v) ∧ Tabs T H ∧
  ∀ (D : Addr) (la : List Addr) (rs : List (List Int)) (H' : Hp), Gr T H H' → H D = none → H' D = some (.lst (la.map V.ref)) → Rws H' la rs → Pts q n R v rs → Q (.ref D) H'
section
variable {P : Program} {w : World} {K : PySem.W.Frag} {mg : Str → Option Value} {base : Heap}
theorem sc_split_by : FnScope (["part", "mask", "prime", "own", "shift", "common", "other"] : List Str) ["part", "mask", "prime"] (defScope s_split_by) := ⟨rfl, rfl, rfl, by decide +kernel, rfl, by decide +kernel, by decide +kernel⟩
theorem ok_split_by {TT : List (Addr × Str)} {f : Addr} {fd : FuncData} (F : FunD K "split_by" "split_by" (defArgs s_split_by) (defBody s_split_by) (defScope s_split_by) [] [] f fd) (T : Fre mg) (m : mg "split_by" = some (.ref f)) (o_raw_left : Own P w K mg base CX0 5 "raw_left" ["one", "rule", "prime"] [] (spLeft K TT)) (o_raw_greatest : Own P w K mg base CX0 6 "raw_greatest" ["one", "other", "prime"] [] (spGreat TT)) (o_half_mask : Own P w K mg base CX0 9 "half_mask" ["mask", "shift", "part", "prime"] [] (spHalfM TT)) (o_raw_parted : Own P w K mg base CX0 4 "raw_parted" ["one", "other", "prime"] [] (spPartedT K TT)) : ∀ N : Nat, FnOk P w K mg base CX0 (11 + N) f fd ["part", "mask", "prime"] (spSplit N TT) := by
  intro N
  induction N with
  | zero => exact ⟨fun vs H Q E h => by
      obtain ⟨P, m, R, v, q, n, hq, rfl, _⟩ := h
      rfl, fun A outer s H args us vs Q E _ _ _ _ h => by
      obtain ⟨P, m, R, v, q, n, hq, rfl, _, _, _, n1, nN, _⟩ := h
      omega⟩
  | succ N ih =>
  have o_split_by : Own P w K mg base CX0 (11 + N) "split_by" ["part", "mask", "prime"] [] (spSplit N TT) := own_of F ih m fun _ _ _ _ _ _ us hl => match us, hl with | [_, _, _], _ => rfl
  refine F.ok (k := 11 + N) sc_split_by (fun vs H Q E h => ?_) (fun cdv A outer s H vs Q E hr h => ?_)
  · obtain ⟨P, m, R, v, q, n, hq, rfl, _⟩ := h
    rfl
  · obtain ⟨PP, mm, R, v, q, n, hq, rfl, eP, em, lv, n1, nN, sq, pv', st, hT, k⟩ := h
    have hp := pm_of hq
    have lo := hp.lo
    have hi := hp.hi
    have lR := lv.po.len
    have lV := pv'.len
    refine ⟨_, PSs.nox (pss_cons (ps_set (i := 3) sc_split_by.nd rfl (Or.inl rfl) (pe_own o_raw_left (hr.mono (by omega)) rfl pass0 (pa_cons (pv 1) (pa_cons (pv 0) (pa_cons (pv 2) pa_nil)))))
      (pss_cons (ps_if (pt_cmpR op_le (pe_callB call_len_seq (by rfl) T.f_len PySem.boot_len (pa_cons (pv 3) pa_nil)) pe_int (nomark _)) (pss_one (ps_ret (pe_lst (pa_cons (pv 0) pa_nil)))) pss_nil)
      (pss_cons (ps_for PassesOwn.never rfl (pi_range1 (by rfl) T.f_range (pa_cons (pv 2) pa_nil)) (pg_name (i := 4) sc_split_by.nd rfl (Or.inl rfl)) (pss_cons (ps_set (i := 5) sc_split_by.nd rfl (Or.inl rfl) (pe_own o_raw_greatest (hr.mono (by omega)) rfl pass0 (pa_cons (pv 0) (pa_cons (pe_own o_half_mask (hr.mono (by omega)) rfl pass0 (pa_cons (pv 3) (pa_cons (pv 4) (pa_cons (pv 0) (pa_cons (pv 2) pa_nil))))) (pa_cons (pv 2) pa_nil)))))
      (pss_one (ps_if (pt_chain op_lt op_lt pe_int (pe_callB call_len_seq (by rfl) T.f_len PySem.boot_len (pa_cons (pv 5) pa_nil)) (pe_callB call_len_seq (by rfl) T.f_len PySem.boot_len (pa_cons (pv 0) pa_nil))) (pss_cons (ps_set (i := 6) sc_split_by.nd rfl (Or.inl rfl) (pe_ix ix_tup (pe_own o_raw_parted (hr.mono (by omega)) rfl pass0 (pa_cons (pv 0) (pa_cons (pv 5) (pa_cons (pv 2) pa_nil)))) pe_int (fun _ _ => rfl)))
      (pss_one (ps_ret (pe_op op_cat (pe_own o_split_by (hr.mono (by omega)) rfl pass0 (pa_cons (pv 5) (pa_cons (pv 3) (pa_cons (pv 2) pa_nil)))) (pe_own o_split_by (hr.mono (by omega)) rfl pass0 (pa_cons (pv 6) (pa_cons (pv 3) (pa_cons (pv 2) pa_nil)))))))) pss_nil))))
      (pss_one (ps_ret (pe_lst (pa_cons (pv 0) pa_nil))))))) , ?_⟩
    refine ⟨_, rfl, _, rfl, _, rfl, mm, PP, v, R, q, rfl, em, .inl (.inl eP), by omega, lR, pv'.rs, lv.dsr hq, hT, fun o os H1 g1 eo rm => ?_⟩
    have lo2 := rm.po.len
    have less := rm.less
    have dvo : Xp.Div (Xp.exF q R) (Xp.exF q v - Xp.exF q os) := ex_rem (f := Xp.Po.of v) rm
    have sto := st_by st dvo
    refine ⟨_, rfl, o, _, rfl, .inr (.inl (.inl eo)), _, _, rfl, rfl, _, rfl, ite2 (fun hc => ?_) (fun hc => ?_)⟩
    · have lc : os.length ≤ 1 := by
        have z := of_decide_eq_true hc
        rw [List.length_map] at z
        omega
      refine ⟨_, rfl, (by show 1 ≤ sizeLine; decide), fun D hD => ?_⟩
      have sD := same_upd (o := .lst [.ref PP]) hD
      refine k D [PP] [R] _ (g1.same sD) (g1.n _ hD) upd_same ⟨sD _ _ (g1.tup eP), trivial⟩ (Pts.one lv n1 ?_)
      refine con_by (R := Xp.exF q R) ?_ (Xp.Div.refl _) dvo
      match os, lc with
      | [], _ => exact ⟨0, (Xp.cs_cst (pr_of hq) (fb_primes hq)).zero, by rw [ex_nil]; exact ⟨0, by grind⟩⟩
      | [c], _ => exact ⟨Xp.mC (q : Int) Xp.nul c, ⟨c, rfl⟩, by rw [ex_const]; exact ⟨0, by grind⟩⟩
    · refine ⟨_, rfl, (q : Int), rfl, by omega, by omega, ?_⟩
      rw [Int.toNat_natCast]
      have lpos := lv.len
      refine for_range (lo := 0) (n := q) (fun i σ' H' => ∃ x4 x5 x6 : Option V, σ' = [some (.ref PP), some (.ref mm), some (.int q), some (.ref o), x4, x5, x6] ∧ Gr TT H1 H' ∧ ∀ s, s < i → ∃ (h : Xp.Fx q) (j : Nat), (VV hq).L j h ∧ Xp.Div h (Xp.exF q R) ∧ Xp.Div h (Xp.hlf q (Xp.exF q os) s) ∧ (∀ z, Xp.Div z (Xp.exF q R) → Xp.Div z (Xp.hlf q (Xp.exF q os) s) → Xp.Div z h) ∧ ¬ (1 ≤ j ∧ j < n))
        ⟨none, none, none, rfl, Gr.refl g1.t, fun s hs => absurd hs (Nat.not_lt_zero s)⟩ ?_ ?_
      · rintro i σ' H2 hi2 ⟨x4, x5, x6, rfl, g2, all⟩
        have g12 := g1.trans g2
        have ePt := g12.tup eP
        refine ⟨_, rfl, _, rfl, _, rfl, _, rfl, _, rfl, o, PP, os, R, i, q, n, by rw [Int.zero_add] <;> rfl, g2.tup eo, ePt, hq, lv, n1, rm.po, hi2, g2.t, fun a ms H3 g3 ea pm dm => ?_⟩
        refine ⟨_, rfl, PP, a, R, ms, q, rfl, g3.tup ePt, ea, hq, lv.po, pm, g3.t, fun c g H4 g4 ec G => ?_⟩
        have g24 := (g2.trans g3).trans g4
        have g14 := g1.trans g24
        obtain ⟨j, jn, lg, dg1, dg2, dgA⟩ := G.ex hq lv
        have lgl := lg.len
        have dd : Xp.Div (Xp.exF q g) (Xp.exF q ms - Xp.hlf q (Xp.exF q os) i) := dg1.trans dm
        have dg3 : Xp.Div (Xp.exF q g) (Xp.hlf q (Xp.exF q os) i) := by
          have z := dg2.sub dd
          have e2 : Xp.exF q ms - (Xp.exF q ms - Xp.hlf q (Xp.exF q os) i) = Xp.hlf q (Xp.exF q os) i := by grind
          rw [e2] at z
          exact z
        have dgB : ∀ z, Xp.Div z (Xp.exF q R) → Xp.Div z (Xp.hlf q (Xp.exF q os) i) → Xp.Div z (Xp.exF q g) := fun z z1 z2 => dgA z z1 (by
          have y := (z1.trans dm).add z2
          have e2 : Xp.exF q ms - Xp.hlf q (Xp.exF q os) i + Xp.hlf q (Xp.exF q os) i = Xp.exF q ms := by grind
          rw [e2] at y
          exact y)
        have lGm : ((g.map V.int).length : Int) = (j : Int) + 1 := by
          rw [List.length_map, lgl]
          omega
        have lRm : ((R.map V.int).length : Int) = (n : Int) + 1 := by
          rw [List.length_map, lpos]
          omega
        have fin : ¬ (1 ≤ j ∧ j < n) → ∀ s, s < i + 1 → ∃ (h : Xp.Fx q) (j : Nat), (VV hq).L j h ∧ Xp.Div h (Xp.exF q R) ∧ Xp.Div h (Xp.hlf q (Xp.exF q os) s) ∧ (∀ z, Xp.Div z (Xp.exF q R) → Xp.Div z (Xp.hlf q (Xp.exF q os) s) → Xp.Div z h) ∧ ¬ (1 ≤ j ∧ j < n) := fun no s hs => by
          by_cases h : s < i
          · exact all s h
          · have e : s = i := by omega
            subst e
            exact ⟨Xp.exF q g, j, lg.L hq, dg1, dg3, dgB, no⟩
        refine ⟨_, rfl, c, _, rfl, .inr (.inl (.inl ec)), _, _, rfl, rfl, _, rfl, ?_⟩
        by_cases h1 : 1 ≤ j
        · rw [decide_eq_true (show (1 : Int) < ((g.map V.int).length : Int) by rw [lGm]; omega)]
          refine iteT ⟨_, rfl, PP, _, rfl, .inr (.inl (.inl (g14.tup eP))), _, _, rfl, rfl, _, rfl, ?_⟩
          by_cases h2 : j < n
          · rw [decide_eq_true (show ((g.map V.int).length : Int) < ((R.map V.int).length : Int) by rw [lGm, lRm]; omega)]
            refine iteT ?_
            refine ⟨_, rfl, _, rfl, _, rfl, PP, c, R, g, q, rfl, .inl (.inl (g14.tup eP)), .inl (.inl ec), by omega, by omega, lv.po.rs, lg.dsr hq, g4.t, fun w0 u v' qs rs H5 g5 nw e1 e2 e3 dv => ?_⟩
            obtain ⟨er, _, lq, ee⟩ := lv.part hq lg dg1 dv
            have dq : Xp.Div (Xp.exF q qs) (Xp.exF q R) := ⟨Xp.exF q g, by rw [ee]; grind⟩
            refine ⟨w0, _, 0, .ref u, rfl, rfl, SqT.of e1, rfl, ?_⟩
            refine ⟨_, rfl, _, rfl, _, rfl, c, o, g, os, q, j, hq, rfl, g5.tup ec, (g24.trans g5).tup eo, lg, h1, by omega, sq.part dg1, rm.po, sto.part dg1, g5.t, fun D1 la1 rs1 H6 g6 n6 e6 w6 p6 => ?_⟩
            refine ⟨_, rfl, _, rfl, _, rfl, u, o, qs, os, q, n - j, hq, rfl, g6.tup e2, ((g24.trans g5).trans g6).tup eo, lq, by omega, by omega, sq.part dq, rm.po, sto.part dq, g6.t, fun D2 la2 rs2 H7 g7 n7 e7 w7 p7 => ?_⟩
            have w1 := w6.keep (kpG g7)
            have l1 := w1.len
            have l2 := w7.len
            have l3 := p6.len
            have l4 := p7.len
            have g17 := ((g14.trans g5).trans g6).trans g7
            have e16 : H7 D1 = some (.lst (la1.map V.ref)) := g7.x _ _ e6 (fun _ z => by cases z)
            refine ⟨D1, D2, la1.map V.ref, la2.map V.ref, rfl, rfl, e16, e7, by rw [List.length_map, List.length_map]; exact Nat.le_trans (show la1.length + la2.length ≤ 100 by omega) (by decide), fun D hD => ?_⟩
            have sD := same_upd (o := .lst (la1.map V.ref ++ la2.map V.ref)) hD
            refine k D (la1 ++ la2) (rs1 ++ rs2) _ (g17.same sD) (g17.n _ hD) (by rw [upd_same, List.map_append]) (Rws.app (w7.keep (kpS sD)) (w1.keep (kpS sD))) (Pts.join jn ee dvo p6 p7)
          · rw [decide_eq_false (show ¬ ((g.map V.int).length : Int) < ((R.map V.int).length : Int) by rw [lGm, lRm]; omega)]
            exact iteF ⟨_, _, _, rfl, g24, fin fun z => h2 z.2⟩
        · rw [decide_eq_false (show ¬ (1 : Int) < ((g.map V.int).length : Int) by rw [lGm]; omega)]
          exact iteF ⟨_, rfl, iteF ⟨_, _, _, rfl, g24, fin fun z => h1 z.1⟩⟩
      · rintro σ' H2 ⟨x4, x5, x6, rfl, g2, all⟩
        have g12 := g1.trans g2
        refine ⟨_, rfl, (by show 1 ≤ sizeLine; decide), fun D hD => ?_⟩
        have sD := same_upd (o := .lst [.ref PP]) hD
        refine k D [PP] [R] _ (g12.same sD) (g12.n _ hD) upd_same ⟨sD _ _ (g12.tup eP), trivial⟩ (Pts.one lv n1 ?_)
        refine con_by (R := Xp.exF q R) ?_ (Xp.Div.refl _) dvo
        refine Classical.byContradiction fun no => ?_
        obtain ⟨s, hs, fin⟩ := Xp.split_shift (pr_of hq) (fb_primes hq) (lv.L hq) n1 sq sto no
        obtain ⟨h, j, l1, l2, l3, l4, l5⟩ := all s hs
        exact l5 (fin h j l1 l2 l3 l4)
end
end Xk
end
section
set_option Elab.async false
set_option linter.all false
set_option maxRecDepth 100000
set_option maxHeartbeats 4000000
namespace Xk
open PySem PySem.Spec PyProof.Rows L2 Xh LamX NdefX
/-! ### what a turn leaves as it is -/
def colQ (q : Nat) (rs : List (List Int)) (k : Nat) : List Int := (rs.map fun r => r.getD k 0).set k (((rs.getD k []).getD k 0 - 1).fmod (q : Int))
theorem colQ_at {q : Nat} {rs : List (List Int)} {k i : Nat} (hk : k < rs.length) (hi : i < rs.length) : (colQ q rs k).getD i 0 = if i = k then ((rs.getD k []).getD k 0 - 1).fmod (q : Int) else (rs.getD i []).getD k 0 := by
  unfold colQ
  rw [getD_set (by rw [List.length_map]; exact hk)]
  by_cases e : i = k
  · rw [if_pos e, if_pos e]
  · rw [if_neg e, if_neg e, List.getD_eq_getElem?_getD, List.getElem?_map, List.getD_eq_getElem?_getD (l := rs), List.getElem?_eq_getElem hi]
    rfl
theorem trim_ex {q : Nat} (u : List Int) : Xp.exF q (trim u) = Xp.exF q u := ex_eq.mpr (eqv_fun fun j => trim_getD _ _)
/-- the told masks: steady, and all steady things are their sums -/
theorem masks_of {q n : Nat} (hq : (q : Int) ∈ primes) {R : List Int} (lv : Lvl q n R) {rs : List (List Int)} (lrs : rs.length = n) (tr : ∀ i r, rs[i]? = some r → TRow q R i r) {sp sq : List Nat} {ts us bs : List (List Int)} (N : Kn q n ((List.range n).map (colQ q rs)) sp sq ts us bs) :
    (∀ m ∈ us.map trim, Po q m 24 ∧ Xp.Lvs.St q (Xp.exF q R) (Xp.exF q m)) ∧ (VV hq).Gen q (Xp.Cs q) (Xp.exF q R) ((us.map trim).map (Xp.exF q)) := by
  have hp := pm_of hq
  have le := lv.le
  have lN := lv.len
  have si := fun (v : List Int) (hv : v.length = n) => Xp.steady_iff (pr_of hq) (fb_primes hq) (lv.dg hq) lrs (fun i r hr => (tr i r hr).cg) (fun r hr => by
      obtain ⟨i, hi⟩ := List.mem_iff_getElem?.mp hr
      rw [(tr i r hi).len, lN, Nat.add_sub_cancel]) (tc := fun k => co (colQ q rs k)) (fun k hk i hi => by
      show (colQ q rs k).getD i 0 % (q : Int) = _
      rw [colQ_at (by omega) (by omega)]
      by_cases e : i = k
      · subst e
        rw [if_pos rfl, if_pos rfl, fm_em hp.pos, Int.emod_emod]
      · rw [if_neg e, if_neg e, Int.sub_zero]) (v := v) hv
  constructor
  · intro m hm
    obtain ⟨u, hu, rfl⟩ := List.mem_map.mp hm
    have wu := N.G.trw u hu
    have lu := wu.len
    refine ⟨⟨fun j => by rw [trim_getD]; exact wu.rs j, trim_trim _, Nat.le_trans (trim_length _) (by omega)⟩, ?_⟩
    rw [trim_ex]
    exact (si u lu).mp fun k hk => N.zero _ (List.mem_map.mpr ⟨k, List.mem_range.mpr hk, rfl⟩) u hu
  · refine Xp.gen_of (pr_of hq) (fb_primes hq) (lv.dg hq) fun v hv st => ?_
    have z := (si v hv).mpr st
    have a := (N.iff (v := co v) fun k hk => by
      show v.getD k 0 % (q : Int) = 0
      rw [getD_over (by omega), Int.zero_emod]).mpr fun r hr => by
        obtain ⟨k, hk, rfl⟩ := List.mem_map.mp hr
        exact z k (List.mem_range.mp hk)
    refine a.trans fun u hu => ?_
    obtain ⟨x, hx, e⟩ := hu
    obtain ⟨j, s, r, h1, h2, rfl⟩ := mem_fam hx
    subst e
    refine .one ⟨trim r, List.mem_map.mpr ⟨r, List.mem_of_getElem? h2, rfl⟩, funext fun k => (trim_getD _ _).symm⟩
def spSteady (T : List (Addr × Str)) : Sp := fun vs H Q _ => ∃ (a : Addr) (R : List Int) (q n : Nat) (hq : (q : Int) ∈ primes), vs = [.ref a, .int q] ∧ H a = some (.tup (R.map V.int)) ∧ Lvl q n R ∧ 1 ≤ n ∧ Tabs T H ∧
  ∀ (D : Addr) (la : List Addr) (ms : List (List Int)) (H' : Hp), Gr T H H' → H D = none → H' D = some (.lst (la.map V.ref)) → Rws H' la ms → (∀ m ∈ ms, Po q m 24 ∧ Xp.Lvs.St q (Xp.exF q R) (Xp.exF q m)) → (VV hq).Gen q (Xp.Cs q) (Xp.exF q R) (ms.map (Xp.exF q)) → Q (.ref D) H'
section
variable {P : Program} {w : World} {K : PySem.W.Frag} {mg : Str → Option Value} {base : Heap}
theorem sc_steady_polys : FnScope (["poly", "prime", "rows", "width", "table", "place", "column", "told", "row"] : List Str) ["poly", "prime"] (defScope s_steady_polys) := ⟨rfl, rfl, rfl, by decide +kernel, rfl, by decide +kernel, by decide +kernel⟩
theorem ok_steady_polys {TT : List (Addr × Str)} {f : Addr} {fd : FuncData} (F : FunD K "steady_polys" "steady_polys" (defArgs s_steady_polys) (defBody s_steady_polys) (defScope s_steady_polys) [] [] f fd) (T : Fre mg) (o_turn_rows : Own P w K mg base CX0 9 "turn_rows" ["rule", "prime"] [] (spTRows K TT)) (o_raw_kernel : Own P w K mg base CX0 5 "raw_kernel" ["rows", "width", "prime"] [] (spKer TT)) (o_q_trimmed : Own P w K mg base CX0 1 "trimmed" ["rests"] [] spTrimA) : FnOk P w K mg base CX0 10 f fd ["poly", "prime"] (spSteady TT) := by
  refine F.ok sc_steady_polys (fun vs H Q E h => ?_) (fun cdv A outer s H vs Q E hr h => ?_)
  · obtain ⟨a, R, q, n, hq, rfl, _⟩ := h
    rfl
  · obtain ⟨a, R, q, n, hq, rfl, ea, lv, n1, hT, k⟩ := h
    have hp := pm_of hq
    have lo := hp.lo
    have hi := hp.hi
    have lR := lv.po.len
    have lN := lv.len
    refine ⟨_, PSs.nox (pss_cons (ps_set (i := 2) sc_steady_polys.nd rfl (Or.inl rfl) (pe_own o_turn_rows (hr.mono (by decide)) rfl pass0 (pa_cons (pv 0) (pa_cons (pv 1) pa_nil))))
      (pss_cons (ps_set (i := 3) sc_steady_polys.nd rfl (Or.inl rfl) (pe_callB call_len_seq (by rfl) T.f_len PySem.boot_len (pa_cons (pv 2) pa_nil)))
      (pss_cons (ps_set (i := 4) sc_steady_polys.nd rfl (Or.inl rfl) (pe_lst pa_nil))
      (pss_cons (ps_for PassesOwn.never rfl (pi_range1 (by rfl) T.f_range (pa_cons (pv 3) pa_nil)) (pg_name (i := 5) sc_steady_polys.nd rfl (Or.inr rfl)) (pss_cons (ps_setLc (i := 6) (own := [("row", 8)]) (te := (tOp (rIxT K) (tVar 8) (tVar 5))) rfl sc_steady_polys.nd rfl rfl (sw_true rfl rfl rfl (by decide +kernel)) (pi_list (pv 2)) (blkOk_by (own := [("row", 8)]) (N := ["poly", "prime", "rows", "width", "table", "place", "column", "told", "row"]) (sc := defScope s_steady_polys) (by decide +kernel)) (fun _ _ _ _ _ => pg_name (i := 8) sc_steady_polys.nd rfl (Or.inl rfl) (Or.inr rfl)) (fun _ _ _ _ _ => pts_nil) (fun _ _ _ _ _ => (pe_ix ix_tup (pv 8) (pv 5) (fun _ _ => rfl))))
      (pss_cons (ps_asg (pe_op op_modN (pe_op op_sub (pe_ix ix_list (pv 6) (pv 5) (fun _ _ => rfl)) pe_int) (pv 1)) (pg_sub (pv 6) (pv 5) set_list))
      (pss_one (ps_expr (pe_bm PySem.F.plainAttrs_list PySem.F.slot_list_append PySem.F.type_list_append mt_append (pv 4) (pa_cons (pe_callTy call_tuple_of (by rfl) T.f_tuple (by decide +kernel) (pa_cons (pv 6) pa_nil)) pa_nil)))))))
      (pss_one (ps_ret (pe_lc (own := [("told", 7)]) rfl sc_steady_polys.nd (pi_list (pe_own o_raw_kernel (hr.mono (by decide)) rfl pass0 (pa_cons (pv 4) (pa_cons (pv 3) (pa_cons (pv 1) pa_nil))))) (blkOk_by (own := [("told", 7)]) (N := ["poly", "prime", "rows", "width", "table", "place", "column", "told", "row"]) (sc := defScope s_steady_polys) (by decide +kernel)) (fun _ _ _ _ _ => pg_name (i := 7) sc_steady_polys.nd rfl (Or.inl rfl) (Or.inr rfl)) (fun _ _ _ _ _ => pts_nil) (fun _ _ _ _ _ => (pe_own o_q_trimmed (hr.mono (by decide)) rfl pass0 (pa_cons (pv 7) pa_nil)))))))))) , ?_⟩
    refine ⟨_, rfl, _, rfl, a, R, q, rfl, .inl (.inl ea), lR, by omega, lv.dsr hq, hT, fun D0 la rs H1 g1 n0 e0 w0 lrs tr => ?_⟩
    have lla := w0.len
    have lrs' : rs.length = n := by omega
    refine ⟨_, rfl, D0, _, rfl, .inl (SqL.of e0), ?_⟩
    rw [show ((la.map V.ref).length : Int) = (n : Int) by rw [List.length_map, lla, lrs']]
    refine ⟨by decide, fun TL hTL => ?_⟩
    have sTL := same_upd (o := .lst []) hTL
    refine ⟨_, rfl, (n : Int), rfl, by omega, by omega, ?_⟩
    rw [Int.toNat_natCast]
    refine for_range (lo := 0) (n := n) (fun i σ' H' => ∃ (ta : List Addr) (x5 x6 x7 x8 : Option V), σ' = [some (.ref a), some (.int q), some (.ref D0), some (.int n), some (.ref TL), x5, x6, x7, x8] ∧ Same H1 H' ∧ H' TL = some (.lst (ta.map V.ref)) ∧ Rws H' ta ((List.range i).map (colQ q rs)))
      ⟨[], none, none, none, none, rfl, sTL, upd_same, trivial⟩ ?_ ?_
    · rintro i σ' H2 hi2 ⟨ta, x5, x6, x7, x8, rfl, s2, eT, wT⟩
      rw [Int.zero_add]
      have n2D : H2 D0 = some (.lst (la.map V.ref)) := s2 _ _ e0
      refine ⟨_, rfl, D0, rfl, ⟨_, SqL.of n2D⟩, fun C hC => ?_⟩
      refine lc_it (walk_list (xs := la.map V.ref)) (fun j H3 => Same H2 H3 ∧ H3 C = some (.lst (((rs.take j).map fun r => r.getD i 0).map V.int))) ⟨same_upd hC, upd_same⟩ (fun j H3 _ h => SqL.of (h.1 _ _ n2D)) ?_ ?_
      · rintro j x H3 H4 hj ⟨s3, e3⟩ ⟨rfl, hx⟩
        rw [List.length_map] at hj
        obtain ⟨l, r, rfl, hr, er⟩ := (w0.keep (kpS (s2.trans s3))).at hx
        have lr := (tr j r hr).len
        refine ⟨rfl, _, rfl, _, rfl, l, _, _, .int (r.getD i 0), rfl, rfl, SqT.of er, atI_map (by omega), _, e3, ?_, lcs hC s3, ?_⟩
        · rw [List.length_map, List.length_map, List.length_take]
          exact small1000 (by omega)
        · rw [upd_same, List.take_add_one, hr, List.map_append, List.map_append]
          rfl
      · rintro H3 ⟨s3, e3⟩
        have et : rs.take (la.map V.ref).length = rs := List.take_of_length_le (by rw [List.length_map]; omega)
        rw [et] at e3
        have lms : (rs.map fun r => r.getD i 0).length = n := by rw [List.length_map, lrs']
        have gi : (rs.map fun r => r.getD i 0).getD i 0 = (rs.getD i []).getD i 0 := by
          rw [List.getD_eq_getElem?_getD, List.getElem?_map, List.getD_eq_getElem?_getD (l := rs), List.getElem?_eq_getElem (show i < rs.length by omega)]
          rfl
        have ri : 0 ≤ (rs.getD i []).getD i 0 ∧ (rs.getD i []).getD i 0 < (q : Int) := by
          have e : rs[i]? = some rs[i] := List.getElem?_eq_getElem (show i < rs.length by omega)
          rw [List.getD_eq_getElem?_getD (l := rs), e]
          exact (tr i _ e).rs i
        refine ⟨_, rfl, _, rfl, C, _, _, .int ((rs.map fun r => r.getD i 0).getD i 0), rfl, rfl, SqL.of e3, atI_map (by omega), _, _, rfl, rfl, ?_⟩
        refine ⟨_, rfl, _, _, rfl, rfl, by omega, _, rfl, _, rfl, C, _, _, i, rfl, rfl, e3, ixN_nat (by rw [List.length_map]; omega), ?_⟩
        have eC : ((rs.map fun r => r.getD i 0).map V.int).set i (.int (((rs.map fun r => r.getD i 0).getD i 0 - 1).fmod (q : Int))) = (colQ q rs i).map V.int := by
          rw [gi]
          unfold colQ
          rw [List.map_set]
        rw [eC]
        have s4 : Same H2 (L2.upd H3 C (.lst ((colQ q rs i).map V.int))) := lcs hC s3
        have e4 : L2.upd H3 C (.lst ((colQ q rs i).map V.int)) C = some (.lst ((colQ q rs i).map V.int)) := upd_same
        generalize L2.upd H3 C (.lst ((colQ q rs i).map V.int)) = H4 at s4 e4
        refine ⟨_, rfl, .inl ⟨rfl, _, SqL.of (s4 _ _ eT)⟩, _, rfl, C, _, rfl, .inl ⟨SqL.of e4, fun v hv => ?_⟩⟩
        have sv := same_upd (o := .tup ((colQ q rs i).map V.int)) hv
        have eTv := sv _ _ (s4 _ _ eT)
        have lta := wT.len
        rw [List.length_map, List.length_range] at lta
        refine ⟨TL, _, _, rfl, rfl, eTv, ?_, ta ++ [v], _, _, _, _, rfl, lcs hTL ((s2.trans s4).trans sv), ?_, ?_⟩
        · rw [List.length_map, lta]
          exact small1000 (by omega)
        · rw [upd_same, List.map_append]
          rfl
        · rw [List.range_succ, List.map_append]
          exact (Rws.snoc upd_same (wT.keep (kpS (s4.trans sv)))).keep (kpU eTv)
    · rintro σ' H2 ⟨ta, x5, x6, x7, x8, rfl, s2, eT, wT⟩
      have lta := wT.len
      rw [List.length_map, List.length_range] at lta
      refine ⟨_, rfl, _, rfl, _, rfl, TL, ta, (List.range n).map (colQ q rs), n, q, rfl, eT, wT, ?_, ?_, n1, by omega, hq, (g1.same s2).t, fun D ds sp sq ts us bs H3 g3 nD eD wD hF hG hfr hw => ?_⟩
      · intro r hr
        obtain ⟨k', hk', rfl⟩ := List.mem_map.mp hr
        have hk' := List.mem_range.mp hk'
        refine ⟨by unfold colQ; rw [List.length_set, List.length_map, lrs'], fun j => ?_⟩
        by_cases hj : j < n
        · rw [colQ_at (by omega) (by omega)]
          split
          · exact ⟨Int.fmod_nonneg_of_pos _ hp.pos, Int.fmod_lt_of_pos _ hp.pos⟩
          · have e : rs[j]? = some rs[j] := List.getElem?_eq_getElem (show j < rs.length by omega)
            rw [List.getD_eq_getElem?_getD (l := rs), e]
            exact (tr j _ e).rs k'
        · rw [getD_over (by unfold colQ; rw [List.length_set, List.length_map, lrs']; omega)]
          exact ⟨Int.le_refl _, by omega⟩
      · rw [List.length_map, List.length_range]
        omega
      have g13 := (g1.same s2).trans g3
      obtain ⟨M1, M2⟩ := masks_of hq lv lrs' tr ⟨hF, hG, hfr, hw⟩
      have lds := wD.len
      refine ⟨D, rfl, ⟨_, SqL.of eD⟩, fun C hC => ?_⟩
      refine lc_it (walk_list (xs := ds.map V.ref)) (fun j H' => Same H3 H' ∧ ∃ cs : List Addr, H' C = some (.lst (cs.map V.ref)) ∧ Rws H' cs ((us.take j).map trim)) ⟨same_upd hC, [], upd_same, trivial⟩ (fun j H' _ h => SqL.of (h.1 _ _ eD)) ?_ ?_
      · rintro j x H4 H5 hj ⟨s4, cs, e4, w4⟩ ⟨rfl, hx⟩
        rw [List.length_map] at hj
        obtain ⟨l, r, rfl, hr, er⟩ := (wD.keep (kpS s4)).at hx
        have wr := hG.trw r (List.mem_of_getElem? hr)
        have lr := wr.len
        have lcs' := w4.len
        rw [List.length_map, List.length_take] at lcs'
        refine ⟨rfl, _, rfl, l, r, rfl, er, by omega, fun v H6 s6 e6 => ⟨_, s6 _ _ e4, ?_, lcs hC (s4.trans s6), cs ++ [v], ?_, ?_⟩⟩
        · rw [List.length_map, lcs']
          have := hG.fm.len_le
          exact small1000 (by omega)
        · rw [upd_same, List.map_append]
          rfl
        · rw [List.take_add_one, hr, List.map_append]
          exact (Rws.snoc e6 (w4.keep (kpS s6))).keep (kpU (s6 _ _ e4))
      · rintro H4 ⟨s4, cs, e4, w4⟩
        rw [show us.take (ds.map V.ref).length = us from List.take_of_length_le (by rw [List.length_map]; omega)] at w4
        exact k C cs (us.map trim) H4 (g13.same s4) (g13.n _ hC) e4 w4 M1 M2
end
end Xk
end
section
set_option Elab.async false
set_option linter.all false
set_option maxRecDepth 100000
set_option maxHeartbeats 4000000
namespace Xk
open PySem PySem.Spec PyProof.Rows L2 Xh LamX NdefX
/-! ### the masks, one after another -/
/-- a walk, whatever is done at each turn -/
theorem walk_it {J : It} {n : Nat} {G : Hp → Prop} {Y : Nat → Hp → V → Hp → Prop} (w : Walk J n G Y) {H0 : Hp} {Fin : Hp → Prop} {B : (Hp → Prop) → V → Hp → Prop} (Pv : Nat → Hp → Prop) (h0 : Pv 0 H0) (hG : ∀ i H, i ≤ n → Pv i H → G H)
    (hs : ∀ i x H H', i < n → Pv i H → Y i H x H' → B (Pv (i + 1)) x H') (hd : ∀ H, Pv n H → Fin H) :
    ∃ W : Nat → Nat → Hp → Prop, (∃ m, W 0 m H0) ∧ ∀ i m H, W i m H → (J.stop i H ∧ Fin H) ∨ (J.go i H ∧ ∃ Nx : Hp → Prop, (∀ H', Nx H' → ∃ m', m' < m ∧ W (i + 1) m' H') ∧ ∀ x H', J.yld i H x H' → B Nx x H') := by
  refine ⟨fun i m H => m = n - i ∧ i ≤ n ∧ Pv i H, ⟨n, rfl, Nat.zero_le _, h0⟩, ?_⟩
  rintro i m H ⟨rfl, hi, pv⟩
  have q := hG i H hi pv
  by_cases lt : i < n
  · exact .inr ⟨w.1 i H lt q, Pv (i + 1), fun H' p' => ⟨n - (i + 1), by omega, rfl, lt, p'⟩, fun x H' y => hs i x H H' lt pv (w.3 i H x H' lt q y)⟩
  · have e : i = n := by omega
    subst e
    exact .inl ⟨w.2 H q, hd H pv⟩
/-- what some are parted into by a mask -/
structure Accs (q : Nat) (v : List Int) (rs as : List (List Int)) : Prop where
  lv : ∀ r ∈ as, ∃ k, 1 ≤ k ∧ Lvl q k r
  pr : Xp.Lvs.prod (as.map (Xp.exF q)) = Xp.Lvs.prod (rs.map (Xp.exF q))
  con : ∀ r ∈ as, Xp.Lvs.Con (Xp.Cs q) (Xp.exF q r) (Xp.exF q v)
  sub : ∀ r ∈ as, ∃ R ∈ rs, Xp.Div (Xp.exF q r) (Xp.exF q R)
theorem Accs.nil (q : Nat) (v : List Int) : Accs q v [] [] := ⟨fun r h => (by cases h), rfl, fun r h => (by cases h), fun r h => (by cases h)⟩
theorem Accs.more {q n : Nat} {v R : List Int} {rs as bs : List (List Int)} (x : Accs q v rs as) (y : Pts q n R v bs) : Accs q v (rs ++ [R]) (as ++ bs) := by
  refine ⟨fun r hr => ?_, ?_, fun r hr => ?_, fun r hr => ?_⟩
  · rcases List.mem_append.mp hr with hr | hr
    · exact x.lv r hr
    · exact y.lv r hr
  · rw [List.map_append, Xp.Lvs.prod_app, List.map_append, Xp.Lvs.prod_app, x.pr, y.pr]
    show _ = _ * (Xp.exF q R * 1)
    grind
  · rcases List.mem_append.mp hr with hr | hr
    · exact x.con r hr
    · exact y.con r hr
  · rcases List.mem_append.mp hr with hr | hr
    · obtain ⟨S, hS, d⟩ := x.sub r hr
      exact ⟨S, List.mem_append_left _ hS, d⟩
    · refine ⟨R, List.mem_append_right _ (List.mem_singleton.mpr rfl), ?_⟩
      have := Xp.Lvs.prod_mem (List.mem_map_of_mem (f := Xp.exF q) hr)
      rw [y.pr] at this
      exact this
/-- parts of a level one: no more than its degree -/
theorem parts_deg {q : Nat} (hq : (q : Int) ∈ primes) : ∀ {rs : List (List Int)} {n : Nat}, (∀ r ∈ rs, ∃ k, 1 ≤ k ∧ Lvl q k r) → (VV hq).L n (Xp.Lvs.prod (rs.map (Xp.exF q))) → rs.length ≤ n
  | [], _, _, _ => Nat.zero_le _
  | r :: rs, n, h, l => by
    obtain ⟨k, k1, lk⟩ := h r List.mem_cons_self
    obtain ⟨kn, l2⟩ := (VV hq).quot l (lk.L hq) rfl
    have := parts_deg hq (rs := rs) (n := n - k) (fun x hx => h x (List.mem_cons_of_mem _ hx)) l2
    rw [List.length_cons]
    omega
/-- where the masks stand -/
structure Mks (q : Nat) (R : List Int) (ms : List (List Int)) (i : Nat) (rs : List (List Int)) : Prop where
  lv : ∀ r ∈ rs, ∃ k, 1 ≤ k ∧ Lvl q k r
  pr : Xp.Lvs.prod (rs.map (Xp.exF q)) = Xp.exF q R
  con : ms.length ≤ rs.length ∨ ∀ j m, j < i → ms[j]? = some m → ∀ r ∈ rs, Xp.Lvs.Con (Xp.Cs q) (Xp.exF q r) (Xp.exF q m)
theorem Mks.sub {q : Nat} {R : List Int} {ms : List (List Int)} {i : Nat} {rs : List (List Int)} (x : Mks q R ms i rs) {r : List Int} (h : r ∈ rs) : Xp.Div (Xp.exF q r) (Xp.exF q R) := by
  have := Xp.Lvs.prod_mem (List.mem_map_of_mem (f := Xp.exF q) h)
  rw [x.pr] at this
  exact this
theorem Mks.next {q : Nat} {R v : List Int} {ms : List (List Int)} {i : Nat} {rs as : List (List Int)} (x : Mks q R ms i rs) (hi : ms[i]? = some v) (lt : rs.length < ms.length) (a : Accs q v rs as) : Mks q R ms (i + 1) as := by
  refine ⟨a.lv, a.pr.trans x.pr, .inr fun j m hj hm r hr => ?_⟩
  by_cases e : j = i
  · rw [e, hi] at hm
    cases hm
    exact a.con r hr
  · rcases x.con with c | c
    · omega
    · obtain ⟨S, hS, d⟩ := a.sub r hr
      exact (c j m (by omega) hm S hS).part d
theorem Mks.skip {q : Nat} {R : List Int} {ms : List (List Int)} {i : Nat} {rs : List (List Int)} (x : Mks q R ms i rs) (ge : ms.length ≤ rs.length) : Mks q R ms (i + 1) rs := ⟨x.lv, x.pr, .inl ge⟩
theorem acc_deg {q n i j : Nat} (hq : (q : Int) ∈ primes) {R v : List Int} {ms rs as : List (List Int)} (lv : Lvl q n R) (x : Mks q R ms i rs) (a : Accs q v (rs.take j) as) : as.length ≤ n := by
  obtain ⟨d, ld⟩ := Xp.Lvs.prod_lv (V := VV hq) (l := (rs.take j).map (Xp.exF q)) (fun P hP => by
    obtain ⟨r, hr, rfl⟩ := List.mem_map.mp hP
    obtain ⟨k, _, lk⟩ := x.lv r (List.mem_of_mem_take hr)
    exact ⟨k, lk.L hq⟩)
  have e : Xp.exF q R = Xp.Lvs.prod ((rs.take j).map (Xp.exF q)) * Xp.Lvs.prod ((rs.drop j).map (Xp.exF q)) := by
    rw [← Xp.Lvs.prod_app, ← List.map_append, List.take_append_drop, x.pr]
  have dn := ((VV hq).quot (lv.L hq) ld e).1
  have := parts_deg hq (rs := as) (n := d) a.lv (by rw [a.pr]; exact ld)
  omega
def spSingle (T : List (Addr × Str)) : Sp := fun vs H Q _ => ∃ (a : Addr) (R : List Int) (q n : Nat) (hq : (q : Int) ∈ primes), vs = [.ref a, .int q] ∧ H a = some (.tup (R.map V.int)) ∧ Lvl q n R ∧ 1 ≤ n ∧ (VV hq).Sqf (Xp.exF q R) ∧ Tabs T H ∧
  ∀ (D : Addr) (la : List Addr) (rs : List (List Int)) (H' : Hp), Gr T H H' → H D = none → H' D = some (.lst (la.map V.ref)) → Rws H' la rs → (∀ r ∈ rs, ∃ k, 1 ≤ k ∧ Lvl q k r) → (VV hq).Ws (Xp.exF q R) (rs.map (Xp.exF q)) → Q (.ref D) H'
section
variable {P : Program} {w : World} {K : PySem.W.Frag} {mg : Str → Option Value} {base : Heap}
theorem sc_single_parts : FnScope (["poly", "prime", "masks", "told", "mask", "part", "smaller"] : List Str) ["poly", "prime"] (defScope s_single_parts) := ⟨rfl, rfl, rfl, by decide +kernel, rfl, by decide +kernel, by decide +kernel⟩
theorem ok_single_parts {TT : List (Addr × Str)} {f : Addr} {fd : FuncData} (F : FunD K "single_parts" "single_parts" (defArgs s_single_parts) (defBody s_single_parts) (defScope s_single_parts) [] [] f fd) (T : Fre mg) (o_steady_polys : Own P w K mg base CX0 10 "steady_polys" ["poly", "prime"] [] (spSteady TT)) (o_split_by : Own P w K mg base CX0 (11 + 24) "split_by" ["part", "mask", "prime"] [] (spSplit 24 TT)) : FnOk P w K mg base CX0 36 f fd ["poly", "prime"] (spSingle TT) := by
  refine F.ok sc_single_parts (fun vs H Q E h => ?_) (fun cdv A outer s H vs Q E hr h => ?_)
  · obtain ⟨a, R, q, n, hq, rfl, _⟩ := h
    rfl
  · obtain ⟨a, R, q, n, hq, rfl, ea, lv, n1, sq, hT, k⟩ := h
    have hp := pm_of hq
    refine ⟨_, PSs.nox (pss_cons (ps_set (i := 2) sc_single_parts.nd rfl (Or.inl rfl) (pe_own o_steady_polys (hr.mono (by decide)) rfl pass0 (pa_cons (pv 0) (pa_cons (pv 1) pa_nil))))
      (pss_cons (ps_set (i := 3) sc_single_parts.nd rfl (Or.inl rfl) (pe_lst (pa_cons (pv 0) pa_nil)))
      (pss_cons (ps_for PassesOwn.never rfl (pi_list (pv 2)) (pg_name (i := 4) sc_single_parts.nd rfl (Or.inr rfl)) (pss_one (ps_if (pt_cmpR op_lt (pe_callB call_len_seq (by rfl) T.f_len PySem.boot_len (pa_cons (pv 3) pa_nil)) (pe_callB call_len_seq (by rfl) T.f_len PySem.boot_len (pa_cons (pv 2) pa_nil)) (nomark _)) (pss_one (ps_setLc2 (i := 3) (own := [("part", 5), ("smaller", 6)]) (vs1 := [6]) (wi1 := iList K (tCall (spSplit 24 TT) [] E0 (tCons (tVar 5) (tCons (tVar 4) (tCons (tVar 1) tNil))))) rfl sc_single_parts.nd rfl rfl (sw_true rfl rfl rfl (by decide +kernel)) (pi_list (pv 3)) (blkOk_by (own := [("part", 5), ("smaller", 6)]) (N := ["poly", "prime", "masks", "told", "mask", "part", "smaller"]) (sc := defScope s_single_parts) (by decide +kernel)) (by decide) (fun _ _ _ _ _ => pg_name (i := 5) sc_single_parts.nd rfl (Or.inl rfl) (Or.inr rfl)) (fun _ _ _ _ _ => pts_nil) (fun _ _ _ _ _ => pi_list (pe_own o_split_by (hr.mono (by decide)) rfl pass0 (pa_cons (pv 5) (pa_cons (pv 4) (pa_cons (pv 1) pa_nil))))) (fun _ _ _ _ _ => pg_name (i := 6) sc_single_parts.nd rfl (Or.inl rfl) (Or.inr rfl)) (fun _ _ _ _ _ => pts_nil) (fun _ _ _ _ _ => pv 6))) pss_nil)))
      (pss_one (ps_ret (pv 3)))))) , ?_⟩
    refine ⟨_, rfl, _, rfl, a, R, q, n, hq, rfl, ea, lv, n1, hT, fun M lm ms H1 g1 nM eM wM hM gM => ?_⟩
    refine ⟨_, rfl, (by show 1 ≤ sizeLine; decide), fun T0 hT0 => ?_⟩
    have lms := wM.len
    have sT := same_upd (o := .lst [.ref a]) hT0
    refine ⟨_, rfl, M, rfl, ⟨_, SqL.of (sT _ _ eM)⟩, ?_⟩
    refine for_it (walk_list (xs := lm.map V.ref)) (fun i σ' H' => ∃ (t : Addr) (ta : List Addr) (rs : List (List Int)) (x4 x5 x6 : Option V), σ' = [some (.ref a), some (.int q), some (.ref M), some (.ref t), x4, x5, x6] ∧ Gr TT H1 H' ∧ H1 t = none ∧ H' t = some (.lst (ta.map V.ref)) ∧ Rws H' ta rs ∧ Mks q R ms i rs)
      ⟨T0, [a], [R], none, none, none, rfl, Gr.of g1.t sT, hT0, upd_same, ⟨sT _ _ (g1.tup ea), trivial⟩, ⟨fun r hr => ?_, ?_, .inr fun j m hj => absurd hj (Nat.not_lt_zero j)⟩⟩ (fun i σ' H' _ ⟨_, _, _, _, _, _, _, g, _⟩ => SqL.of (g.x _ _ eM (fun _ z => by cases z))) ?_ ?_
    · rw [List.mem_singleton.mp hr]
      exact ⟨n, n1, lv⟩
    · show Xp.exF q R * 1 = _
      grind
    · rintro i x σ' H2 H3 hi2 ⟨t, ta, rs, x4, x5, x6, rfl, g2, nt, et, wt, mk⟩ ⟨rfl, hx⟩
      rw [List.length_map] at hi2
      obtain ⟨l, m, rfl, hm, em⟩ := (wM.keep (kpG g2)).at hx
      obtain ⟨pm, stm⟩ := hM m (List.mem_of_getElem? hm)
      have eM2 := g2.x _ _ eM (fun _ z => by cases z)
      have lta := wt.len
      refine ⟨_, rfl, t, _, rfl, .inl (SqL.of et), _, rfl, M, _, rfl, .inl (SqL.of eM2), _, _, rfl, rfl, _, rfl, ite2 (fun hc => ?_) (fun hc => ?_)⟩
      · have lt : rs.length < ms.length := by
          have z := of_decide_eq_true hc
          rw [List.length_map, List.length_map] at z
          omega
        refine ⟨_, rfl, t, rfl, ⟨_, SqL.of et⟩, fun C hC => ?_⟩
        refine walk_it (walk_list (xs := ta.map V.ref)) (fun j H' => Gr TT H3 H' ∧ ∃ (ca : List Addr) (as : List (List Int)), H' C = some (.lst (ca.map V.ref)) ∧ Rws H' ca as ∧ Accs q m (rs.take j) as) ⟨Gr.of g2.t (same_upd hC), [], [], upd_same, trivial, Accs.nil q m⟩ (fun j H' _ ⟨g, _⟩ => SqL.of (g.x _ _ et (fun _ z => by cases z))) ?_ ?_
        · rintro j x H4 H5 hj ⟨g4, ca, as, eC, wC, ac⟩ ⟨rfl, hx⟩
          rw [List.length_map] at hj
          obtain ⟨l', r', rfl, hr', er'⟩ := (wt.keep (kpG g4)).at hx
          obtain ⟨k', k1', lv'⟩ := mk.lv r' (List.mem_of_getElem? hr')
          have dr := mk.sub (List.mem_of_getElem? hr')
          refine ⟨rfl, _, rfl, _, rfl, _, rfl, l', l, r', m, q, k', hq, rfl, er', g4.tup em, lv', k1', lv'.le, sq.part dr, pm, stm.part dr, g4.t, fun D1 la1 rs1 H6 g6 n6 e6 w6 p6 => ?_⟩
          refine ⟨D1, rfl, ⟨_, SqL.of e6⟩, ?_⟩
          have neD : D1 ≠ C := fun z => by rw [z, eC] at n6; cases n6
          have lca := wC.len
          have l1 := w6.len
          have l2 := p6.len
          have l3 := lv'.le
          have l4 := acc_deg hq lv mk ac
          have l5 := lv.le
          refine walk_it (walk_list (xs := la1.map V.ref)) (fun j' H' => Gr TT H3 H' ∧ H' D1 = some (.lst (la1.map V.ref)) ∧ H' C = some (.lst ((ca ++ la1.take j').map V.ref)) ∧ Rws H' ca as ∧ Rws H' la1 rs1)
            ⟨g4.trans g6, e6, by rw [List.take_zero, List.append_nil]; exact g6.x _ _ eC (fun _ z => by cases z), wC.keep (kpG g6), w6⟩ (fun j' H' _ h => SqL.of h.2.1) ?_ ?_
          · rintro j' x H7 H8 hj' ⟨g7, e7, eC7, wC7, w7⟩ ⟨rfl, hx⟩
            rw [List.getElem?_map] at hx
            obtain ⟨b1, hb1, rfl⟩ := Option.map_eq_some_iff.mp hx
            refine ⟨rfl, _, rfl, _, eC7, ?_, grLst g7 hC eC7, ?_, ?_, wC7.keep (kpU eC7), w7.keep (kpU eC7)⟩
            · rw [List.length_map, List.length_append, List.length_take]
              exact small1000 (by omega)
            · rw [upd_ne neD]
              exact e7
            · have e : ((ca ++ la1.take j') ++ [b1]).map V.ref = (ca ++ la1.take j').map V.ref ++ [V.ref b1] := by rw [List.map_append] <;> rfl
              rw [upd_same, List.take_add_one, hb1, ← List.append_assoc]
              show _ = some (HO.lst (((ca ++ la1.take j') ++ [b1]).map V.ref))
              rw [e]
          · rintro H7 ⟨g7, e7, eC7, wC7, w7⟩
            rw [show la1.take (la1.map V.ref).length = la1 from List.take_of_length_le (by rw [List.length_map]; exact Nat.le_refl _)] at eC7
            refine ⟨g7, ca ++ la1, as ++ rs1, eC7, Rws.app w7 wC7, ?_⟩
            rw [List.take_add_one, hr']
            exact ac.more p6
        · rintro H4 ⟨g4, ca, as, eC, wC, ac⟩
          rw [show rs.take (ta.map V.ref).length = rs from List.take_of_length_le (by rw [List.length_map]; omega)] at ac
          exact ⟨C, ca, as, _, _, _, rfl, g2.trans g4, g2.n _ hC, eC, wC, mk.next hm lt ac⟩
      · have ge : ms.length ≤ rs.length := by
          have z : lm.length ≤ ta.length := by simpa using hc
          omega
        exact ⟨t, ta, rs, _, _, _, rfl, g2, nt, et, wt, mk.skip ge⟩
    · rintro σ' H2 ⟨t, ta, rs, x4, x5, x6, rfl, g2, nt, et, wt, mk⟩
      rw [List.length_map] at mk
      refine ⟨_, rfl, k t ta rs H2 (g1.trans g2) (g1.n _ nt) et wt mk.lv ?_⟩
      refine Xp.single_done (pr_of hq) (fb_primes hq) (lv.L hq) sq gM mk.pr (fun P hP => ?_) ?_
      · obtain ⟨r, hr, rfl⟩ := List.mem_map.mp hP
        obtain ⟨k', k1', lv'⟩ := mk.lv r hr
        exact ⟨k', k1', lv'.L hq⟩
      · rw [List.length_map, List.length_map]
        refine mk.con.imp id fun c P hP v hv => ?_
        obtain ⟨r, hr, rfl⟩ := List.mem_map.mp hP
        obtain ⟨m, hm, rfl⟩ := List.mem_map.mp hv
        obtain ⟨j, hj⟩ := List.mem_iff_getElem?.mp hm
        exact c j m (by have := (List.getElem?_eq_some_iff.mp hj).1; omega) hj r hr
end
end Xk
end
section
set_option Elab.async false
set_option linter.all false
set_option maxRecDepth 100000
set_option maxHeartbeats 4000000
namespace Xk
open PySem PySem.Spec PyProof.Rows L2 Xh LamX NdefX
/-! ### the whole parts -/
theorem _root_.Xp.Lvs.Out.snoc {A : Type} [Lean.Grind.CommRing A] {V : Xp.Lvs A} {f g h w : A} {l : List A} {m : Nat} (o : V.Out f l g) (e : g = w ^ m * h) (n : ¬ Xp.Div w h) : V.Out f (l ++ [w]) h := by
  induction o with
  | nil f => exact .cons e n (.nil h)
  | cons e1 n1 o ih => exact .cons e1 n1 (ih e)
theorem _root_.Xp.Lvs.Out.dvd {A : Type} [Lean.Grind.CommRing A] {V : Xp.Lvs A} {f h : A} {l : List A} (o : V.Out f l h) : Xp.Div h f := by
  induction o with
  | nil f => exact Xp.Div.refl f
  | @cons f w g h l m e n o ih =>
    rw [e]
    exact ih.mulL _
theorem _root_.Xp.Lvs.all_div {A : Type} [Lean.Grind.CommRing A] {V : Xp.Lvs A} {f : A} : ∀ {l : List A}, l.Nodup → (∀ w ∈ l, V.W w ∧ Xp.Div w f) → Xp.Div (Xp.Lvs.prod l) f
  | [], _, _ => Xp.Div.one f
  | w :: l, nd, h => by
    have nd' := List.nodup_cons.mp nd
    obtain ⟨hw, dw⟩ := h w List.mem_cons_self
    have ih := Xp.Lvs.all_div nd'.2 fun x hx => h x (List.mem_cons_of_mem _ hx)
    refine (hw.cop fun d => ?_).div dw ih
    obtain ⟨x, hx, dx⟩ := Xp.Lvs.prime_list hw d
    have := hw.eq (h x (List.mem_cons_of_mem _ hx)).1 dx
    exact nd'.1 (this ▸ hx)
theorem _root_.Xp.Lvs.prod_deg {A : Type} [Lean.Grind.CommRing A] {V : Xp.Lvs A} : ∀ {l : List A} {n : Nat}, (∀ w ∈ l, V.W w) → V.L n (Xp.Lvs.prod l) → l.length ≤ n
  | [], _, _, _ => Nat.zero_le _
  | w :: l, n, h, hn => by
    obtain ⟨k, k1, lk⟩ := (h w List.mem_cons_self).ex
    obtain ⟨kn, l2⟩ := V.quot hn lk rfl
    have := Xp.Lvs.prod_deg (l := l) (n := n - k) (fun x hx => h x (List.mem_cons_of_mem _ hx)) l2
    rw [List.length_cons]
    omega
theorem _root_.Xp.Lvs.Ws.len {A : Type} [Lean.Grind.CommRing A] {V : Xp.Lvs A} {f : A} {l : List A} {n : Nat} (lf : V.L n f) (h : V.Ws f l) : l.length ≤ n := by
  have hw : ∀ w ∈ l, V.W w ∧ Xp.Div w f := fun w hm => (h.iff w).mp hm
  obtain ⟨c, e⟩ := Xp.Lvs.all_div h.nd hw
  obtain ⟨d, ld⟩ := Xp.Lvs.prod_lv (V := V) (l := l) fun w hm => let ⟨k, _, z⟩ := (hw w hm).1.ex; ⟨k, z⟩
  have := (V.quot lf ld e).1
  have := Xp.Lvs.prod_deg (fun w hm => (hw w hm).1) ld
  omega
theorem Tk.lvl {q k n : Nat} {ws xs os : List Int} {c : Nat} (hq : (q : Int) ∈ primes) (lw : Lvl q k ws) (lx : Lvl q n xs) (t : Tk q ws xs c os) : ∃ j, j ≤ n ∧ Lvl q j os := by
  obtain ⟨_, l⟩ := (VV hq).quot (lx.L hq) (Xp.Lvs.lpow (lw.L hq) c) t.ex
  exact ⟨n - c * k, by omega, lvl_of hq t.po l⟩
/-- the slope -/
theorem slope_ex {q n : Nat} {xs ks : List Int} (hq : (q : Int) ∈ primes) (x : Is (fun j => (((j + 1 : Nat) : Int) * xs.getD (j + 1) 0).fmod (q : Int)) n ks) : Xp.exF q ks = Xp.Dx (Xp.exF q xs) :=
  Xp.fx_eq (a := Xp.Po.of ks) (b := (Xp.Po.of xs).D) |>.mpr ((eqm_of (pm_of hq).pos x).trans (eqv_fun fun k => by
    show ((k + 1 : Nat) : Int) * xs.getD (k + 1) 0 = ((k : Int) + 1) * xs.getD (k + 1) 0
    rw [Int.natCast_add] <;> rfl))
theorem slope_len {q n : Nat} {xs ks : List Int} (x : Is (fun j => (((j + 1 : Nat) : Int) * xs.getD (j + 1) 0).fmod (q : Int)) n ks) : ks.length ≤ xs.length - 1 := x.short fun k hk => by
  show (((k + 1 : Nat) : Int) * xs.getD (k + 1) 0).fmod (q : Int) = 0
  rw [getD_over (by omega), Int.mul_zero]
  exact Int.zero_fmod _
/-- a level part of what isn't nought -/
theorem lvl_part_len {q k n : Nat} {g ks : List Int} (hq : (q : Int) ∈ primes) (lg : Lvl q k g) (pk : Po q ks n) (ne : ks ≠ []) (d : Xp.Div (Xp.exF q g) (Xp.exF q ks)) : k < ks.length := by
  rcases Nat.lt_or_ge k ks.length with h | h
  · exact h
  · exfalso
    have := Xp.short_zero (pm_of hq).lo (lg.dg hq) (fun j hj => by
      show ks.getD j 0 % (q : Int) = 0
      rw [getD_over (by omega), Int.zero_emod]) (ex_div.mp d)
    exact ne (nil_of pk.rs pk.tr this)
/-- each q-th -/
theorem stL_map (xs : List Int) (k : Nat) : HT.stL (xs.map V.int) k = (HT.stL xs k).map V.int := by
  unfold HT.stL
  rw [List.length_map, List.map_filterMap]
  congr 1
  funext m
  rw [List.getElem?_map]
theorem stL_full {xs : List Int} {k : Nat} (hk : 2 ≤ k) : HT.stL xs k = (List.range (HT.stN xs.length k)).map fun m => xs.getD (m * k) 0 := by
  unfold HT.stL
  have e : ∀ l : List Nat, (∀ m ∈ l, m * k < xs.length) → l.filterMap (fun m => xs[m * k]?) = l.map fun m => xs.getD (m * k) 0 := fun l => by
    induction l with
    | nil => exact fun _ => rfl
    | cons m l ih =>
      intro h
      rw [List.filterMap_cons, List.getElem?_eq_getElem (h m List.mem_cons_self), List.map_cons, ih fun x hx => h x (List.mem_cons_of_mem _ hx), List.getD_eq_getElem?_getD, List.getElem?_eq_getElem (h m List.mem_cons_self)]
      rfl
  refine e _ fun m hm => ?_
  have hm := List.mem_range.mp hm
  unfold HT.stN at hm
  split at hm
  · omega
  · have h1 : m ≤ (xs.length - 1) / k := by omega
    have h2 := (Nat.le_div_iff_mul_le (show 0 < k by omega)).mp h1
    omega
theorem stL_at {xs : List Int} {k : Nat} (hk : 2 ≤ k) (j : Nat) : (HT.stL xs k).getD j 0 = xs.getD (j * k) 0 := by
  rw [stL_full hk, List.getD_eq_getElem?_getD, List.getElem?_map]
  by_cases h : j < HT.stN xs.length k
  · rw [List.getElem?_eq_getElem (by rw [List.length_range]; exact h), List.getElem_range]
    rfl
  · rw [List.getElem?_eq_none (by rw [List.length_range]; omega)]
    show 0 = _
    symm
    refine getD_over ?_
    unfold HT.stN at h
    split at h
    · omega
    · have h1 : (xs.length - 1) / k < j := by omega
      have h2 := (Nat.div_lt_iff_lt_mul (show 0 < k by omega)).mp h1
      omega
theorem stL_len {xs : List Int} {k : Nat} (hk : 2 ≤ k) : (HT.stL xs k).length = HT.stN xs.length k := by
  rw [stL_full hk, List.length_map, List.length_range]
/-- no slope: each q-th, to the q -/
theorem no_slope {q n : Nat} {xs : List Int} (hq : (q : Int) ∈ primes) (lv : Lvl q n xs) (n1 : 1 ≤ n) (e : Xp.Dx (Xp.exF q xs) = 0) : Lvl q (n / q) (HT.stL xs q) ∧ n / q < n ∧ Xp.exF q xs = Xp.exF q (HT.stL xs q) ^ q := by
  have hp := pm_of hq
  have lo := hp.lo
  have q2 : 2 ≤ q := by omega
  have e0 : Xp.Eqm q (Xp.dr (co xs)) Xp.nul := Xp.fx_eq (a := (Xp.Po.of xs).D) (b := 0) |>.mp e
  have e1 := Xp.dr_nul (pr_of hq) e0
  have pw := Xp.spr_pow (pr_of hq) (fb_primes hq) (Xp.Po.of (HT.stL xs q))
  have ex : Xp.exF q xs = Xp.exF q (HT.stL xs q) ^ q := by
    refine Eq.trans ?_ pw.symm
    refine Xp.fx_eq (a := Xp.Po.of xs) |>.mpr (e1.trans (eqv_fun fun k => ?_))
    show Xp.spr q (fun j => co xs (q * j)) k = Xp.spr q (co (HT.stL xs q)) k
    unfold Xp.spr
    split
    · show xs.getD (q * (k / q)) 0 = (HT.stL xs q).getD (k / q) 0
      rw [stL_at q2, Nat.mul_comm]
    · rfl
  have dn : n % q = 0 := by
    have z := e1 n
    unfold Xp.spr at z
    by_cases h : n % q = 0
    · exact h
    · rw [if_neg h, Int.zero_emod] at z
      have z : xs.getD n 0 % (q : Int) = 0 := z
      rw [lv.top, Int.emod_eq_of_lt (by decide) (by omega)] at z
      cases z
  have nq : n / q * q = n := Nat.div_mul_cancel (Nat.dvd_of_mod_eq_zero dn)
  have sl : (HT.stL xs q).length = n / q + 1 := by
    rw [stL_len q2, lv.len]
    unfold HT.stN
    rw [if_neg (by omega), Nat.add_sub_cancel]
  have top : (HT.stL xs q).getD (n / q) 0 = 1 := by rw [stL_at q2, nq, lv.top]
  have lt : n / q < n := Nat.div_lt_self (by omega) q2
  have := lv.le
  exact ⟨⟨⟨fun j => by rw [stL_at q2]; exact lv.po.rs _, trim_last _ _ sl.symm (by rw [top]; decide), by omega⟩, sl, top⟩, lt, ex⟩
def spWPs (N : Nat) (T : List (Addr × Str)) : Sp := fun vs H Q _ => ∃ (a : Addr) (R : List Int) (q n : Nat) (hq : (q : Int) ∈ primes), vs = [.ref a, .int q] ∧ H a = some (.tup (R.map V.int)) ∧ Lvl q n R ∧ n < N ∧ Tabs T H ∧
  ∀ (D : Addr) (la : List Addr) (rs : List (List Int)) (H' : Hp), Gr T H H' → H D = none → H' D = some (.lst (la.map V.ref)) → Rws H' la rs → (∀ r ∈ rs, ∃ k, 1 ≤ k ∧ Lvl q k r) → (VV hq).Ws (Xp.exF q R) (rs.map (Xp.exF q)) → Q (.ref D) H'
section
variable {P : Program} {w : World} {K : PySem.W.Frag} {mg : Str → Option Value} {base : Heap}
theorem sc_whole_parts : FnScope (["poly", "prime", "slope", "common", "told", "left", "part"] : List Str) ["poly", "prime"] (defScope s_whole_parts) := ⟨rfl, rfl, rfl, by decide +kernel, rfl, by decide +kernel, by decide +kernel⟩
theorem ok_whole_parts {TT : List (Addr × Str)} {f : Addr} {fd : FuncData} (F : FunD K "whole_parts" "whole_parts" (defArgs s_whole_parts) (defBody s_whole_parts) (defScope s_whole_parts) [] [] f fd) (T : Fre mg) (m : mg "whole_parts" = some (.ref f)) (o_raw_slope : Own P w K mg base CX0 2 "raw_slope" ["one", "prime"] [] (spSlope K)) (o_raw_greatest : Own P w K mg base CX0 6 "raw_greatest" ["one", "other", "prime"] [] (spGreat TT)) (o_raw_parted : Own P w K mg base CX0 4 "raw_parted" ["one", "other", "prime"] [] (spPartedT K TT)) (o_single_parts : Own P w K mg base CX0 36 "single_parts" ["poly", "prime"] [] (spSingle TT)) (o_taken_out : Own P w K mg base CX0 5 "taken_out" ["poly", "part", "prime"] [] (spTaken TT)) : ∀ N : Nat, FnOk P w K mg base CX0 (36 + N) f fd ["poly", "prime"] (spWPs N TT) := by
  intro N
  induction N with
  | zero => exact ⟨fun vs H Q E h => by
      obtain ⟨a, R, q, n, hq, rfl, _⟩ := h
      rfl, fun A outer s H args us vs Q E _ _ _ _ h => by
      obtain ⟨a, R, q, n, hq, rfl, _, _, nN, _⟩ := h
      omega⟩
  | succ N ih =>
  have o_whole_parts : Own P w K mg base CX0 (36 + N) "whole_parts" ["poly", "prime"] [] (spWPs N TT) := own_of F ih m fun _ _ _ _ _ _ us hl => match us, hl with | [_, _], _ => rfl
  refine F.ok (k := 36 + N) sc_whole_parts (fun vs H Q E h => ?_) (fun cdv A outer s H vs Q E hr h => ?_)
  · obtain ⟨a, R, q, n, hq, rfl, _⟩ := h
    rfl
  · obtain ⟨a, R, q, n, hq, rfl, ea, lv, nN, hT, k⟩ := h
    have hp := pm_of hq
    have lo := hp.lo
    have hi := hp.hi
    have lR := lv.po.len
    have lN := lv.len
    refine ⟨_, PSs.nox (pss_cons (ps_if (pt_cmpR op_eq (pe_callB call_len_seq (by rfl) T.f_len PySem.boot_len (pa_cons (pv 0) pa_nil)) pe_int (nomark _)) (pss_one (ps_ret (pe_lst pa_nil))) pss_nil)
      (pss_cons (ps_set (i := 2) sc_whole_parts.nd rfl (Or.inl rfl) (pe_own o_raw_slope (hr.mono (by omega)) rfl pass0 (pa_cons (pv 0) (pa_cons (pv 1) pa_nil))))
      (pss_cons (ps_if (pt_not (pt_truth (pv 2) (by intro _; rfl))) (pss_one (ps_ret (pe_own o_whole_parts (hr.mono (by omega)) rfl pass0 (pa_cons (pe_stepT (pv 0) (pv 1)) (pa_cons (pv 1) pa_nil))))) pss_nil)
      (pss_cons (ps_set (i := 3) sc_whole_parts.nd rfl (Or.inl rfl) (pe_own o_raw_greatest (hr.mono (by omega)) rfl pass0 (pa_cons (pv 0) (pa_cons (pv 2) (pa_cons (pv 1) pa_nil)))))
      (pss_cons (ps_set (i := 4) sc_whole_parts.nd rfl (Or.inl rfl) (pe_own o_single_parts (hr.mono (by omega)) rfl pass0 (pa_cons (pe_ix ix_tup (pe_own o_raw_parted (hr.mono (by omega)) rfl pass0 (pa_cons (pv 0) (pa_cons (pv 3) (pa_cons (pv 1) pa_nil)))) pe_int (fun _ _ => rfl)) (pa_cons (pv 1) pa_nil))))
      (pss_cons (ps_set (i := 5) sc_whole_parts.nd rfl (Or.inl rfl) (pv 0))
      (pss_cons (ps_for PassesOwn.never rfl (pi_list (pv 4)) (pg_name (i := 6) sc_whole_parts.nd rfl (Or.inl rfl)) (pss_one (ps_set (i := 5) sc_whole_parts.nd rfl (Or.inl rfl) (pe_ix ix_tup (pe_own o_taken_out (hr.mono (by omega)) rfl pass0 (pa_cons (pv 5) (pa_cons (pv 6) (pa_cons (pv 1) pa_nil)))) pe_int (fun _ _ => rfl)))))
      (pss_one (ps_ret (pe_op op_cat (pv 4) (pe_own o_whole_parts (hr.mono (by omega)) rfl pass0 (pa_cons (pv 5) (pa_cons (pv 1) pa_nil))))))))))))) , ?_⟩
    refine ⟨_, rfl, a, _, rfl, .inr (.inl (.inl ea)), rfl, _, rfl, ite2 (fun hb => ?_) (fun hb => ?_)⟩
    · have n0 : n = 0 := by
        have z := V.int.inj (of_decide_eq_true hb)
        rw [List.length_map] at z
        omega
      subst n0
      have e1 := lv.zero
      subst e1
      refine ⟨by decide, fun D hD => ?_⟩
      refine k D [] [] _ (Gr.of hT (same_upd hD)) hD upd_same trivial (fun r hr => (by cases hr)) ?_
      rw [ex_one]
      exact Xp.Lvs.Ws.nil
    · have n1 : 1 ≤ n := by
        rcases Nat.lt_or_ge n 1 with z | z
        · exfalso
          refine hb (decide_eq_true ?_)
          rw [List.length_map, show R.length = 1 by omega]
          rfl
        · exact z
      refine ⟨_, rfl, _, rfl, a, R, q, rfl, .inl (.inl ea), by omega, lv.po.rs, hp, fun ks hks sl H1 s1 ns es => ?_⟩
      have eks := slope_ex hq hks
      have lks := slope_len hks
      have pks : Po q ks 25 := ⟨rs_of hp hks, hks.tr, by omega⟩
      have T1 := hT.ext s1
      refine ⟨_, rfl, _, .inr (.inl ⟨_, .inl (.inl es), rfl⟩), ?_⟩
      by_cases hr : ks = []
      · subst hr
        refine iteT ?_
        rw [ex_nil] at eks
        obtain ⟨lg, lt, ex⟩ := no_slope hq lv n1 eks.symm
        refine ⟨_, rfl, a, _, rfl, .inl (.inl (s1 _ _ ea)), _, rfl, _, rfl, q, rfl, by omega, .inl (.inl (s1 _ _ ea)), fun g hg => ?_⟩
        rw [stL_map]
        have sg := same_upd (o := .tup ((HT.stL R q).map V.int)) hg
        refine ⟨_, rfl, g, HT.stL R q, q, n / q, hq, rfl, upd_same, lg, by omega, T1.ext sg, fun D la rs H2 g2 nD eD wD lvs ws => ?_⟩
        refine k D la rs H2 ((Gr.of hT (s1.trans sg)).trans g2) ((s1.trans sg).free nD) eD wD lvs ?_
        rw [ex]
        exact ws.pow (by omega)
      · rw [show (!(ks.map V.int).isEmpty) = true from by cases ks with | nil => exact absurd rfl hr | cons _ _ => rfl]
        refine iteF ?_
        refine ⟨_, rfl, _, rfl, _, rfl, a, sl, R, ks, q, rfl, s1 _ _ ea, es, hq, lv.po, pks, T1, fun c g H2 g2 ec G => ?_⟩
        obtain ⟨j, jn, lg, dg1, dg2, dgA⟩ := G.ex hq lv
        have jlt := lvl_part_len hq lg pks hr dg2
        refine ⟨_, rfl, _, rfl, _, rfl, a, c, R, g, q, rfl, .inl (.inl (g2.tup (s1 _ _ ea))), .inl (.inl ec), by omega, ?_, lv.po.rs, lg.dsr hq, g2.t, fun w0 u v' qs rs H3 g3 nw e1 e2 e3 dv => ?_⟩
        · have := lg.po.len
          omega
        obtain ⟨er, _, lq, ee⟩ := lv.part hq lg dg1 dv
        have sqq : (VV hq).Sqf (Xp.exF q qs) := Xp.Lvs.sqf_of Xp.dx_slope (lg.L hq) ee fun x x1 x2 => dgA x x1 (by rw [eks]; exact x2)
        refine ⟨w0, _, 0, .ref u, rfl, rfl, SqT.of e1, rfl, _, rfl, u, qs, q, n - j, hq, rfl, e2, lq, by omega, sqq, g3.t, fun D1 la1 rs1 H4 g4 n4 e4 w4 lv4 ws4 => ?_⟩
        refine ⟨_, rfl, ?_⟩
        have wl : ∀ w ∈ rs1.map (Xp.exF q), (VV hq).W w := fun w hw => ((ws4.iff w).mp hw).1
        have g14 := (g2.trans g3).trans g4
        have gA := (Gr.of hT s1).trans g14
        have lla1 := w4.len
        have aP := gA.tup ea
        refine ⟨_, rfl, D1, rfl, ⟨_, SqL.of e4⟩, ?_⟩
        refine for_it (walk_list (xs := la1.map V.ref)) (fun i σ' H' => ∃ (l : Addr) (ls : List Int) (j' : Nat) (x6 : Option V), σ' = [some (.ref a), some (.int q), some (.ref sl), some (.ref c), some (.ref D1), some (.ref l), x6] ∧ Gr TT H4 H' ∧ H' l = some (.tup (ls.map V.int)) ∧ Lvl q j' ls ∧ j' ≤ n ∧ (VV hq).Out (Xp.exF q R) ((rs1.take i).map (Xp.exF q)) (Xp.exF q ls))
          ⟨a, R, n, none, rfl, Gr.refl g4.t, aP, lv, Nat.le_refl n, .nil _⟩ (fun i σ' H' _ ⟨_, _, _, _, _, g, _⟩ => SqL.of (g.x _ _ e4 (fun _ z => by cases z))) ?_ ?_
        · rintro i x σ' H5 H6 hi2 ⟨l, ls, j', x6, rfl, g5, el, ll, jn', ot⟩ ⟨rfl, hx⟩
          rw [List.length_map] at hi2
          obtain ⟨l1, r1, rfl, hr1, er1⟩ := (w4.keep (kpG g5)).at hx
          obtain ⟨k1, k11, lv1⟩ := lv4 r1 (List.mem_of_getElem? hr1)
          refine ⟨_, rfl, _, rfl, _, rfl, l, l1, ls, r1, q, k1, rfl, el, er1, hq, ll.po, ll.ne, lv1, k11, g5.t, fun t u2 ct os H7 g7 et eu tk nd => ?_⟩
          obtain ⟨j2, j2n, lo2⟩ := tk.lvl hq lv1 ll
          refine ⟨t, _, 1, .ref u2, rfl, rfl, SqT.of et, rfl, ?_⟩
          refine ⟨u2, os, j2, _, rfl, g5.trans g7, eu, lo2, by omega, ?_⟩
          rw [List.take_add_one, hr1, List.map_append]
          exact ot.snoc tk.ex nd
        · rintro σ' H5 ⟨l, ls, j', x6, rfl, g5, el, ll, jn', ot⟩
          rw [show rs1.take (la1.map V.ref).length = rs1 from List.take_of_length_le (by rw [List.length_map]; omega)] at ot
          have dq : Xp.Div (Xp.exF q qs) (Xp.exF q R) := ⟨Xp.exF q g, by rw [ee]; grind⟩
          have jlt' : j' < n := by
            rcases Nat.lt_or_ge j' n with z | z
            · exact z
            · exfalso
              obtain ⟨w, hw, dw⟩ := Xp.Lvs.has (lq.L hq) (show 1 ≤ n - j by omega)
              have hm := (ws4.iff w).mpr ⟨hw, dw⟩
              obtain ⟨cc, ecc⟩ := ot.dvd
              obtain ⟨_, lc⟩ := (VV hq).quot (lv.L hq) (ll.L hq) ecc
              rw [show n - j' = 0 by omega] at lc
              rw [(VV hq).nought lc] at ecc
              have er2 : Xp.exF q R = Xp.exF q ls := by rw [ecc]; grind
              have dl : Xp.Div w (Xp.exF q ls) := er2 ▸ dw.trans dq
              exact ((ot.iff wl hw).mp dl).2 hm
          have e45 := g5.x _ _ e4 (fun _ z => by cases z)
          refine ⟨_, rfl, _, rfl, _, rfl, l, ls, q, j', hq, rfl, el, ll, by omega, g5.t, fun D2 la2 rs2 H6 g6 n6 e6 w6 lv6 ws6 => ?_⟩
          have e46 := g6.x _ _ e45 (fun _ z => by cases z)
          have gB := (gA.trans g5).trans g6
          have w46 := w4.keep (kpG (g5.trans g6))
          have lla2 := w6.len
          refine ⟨D1, D2, _, _, rfl, rfl, e46, e6, ?_, fun D hD => ?_⟩
          · have z1 := ws4.len (lq.L hq)
            have z2 := ws6.len (ll.L hq)
            rw [List.length_map] at z1 z2
            rw [List.length_map, List.length_map]
            have := lv.le
            exact Nat.le_trans (show la1.length + la2.length ≤ 100 by omega) (by decide)
          · have sD := same_upd (o := .lst (la1.map V.ref ++ la2.map V.ref)) hD
            refine k D (la1 ++ la2) (rs1 ++ rs2) _ (gB.same sD) (gB.n _ hD) (by rw [upd_same, List.map_append]) (Rws.app (w6.keep (kpS sD)) (w46.keep (kpS sD))) (fun r hr => (List.mem_append.mp hr).elim (lv4 r) (lv6 r)) ?_
            rw [List.map_append]
            exact ws4.step dq ot ws6
end
end Xk
end
section
set_option Elab.async false
set_option linter.all false
set_option maxRecDepth 100000
set_option maxHeartbeats 4000000
namespace Xk
open PySem PySem.Spec PyProof.Rows L2 Xh LamX NdefX
/-! ### the parts in their order, with their counts -/
/-- before, by length, then by themselves -/
def Kord (rs : List (List Int)) : Prop := rs.Pairwise fun t u => KnO.lx ((u.length : Nat), u) ((t.length : Nat), t) = false
structure Prt (q n : Nat) (hq : (q : Int) ∈ primes) (R : List Int) (rs : List (List Int)) (cs : List Nat) : Prop where
  lv : ∀ r ∈ rs, ∃ k, 1 ≤ k ∧ Lvl q k r
  ws : (VV hq).Ws (Xp.exF q R) (rs.map (Xp.exF q))
  ord : Kord rs
  len : cs.length = rs.length
  cnt : ∀ (i : Nat) (r : List Int) (c : Nat), rs[i]? = some r → cs[i]? = some c → (VV hq).Cnt (Xp.exF q R) (Xp.exF q r) c
/-- pairs of a part and its count -/
def PrtL (H : Hp) : List Addr → List Addr → List Nat → Prop
  | [], [], [] => True
  | p :: ps, l :: ls, c :: cs => H p = some (.tup [.ref l, .int (c : Nat)]) ∧ PrtL H ps ls cs
  | _, _, _ => False
theorem PrtL.len {H : Hp} : ∀ {ps ls : List Addr} {cs : List Nat}, PrtL H ps ls cs → ps.length = cs.length ∧ ls.length = cs.length
  | [], [], [], _ => ⟨rfl, rfl⟩
  | _ :: _, _ :: _, _ :: _, h => ⟨congrArg Nat.succ (PrtL.len h.2).1, congrArg Nat.succ (PrtL.len h.2).2⟩
theorem PrtL.keep {H H' : Hp} (k : ∀ a xs, H a = some (.tup xs) → H' a = some (.tup xs)) : ∀ {ps ls : List Addr} {cs : List Nat}, PrtL H ps ls cs → PrtL H' ps ls cs
  | [], [], [], _ => trivial
  | _ :: _, _ :: _, _ :: _, h => ⟨k _ _ h.1, PrtL.keep k h.2⟩
theorem PrtL.snoc {H : Hp} {p l : Addr} {c : Nat} (e : H p = some (.tup [.ref l, .int (c : Nat)])) : ∀ {ps ls : List Addr} {cs : List Nat}, PrtL H ps ls cs → PrtL H (ps ++ [p]) (ls ++ [l]) (cs ++ [c])
  | [], [], [], _ => ⟨e, trivial⟩
  | _ :: _, _ :: _, _ :: _, h => ⟨h.1, PrtL.snoc e h.2⟩
theorem PrtL.at {H : Hp} : ∀ {ps ls : List Addr} {cs : List Nat}, PrtL H ps ls cs → ∀ {i : Nat} {x : V}, (ps.map V.ref)[i]? = some x → ∃ (p l : Addr) (c : Nat), x = .ref p ∧ ls[i]? = some l ∧ cs[i]? = some c ∧ H p = some (.tup [.ref l, .int (c : Nat)])
  | [], [], [], _, i, x, hx => by cases hx
  | p :: ps, l :: ls, c :: cs, h, 0, x, hx => by
    cases hx
    exact ⟨p, l, c, rfl, rfl, rfl, h.1⟩
  | p :: ps, l :: ls, c :: cs, h, i + 1, x, hx => by
    obtain ⟨p', l', c', e1, e2, e3, e4⟩ := PrtL.at h.2 (i := i) (x := x) hx
    exact ⟨p', l', c', e1, e2, e3, e4⟩
/-- the numbers of the tuple there -/
def nmV : V → Int
  | .int i => i
  | _ => 0
def tupI (H : Hp) (t : Addr) : List Int := match H t with
  | some (.tup xs) => xs.map nmV
  | _ => []
theorem tupI_at {H : Hp} {t : Addr} {r : List Int} (e : H t = some (.tup (r.map V.int))) : tupI H t = r := by
  unfold tupI
  rw [e]
  show (r.map V.int).map nmV = r
  rw [List.map_map]
  exact (List.map_congr_left fun _ _ => rfl).trans (List.map_id r)
theorem Rws.tupI {H : Hp} : ∀ {la : List Addr} {rs : List (List Int)}, Rws H la rs → la.map (Xk.tupI H) = rs ∧ ∀ t ∈ la, H t = some (.tup ((Xk.tupI H t).map V.int))
  | [], [], _ => ⟨rfl, fun t h => nomatch h⟩
  | l :: la, r :: rs, h => by
    obtain ⟨h1, h2⟩ := Rws.tupI h.2
    have e := tupI_at h.1
    refine ⟨by rw [List.map_cons, h1, e], fun t ht => ?_⟩
    rcases List.mem_cons.mp ht with rfl | ht
    · rw [e]
      exact h.1
    · exact h2 t ht
theorem rws_map {H : Hp} {k : Addr → List Int} : ∀ {la : List Addr}, (∀ t ∈ la, H t = some (.tup ((k t).map V.int))) → Rws H la (la.map k)
  | [], _ => trivial
  | l :: la, h => ⟨h l List.mem_cons_self, rws_map fun t ht => h t (List.mem_cons_of_mem _ ht)⟩
def spRParts (T : List (Addr × Str)) : Sp := fun vs H Q _ => ∃ (a : Addr) (R : List Int) (q n : Nat) (hq : (q : Int) ∈ primes), vs = [.ref a, .int q] ∧ H a = some (.tup (R.map V.int)) ∧ Lvl q n R ∧ Tabs T H ∧
  ∀ (D : Addr) (ps la : List Addr) (rs : List (List Int)) (cs : List Nat) (H' : Hp), Gr T H H' → H D = none → H' D = some (.lst (ps.map V.ref)) → PrtL H' ps la cs → Rws H' la rs → Prt q n hq R rs cs → Q (.ref D) H'
def lamK (s : Stmt) : Arguments × Expr × Scope := match s with
  | .Assign _ (.Call _ _ (⟨_, .Lambda p b c _, _⟩ :: _) _) _ => (p, b, c)
  | s => (defArgs s, .Name "x" ⟨0, 0, 0, 0⟩, defScope s)
def kyQ : Str := (envOfC "raw_parts" ⟨.function, [], false, false, []⟩ 0 0 .none).qual ++ "<lambda>"
section
variable {P : Program} {w : World} {K : PySem.W.Frag} {mg : Str → Option Value} {base : Heap}
theorem sc_raw_parts : FnScope (["poly", "prime", "told", "part"] : List Str) ["poly", "prime"] (defScope s_raw_parts) := ⟨rfl, rfl, rfl, by decide +kernel, rfl, by decide +kernel, by decide +kernel⟩
abbrev lam_kyL : Arguments × Expr × Scope := (lamK ((defBody s_raw_parts).getD 0 (.Pass ⟨0, 0, 0, 0⟩)))
theorem nb_ky : ndefB (defScope s_raw_parts) lam_kyL.2.2 [] = true := by decide +kernel
theorem ns_ky : NScope ["part"] ["part"] [] lam_kyL.2.2 := nscope_by (by decide +kernel)
theorem lam_ky {f : Addr} {F : NF} (T : Fre mg) (hp : F.params = lam_kyL.1) (hs : F.scope = lam_kyL.2.2) : NOkL P w K mg base CX0 2 f F lam_kyL.2.1 ["part"] [] (spKeyL K) := by
  obtain ⟨fn, fq, fp, fb, fs, fc, fo⟩ := F
  have hp : fp = _ := hp
  have hs : fs = _ := hs
  subst hp hs
  refine nokL_of (k := 1) (N := ["part"]) ns_ky (fun pm ctv us hl => match us, hl with | [_], _ => rfl) (fun ws vs H Q E h => ?_) fun A outer s H vs ws Q E hr hw h => ?_
  · obtain ⟨t, ns, rfl, _⟩ := h
    rfl
  · obtain ⟨t, ns, rfl, ht, k⟩ := h
    refine ⟨_, (pe_tup (pa_cons (pe_callB call_len_seq (by rfl) T.f_len PySem.boot_len (pa_cons (pv 0) pa_nil)) (pa_cons (pv 0) pa_nil))), ?_⟩
    refine ⟨_, rfl, t, _, rfl, .inr ht, _, rfl, (by show 2 ≤ sizeLine; decide), fun p hp => ?_⟩
    rw [List.length_map]
    exact k p hp
theorem ok_raw_parts {TT : List (Addr × Str)} {f cR PR : Addr} {fd : FuncData} (F : FunD K "raw_parts" "raw_parts" (defArgs s_raw_parts) (defBody s_raw_parts) (defScope s_raw_parts) [] [] f fd) (hcd : fd.code = .ref cR) (TB : TabB base mg cR PR) (hmT : (PR, kyQ) ∈ TT) (hu : ∀ p ∈ TT, p.1 = PR → p.2 = kyQ) (T : Fre mg) (o_whole_parts : Own P w K mg base CX0 (36 + 25) "whole_parts" ["poly", "prime"] [] (spWPs 25 TT)) (o_taken_out : Own P w K mg base CX0 5 "taken_out" ["poly", "part", "prime"] [] (spTaken TT)) : FnOk P w K mg base CX0 62 f fd ["poly", "prime"] (spRParts TT) := by
  refine FunD_okC F hcd sc_raw_parts (fun vs H Q E h => ?_) (fun A outer s H vs Q E hr h => ?_)
  · obtain ⟨a, R, q, n, hq, rfl, _⟩ := h
    rfl
  · obtain ⟨a, R, q, n, hq, rfl, ea, lv, hT, k⟩ := h
    have hp := pm_of hq
    refine ⟨_, PSs.nox (pss_cons (ps_set (i := 2) sc_raw_parts.nd rfl (Or.inl rfl) (pe_callBK (cr_sortKL (mk := lamF (cxOf CX0 P w K mg base ["poly", "prime", "told", "part"] "raw_parts" (defScope s_raw_parts) f (.ref cR) A outer s H E).nox lam_kyL.1 lam_kyL.2.2) (b := lam_kyL.2.1) (fun f c' => lam_ky T rfl rfl) (fun _ => rfl) (hr.mono (by decide))) (by rfl) T.f_sorted (by decide +kernel) (pa_cons (pe_own o_whole_parts (hr.mono (by decide)) rfl pass0 (pa_cons (pv 0) (pa_cons (pv 1) pa_nil))) pa_nil) (pk_cons (pe_lamV TB rfl hmT hu rfl (ndef_free nb_ky)) pk_nil)))
      (pss_one (ps_ret (pe_lc (own := [("part", 3)]) (te := (tTup (tCons (tVar 3) (tCons (tOp (rIxT K) (tCall (spTaken TT) [] E0 (tCons (tVar 0) (tCons (tVar 3) (tCons (tVar 1) tNil)))) (tC (.int 0))) tNil)))) rfl sc_raw_parts.nd (pi_list (pv 2)) (blkOk_by (own := [("part", 3)]) (N := ["poly", "prime", "told", "part"]) (sc := defScope s_raw_parts) (by decide +kernel)) (fun _ _ _ _ _ => pg_name (i := 3) sc_raw_parts.nd rfl (Or.inl rfl) (Or.inr rfl)) (fun _ _ _ _ _ => pts_nil) (fun _ _ _ _ _ => (pe_tup (pa_cons (pv 3) (pa_cons (pe_ix ix_tup (pe_own o_taken_out (hr.mono (by decide)) rfl pass0 (pa_cons (pv 0) (pa_cons (pv 3) (pa_cons (pv 1) pa_nil)))) pe_int (fun _ _ => rfl)) pa_nil)))))))) , ?_⟩
    have le := lv.le
    refine ⟨_, rfl, _, rfl, a, R, q, n, hq, rfl, ea, lv, by omega, hT, fun D1 la1 rs1 H1 g1 n1 e1 w1 lv1 ws1 => ?_⟩
    refine ⟨g1.t, fun fl c' H2 g2 nf e2 ec hfr => ?_⟩
    have e12 := g2.x _ _ e1 (fun _ z => by cases z)
    have w2 := w1.keep (kpG g2)
    obtain ⟨t1, t2⟩ := w2.tupI
    have g12 := g1.trans g2
    refine ⟨D1, fl, c', la1, tupI H2, rfl, rfl, SqL.of e12, e2, ec, fun t ht => SqT.of (t2 t ht), fun ys p H3 s3 np e3 perm ksd => ?_⟩
    have g13 := g12.same s3
    have w3 : Rws H3 ys (ys.map (tupI H2)) := rws_map fun t ht => s3 _ _ (t2 t (perm.mem_iff.mp ht))
    have pm : (ys.map (tupI H2)).Perm rs1 := by
      have := perm.map (tupI H2)
      rwa [t1] at this
    have lvs : ∀ r ∈ ys.map (tupI H2), ∃ k, 1 ≤ k ∧ Lvl q k r := fun r hr => lv1 r (pm.mem_iff.mp hr)
    have ws := ws1.perm (pm.map (Xp.exF q))
    have ord : Kord (ys.map (tupI H2)) := List.pairwise_map.mpr ksd
    generalize ys.map (tupI H2) = rs at w3 lvs ws ord
    have lys := w3.len
    have wl := ws.len (lv.L hq)
    rw [List.length_map] at wl
    have aP := g13.tup ea
    refine ⟨_, rfl, p, rfl, ⟨_, SqL.of e3⟩, fun C hC => ?_⟩
    refine lc_it (walk_list (xs := ys.map V.ref)) (fun i H' => Gr TT H3 H' ∧ ∃ (ps : List Addr) (cs : List Nat), H' C = some (.lst (ps.map V.ref)) ∧ PrtL H' ps (ys.take i) cs ∧ ∀ (j : Nat) (r : List Int) (c : Nat), rs[j]? = some r → cs[j]? = some c → (VV hq).Cnt (Xp.exF q R) (Xp.exF q r) c)
      ⟨Gr.of g13.t (same_upd hC), [], [], upd_same, trivial, fun j r c _ h => by cases h⟩ (fun i H' _ h => SqL.of (h.1.x _ _ e3 (fun _ z => by cases z))) ?_ ?_
    · rintro i x H4 H5 hi ⟨g4, ps, cs, eC, pr, ct⟩ ⟨rfl, hx⟩
      rw [List.length_map] at hi
      obtain ⟨l, r, rfl, hr', er⟩ := (w3.keep (kpG g4)).at hx
      rw [List.getElem?_map] at hx
      obtain ⟨l2, hl2, e5⟩ := Option.map_eq_some_iff.mp hx
      cases e5
      obtain ⟨kk, k1, lr⟩ := lvs r (List.mem_of_getElem? hr')
      obtain ⟨pl1, pl2⟩ := pr.len
      rw [List.length_take] at pl2
      refine ⟨rfl, _, rfl, _, rfl, _, rfl, _, rfl, a, l, R, r, q, kk, rfl, g4.tup aP, er, hq, lv.po, lv.ne, lr, k1, g4.t, fun t u c os H6 g6 et eu tk nd => ?_⟩
      refine ⟨t, _, 0, .int (c : Nat), rfl, rfl, SqT.of et, rfl, (by show 2 ≤ sizeLine; decide), fun v hv => ?_⟩
      have sv := same_upd (o := .tup [.ref l, .int (c : Nat)]) hv
      have eC6 := sv _ _ (g6.x _ _ eC (fun _ z => by cases z))
      refine ⟨_, eC6, ?_, grLst ((g4.trans g6).same sv) hC eC6, ps ++ [v], cs ++ [c], ?_, ?_, fun j r' c' h1 h2 => ?_⟩
      · rw [List.length_map]
        exact small1000 (by omega)
      · rw [upd_same, List.map_append]
        rfl
      · rw [List.take_add_one, hl2]
        exact (PrtL.snoc upd_same ((pr.keep (kpG g6)).keep (kpS sv))).keep (kpU eC6)
      · by_cases hj : j < cs.length
        · rw [List.getElem?_append_left hj] at h2
          exact ct j r' c' h1 h2
        · have ej : j = cs.length := by
            have := (List.getElem?_eq_some_iff.mp h2).1
            rw [List.length_append] at this
            have : j < cs.length + 1 := this
            omega
          rw [ej, List.getElem?_append_right (Nat.le_refl _), Nat.sub_self] at h2
          cases h2
          rw [ej, show cs.length = i by omega, hr'] at h1
          cases h1
          exact ⟨Xp.exF q os, tk.ex, nd⟩
    · rintro H4 ⟨g4, ps, cs, eC, pr, ct⟩
      rw [show ys.take (ys.map V.ref).length = ys from List.take_of_length_le (by rw [List.length_map]; exact Nat.le_refl _)] at pr
      have pl := pr.len
      exact k C ps ys rs cs H4 (g13.trans g4) (g13.n _ hC) eC pr (w3.keep (kpG g4)) ⟨lvs, ws, ord, by omega, ct⟩
end
end Xk
end
section
set_option Elab.async false
set_option linter.all false
set_option maxRecDepth 100000
set_option maxHeartbeats 4000000
namespace Xk
open PySem PySem.Spec PyProof.Rows L2 Xh LamX NdefX
/-! ### the doors: parts, rest_roots -/
def spRefNP (K : PySem.W.Frag) : Sp := fun vs H Q _ => ∃ (a : Addr) (R : List Int) (q : Nat), vs = [.ref a, .int q] ∧ (q : Int) ∈ primes ∧ Pol K H a q R ∧ R ≠ [] ∧ ∀ H', Same H H' → Q .non H'
/-- the level one of it, its parts and counts -/
structure PrtP (q : Nat) (hq : (q : Int) ∈ primes) (xs R : List Int) (rs : List (List Int)) (cs : List Nat) : Prop where
  lv : ∃ n, Lvl q n R ∧ n + 1 = xs.length ∧ Prt q n hq R rs cs
  ex : Xp.exF q xs = Xp.mC (q : Int) Xp.nul (xs.getD (xs.length - 1) 0) * Xp.exF q R
def spParts (K : PySem.W.Frag) (T : List (Addr × Str)) : Sp := fun vs H Q _ => ∃ (a : Addr) (xs : List Int) (q : Nat) (hq : (q : Int) ∈ primes), vs = [.ref a, .int q] ∧ H a = some (.tup (xs.map V.int)) ∧ Po q xs 25 ∧ xs ≠ [] ∧ Tabs T H ∧
  ∀ (t D : Addr) (ps la : List Addr) (R : List Int) (rs : List (List Int)) (cs : List Nat) (H' : Hp), Gr T H H' → H t = none → H D = none → H' t = some (.tup [.int (xs.getD (xs.length - 1) 0), .ref D]) → H' D = some (.lst (ps.map V.ref)) → PrtL H' ps la cs → Rws H' la rs → PrtP q hq xs R rs cs → Q (.ref t) H'
theorem psNoQ {X : Cx} {st : Stmt} : PS X st (fun _ _ _ => False) := ⟨fun _ _ _ _ _ _ h => h.elim⟩
/-- pairs of numbers -/
def Zrs (H : Hp) : List Addr → List (Nat × Nat) → Prop
  | [], [] => True
  | p :: ps, z :: zs => H p = some (.tup [.int (z.1 : Nat), .int (z.2 : Nat)]) ∧ Zrs H ps zs
  | _, _ => False
theorem Zrs.len {H : Hp} : ∀ {ps : List Addr} {zs : List (Nat × Nat)}, Zrs H ps zs → ps.length = zs.length
  | [], [], _ => rfl
  | _ :: _, _ :: _, h => congrArg Nat.succ (Zrs.len h.2)
theorem Zrs.keep {H H' : Hp} (k : ∀ a xs, H a = some (.tup xs) → H' a = some (.tup xs)) : ∀ {ps : List Addr} {zs : List (Nat × Nat)}, Zrs H ps zs → Zrs H' ps zs
  | [], [], _ => trivial
  | _ :: _, _ :: _, h => ⟨k _ _ h.1, Zrs.keep k h.2⟩
theorem Zrs.snoc {H : Hp} {p : Addr} {z : Nat × Nat} (e : H p = some (.tup [.int (z.1 : Nat), .int (z.2 : Nat)])) : ∀ {ps : List Addr} {zs : List (Nat × Nat)}, Zrs H ps zs → Zrs H (ps ++ [p]) (zs ++ [z])
  | [], [], _ => ⟨e, trivial⟩
  | _ :: _, _ :: _, h => ⟨h.1, Zrs.snoc e h.2⟩
theorem Zrs.at {H : Hp} : ∀ {ps : List Addr} {zs : List (Nat × Nat)}, Zrs H ps zs → ∀ {i : Nat} {x : V}, (ps.map V.ref)[i]? = some x → ∃ (p : Addr) (z : Nat × Nat), x = .ref p ∧ zs[i]? = some z ∧ H p = some (.tup [.int (z.1 : Nat), .int (z.2 : Nat)])
  | [], [], _, i, x, hx => by cases hx
  | p :: ps, z :: zs, h, 0, x, hx => by
    cases hx
    exact ⟨p, z, rfl, rfl, h.1⟩
  | p :: ps, z :: zs, h, i + 1, x, hx => Zrs.at h.2 (i := i) (x := x) hx
/-- rests where it is nought, with counts -/
structure Rrt (q : Nat) (hq : (q : Int) ∈ primes) (xs : List Int) (L : List (Nat × Nat)) : Prop where
  zs : L.map Prod.fst = (List.range q).filter fun z : Nat => decide (ev xs (z : Int) xs.length % (q : Int) = 0)
  cnt : ∀ (z c : Nat), (z, c) ∈ L → (VV hq).Cnt (Xp.exF q xs) (Xp.exF q [(-(z : Int)).fmod q, 1]) c
section
variable {P : Program} {w : World} {K : PySem.W.Frag} {mg : Str → Option Value} {base : Heap}
theorem sc_refuse_nought_poly : FnScope (["poly", "prime"] : List Str) ["poly", "prime"] (defScope s_refuse_nought_poly) := ⟨rfl, rfl, rfl, by decide +kernel, rfl, by decide +kernel, by decide +kernel⟩
theorem ok_refuse_nought_poly {f : Addr} {fd : FuncData} (F : FunD K "refuse_nought_poly" "refuse_nought_poly" (defArgs s_refuse_nought_poly) (defBody s_refuse_nought_poly) (defScope s_refuse_nought_poly) [] [] f fd) (o_refuse_polys : Own P w K mg base (L2.CX P w) 4 "refuse_polys" ["polys", "prime"] [] (spRefPs K)) : FnOk P w K mg base (L2.CX P w) 5 f fd ["poly", "prime"] (spRefNP K) := by
  refine F.ok sc_refuse_nought_poly (fun vs H Q E h => ?_) (fun cdv A outer s H vs Q E hr h => ?_)
  · obtain ⟨a, R, q, rfl, _⟩ := h
    rfl
  · obtain ⟨a, R, q, rfl, hq, pl, ne, k⟩ := h
    refine ⟨_, (pss_cons (ps_expr (pe_own o_refuse_polys (hr.mono (by decide)) rfl (passes_call (takes_of rfl rfl rfl rfl) (fun _ _ _ _ h => h)) (pa_cons (pe_tup (pa_cons (pv 0) pa_nil)) (pa_cons (pv 1) pa_nil))))
      (pss_one (ps_if (pt_cmpR (op_eqD hr.units) (pv 0) (pe_tup pa_nil) (nomark _)) (pss_one psNoQ) pss_nil))) , ?_⟩
    refine ⟨_, rfl, (by show 1 ≤ sizeLine; decide), fun c hc => ⟨_, rfl, c, _, q, rfl, hq, SqT.of upd_same, fun r hr => ?_, fun H1 s1 => ?_⟩⟩
    · rw [List.mem_singleton.mp hr]
      exact ⟨a, R, rfl, pl.same (same_upd hc)⟩
    refine ⟨_, rfl, (by show 0 ≤ sizeLine; decide), fun t ht => ⟨_, _, dp_tup (sameT (((same_upd hc).trans s1).trans (same_upd ht)) pl.at_), dp_tup (ns := []) (.inl (.inl upd_same)), sh_ints R, rfl, _, rfl, ?_⟩⟩
    rw [eqv_nil, decide_eq_false ne]
    exact iteF (k _ (((same_upd hc).trans s1).trans (same_upd ht)))
theorem lev_ex {q : Nat} {xs g : List Int} (hq : (q : Int) ∈ primes) (px : Po q xs 25) (ne : xs ≠ []) (L : Lev q xs g) : ∃ n, Lvl q n g ∧ n + 1 = xs.length ∧ Xp.exF q xs = Xp.mC (q : Int) Xp.nul (xs.getD (xs.length - 1) 0) * Xp.exF q g := by
  have lp := List.length_pos_iff.mpr ne
  have lg := L.len
  have hp := pm_of hq
  obtain ⟨n, hn⟩ : ∃ n, xs.length = n + 1 := ⟨xs.length - 1, by omega⟩
  have lv : Lvl q n g := by
    rcases L.lev with z | ⟨_, z⟩
    · rw [z] at lg
      rw [← lg] at lp
      exact absurd lp (Nat.lt_irrefl 0)
    · refine ⟨L.po, by omega, ?_⟩
      rw [show g.length - 1 = n by omega] at z
      exact z
  refine ⟨n, lv, hn.symm, ?_⟩
  rw [hn, Nat.add_sub_cancel]
  have d1 := (L.dv (co g)).mp (Xp.Dv.self _ _)
  have d2 : Xp.Dv q (co g) (Xp.ad (co xs) (Xp.sc (-(xs.getD n 0)) (co g))) := d1.add ((Xp.Dv.self _ _).scale _)
  have z := Xp.short_zero hp.lo (lv.dg hq) (fun k hk => by
    show (xs.getD k 0 + -(xs.getD n 0) * g.getD k 0) % (q : Int) = 0
    by_cases e : k = n
    · rw [e, lv.top, Int.mul_one, Int.add_right_neg, Int.zero_emod]
    · rw [getD_over (a := xs) (by omega), getD_over (a := g) (by rw [lv.len]; omega), Int.mul_zero]
      rfl) d2
  refine Xp.fx_eq (a := Xp.Po.of xs) (b := Xp.Po.C (xs.getD n 0) * Xp.Po.of g) |>.mpr fun k => ?_
  have e6 : (Xp.Po.C (xs.getD n 0) * Xp.Po.of g).c = Xp.sc (xs.getD n 0) (co g) := by
    show Xp.cv (Xp.sc (xs.getD n 0) Xp.one) (co g) = _
    rw [Xp.cvC, Xp.cv_sc, Xp.cv1]
  rw [e6]
  have zk := z k
  have zk : (xs.getD k 0 + -(xs.getD n 0) * g.getD k 0) % (q : Int) = 0 % (q : Int) := zk
  show xs.getD k 0 % (q : Int) = (xs.getD n 0 * g.getD k 0) % (q : Int)
  rw [Int.zero_emod] at zk
  refine Int.emod_eq_emod_iff_emod_sub_eq_zero.mpr ?_
  refine Eq.trans ?_ zk
  congr 1
  rw [Int.neg_mul]
  omega
theorem sc_parts : FnScope (["poly", "prime"] : List Str) ["poly", "prime"] (defScope s_parts) := ⟨rfl, rfl, rfl, by decide +kernel, rfl, by decide +kernel, by decide +kernel⟩
theorem ok_parts {TT : List (Addr × Str)} {f : Addr} {fd : FuncData} {kws : List (Str × V)} (F : FunD K "parts" "parts" (defArgs s_parts) (defBody s_parts) (defScope s_parts) [] kws f fd) (o_refuse_nought_poly : Own P w K mg base (L2.CX P w) 5 "refuse_nought_poly" ["poly", "prime"] [] (spRefNP K)) (o_raw_level : Own P w K mg base CX0 4 "raw_level" ["one", "prime"] [] (spLevel TT)) (o_raw_parts : Own P w K mg base CX0 62 "raw_parts" ["poly", "prime"] [] (spRParts TT)) : FnOk P w K mg base (L2.CX P w) 63 f fd ["poly", "prime"] (spParts K TT) := by
  refine F.ok sc_parts (fun vs H Q E h => ?_) (fun cdv A outer s H vs Q E hr h => ?_)
  · obtain ⟨a, xs, q, hq, rfl, _⟩ := h
    rfl
  · obtain ⟨a, xs, q, hq, rfl, ea, px, ne, hT, k⟩ := h
    have lp := List.length_pos_iff.mpr ne
    refine ⟨_, (pss_cons (ps_expr (pe_own o_refuse_nought_poly (hr.mono (by decide)) rfl (passes_call (takes_of rfl rfl rfl rfl) (fun _ _ _ _ h => h)) (pa_cons (pv 0) (pa_cons (pv 1) pa_nil))))
      (pss_one (ps_ret (pe_tup (pa_cons (pe_ix ix_tup (pv 0) (pe_un un_neg pe_int) (fun _ _ => rfl)) (pa_cons (pe_own o_raw_parts (hr.mono (by decide)) rfl pass0 (pa_cons (pe_own o_raw_level (hr.mono (by decide)) rfl pass0 (pa_cons (pv 0) (pa_cons (pv 1) pa_nil))) (pa_cons (pv 1) pa_nil))) pa_nil)))))) , ?_⟩
    refine ⟨_, rfl, _, rfl, a, xs, q, rfl, hq, px.pol ea, ne, fun H1 s1 => ?_⟩
    have T1 := hT.ext s1
    refine ⟨_, rfl, 1, rfl, a, _, -1, .int (xs.getD (xs.length - 1) 0), rfl, rfl, .inl (.inl (s1 _ _ ea)), atI_last2 lp, ?_⟩
    refine ⟨_, rfl, _, rfl, a, xs, q, rfl, s1 _ _ ea, hq, px, T1, fun v g H2 g2 ev L => ?_⟩
    obtain ⟨n, lg, hn, ex⟩ := lev_ex hq px ne L
    refine ⟨_, rfl, v, g, q, n, hq, rfl, ev, lg, g2.t, fun D ps la rs cs H3 g3 nD eD pr wr P => ?_⟩
    refine ⟨(by show 2 ≤ sizeLine; decide), fun t ht => ?_⟩
    have st := same_upd (o := .tup [.int (xs.getD (xs.length - 1) 0), .ref D]) ht
    have gA := ((Gr.of hT s1).trans g2).trans g3
    exact k t D ps la g rs cs _ (gA.same st) (gA.n _ ht) (((Gr.of hT s1).trans g2).n _ nD) upd_same (st _ _ eD) (pr.keep (kpS st)) (wr.keep (kpS st)) ⟨⟨n, lg, hn, P⟩, ex⟩
theorem sc_rest_roots : FnScope (["poly", "prime", "told", "rest"] : List Str) ["poly", "prime"] (defScope s_rest_roots) := ⟨rfl, rfl, rfl, by decide +kernel, rfl, by decide +kernel, by decide +kernel⟩
def spRoots (K : PySem.W.Frag) (T : List (Addr × Str)) : Sp := fun vs H Q _ => ∃ (a : Addr) (xs : List Int) (q : Nat) (hq : (q : Int) ∈ primes), vs = [.ref a, .int q] ∧ H a = some (.tup (xs.map V.int)) ∧ Po q xs 25 ∧ xs ≠ [] ∧ Tabs T H ∧
  ∀ (D : Addr) (ps : List Addr) (zs : List (Nat × Nat)) (H' : Hp), Gr T H H' → H D = none → H' D = some (.lst (ps.map V.ref)) → Zrs H' ps zs → Rrt q hq xs zs → Q (.ref D) H'
theorem ok_rest_roots {TT : List (Addr × Str)} {f : Addr} {fd : FuncData} {kws : List (Str × V)} (F : FunD K "rest_roots" "rest_roots" (defArgs s_rest_roots) (defBody s_rest_roots) (defScope s_rest_roots) [] kws f fd) (T : Fre mg) (o_refuse_nought_poly : Own P w K mg base (L2.CX P w) 5 "refuse_nought_poly" ["poly", "prime"] [] (spRefNP K)) (o_raw_value : Own P w K mg base CX0 1 "raw_value" ["one", "number", "prime"] [] (spVal K)) (o_taken_out : Own P w K mg base CX0 5 "taken_out" ["poly", "part", "prime"] [] (spTaken TT)) : FnOk P w K mg base (L2.CX P w) 6 f fd ["poly", "prime"] (spRoots K TT) := by
  refine F.ok sc_rest_roots (fun vs H Q E h => ?_) (fun cdv A outer s H vs Q E hr h => ?_)
  · obtain ⟨a, xs, q, hq, rfl, _⟩ := h
    rfl
  · obtain ⟨a, xs, q, hq, rfl, ea, px, ne, hT, k⟩ := h
    have lp := List.length_pos_iff.mpr ne
    refine ⟨_, (pss_cons (ps_expr (pe_own o_refuse_nought_poly (hr.mono (by decide)) rfl (passes_call (takes_of rfl rfl rfl rfl) (fun _ _ _ _ h => h)) (pa_cons (pv 0) (pa_cons (pv 1) pa_nil))))
      (pss_cons (ps_setLc (i := 2) (own := [("rest", 3)]) rfl sc_rest_roots.nd rfl rfl (sw_true rfl rfl rfl (by decide +kernel)) (pi_range1 (by rfl) T.f_range (pa_cons (pv 1) pa_nil)) (blkOk_by (own := [("rest", 3)]) (N := ["poly", "prime", "told", "rest"]) (sc := defScope s_rest_roots) (by decide +kernel)) (fun _ _ _ _ _ => pg_name (i := 3) sc_rest_roots.nd rfl (Or.inl rfl) (Or.inr rfl)) (fun _ _ _ _ _ => (pts_one (pt_cmpR op_eq (pe_own o_raw_value (hr.mono (by decide)) rfl pass0 (pa_cons (pv 0) (pa_cons (pv 3) (pa_cons (pv 1) pa_nil)))) pe_int (nomark _)))) (fun _ _ _ _ _ => (pv 3)))
      (pss_one (ps_ret (pe_lc (own := [("rest", 3)]) (te := (tTup (tCons (tVar 3) (tCons (tOp (rIxT K) (tCall (spTaken TT) [] E0 (tCons (tVar 0) (tCons (tTup (tCons (tOp _ (tUn _ (tVar 3)) (tVar 1)) (tCons (tC (.int 1)) tNil))) (tCons (tVar 1) tNil)))) (tC (.int 0))) tNil)))) rfl sc_rest_roots.nd (pi_list (pv 2)) (blkOk_by (own := [("rest", 3)]) (N := ["poly", "prime", "told", "rest"]) (sc := defScope s_rest_roots) (by decide +kernel)) (fun _ _ _ _ _ => pg_name (i := 3) sc_rest_roots.nd rfl (Or.inl rfl) (Or.inr rfl)) (fun _ _ _ _ _ => pts_nil) (fun _ _ _ _ _ => (pe_tup (pa_cons (pv 3) (pa_cons (pe_ix ix_tup (pe_own o_taken_out (hr.mono (by decide)) rfl pass0 (pa_cons (pv 0) (pa_cons (pe_tup (pa_cons (pe_op op_modN (pe_un un_neg (pv 3)) (pv 1)) (pa_cons pe_int pa_nil))) (pa_cons (pv 1) pa_nil)))) pe_int (fun _ _ => rfl)) pa_nil))))))))) , ?_⟩
    have hp := pm_of hq
    have lo := hp.lo
    have hi := hp.hi
    have lx := px.len
    refine ⟨_, rfl, _, rfl, a, xs, q, rfl, hq, px.pol ea, ne, fun H1 s1 => ?_⟩
    have T1 := hT.ext s1
    refine ⟨_, rfl, (q : Int), rfl, by omega, by omega, fun C hC => ?_⟩
    rw [Int.toNat_natCast]
    refine lc_it walk_range (fun i H' => Same H1 H' ∧ H' C = some (.lst (((List.range i).filter fun z : Nat => decide (ev xs (z : Int) xs.length % (q : Int) = 0)).map fun z : Nat => V.int (z : Int)))) ⟨same_upd hC, upd_same⟩ (fun _ _ _ _ => trivial) ?_ ?_
    · rintro i x H2 H3 hi2 ⟨s2, e2⟩ ⟨rfl, rfl⟩
      show gName 3 (V.int (0 + (i : Int))) _ _ _
      rw [Int.zero_add]
      refine ⟨rfl, _, rfl, _, rfl, _, rfl, a, xs, (i : Int), q, rfl, .inl (.inl (s2 _ _ (s1 _ _ ea))), by omega, px.rs, by omega, by omega, hp, rfl, _, rfl, ite2 (fun hb => ?_) (fun hb => ?_)⟩
      · have z := V.int.inj (of_decide_eq_true hb)
        refine ⟨_, rfl, _, e2, ?_, lcs hC s2, ?_⟩
        · rw [List.length_map]
          have := List.length_filter_le (fun z : Nat => decide (ev xs (z : Int) xs.length % (q : Int) = 0)) (List.range i)
          rw [List.length_range] at this
          exact small1000 (by omega)
        · rw [upd_same, List.range_succ, List.filter_append, List.filter_cons, if_pos (decide_eq_true z), List.map_append]
          rfl
      · have z : ¬ ev xs (i : Int) xs.length % (q : Int) = 0 := fun z => hb (decide_eq_true (by rw [z]))
        refine ⟨s2, ?_⟩
        rw [e2, List.range_succ, List.filter_append, List.filter_cons, if_neg (by rw [decide_eq_false z]; decide), List.filter_nil, List.append_nil]
    · rintro H2 ⟨s2, e2⟩
      have zl : ∀ z ∈ (List.range q).filter (fun z : Nat => decide (ev xs (z : Int) xs.length % (q : Int) = 0)), z < q := fun z hz => List.mem_range.mp (List.mem_filter.mp hz).1
      have zn := List.length_filter_le (fun z : Nat => decide (ev xs (z : Int) xs.length % (q : Int) = 0)) (List.range q)
      rw [List.length_range] at zn
      generalize e3 : (List.range q).filter (fun z : Nat => decide (ev xs (z : Int) xs.length % (q : Int) = 0)) = zs at e2 zl zn
      have s12 := s1.trans s2
      refine ⟨_, rfl, C, rfl, ⟨_, SqL.of e2⟩, fun D hD => ?_⟩
      refine lc_it (walk_list (xs := zs.map fun z : Nat => V.int (z : Int))) (fun i H' => Gr TT H2 H' ∧ ∃ (ps : List Addr) (cs : List (Nat × Nat)), H' D = some (.lst (ps.map V.ref)) ∧ Zrs H' ps cs ∧ cs.map (fun x => x.1) = zs.take i ∧ ∀ (z c : Nat), (z, c) ∈ cs → (VV hq).Cnt (Xp.exF q xs) (Xp.exF q [(-(z : Int)).fmod q, 1]) c)
        ⟨Gr.of (T1.ext s2) (same_upd hD), [], [], upd_same, trivial, rfl, fun z c h => by cases h⟩ (fun i H' _ h => SqL.of (h.1.x _ _ e2 (fun _ z => by cases z))) ?_ ?_
      · rintro i x H4 H5 hi2 ⟨g4, ps, cs, eD, zr, e4, ct⟩ ⟨rfl, hx⟩
        rw [List.length_map] at hi2
        rw [List.getElem?_map] at hx
        obtain ⟨z, hz, rfl⟩ := Option.map_eq_some_iff.mp hx
        have zq := zl z (List.mem_of_getElem? hz)
        have lz := zr.len
        have lc : cs.length = i := by
          have := congrArg List.length e4
          rw [List.length_map, List.length_take] at this
          omega
        have f0 : 0 ≤ (-(z : Int)).fmod (q : Int) := Int.fmod_nonneg_of_pos _ hp.pos
        have f1 : (-(z : Int)).fmod (q : Int) < (q : Int) := Int.fmod_lt_of_pos _ hp.pos
        have lw : Lvl q 1 [(-(z : Int)).fmod q, 1] := ⟨⟨((Rs.nil q hp.pos).add f0 f1).add (by decide) (by omega), trim_last _ 1 rfl (by show (1 : Int) ≠ 0; decide), by show 2 ≤ 25; decide⟩, rfl, rfl⟩
        have aP := g4.tup (s12 _ _ ea)
        refine ⟨rfl, _, rfl, _, rfl, _, rfl, _, rfl, _, rfl, _, _, rfl, rfl, by omega, (by show 2 ≤ sizeLine; decide), fun w hw => ?_⟩
        have sw := same_upd (o := .tup [.int ((-(z : Int)).fmod q), .int 1]) hw
        refine ⟨_, rfl, a, w, xs, _, q, 1, rfl, sw _ _ aP, upd_same, hq, px, ne, lw, Nat.le_refl 1, g4.t.ext sw, fun t u c os H6 g6 et eu tk nd => ?_⟩
        refine ⟨t, _, 0, .int (c : Nat), rfl, rfl, SqT.of et, rfl, (by show 2 ≤ sizeLine; decide), fun v hv => ?_⟩
        have sv := same_upd (o := .tup [.int (z : Int), .int (c : Nat)]) hv
        have g46 := (Gr.of g4.t sw).trans g6
        have eD6 := sv _ _ (g46.x _ _ eD (fun _ z => by cases z))
        refine ⟨_, eD6, ?_, grLst ((g4.trans g46).same sv) hD eD6, ps ++ [v], cs ++ [(z, c)], ?_, ?_, ?_, fun z' c' h => ?_⟩
        · rw [List.length_map]
          exact small1000 (by omega)
        · rw [upd_same, List.map_append]
          rfl
        · exact (Zrs.snoc (z := (z, c)) upd_same ((zr.keep (kpG g46)).keep (kpS sv))).keep (kpU eD6)
        · rw [List.map_append, e4, List.take_add_one, hz]
          rfl
        · rcases List.mem_append.mp h with h | h
          · exact ct z' c' h
          · have := List.mem_singleton.mp h
            cases this
            exact ⟨Xp.exF q os, tk.ex, nd⟩
      · rintro H4 ⟨g4, ps, cs, eD, zr, e4, ct⟩
        rw [show zs.take (zs.map fun z : Nat => V.int (z : Int)).length = zs from List.take_of_length_le (by rw [List.length_map]; exact Nat.le_refl _), ← e3] at e4
        exact k D ps cs H4 ((Gr.of hT s12).trans g4) (s12.free hD) eD zr ⟨e4, ct⟩
end
end Xk
end
section
set_option Elab.async false
set_option linter.all false
set_option maxRecDepth 100000
set_option maxHeartbeats 4000000
namespace Xk
open PySem PySem.Spec PyProof.Rows L2 Xh LamX NdefX
/-! ### what the parts tell: for the law -/
theorem lin_whole {q : Nat} (hq : (q : Int) ∈ primes) {r : List Int} (lv : Lvl q 1 r) : (VV hq).W (Xp.exF q r) := by
  refine ⟨⟨1, Nat.le_refl 1, lv.L hq⟩, fun {j h} l d => ?_⟩
  obtain ⟨c, e⟩ := d
  obtain ⟨j1, lc⟩ := (VV hq).quot (lv.L hq) l e
  by_cases j0 : j = 0
  · subst j0
    exact .inl ((VV hq).nought l)
  · right
    rw [show 1 - j = 0 by omega] at lc
    rw [(VV hq).nought lc] at e
    rw [e]
    grind
theorem w_wh {q k : Nat} (hq : (q : Int) ∈ primes) {r : List Int} (lv : Lvl q k r) (hw : (VV hq).W (Xp.exF q r)) : Wh q r := by
  intro e e1 e2 t ht d
  have le : (VV hq).L e (Xp.exF q (t ++ [1])) := ⟨Xp.Po.of (t ++ [1]), rfl, Xp.lv_lm (pr_of hq).le ht⟩
  have dd : Xp.Div (Xp.exF q (t ++ [1])) (Xp.exF q r) := (Xp.fx_div (a := Xp.Po.of (t ++ [1])) (b := Xp.Po.of r)).mpr d
  have lk := lv.len
  rcases hw.no le dd with z | z
  · rw [z] at le
    have := (VV hq).uniq le (VV hq).one
    omega
  · rw [z] at le
    have := (VV hq).uniq le (lv.L hq)
    omega
/-- the worth at a rest -/
theorem hv_ev' {q : Nat} {f : Xp.Cf} (z : Int) : ∀ xs : List Int, Xp.hv (Xp.mC (q : Int) f) (Xp.mC (q : Int) f z) xs = Xp.mC (q : Int) f (ev xs z xs.length)
  | [] => by
    show (0 : Xp.Fq (q : Int) f) = Xp.mC (q : Int) f 0
    rw [Xp.mC_zero]
  | x :: xs => by
    show Xp.mC (q : Int) f x + Xp.mC (q : Int) f z * Xp.hv (Xp.mC (q : Int) f) (Xp.mC (q : Int) f z) xs = Xp.mC (q : Int) f (ev (x :: xs) z (xs.length + 1))
    rw [hv_ev' z xs, ev_cons, Xp.mC_add, Xp.mC_mul]
theorem lin_lvl {q : Nat} (hq : (q : Int) ∈ primes) (z : Int) : Lvl q 1 [(-z).fmod q, 1] := by
  have hp := pm_of hq
  have lo := hp.lo
  exact ⟨⟨((Rs.nil q hp.pos).add (Int.fmod_nonneg_of_pos _ hp.pos) (Int.fmod_lt_of_pos _ hp.pos)).add (by decide) (by omega), trim_last _ 1 rfl (by show (1 : Int) ≠ 0; decide), by show 2 ≤ 25; decide⟩, rfl, rfl⟩
theorem root_iff {q : Nat} (hq : (q : Int) ∈ primes) (z : Nat) (xs : List Int) : Xp.Div (Xp.exF q [(-(z : Int)).fmod q, 1]) (Xp.exF q xs) ↔ ev xs z xs.length % (q : Int) = 0 := by
  have hp := pm_of hq
  have lo := hp.lo
  have lv := lin_lvl hq (z : Int)
  rw [ex_div]
  generalize hf : co [(-(z : Int)).fmod q, 1] = f
  have D : Xp.Dg q 1 f := by
    rw [← hf]
    exact lv.dg hq
  have e0 : (Xp.Qu.mk Xp.Po.X : Xp.Fq (q : Int) f) = Xp.mC (q : Int) f z := by
    have h1 : (Xp.Qu.mk (Xp.Po.of [(-(z : Int)).fmod q, 1]) : Xp.Fq (q : Int) f) = 0 := Xp.mk_zero.mpr (by
      rw [← hf]
      exact Xp.Dv.self _ _)
    have h2 : (Xp.Qu.mk (Xp.Po.of [(-(z : Int)).fmod q, 1]) : Xp.Fq (q : Int) f) = Xp.mC (q : Int) f ((-(z : Int)).fmod q) + Xp.Qu.mk Xp.Po.X * (Xp.mC (q : Int) f 1 + Xp.Qu.mk Xp.Po.X * 0) := Xp.el_hv (p := (q : Int)) (f := f) [(-(z : Int)).fmod q, 1]
    rw [h1, Xp.mC_one] at h2
    have h3 : Xp.mC (q : Int) f ((-(z : Int)).fmod q) + Xp.mC (q : Int) f z = 0 := by
      rw [← Xp.mC_add, ← Xp.mC_zero]
      refine Xp.mC_eqm ?_
      rw [fm_em hp.pos, Int.emod_add_emod, Int.add_left_neg]
    grind
  have e1 : (Xp.Qu.mk (Xp.Po.of xs) : Xp.Fq (q : Int) f) = Xp.mC (q : Int) f (ev xs z xs.length) := by
    have := Xp.el_hv (p := (q : Int)) (f := f) xs
    rw [e0, hv_ev'] at this
    exact this
  refine (Xp.mk_zero (p := (q : Int)) (f := f) (a := Xp.Po.of xs)).symm.trans ?_
  rw [e1]
  constructor
  · intro h
    exact Xp.mC_nul (pr_of hq).le D (Nat.le_refl 1) h
  · intro h
    rw [← Xp.mC_zero]
    exact Xp.mC_eqm (by rw [h, Int.zero_emod])
/-! the product of parts with their counts -/
section
variable {A : Type} [Lean.Grind.CommRing A] {V : Xp.Lvs A}
def prodP (l : List (A × Nat)) : A := l.foldr (fun x a => x.1 ^ x.2 * a) 1
theorem prodP_app : ∀ a b : List (A × Nat), prodP (a ++ b) = prodP a * prodP b
  | [], b => by show prodP b = 1 * prodP b; grind
  | x :: a, b => by
    show x.1 ^ x.2 * prodP (a ++ b) = x.1 ^ x.2 * prodP a * prodP b
    rw [prodP_app a b]
    grind
theorem prodP_one (x : A × Nat) : prodP [x] = x.1 ^ x.2 := by
  show x.1 ^ x.2 * 1 = _
  grind
theorem out_ex : ∀ {l : List A} (f : A) {n : Nat}, (∀ w ∈ l, V.W w) → V.L n f → ∃ h, V.Out f l h
  | [], f, n, _, _ => ⟨f, .nil f⟩
  | w :: l, f, n, h, lf => by
    obtain ⟨m, g, j, e, nd, lg, _⟩ := Xp.Lvs.took (h w List.mem_cons_self) lf
    obtain ⟨k, o⟩ := out_ex g (fun x hx => h x (List.mem_cons_of_mem _ hx)) lg
    exact ⟨k, .cons e nd o⟩
theorem prodP_all {f : A} {n : Nat} {l : List A} {cs : List Nat} (lf : V.L n f) (ws : V.Ws f l) (lc : cs.length = l.length) (ct : ∀ (i : Nat) (w : A) (c : Nat), l[i]? = some w → cs[i]? = some c → V.Cnt f w c) : f = prodP (l.zip cs) := by
  have hl : ∀ w ∈ l, V.W w := fun w hw => ((ws.iff w).mp hw).1
  obtain ⟨h, o⟩ := out_ex f hl lf
  have e := o.prod ws.nd hl cs lc ct
  rw [o.done hl lf fun w hw d => (ws.iff w).mpr ⟨hw, d⟩] at e
  exact e
theorem prodP_lv : ∀ {l : List (A × Nat)}, (∀ x ∈ l, ∃ k, V.L k x.1) → ∃ n, V.L n (prodP l)
  | [], _ => ⟨0, V.one⟩
  | x :: l, h => by
    obtain ⟨k, lk⟩ := h x List.mem_cons_self
    obtain ⟨n, ln⟩ := prodP_lv fun y hy => h y (List.mem_cons_of_mem _ hy)
    exact ⟨_, V.mul (Xp.Lvs.lpow lk x.2) ln⟩
end
theorem len_lm {q d n : Nat} {ms : List Int} {c : Int} {x : Xp.Fx q} (hq : (q : Int) ∈ primes) (pm : Po q ms n) (l : (VV hq).L d x) (e : Xp.exF q ms = Xp.mC (q : Int) Xp.nul c * x) : ms.length ≤ d + 1 := by
  obtain ⟨b, rfl, lb⟩ := l
  have e2 := Xp.fx_eq (a := Xp.Po.of ms) (b := Xp.Po.C c * b) |>.mp e
  have e6 : (Xp.Po.C c * b).c = Xp.sc c b.c := by
    show Xp.cv (Xp.sc c Xp.one) b.c = _
    rw [Xp.cvC, Xp.cv_sc, Xp.cv1]
  rw [e6] at e2
  rcases Nat.lt_or_ge (d + 1) ms.length with h | h
  · exfalso
    have z := e2 (ms.length - 1)
    have o := lb.out (ms.length - 1) (by omega)
    have z : ms.getD (ms.length - 1) 0 % (q : Int) = (c * b.c (ms.length - 1)) % (q : Int) := z
    rw [Int.mul_emod, o, Int.mul_zero, Int.zero_emod] at z
    obtain ⟨r0, r1⟩ := pm.rs (ms.length - 1)
    rw [Int.emod_eq_of_lt r0 r1] at z
    exact trim_ne ms (fun y => by rw [y] at h; exact absurd h (Nat.not_lt_zero _)) pm.tr z
  · exact h
end Xk
end
section
set_option Elab.async false
set_option linter.all false
set_option maxRecDepth 100000
set_option maxHeartbeats 4000000
namespace Xk
open PySem PySem.Spec PyProof.Rows L2 Xh LamX NdefX
/-! ### a polynomial's worth at a number, in the law -/
noncomputable section
variable {P : Program} {w : World} {K : PySem.W.Frag} {mg : Str → Option Value} {base : Heap}
theorem sc_law_worth : FnScope (["_law_one", "_law_number", "_law_p", "_law_found", "_law_power", "_law_rest"] : List Str) ["_law_one", "_law_number", "_law_p"] (defScope s_law_worth) := ⟨rfl, rfl, rfl, by decide +kernel, rfl, by decide +kernel, by decide +kernel⟩
theorem ok_law_worth {f : Addr} {fd : FuncData} (F : FunD K "_law_worth" "_law_worth" (defArgs s_law_worth) (defBody s_law_worth) (defScope s_law_worth) [] [] f fd) : FnOk P w K mg base CX0 1 f fd ["_law_one", "_law_number", "_law_p"] (spVal K) := by
  refine F.ok sc_law_worth (fun vs H Q E h => ?_) (fun cdv A outer s H vs Q E hr h => ?_)
  · obtain ⟨a, xs, n, p, rfl, _⟩ := h
    rfl
  · obtain ⟨a, xs, n, p, rfl, hS, hl, hR, n0, n1, hp, k⟩ := h
    have lo := hp.lo
    have hi := hp.hi
    have nz : p ≠ 0 := by omega
    refine ⟨_, PSs.nox (pss_cons (ps_set (i := 3) sc_law_worth.nd rfl (Or.inl rfl) pe_int)
      (pss_cons (ps_set (i := 4) sc_law_worth.nd rfl (Or.inl rfl) pe_int)
      (pss_cons (ps_for PassesOwn.never rfl (pi_tup (pv 0)) (pg_name (i := 5) sc_law_worth.nd rfl (Or.inl rfl)) (pss_cons (ps_set (i := 3) sc_law_worth.nd rfl (Or.inl rfl) (pe_op op_modN (pe_op op_add (pv 3) (pe_op op_mul (pv 5) (pv 4))) (pv 2)))
      (pss_one (ps_set (i := 4) sc_law_worth.nd rfl (Or.inl rfl) (pe_op op_modN (pe_op op_mul (pv 4) (pv 1)) (pv 2))))))
      (pss_one (ps_ret (pv 3)))))) , ?_⟩
    refine ⟨_, rfl, a, rfl, ⟨_, hS⟩, ?_⟩
    refine for_it (walk_tup (xs := xs.map V.int)) (fun i σ' H2 => ∃ x5 : Option V, σ' = [some (.ref a), some (.int n), some (.int p), some (.int (ev xs n i % p)), some (.int (n ^ i % p)), x5] ∧ H2 = H) ⟨none, by show _ = [some (V.ref a), some (V.int n), some (V.int p), some (V.int (0 % p)), some (V.int (n ^ 0 % p)), none]; rw [Int.zero_emod, Int.pow_zero, Int.emod_eq_of_lt (by decide) (by omega)]; rfl, rfl⟩ (fun i σ' H2 _ ⟨_, _, e⟩ => by rw [e]; exact hS) ?_ ?_
    · rintro i x σ' H2 H3 hi2 ⟨x5, rfl, rfl⟩ ⟨rfl, hx⟩
      rw [List.length_map] at hi2
      have e3 := (map_at xs i hi2).symm.trans hx
      cases e3
      obtain ⟨r0, r1⟩ := hR i
      have b0 := Int.emod_nonneg (n ^ i) nz
      have b1 := Int.emod_lt_of_pos (n ^ i) hp.pos
      have c0 := Int.emod_nonneg (ev xs n i) nz
      have c1 := Int.emod_lt_of_pos (ev xs n i) hp.pos
      refine ⟨_, rfl, _, rfl, _, rfl, _, _, rfl, rfl, .inl ⟨by omega, by omega⟩, _, _, rfl, rfl, _, rfl, _, _, rfl, rfl, nz, ?_⟩
      refine ⟨_, rfl, _, rfl, _, _, rfl, rfl, .inl ⟨by omega, by omega⟩, _, rfl, _, _, rfl, rfl, nz, some (.int (xs.getD i 0)), ?_, rfl⟩
      have e1 : (ev xs n i % p + xs.getD i 0 * (n ^ i % p)).fmod p = ev xs n (i + 1) % p := by
        rw [fm_em hp.pos]
        show _ = (ev xs n i + xs.getD i 0 * n ^ i) % p
        rw [Int.add_emod, Int.emod_emod, Int.mul_emod, Int.emod_emod, ← Int.mul_emod, ← Int.add_emod]
      have e2 : (n ^ i % p * n).fmod p = n ^ (i + 1) % p := by
        rw [fm_em hp.pos, Int.pow_succ, Int.mul_emod, Int.emod_emod, ← Int.mul_emod]
      rw [← e1, ← e2]
      rfl
    · rintro σ' H2 ⟨x5, rfl, rfl⟩
      rw [List.length_map]
      exact ⟨_, rfl, k⟩
end
end Xk
end
section
set_option Elab.async false
set_option linter.all false
set_option maxRecDepth 100000
set_option maxHeartbeats 4000000
namespace Xk
open PySem PySem.Spec PyProof.Rows L2 Xh LamX NdefX
/-! ### ranks: pairs of a length and a part -/
def Rks (H : Hp) : List Addr → List Addr → List (List Int) → Prop
  | [], [], [] => True
  | p :: ps, l :: ls, r :: rs => (H p = some (.tup [.int (r.length : Nat), .ref l]) ∧ H l = some (.tup (r.map V.int))) ∧ Rks H ps ls rs
  | _, _, _ => False
theorem Rks.len {H : Hp} : ∀ {ps ls : List Addr} {rs : List (List Int)}, Rks H ps ls rs → ps.length = rs.length
  | [], [], [], _ => rfl
  | _ :: _, _ :: _, _ :: _, h => congrArg Nat.succ (Rks.len h.2)
theorem Rks.keep {H H' : Hp} (k : ∀ a xs, H a = some (.tup xs) → H' a = some (.tup xs)) : ∀ {ps ls : List Addr} {rs : List (List Int)}, Rks H ps ls rs → Rks H' ps ls rs
  | [], [], [], _ => trivial
  | _ :: _, _ :: _, _ :: _, h => ⟨⟨k _ _ h.1.1, k _ _ h.1.2⟩, Rks.keep k h.2⟩
theorem Rks.snoc {H : Hp} {p l : Addr} {r : List Int} (e : H p = some (.tup [.int (r.length : Nat), .ref l])) (e2 : H l = some (.tup (r.map V.int))) : ∀ {ps ls : List Addr} {rs : List (List Int)}, Rks H ps ls rs → Rks H (ps ++ [p]) (ls ++ [l]) (rs ++ [r])
  | [], [], [], _ => ⟨⟨e, e2⟩, trivial⟩
  | _ :: _, _ :: _, _ :: _, h => ⟨h.1, Rks.snoc e e2 h.2⟩
theorem Rks.at {H : Hp} : ∀ {ps ls : List Addr} {rs : List (List Int)}, Rks H ps ls rs → ∀ {i : Nat} {x : V}, (ps.map V.ref)[i]? = some x → ∃ (p l : Addr) (r : List Int), x = .ref p ∧ rs[i]? = some r ∧ H p = some (.tup [.int (r.length : Nat), .ref l]) ∧ H l = some (.tup (r.map V.int))
  | [], [], [], _, i, x, hx => by cases hx
  | p :: ps, l :: ls, r :: rs, h, 0, x, hx => by
    cases hx
    exact ⟨p, l, r, rfl, rfl, h.1.1, h.1.2⟩
  | p :: ps, l :: ls, r :: rs, h, i + 1, x, hx => Rks.at h.2 (i := i) (x := x) hx
/-- what such a pair holds -/
def knI (H : Hp) (t : Addr) : Int × List Int := match H t with
  | some (.tup [.int n, .ref u]) => (n, tupI H u)
  | _ => (0, [])
theorem knI_at {H : Hp} {p l : Addr} {r : List Int} (e : H p = some (.tup [.int (r.length : Nat), .ref l])) (e2 : H l = some (.tup (r.map V.int))) : knI H p = (((r.length : Nat) : Int), r) := by
  unfold knI
  rw [e]
  show ((r.length : Int), tupI H l) = _
  rw [tupI_at e2]
theorem Rks.knI {H : Hp} : ∀ {ps ls : List Addr} {rs : List (List Int)}, Rks H ps ls rs → ps.map (Xk.knI H) = rs.map (fun r => (((r.length : Nat) : Int), r)) ∧ ∀ t ∈ ps, ∃ u, H t = some (.tup [.int (Xk.knI H t).1, .ref u]) ∧ H u = some (.tup ((Xk.knI H t).2.map V.int))
  | [], [], [], _ => ⟨rfl, fun t h => nomatch h⟩
  | p :: ps, l :: ls, r :: rs, h => by
    obtain ⟨h1, h2⟩ := Rks.knI h.2
    have e := knI_at h.1.1 h.1.2
    refine ⟨by rw [List.map_cons, h1, e]; rfl, fun t ht => ?_⟩
    rcases List.mem_cons.mp ht with rfl | ht
    · rw [e]
      exact ⟨l, h.1.1, h.1.2⟩
    · exact h2 t ht
theorem Rks.ord {H : Hp} {ps ls : List Addr} {rs : List (List Int)} (h : Rks H ps ls rs) (o : Kord rs) : ps.Pairwise fun t u => KnO.lx (Xk.knI H u) (Xk.knI H t) = false := by
  have e := h.knI.1
  have o2 : (rs.map (fun r => (((r.length : Nat) : Int), r))).Pairwise fun t u => KnO.lx u t = false := List.pairwise_map.mpr o
  rw [← e] at o2
  exact List.pairwise_map.mp o2
/-! as data -/
def rkD (r : List Int) : PyData := .tuple [.int (r.length : Nat), .tuple (r.map PyData.int)]
theorem dp_rk {K : PySem.W.Frag} {H : Hp} {p l : Addr} {r : List Int} (e : H p = some (.tup [.int (r.length : Nat), .ref l])) (e2 : H l = some (.tup (r.map V.int))) : Dp K H (.ref p) (rkD r) := .tup (SqT.of e) (.cons (.int _) (.cons (dp_tup (SqT.of e2)) .nil))
theorem dp_rks {K : PySem.W.Frag} {H : Hp} : ∀ {ps ls : List Addr} {rs : List (List Int)}, Rks H ps ls rs → DpAll K H (ps.map V.ref) (rs.map rkD)
  | [], [], [], _ => .nil
  | _ :: _, _ :: _, _ :: _, h => .cons (dp_rk h.1.1 h.1.2) (dp_rks h.2)
theorem rkD_lay : ∀ rs : List (List Int), PyData.canLayAll0 (rs.map rkD) = true
  | [] => rfl
  | r :: rs => by simp [rkD, PyData.canLayAll0, PyData.canLay0, PySem.W.ke_canLayAll0, rkD_lay rs]
theorem rkD_deep1 (r : List Int) : (rkD r).depth ≤ 2 := by
  simp [rkD, PyData.depth, PyData.depthAll, PySem.W.ke_depthAll]
theorem rkD_deep : ∀ rs : List (List Int), PyData.depthAll (rs.map rkD) ≤ 2
  | [] => Nat.zero_le _
  | r :: rs => by
    rw [List.map_cons]
    unfold PyData.depthAll
    exact Nat.max_le.mpr ⟨rkD_deep1 r, rkD_deep rs⟩
theorem sh_rks (rs : List (List Int)) : SeqAt.shaped (.list (rs.map rkD)) = true := by
  have h := rkD_deep rs
  unfold SeqAt.shaped
  rw [Bool.and_eq_true]
  refine ⟨?_, decide_eq_true ?_⟩
  · simpa [PyData.canLay0] using rkD_lay rs
  · simp only [PyData.depth]
    omega
theorem eqv_rk (r s : List Int) : PyData.eqv (rkD r) (rkD s) = decide (r = s) := by
  have z := eqvAll_dec r s
  by_cases h : r = s
  · subst h
    simp [rkD, PyData.eqv, PyData.eqvAll, z]
  · simp [rkD, PyData.eqv, PyData.eqvAll, z, h]
theorem eqvAll_rks : ∀ rs : List (List Int), PyData.eqvAll (rs.map rkD) (rs.map rkD) = true
  | [] => rfl
  | r :: rs => by
    have ih := eqvAll_rks rs
    have z := eqv_rk r r
    rw [decide_eq_true rfl] at z
    rw [List.map_cons]
    unfold PyData.eqvAll
    rw [z, ih]
    rfl
theorem eqv_rks (rs : List (List Int)) : PyData.eqv (.list (rs.map rkD)) (.list (rs.map rkD)) = true := by
  have z := eqvAll_rks rs
  unfold PyData.eqv
  exact z
theorem rkD_plain1 (r : List Int) : (rkD r).plain = true := PyData.plain_of_canLay0 _ (by
  have := rkD_lay [r]
  simpa [PyData.canLayAll0] using this)
theorem rkD_plain : ∀ rs : List (List Int), PyData.plainAll (rs.map rkD) = true
  | [] => rfl
  | r :: rs => by
    rw [List.map_cons]
    unfold PyData.plainAll
    rw [rkD_plain1, rkD_plain rs]
    rfl
theorem rk_count {rs : List (List Int)} (nd : rs.Nodup) (r : List Int) : (rs.map rkD).countP (fun z => PyData.eqv z (rkD r)) ≤ 1 := by
  induction rs with
  | nil => exact Nat.zero_le _
  | cons s rs ih =>
    have nd' := List.nodup_cons.mp nd
    rw [List.map_cons, List.countP_cons, eqv_rk]
    by_cases e : s = r
    · rw [decide_eq_true e, if_pos rfl]
      have z : (rs.map rkD).countP (fun z => PyData.eqv z (rkD r)) = 0 := by
        rw [List.countP_eq_zero]
        intro x hx
        obtain ⟨t, ht, rfl⟩ := List.mem_map.mp hx
        rw [eqv_rk, decide_eq_true_eq]
        intro h
        exact nd'.1 (e ▸ h ▸ ht)
      omega
    · rw [decide_eq_false e, if_neg (by decide)]
      exact ih nd'.2
/-- pairs of numbers, and one number, as data -/
theorem any_none {n : Nat} : ((List.replicate n false).any id) = false := by
  induction n with
  | zero => rfl
  | succ n ih =>
    rw [List.replicate_succ, List.any_cons, ih]
    rfl
/-! roots, by parts -/
theorem const_no {q : Nat} (hq : (q : Int) ∈ primes) {l : Int} (h : l % (q : Int) ≠ 0) {w : Xp.Fx q} (hw : (VV hq).W w) : ¬ Xp.Div w (Xp.mC (q : Int) Xp.nul l) := fun d => by
  have z := (Xp.cs_cst (pr_of hq) (fb_primes hq)).own ⟨l, rfl⟩ hw d
  rw [← Xp.mC_zero] at z
  have := Xp.fx_C z
  rw [Int.zero_emod] at this
  exact h this
theorem root_in {q n : Nat} {hq : (q : Int) ∈ primes} {xs R : List Int} {rs : List (List Int)} {cs : List Nat} {l : Int} (hl : l % (q : Int) ≠ 0) (lvR : Lvl q n R) (P : Prt q n hq R rs cs) (e : Xp.exF q xs = Xp.mC (q : Int) Xp.nul l * Xp.exF q R) {z : Nat} (h : ev xs z xs.length % (q : Int) = 0) : ∃ (j c : Nat), rs[j]? = some [(-(z : Int)).fmod q, 1] ∧ cs[j]? = some c := by
  have lw := lin_lvl hq (z : Int)
  have hw := lin_whole hq lw
  have d := (root_iff hq z xs).mpr h
  rw [e] at d
  have dR : Xp.Div (Xp.exF q [(-(z : Int)).fmod q, 1]) (Xp.exF q R) := (hw.prime d).resolve_left (const_no hq hl hw)
  have hm := (P.ws.iff _).mpr ⟨hw, dR⟩
  obtain ⟨r, hr, er⟩ := List.mem_map.mp hm
  obtain ⟨k, _, lk⟩ := P.lv r hr
  have := ex_inj lk.po lw.po er
  subst this
  obtain ⟨j, hj⟩ := List.mem_iff_getElem?.mp hr
  have jl := (List.getElem?_eq_some_iff.mp hj).1
  exact ⟨j, cs[j]'(by rw [P.len]; exact jl), hj, List.getElem?_eq_getElem _⟩
theorem cnt_made {q : Nat} {hq : (q : Int) ∈ primes} {l : Int} (hl : l % (q : Int) ≠ 0) {x R w : Xp.Fx q} {c : Nat} (hw : (VV hq).W w) (e : x = Xp.mC (q : Int) Xp.nul l * R) (h : (VV hq).Cnt R w c) : (VV hq).Cnt x w c := by
  obtain ⟨g, eg, ng⟩ := h.ex
  exact ⟨Xp.mC (q : Int) Xp.nul l * g, by rw [e, eg]; grind, fun d => (hw.prime d).elim (const_no hq hl hw) ng⟩
theorem zs_eq {q : Nat} {hq : (q : Int) ∈ primes} {x : Xp.Fx q} {zs ys : List (Nat × Nat)} (e : zs.map (fun x => x.1) = ys.map (fun x => x.1)) (h1 : ∀ z c : Nat, (z, c) ∈ zs → (VV hq).Cnt x (Xp.exF q [(-(z : Int)).fmod q, 1]) c) (h2 : ∀ z c : Nat, (z, c) ∈ ys → (VV hq).Cnt x (Xp.exF q [(-(z : Int)).fmod q, 1]) c) : zs = ys := by
  induction zs generalizing ys with
  | nil =>
    cases ys with
    | nil => rfl
    | cons y ys => cases e
  | cons z zs ih =>
    cases ys with
    | nil => cases e
    | cons y ys =>
      rw [List.map_cons, List.map_cons] at e
      injection e with e1 e2
      have c1 := h1 z.1 z.2 List.mem_cons_self
      have c2 := h2 y.1 y.2 List.mem_cons_self
      rw [← e1] at c2
      have e3 := Xp.Lvs.Cnt.uniq (lin_whole hq (lin_lvl hq (z.1 : Int))) c1 c2
      rw [ih e2 (fun a b h => h1 a b (List.mem_cons_of_mem _ h)) (fun a b h => h2 a b (List.mem_cons_of_mem _ h)), Prod.ext e1 e3]
/-- the told parts as data -/
def ptD (x : List Int × Nat) : PyData := .tuple [.tuple (x.1.map PyData.int), .int (x.2 : Nat)]
theorem dp_pts {K : PySem.W.Frag} {H : Hp} : ∀ {ps la : List Addr} {rs : List (List Int)} {cs : List Nat}, PrtL H ps la cs → Rws H la rs → DpAll K H (ps.map V.ref) ((rs.zip cs).map ptD)
  | [], [], [], [], _, _ => .nil
  | _ :: _, _ :: _, _ :: _, _ :: _, h, g => .cons (.tup (SqT.of h.1) (.cons (dp_tup (SqT.of g.1)) (.cons (.int _) .nil))) (dp_pts h.2 g.2)
theorem ptD_lay : ∀ xs : List (List Int × Nat), PyData.canLayAll0 (xs.map ptD) = true
  | [] => rfl
  | x :: xs => by simp [ptD, PyData.canLayAll0, PyData.canLay0, PySem.W.ke_canLayAll0, ptD_lay xs]
theorem ptD_deep1 (x : List Int × Nat) : (ptD x).depth ≤ 2 := by
  simp [ptD, PyData.depth, PyData.depthAll, PySem.W.ke_depthAll]
theorem ptD_deep : ∀ xs : List (List Int × Nat), PyData.depthAll (xs.map ptD) ≤ 2
  | [] => Nat.zero_le _
  | x :: xs => by
    rw [List.map_cons]
    unfold PyData.depthAll
    exact Nat.max_le.mpr ⟨ptD_deep1 x, ptD_deep xs⟩
theorem sh_pts (xs : List (List Int × Nat)) : SeqAt.shaped (.list (xs.map ptD)) = true := by
  have h := ptD_deep xs
  unfold SeqAt.shaped
  rw [Bool.and_eq_true]
  refine ⟨?_, decide_eq_true ?_⟩
  · simpa [PyData.canLay0] using ptD_lay xs
  · simp only [PyData.depth]
    omega
theorem pts_no0 : ∀ xs : List (List Int × Nat), ((xs.map ptD).any fun z => PyData.eqv z (.int 0)) = false
  | [] => rfl
  | x :: xs => by
    rw [List.map_cons, List.any_cons, pts_no0 xs]
    rfl
/-! two known ones -/
theorem rs_litA {p : Int} {xs : List Int} (h : ∀ x ∈ xs, 0 ≤ x ∧ x < p) (hp : 0 < p) : Rs p xs := fun k => Xp.cf_in h hp k
theorem nodup_same {α : Type} {x : α} : ∀ {l : List α}, l.Nodup → (∀ y ∈ l, y = x) → x ∈ l → l = [x]
  | [], _, _, h => by cases h
  | [y], _, h, _ => by rw [h y List.mem_cons_self]
  | y :: z :: l, nd, h, _ => by
    have e1 := h y List.mem_cons_self
    have e2 := h z (List.mem_cons_of_mem _ List.mem_cons_self)
    exact absurd (by rw [e1, e2]; exact List.mem_cons_self) (List.nodup_cons.mp nd).1
theorem cube {q : Nat} (w : Xp.Fx q) : w ^ 3 = w * w ^ 2 := by
  have h : w ^ (2 + 1) = w ^ 2 * w := Lean.Grind.Semiring.pow_succ w 2
  show w ^ (2 + 1) = _
  rw [h]
  generalize w ^ 2 = v
  grind
theorem told3 {hq : ((3 : Nat) : Int) ∈ primes} {R : List Int} {rs : List (List Int)} {cs : List Nat} (PP : PrtP 3 hq [2, 0, 0, 2] R rs cs) : rs = [[1, 1]] ∧ cs = [3] := by
  obtain ⟨⟨n, lvR, _, P⟩, ex⟩ := PP
  have lw : Lvl 3 1 [1, 1] := ⟨⟨rs_litA (by decide) (by decide), by decide, by decide⟩, rfl, rfl⟩
  have hw := lin_whole hq lw
  have ew : Xp.exF 3 [1, 1] ^ 3 = Xp.exF 3 [1, 0, 0, 1] := by
    have pw := Xp.spr_pow (pr_of hq) (fb_primes hq) (Xp.Po.of [1, 1])
    refine pw.trans ?_
    refine Xp.fx_eq (b := Xp.Po.of [1, 0, 0, 1]) |>.mpr (eqv_fun fun k => ?_)
    show Xp.spr 3 (co [1, 1]) k = co [1, 0, 0, 1] k
    unfold Xp.spr
    match k with
    | 0 => rfl
    | 1 => rfl
    | 2 => rfl
    | 3 => rfl
    | k + 4 =>
      have e1 : co [1, 0, 0, 1] (k + 4) = 0 := getD_over (by show 4 ≤ k + 4; omega)
      rw [e1]
      by_cases h : (k + 4) % 3 = 0
      · rw [if_pos h]
        exact getD_over (by show 2 ≤ (k + 4) / 3; omega)
      · rw [if_neg h]
  have e2 : Xp.exF 3 [2, 0, 0, 2] = Xp.mC 3 Xp.nul 2 * Xp.exF 3 [1, 0, 0, 1] := by
    refine Xp.fx_eq (p := 3) (a := Xp.Po.of [2, 0, 0, 2]) (b := Xp.Po.C 2 * Xp.Po.of [1, 0, 0, 1]) |>.mpr (eqv_fun fun k => ?_)
    have e6 : (Xp.Po.C 2 * Xp.Po.of [1, 0, 0, 1]).c = Xp.sc 2 (co [1, 0, 0, 1]) := by
      show Xp.cv (Xp.sc 2 Xp.one) (co [1, 0, 0, 1]) = _
      rw [Xp.cvC, Xp.cv_sc, Xp.cv1]
    rw [e6]
    show ([2, 0, 0, 2] : List Int).getD k 0 = 2 * ([1, 0, 0, 1] : List Int).getD k 0
    match k with
    | 0 => rfl
    | 1 => rfl
    | 2 => rfl
    | 3 => rfl
    | k + 4 => rfl
  have u2 : (Xp.mC 3 Xp.nul 2 : Xp.Fx 3) * Xp.mC 3 Xp.nul 2 = 1 := by
    rw [← Xp.mC_mul, ← Xp.mC_one]
    exact Xp.mC_eqm (by decide)
  have eR : Xp.exF 3 R = Xp.exF 3 [1, 1] ^ 3 := by
    have ex : Xp.exF 3 [2, 0, 0, 2] = Xp.mC 3 Xp.nul 2 * Xp.exF 3 R := ex
    rw [e2, ← ew] at ex
    have z : (Xp.mC 3 Xp.nul 2 : Xp.Fx 3) * (Xp.mC 3 Xp.nul 2 * Xp.exF 3 [1, 1] ^ 3) = Xp.mC 3 Xp.nul 2 * (Xp.mC 3 Xp.nul 2 * Xp.exF 3 R) := by rw [ex]
    have z1 : (Xp.mC 3 Xp.nul 2 : Xp.Fx 3) * (Xp.mC 3 Xp.nul 2 * Xp.exF 3 [1, 1] ^ 3) = Xp.exF 3 [1, 1] ^ 3 := by
      have : (Xp.mC 3 Xp.nul 2 : Xp.Fx 3) * (Xp.mC 3 Xp.nul 2 * Xp.exF 3 [1, 1] ^ 3) = (Xp.mC 3 Xp.nul 2 * Xp.mC 3 Xp.nul 2) * Xp.exF 3 [1, 1] ^ 3 := by grind
      rw [this, u2]
      grind
    have z2 : (Xp.mC 3 Xp.nul 2 : Xp.Fx 3) * (Xp.mC 3 Xp.nul 2 * Xp.exF 3 R) = Xp.exF 3 R := by
      have : (Xp.mC 3 Xp.nul 2 : Xp.Fx 3) * (Xp.mC 3 Xp.nul 2 * Xp.exF 3 R) = (Xp.mC 3 Xp.nul 2 * Xp.mC 3 Xp.nul 2) * Xp.exF 3 R := by grind
      rw [this, u2]
      grind
    rw [z1, z2] at z
    exact z.symm
  have hin : Xp.exF 3 [1, 1] ∈ rs.map (Xp.exF 3) := (P.ws.iff _).mpr ⟨hw, ⟨Xp.exF 3 [1, 1] ^ 2, by rw [eR]; exact cube _⟩⟩
  have ers : rs = [[1, 1]] := by
    have nd : rs.Nodup := List.Pairwise.of_map (Xp.exF 3) (fun _ _ h e => h (congrArg _ e)) P.ws.nd
    have hs : ∀ r ∈ rs, r = [1, 1] := fun r hr => by
      obtain ⟨k, _, lk⟩ := P.lv r hr
      obtain ⟨h1, h2⟩ := (P.ws.iff _).mp (List.mem_map_of_mem (f := Xp.exF 3) hr)
      rw [eR] at h2
      exact ex_inj lk.po lw.po (h1.eq hw (h1.pow 3 h2))
    obtain ⟨r, hr, er⟩ := List.mem_map.mp hin
    have := hs r hr
    subst this
    exact nodup_same nd hs hr
  subst ers
  refine ⟨rfl, ?_⟩
  have lc := P.len
  match cs, lc with
  | [c], _ =>
    have c1 := P.cnt 0 [1, 1] c rfl rfl
    have c2 : (VV hq).Cnt (Xp.exF 3 R) (Xp.exF 3 [1, 1]) 3 := ⟨1, by rw [eR]; grind, hw.not_one⟩
    rw [Xp.Lvs.Cnt.uniq hw c1 c2]
theorem told1 {q : Nat} {hq : (q : Int) ∈ primes} {R : List Int} {rs : List (List Int)} {cs : List Nat} (PP : PrtP q hq [1] R rs cs) : rs = [] ∧ cs = [] := by
  obtain ⟨⟨n, lvR, hn, P⟩, _⟩ := PP
  have n0 : n = 0 := by
    have : n + 1 = 1 := hn
    omega
  subst n0
  have e := (VV hq).nought (lvR.L hq)
  have er : rs = [] := by
    match rs, P with
    | [], _ => rfl
    | r :: rs, P =>
      obtain ⟨h1, h2⟩ := (P.ws.iff (Xp.exF q r)).mp (by rw [List.map_cons]; exact List.mem_cons_self)
      rw [e] at h2
      exact absurd h2 h1.not_one
  subst er
  exact ⟨rfl, List.length_eq_zero_iff.mp P.len⟩
end Xk
end
section
set_option Elab.async false
set_option linter.all false
set_option maxRecDepth 100000
set_option maxHeartbeats 4000000
namespace Xk
open PySem PySem.Spec PyProof.Rows L2 Xh LamX NdefX
theorem Wd.put {d : Addr} {T : List (Addr × Str)} {qs : List (Addr × HO)} {H : Hp} (w : Wd d T qs H) {p : Addr} {o : HO} (e : H p = some o) (hp : p ≠ d) (ho : ∀ ps, o ≠ .tbl ps) : Wd d T ((p, o) :: qs) H := by
  refine ⟨w.D, w.T, fun r hr => ?_⟩
  rcases List.mem_cons.mp hr with rfl | hr
  · exact ⟨hp, e, ho⟩
  · exact w.q r hr
theorem Wd.putT {d : Addr} {T : List (Addr × Str)} {qs : List (Addr × HO)} {H : Hp} (w : Wd d T qs H) {p : Addr} {xs : List V} (e : H p = some (.tup xs)) : Wd d T ((p, .tup xs) :: qs) H := by
  refine w.put e (fun z => ?_) (fun _ z => by cases z)
  obtain ⟨c, ns, i, r, g, e2, _⟩ := w.D
  rw [z, e2] at e
  cases e
theorem Wd.a0 {d p : Addr} {o : HO} {T : List (Addr × Str)} {qs : List (Addr × HO)} {H : Hp} (w : Wd d T ((p, o) :: qs) H) : H p = some o := w.at List.mem_cons_self
theorem Wd.tl {d : Addr} {q : Addr × HO} {T : List (Addr × Str)} {qs : List (Addr × HO)} {H : Hp} (w : Wd d T (q :: qs) H) : Wd d T qs H := w.sub fun _ h => List.mem_cons_of_mem _ h
theorem Wd.a1 {d p : Addr} {o : HO} {q : Addr × HO} {T : List (Addr × Str)} {qs : List (Addr × HO)} {H : Hp} (w : Wd d T (q :: (p, o) :: qs) H) : H p = some o := w.tl.a0
theorem Wd.a2 {d p : Addr} {o : HO} {q q2 : Addr × HO} {T : List (Addr × Str)} {qs : List (Addr × HO)} {H : Hp} (w : Wd d T (q :: q2 :: (p, o) :: qs) H) : H p = some o := w.tl.tl.a0
theorem Wd.a3 {d p : Addr} {o : HO} {q q2 q3 : Addr × HO} {T : List (Addr × Str)} {qs : List (Addr × HO)} {H : Hp} (w : Wd d T (q :: q2 :: q3 :: (p, o) :: qs) H) : H p = some o := w.tl.tl.tl.a0
theorem Wd.a4 {d p : Addr} {o : HO} {q q2 q3 q4 : Addr × HO} {T : List (Addr × Str)} {qs : List (Addr × HO)} {H : Hp} (w : Wd d T (q :: q2 :: q3 :: q4 :: (p, o) :: qs) H) : H p = some o := w.tl.tl.tl.tl.a0
theorem Wd.a5 {d p : Addr} {o : HO} {q q2 q3 q4 q5 : Addr × HO} {T : List (Addr × Str)} {qs : List (Addr × HO)} {H : Hp} (w : Wd d T (q :: q2 :: q3 :: q4 :: q5 :: (p, o) :: qs) H) : H p = some o := w.tl.tl.tl.tl.tl.a0
/-! ### the law -/
theorem _root_.L2.Room.un65 {k : Nat} {A : Around} (r : Room k A) : A.units + 65 < cLine := by have := r.un; omega
theorem sm_to {q n e : Nat} (q1 : 1 ≤ q) (h : n ≤ 2 * e + 1) (b : q ^ e ≤ 2500) : Sm q n := fun j hj => Nat.le_trans (Nat.pow_le_pow_right q1 (show j ≤ e by omega)) b
theorem Sm.le {q n m : Nat} (h : Sm q n) (l : m ≤ n) : Sm q m := fun e he => h e (by omega)
/-- what is made of the first parts, and of one of them some times -/
theorem made_lv {q n : Nat} {hq : (q : Int) ∈ primes} {R : List Int} {rs : List (List Int)} {cs : List Nat} (lv : Lvl q n R) (P : Prt q n hq R rs cs) {j c m : Nat} {r : List Int} (hr : rs[j]? = some r) (hc : cs[j]? = some c) (hm : m ≤ c) : ∃ d, d ≤ n ∧ (VV hq).L d (prodP (((rs.map (Xp.exF q)).zip cs).take j) * Xp.exF q r ^ m) := by
  have lc := P.len
  have ct : ∀ (i : Nat) (w : Xp.Fx q) (c : Nat), (rs.map (Xp.exF q))[i]? = some w → cs[i]? = some c → (VV hq).Cnt (Xp.exF q R) w c := fun i w c h1 h2 => by
    rw [List.getElem?_map] at h1
    obtain ⟨r, h3, rfl⟩ := Option.map_eq_some_iff.mp h1
    exact P.cnt i r c h3 h2
  have e := prodP_all (lv.L hq) P.ws (by rw [List.length_map]; exact lc) ct
  have lvr : ∀ x ∈ (rs.map (Xp.exF q)).zip cs, ∃ k, (VV hq).L k x.1 := fun x hx => by
    obtain ⟨r, h1, h2⟩ := List.mem_map.mp (List.of_mem_zip (a := x.1) (b := x.2) hx).1
    obtain ⟨k, _, lk⟩ := P.lv r h1
    exact ⟨k, h2 ▸ lk.L hq⟩
  have hz : ((rs.map (Xp.exF q)).zip cs)[j]? = some (Xp.exF q r, c) := by
    rw [List.getElem?_zip_eq_some, List.getElem?_map, hr]
    exact ⟨rfl, hc⟩
  obtain ⟨d1, l1⟩ := prodP_lv (V := VV hq) (l := ((rs.map (Xp.exF q)).zip cs).take j) fun x hx => lvr x (List.mem_of_mem_take hx)
  obtain ⟨k, _, lk⟩ := P.lv r (List.mem_of_getElem? hr)
  have l2 := (VV hq).mul l1 (Xp.Lvs.lpow (lk.L hq) m)
  refine ⟨_, ?_, l2⟩
  have e2 : Xp.exF q R = prodP (((rs.map (Xp.exF q)).zip cs).take j) * Xp.exF q r ^ m * (Xp.exF q r ^ (c - m) * prodP (((rs.map (Xp.exF q)).zip cs).drop (j + 1))) := by
    have jl := (List.getElem?_eq_some_iff.mp hz).1
    have e3 : ((rs.map (Xp.exF q)).zip cs) = ((rs.map (Xp.exF q)).zip cs).take j ++ ([(Xp.exF q r, c)] ++ ((rs.map (Xp.exF q)).zip cs).drop (j + 1)) := by
      have := List.drop_eq_getElem_cons jl
      rw [(List.getElem?_eq_some_iff.mp hz).2] at this
      rw [List.singleton_append, ← this, List.take_append_drop]
    rw [e, e3, prodP_app, prodP_app, prodP_one]
    rw [← e3]
    have e4 : Xp.exF q r ^ c = Xp.exF q r ^ m * Xp.exF q r ^ (c - m) := by
      rw [← Lean.Grind.Semiring.pow_add, Nat.add_sub_cancel' hm]
    show prodP _ * (Xp.exF q r ^ c * prodP _) = _
    rw [e4]
    grind
  exact ((VV hq).quot (lv.L hq) l2 e2).1
theorem made_all {q n : Nat} {hq : (q : Int) ∈ primes} {R : List Int} {rs : List (List Int)} {cs : List Nat} (lv : Lvl q n R) (P : Prt q n hq R rs cs) : Xp.exF q R = prodP ((rs.map (Xp.exF q)).zip cs) :=
  prodP_all (lv.L hq) P.ws (by rw [List.length_map]; exact P.len) fun i w c h1 h2 => by
    rw [List.getElem?_map] at h1
    obtain ⟨r, h3, rfl⟩ := Option.map_eq_some_iff.mp h1
    exact P.cnt i r c h3 h2
theorem made_next {q : Nat} {rs : List (List Int)} {cs : List Nat} {j c : Nat} {r : List Int} (hr : rs[j]? = some r) (hc : cs[j]? = some c) : prodP (((rs.map (Xp.exF q)).zip cs).take (j + 1)) = prodP (((rs.map (Xp.exF q)).zip cs).take j) * Xp.exF q r ^ c := by
  have hz : ((rs.map (Xp.exF q)).zip cs)[j]? = some (Xp.exF q r, c) := by
    rw [List.getElem?_zip_eq_some, List.getElem?_map, hr]
    exact ⟨rfl, hc⟩
  rw [List.take_add_one, hz]
  show prodP (_ ++ [(Xp.exF q r, c)]) = _
  rw [prodP_app, prodP_one]
def spLaw (K : PySem.W.Frag) (PR PQ PK : Addr) : Sp := fun vs H Q _ => ∃ (a : Addr) (ns : List Int), vs = [.ref a] ∧ SqL K H a (ns.map V.int) ∧ Tabs [(PR, rpQ), (PQ, pwQ), (PK, kyQ)] H ∧ ∀ H', Q (.bl true) H'
section
variable {P : Program} {w : World} {K : PySem.W.Frag} {mg : Str → Option Value} {base : Heap}
theorem sc_law : FnScope (["_law_script", "_law_draw", "_law_turn", "_law_p", "_law_one", "_law_part", "_law_k", "_law_last", "_law_row", "_law_made", "_law_piece", "_law_times", "_law_ranks", "_law_due", "_law_rest", "_law_rank"] : List Str) ["_law_script"] (defScope s_law) := ⟨rfl, rfl, rfl, by decide +kernel, rfl, by decide +kernel, by decide +kernel⟩
theorem ok_law {f PR PQ PK : Addr} {fd : FuncData} (F : FunD K "law" "law" (defArgs s_law) (defBody s_law) (defScope s_law) [] [] f fd) (T : Fre mg)
    (o_law_begin : Own P w K mg base CX0 1 "_law_begin" ["_law_script"] [] (spBegin K)) (o_law_take : Own P w K mg base CX0 1 "_law_take" ["_law_draw", "_law_sides"] [] spTake) (o_law_of : Own P w K mg base CX0 2 "_law_of" ["_law_draw", "_law_row"] [] (spOf K))
    (o_law_poly : Own P w K mg base CX0 3 "_law_poly" ["_law_draw", "_law_most", "_law_p"] [] (spPolyD K)) (o_law_is_whole : Own P w K mg base CX0 5 "_law_is_whole" ["_law_poly_here", "_law_p"] [] spIsWh)
    (o_law_mul : Own P w K mg base CX0 2 "_law_mul" ["_law_one", "_law_other", "_law_p"] [] (spMul K)) (o_law_same : Own P w K mg base CX0 3 "_law_same" ["_law_found", "_law_due"] [] (spS K 3)) (o_law_worth : Own P w K mg base CX0 1 "_law_worth" ["_law_one", "_law_number", "_law_p"] [] (spVal K))
    (k_parts : OwnK P w K mg base (L2.CX P w) 63 1 "parts" ["poly", "prime"] ["prime"] (spParts K [(PR, rpQ), (PQ, pwQ), (PK, kyQ)])) (o_parts : Own P w K mg base (L2.CX P w) 63 "parts" ["poly", "prime"] [.int 2] (spParts K [(PR, rpQ), (PQ, pwQ), (PK, kyQ)])) (k_rest_roots : OwnK P w K mg base (L2.CX P w) 6 1 "rest_roots" ["poly", "prime"] ["prime"] (spRoots K [(PR, rpQ), (PQ, pwQ), (PK, kyQ)])) : FnOk P w K mg base CX0 64 f fd ["_law_script"] (spLaw K PR PQ PK) := by
  refine F.ok sc_law (fun vs H Q E h => ?_) (fun cdv A outer s H vs Q E hr h => ?_)
  · obtain ⟨a, ns, rfl, _⟩ := h
    rfl
  · obtain ⟨a, ns, rfl, hS, hT, k⟩ := h
    refine ⟨_, PSs.nox (pss_cons (ps_set (i := 1) sc_law.nd rfl (Or.inl rfl) (pe_own o_law_begin (hr.mono (by decide)) rfl pass0 (pa_cons (pv 0) pa_nil)))
      (pss_cons (ps_for PassesOwn.never rfl (pi_range1 (by rfl) T.f_range (pa_cons pe_int pa_nil)) (pg_name (i := 2) sc_law.nd rfl (Or.inl rfl)) (pss_cons (ps_set (i := 3) sc_law.nd rfl (Or.inr rfl) (pe_own o_law_of (hr.mono (by decide)) rfl pass0 (pa_cons (pv 1) (pa_cons (pe_lst (pa_cons pe_int (pa_cons pe_int (pa_cons pe_int (pa_cons pe_int (pa_cons pe_int pa_nil)))))) pa_nil))))
      (pss_cons (ps_set (i := 4) sc_law.nd rfl (Or.inl rfl) (pe_own o_law_poly (hr.mono (by decide)) rfl pass0 (pa_cons (pv 1) (pa_cons (pe_ix ix_list (pe_lst (pa_cons pe_int (pa_cons pe_int (pa_cons pe_int (pa_cons pe_int (pa_cons pe_int (pa_cons pe_int (pa_cons pe_int (pa_cons pe_int pa_nil))))))))) (pv 3) (fun _ _ => rfl)) (pa_cons (pv 3) pa_nil)))))
      (C8.pss_cut (ps_if (pt_cmpR op_eq (pe_own o_law_take (hr.mono (by decide)) rfl pass0 (pa_cons (pv 1) (pa_cons pe_int pa_nil))) pe_int (nomark _)) (pss_cons (ps_set (i := 5) sc_law.nd rfl (Or.inl rfl) (pe_own o_law_poly (hr.mono (by decide)) rfl pass0 (pa_cons (pv 1) (pa_cons pe_int (pa_cons (pv 3) pa_nil)))))
      (pss_one (ps_for PassesOwn.never rfl (pi_range1 (by rfl) T.f_range (pa_cons (pe_own o_law_take (hr.mono (by decide)) rfl pass0 (pa_cons (pv 1) (pa_cons pe_int pa_nil))) pa_nil)) (pg_name (i := 6) sc_law.nd rfl (Or.inl rfl)) (pss_one (ps_set (i := 4) sc_law.nd rfl (Or.inl rfl) (pe_ifExp (pt_cmpR op_lt (pe_op op_add (pe_callB call_len_seq (by rfl) T.f_len PySem.boot_len (pa_cons (pv 4) pa_nil)) (pe_callB call_len_seq (by rfl) T.f_len PySem.boot_len (pa_cons (pv 5) pa_nil))) pe_int (nomark _)) (pe_own o_law_mul (hr.mono (by decide)) rfl pass0 (pa_cons (pv 4) (pa_cons (pv 5) (pa_cons (pv 3) pa_nil)))) (pv 4))))))) pss_nil)
      (pss_one (ps_if (pt_cmpR (op_neD hr.units) (pv 4) (pe_tup pa_nil) (nomark _)) (pss_cons (ps_asg (pe_ownK k_parts (hr.mono (by decide)) rfl passL (pa_cons (pv 4) pa_nil) (pk_cons (pv 3) pk_nil)) (pg_tup rfl (pgs_cons (pg_name (i := 7) sc_law.nd rfl (Or.inl rfl)) (pgs_cons (pg_name (i := 8) sc_law.nd rfl (Or.inl rfl)) pgs_nil))))
      (pss_cons (ps_if (PW.pt (pw_or (pt_not (pt_val (pe_callB call_isi (by rfl) T.f_isinstance PyProof.Rows.boot_isinstance (pa_cons (pv 8) (pa_cons (pe_bltn (v := .ty "list") rfl T.f_list boot_list rfl) pa_nil))))) (pw_or1 (pt_not (pt_val (pe_own o_law_same (hr.mono (by decide)) rfl pass0 (pa_cons (pv 7) (pa_cons (pe_ix ix_tup (pv 4) (pe_un un_neg pe_int) (fun _ _ => rfl)) pa_nil)))))))) (pss_one (ps_ret pe_bl)) pss_nil)
      (pss_cons (ps_set (i := 9) sc_law.nd rfl (Or.inl rfl) (pe_tup (pa_cons (pv 7) pa_nil)))
      (pss_cons (ps_for PassesOwn.never rfl (pi_list (pv 8)) (pg_tup rfl (pgs_cons (pg_name (i := 10) sc_law.nd rfl (Or.inl rfl)) (pgs_cons (pg_name (i := 11) sc_law.nd rfl (Or.inl rfl)) pgs_nil))) (pss_cons (ps_if (PW.pt (pw_or (pt_cmpR op_lt (pv 11) pe_int (nomark _)) (pw_or (pt_cmpR op_lt (pe_callB call_len_seq (by rfl) T.f_len PySem.boot_len (pa_cons (pv 10) pa_nil)) pe_int (nomark _)) (pw_or (pt_cmpR op_ne (pe_ix ix_tup (pv 10) (pe_un un_neg pe_int) (fun _ _ => rfl)) pe_int (nomark _)) (pw_or1 (pt_not (pt_val (pe_own o_law_is_whole (hr.mono (by decide)) rfl pass0 (pa_cons (pv 10) (pa_cons (pv 3) pa_nil)))))))))) (pss_one (ps_ret pe_bl)) pss_nil)
      (pss_one (ps_for PassesOwn.never rfl (pi_range1 (by rfl) T.f_range (pa_cons (pv 11) pa_nil)) (pg_name (i := 6) sc_law.nd rfl (Or.inl rfl)) (pss_one (ps_set (i := 9) sc_law.nd rfl (Or.inl rfl) (pe_own o_law_mul (hr.mono (by decide)) rfl pass0 (pa_cons (pv 9) (pa_cons (pv 10) (pa_cons (pv 3) pa_nil))))))))))
      (pss_cons (ps_set (i := 12) sc_law.nd rfl (Or.inr rfl) (pe_lc (own := [("_law_piece", 10), ("_law_times", 11)]) (g := (gTup K 2 (gCons (gName 10) (gCons (gName 11) gNil)))) (te := (tTup (tCons (tCB (fun xs H Q => ∃ p ys, xs = [V.ref p] ∧ (SqL K H p ys ∨ SqT K H p ys) ∧ Q (V.int (ys.length : Nat)) H) (tCons (tVar 10) tNil)) (tCons (tVar 10) tNil)))) rfl sc_law.nd (pi_list (pv 8)) (blkOk_by (own := [("_law_piece", 10), ("_law_times", 11)]) (N := ["_law_script", "_law_draw", "_law_turn", "_law_p", "_law_one", "_law_part", "_law_k", "_law_last", "_law_row", "_law_made", "_law_piece", "_law_times", "_law_ranks", "_law_due", "_law_rest", "_law_rank"]) (sc := defScope s_law) (by decide +kernel)) (fun _ _ _ _ _ => pg_tup rfl (pgs_cons (pg_name (i := 10) sc_law.nd rfl (Or.inl rfl) (Or.inr rfl)) (pgs_cons (pg_name (i := 11) sc_law.nd rfl (Or.inl rfl) (Or.inr rfl)) pgs_nil))) (fun _ _ _ _ _ => pts_nil) (fun _ _ _ _ _ => (pe_tup (pa_cons (pe_callB call_len_seq (by rfl) T.f_len PySem.boot_len (pa_cons (pv 10) pa_nil)) (pa_cons (pv 10) pa_nil))))))
      (pss_cons (ps_if (PW.pt (pw_or (pt_cmpR (op_neD hr.units) (pv 9) (pv 4) (nomark _)) (pw_or (pt_cmpR (op_neD hr.units) (pv 12) (pe_callB (cr_sortedKN hr.un65) (by rfl) T.f_sorted (by decide +kernel) (pa_cons (pv 12) pa_nil)) (nomark _)) (pw_or1 (pt_val (pe_callB (cr_any rfl) (by rfl) T.f_any (by decide +kernel) (pa_cons (pe_lc (own := [("_law_rank", 15)]) (te := (tOp (rI0 fun i j => .bl (decide (j < i))) (tBM K "list" (rCntD K) (tVar 12) (tCons (tVar 15) tNil)) (tC (.int 1)))) rfl sc_law.nd (pi_list (pv 12)) (blkOk_by (own := [("_law_rank", 15)]) (N := ["_law_script", "_law_draw", "_law_turn", "_law_p", "_law_one", "_law_part", "_law_k", "_law_last", "_law_row", "_law_made", "_law_piece", "_law_times", "_law_ranks", "_law_due", "_law_rest", "_law_rank"]) (sc := defScope s_law) (by decide +kernel)) (fun _ _ _ _ _ => pg_name (i := 15) sc_law.nd rfl (Or.inl rfl) (Or.inr rfl)) (fun _ _ _ _ _ => pts_nil) (fun _ _ _ _ _ => (pe_cmpR op_gt (pe_bm PySem.F.plainAttrs_list PySem.F.slot_list_count PySem.F.type_list_count (mt_countD hr.un65) (pv 12) (pa_cons (pv 15) pa_nil)) pe_int (nomark _)))) pa_nil))))))) (pss_one (ps_ret pe_bl)) pss_nil)
      (pss_cons (ps_set (i := 13) sc_law.nd rfl (Or.inl rfl) (pe_lst pa_nil))
      (pss_cons (ps_for PassesOwn.never rfl (pi_range1 (by rfl) T.f_range (pa_cons (pv 3) pa_nil)) (pg_name (i := 14) sc_law.nd rfl (Or.inr rfl)) (pss_one (ps_if (pt_cmpR op_eq (pe_own o_law_worth (hr.mono (by decide)) rfl pass0 (pa_cons (pv 4) (pa_cons (pv 14) (pa_cons (pv 3) pa_nil)))) pe_int (nomark _)) (pss_one (ps_expr (pe_bm PySem.F.plainAttrs_list PySem.F.slot_list_append PySem.F.type_list_append mt_append (pv 13) (pa_cons (pe_tup (pa_cons (pv 14) (pa_cons (pe_ix ix_list (pe_lc (own := [("_law_piece", 10), ("_law_times", 11)]) (g := (gTup K 2 (gCons (gName 10) (gCons (gName 11) gNil)))) (te := (tVar 11)) (tt := tTest (tOp (rEqD K) (tVar 10) (tTup (tCons (tOp _ (tOp _ (tC (.int 0)) (tVar 14)) (tVar 3)) (tCons (tC (.int 1)) tNil))))) rfl sc_law.nd (pi_list (pv 8)) (blkOk_by (own := [("_law_piece", 10), ("_law_times", 11)]) (N := ["_law_script", "_law_draw", "_law_turn", "_law_p", "_law_one", "_law_part", "_law_k", "_law_last", "_law_row", "_law_made", "_law_piece", "_law_times", "_law_ranks", "_law_due", "_law_rest", "_law_rank"]) (sc := defScope s_law) (by decide +kernel)) (fun _ _ _ _ _ => pg_tup rfl (pgs_cons (pg_name (i := 10) sc_law.nd rfl (Or.inl rfl) (Or.inr rfl)) (pgs_cons (pg_name (i := 11) sc_law.nd rfl (Or.inl rfl) (Or.inr rfl)) pgs_nil))) (fun _ _ _ _ _ => (pts_one (pt_cmpR (op_eqD hr.units) (pv 10) (pe_tup (pa_cons (pe_op op_modN (pe_op op_sub pe_int (pv 14)) (pv 3)) (pa_cons pe_int pa_nil))) (nomark _)))) (fun _ _ _ _ _ => (pv 11))) pe_int (fun _ _ => rfl)) pa_nil))) pa_nil)))) pss_nil)))
      (pss_cons (ps_expr (pe_bm PySem.F.plainAttrs_list PySem.F.slot_list_append PySem.F.type_list_append mt_append (pv 8) (pa_cons pe_int pa_nil)))
      (pss_one (ps_if (PW.pt (pw_or (pt_not (pt_val (pe_own o_law_same (hr.mono (by decide)) rfl pass0 (pa_cons (pe_ownK k_rest_roots (hr.mono (by decide)) rfl passL (pa_cons (pv 4) pa_nil) (pk_cons (pv 3) pk_nil)) (pa_cons (pv 13) pa_nil))))) (pw_or1 (pt_cmpR (op_inD hr.un65) pe_int (pe_ix ix_tup (pe_ownK k_parts (hr.mono (by decide)) rfl passL (pa_cons (pv 4) pa_nil) (pk_cons (pv 3) pk_nil)) pe_int (fun _ _ => rfl)) (by rfl))))) (pss_one (ps_ret pe_bl)) pss_nil))))))))))) pss_nil))))))
      (pss_one (ps_ret (pe_and (pe_cmpR (op_eqD hr.units) (pe_ownK k_parts (hr.mono (by decide)) rfl passL (pa_cons (pe_tup (pa_cons pe_int (pa_cons pe_int (pa_cons pe_int (pa_cons pe_int pa_nil))))) pa_nil) (pk_cons pe_int pk_nil)) (pe_tup (pa_cons pe_int (pa_cons (pe_lst (pa_cons (pe_tup (pa_cons (pe_tup (pa_cons pe_int (pa_cons pe_int pa_nil))) (pa_cons pe_int pa_nil))) pa_nil)) pa_nil))) (nomark _)) (pe_one (pe_cmpR (op_eqD hr.units) (pe_own o_parts (hr.mono (by decide)) rfl passL (pa_cons (pe_tup (pa_cons pe_int pa_nil)) pa_nil)) (pe_tup (pa_cons pe_int (pa_cons (pe_lst pa_nil) pa_nil))) (nomark _)))))))) , ?_⟩
    refine ⟨_, rfl, a, ns, rfl, hS, fun d H1 s1 nd D1 => ?_⟩
    refine ⟨4, rfl, by decide, by decide, ?_⟩
    generalize hTT : [(PR, rpQ), (PQ, pwQ), (PK, kyQ)] = TT at *
    refine for_range (lo := 0) (n := 4) (fun i σ' H' => ∃ x2 x3 x4 x5 x6 x7 x8 x9 x10 x11 x12 x13 x14 x15 : Option V, σ' = [some (.ref a), some (.ref d), x2, x3, x4, x5, x6, x7, x8, x9, x10, x11, x12, x13, x14, x15] ∧ Wd d TT [] H') ⟨none, none, none, none, none, none, none, none, none, none, none, none, none, none, rfl, D1, hT.ext s1, fun p hp => nomatch hp⟩ ?_ ?_
    · rintro i σ' H2 hi ⟨x2, x3, x4, x5, x6, x7, x8, x9, x10, x11, x12, x13, x14, x15, rfl, W2⟩
      refine ⟨_, rfl, (by show 5 ≤ sizeLine; decide), fun L0 hL0 => ?_⟩
      have W2' := W2.same (same_upd (o := .lst [.int 2, .int 2, .int 3, .int 5, .int 7]) hL0)
      refine ⟨d, L0, _, rfl, W2'.D, SqL.of upd_same, W2.D.ne hL0, (by show 0 < 5; decide), (by show 5 ≤ 1000; decide), fun x H3 hx D3 B3 => ?_⟩
      have W3 := W2'.but B3 D3
      obtain ⟨q, mo, rfl, hq, hv, m10, sm⟩ : ∃ q mo : Nat, x = .int q ∧ (q : Int) ∈ primes ∧ atI ([.int 0, .int 0, .int 10, .int 8, .int 0, .int 6, .int 0, .int 6] : List V) (q : Int) = some (.int mo) ∧ mo ≤ 10 ∧ Sm q 9 := by
        simp only [List.mem_cons, List.not_mem_nil, or_false] at hx
        rcases hx with rfl | rfl | rfl | rfl | rfl
        · exact ⟨2, 10, rfl, by decide, rfl, by decide, sm_to (e := 4) (by decide) (by decide) (by decide)⟩
        · exact ⟨2, 10, rfl, by decide, rfl, by decide, sm_to (e := 4) (by decide) (by decide) (by decide)⟩
        · exact ⟨3, 8, rfl, by decide, rfl, by decide, sm_to (e := 4) (by decide) (by decide) (by decide)⟩
        · exact ⟨5, 6, rfl, by decide, rfl, by decide, sm_to (e := 4) (by decide) (by decide) (by decide)⟩
        · exact ⟨7, 6, rfl, by decide, rfl, by decide, sm_to (e := 4) (by decide) (by decide) (by decide)⟩
      have hpm := pm_of hq
      have lo := hpm.lo
      have hi1000 := hpm.hi
      refine ⟨_, rfl, (by show 8 ≤ sizeLine; decide), fun L1 hL1 => ?_⟩
      have W4 := W3.same (same_upd (o := .lst [.int 0, .int 0, .int 10, .int 8, .int 0, .int 6, .int 0, .int 6]) hL1)
      refine ⟨_, rfl, L1, _, (q : Int), .int mo, rfl, rfl, SqL.of upd_same, hv, ?_⟩
      refine ⟨_, rfl, d, mo, q, rfl, W4.D, by omega, hpm, fun ms o H5 D5 B5 P5 m5 n5 f5 e5 => ?_⟩
      have W5 := (W4.but B5 D5).putT e5
      refine ⟨fun σ' H' => ∃ (o : Addr) (ms : List Int) (x5 x6 : Option V), σ' = [some (.ref a), some (.ref d), some (.int (0 + (i : Int))), some (.int q), some (.ref o), x5, x6, x7, x8, x9, x10, x11, x12, x13, x14, x15] ∧ Wd d TT [(o, .tup (ms.map V.int))] H' ∧ Po q ms 25 ∧ ms.length ≤ 10, ?_, ?_⟩
      · refine ⟨_, rfl, d, 2, rfl, W5.D, by decide, by decide, fun m H6 m0 m1 D6 B6 => ⟨rfl, _, rfl, ite2 (fun hc => ?_) (fun hc => ?_)⟩⟩
        · have W6 := W5.but B6 D6
          refine ⟨_, rfl, _, rfl, d, 3, q, rfl, W6.D, by decide, hpm, fun ps pa H7 D7 B7 P7 m7 n7 f7 e7 => ?_⟩
          have W7 := (W6.but B7 D7).putT e7
          refine ⟨_, rfl, d, 5, rfl, W7.D, by decide, by decide, fun m2 H8 c0 c1 D8 B8 => ?_⟩
          have W8 := W7.but B8 D8
          refine ⟨m2, rfl, by omega, by omega, ?_⟩
          refine for_range (lo := 0) (n := m2.toNat) (fun j σ' H' => ∃ (o : Addr) (ms : List Int) (x6 : Option V), σ' = [some (.ref a), some (.ref d), some (.int (0 + (i : Int))), some (.int q), some (.ref o), some (.ref pa), x6, x7, x8, x9, x10, x11, x12, x13, x14, x15] ∧ Wd d TT [(pa, .tup (ps.map V.int)), (o, .tup (ms.map V.int))] H' ∧ Po q ms 25 ∧ ms.length ≤ 10)
            ⟨o, ms, _, rfl, W8, ⟨P5.rs, P5.tr, P5.len⟩, by omega⟩ ?_ ?_
          · rintro j σ' H9 hj ⟨o, ms, x6, rfl, W9, pm, lm⟩
            have lps : ps.length ≤ 3 := m7
            refine ⟨_, rfl, o, _, rfl, .inr (SqT.of W9.a1), _, rfl, pa, _, rfl, .inr (SqT.of W9.a0), _, _, rfl, rfl, _, _, rfl, rfl, _, rfl, ite2 (fun hc => ?_) (fun hc => ?_)⟩
            · have hl : ms.length + ps.length < 12 := by
                have z := of_decide_eq_true hc
                rw [List.length_map, List.length_map] at z
                omega
              refine ⟨_, rfl, _, rfl, _, rfl, o, pa, ms, ps, q, rfl, SqT.of W9.a1, SqT.of W9.a0, by omega, by omega, pm.rs, P7.rs, hpm, fun us y v H10 s10 n10 e10 => ?_⟩
              have lus : us.length ≤ 10 := by
                rcases times_len y with z | ⟨_, _, z⟩
                · rw [z]; decide
                · omega
              refine ⟨v, us, _, rfl, ((W9.same s10).putT e10).sub (fun p hp => ?_), ⟨rs_of hpm y, y.tr, by omega⟩, lus⟩
              rcases List.mem_cons.mp hp with rfl | hp
              · exact List.mem_cons_of_mem _ List.mem_cons_self
              · rw [List.mem_singleton.mp hp]
                exact List.mem_cons_self
            · exact ⟨_, rfl, o, ms, _, rfl, W9, pm, lm⟩
          · rintro σ' H9 ⟨o, ms, x6, rfl, W9, pm, lm⟩
            exact ⟨o, ms, _, _, rfl, W9.tl, pm, lm⟩
        · exact ⟨o, ms, _, _, rfl, W5.but B6 D6, ⟨P5.rs, P5.tr, P5.len⟩, by omega⟩
      rintro σ1 H6 ⟨o, ms, x5, x6, rfl, W6, pm, lm⟩
      refine ⟨_, rfl, (by show 0 ≤ sizeLine; decide), fun t0 ht0 => ⟨_, _, dp_tup (sameT (same_upd ht0) (SqT.of W6.a0)), dp_tup (ns := []) (.inl (.inl upd_same)), sh_ints ms, rfl, _, rfl, ?_⟩⟩
      rw [eqv_nil]
      have W7 := W6.same (same_upd (o := .tup []) ht0)
      generalize L2.upd H6 t0 (.tup []) = H7 at W7
      by_cases hn : ms = []
      · rw [decide_eq_true hn]
        exact iteF ⟨_, _, _, _, _, _, _, _, _, _, _, _, _, _, rfl, W7.tl⟩
      rw [decide_eq_false hn]
      refine iteT ?_
      have lp := List.length_pos_iff.mpr hn
      refine ⟨_, rfl, _, rfl, rfl, rfl, o, ms, q, hq, rfl, W7.a0, pm, hn, W7.T, fun t D ps la R rs cs H8 g8 nt nD et eD pr wr PP => ?_⟩
      refine ⟨t, _, rfl, SqT.of et, rfl, _, _, rfl, _, _, rfl, rfl, ?_⟩
      have W8 := W7.gr g8
      refine ⟨_, rfl, .ref D, .ty "list", .type "list", .type "list", true, rfl, .ty _, tyL (SqL.of eD), rfl, true, rfl, iteF ?_⟩
      refine ⟨_, rfl, _, rfl, 1, rfl, o, _, -1, .int (ms.getD (ms.length - 1) 0), rfl, rfl, SqT.of W8.a0, atI_last2 lp, .int (ms.getD (ms.length - 1) 0), .int (ms.getD (ms.length - 1) 0), rfl, .inl ⟨rfl, rfl⟩, fun H9 s9 => ⟨true, rfl, iteF ?_⟩⟩
      refine ⟨_, rfl, (by show 1 ≤ sizeLine; decide), fun M0 hM0 => ?_⟩
      obtain ⟨⟨n, lvR, hnm, Pt⟩, eRm⟩ := PP
      have rsn : rs.length ≤ n := by
        have := Pt.ws.len (lvR.L hq)
        rwa [List.length_map] at this
      have rsd : rs.Nodup := List.Pairwise.of_map (Xp.exF q) (fun _ _ h e => h (congrArg _ e)) Pt.ws.nd
      have sM := same_upd (o := .tup [.int (ms.getD (ms.length - 1) 0)]) hM0
      have plen := pr.len
      have wlen := wr.len
      have eD8 : ∀ {H'}, Same H8 H' → H' D = some (.lst (ps.map V.ref)) := fun s => s _ _ eD
      obtain ⟨l0, l1⟩ := pm.rs (ms.length - 1)
      have tl := trim_ne ms hn pm.tr
      have pM : Po q [ms.getD (ms.length - 1) 0] 25 := ⟨(Rs.nil q hpm.pos).add l0 l1, trim_last _ 0 rfl tl, by show 1 ≤ 25; decide⟩
      refine ⟨_, rfl, D, rfl, ⟨_, SqL.of (eD8 (s9.trans sM))⟩, ?_⟩
      refine for_it (walk_list (xs := ps.map V.ref)) (fun j σ' H' => ∃ (M : Addr) (made : List Int) (x6 x10 x11 : Option V), σ' = [some (.ref a), some (.ref d), some (.int (0 + (i : Int))), some (.int q), some (.ref o), x5, x6, some (.int (ms.getD (ms.length - 1) 0)), some (.ref D), some (.ref M), x10, x11, x12, x13, x14, x15] ∧ Same H8 H' ∧ H' M = some (.tup (made.map V.int)) ∧ Po q made 25 ∧ Xp.exF q made = Xp.mC (q : Int) Xp.nul (ms.getD (ms.length - 1) 0) * prodP (((rs.map (Xp.exF q)).zip cs).take j))
        ⟨M0, [ms.getD (ms.length - 1) 0], _, _, _, rfl, s9.trans sM, upd_same, pM, by rw [ex_const]; show _ = _ * (1 : Xp.Fx q); grind⟩ (fun j σ' H' _ ⟨_, _, _, _, _, _, s, _⟩ => SqL.of (eD8 s)) ?_ ?_
      · rintro j x σ' H11 H12 hj ⟨M, made, x6, x10, x11, rfl, s11, eM, pMd, exM⟩ ⟨rfl, hx⟩
        obtain ⟨p, l, c, rfl, hl, hc, ep⟩ := (pr.keep (kpS s11)).at hx
        rw [List.length_map] at hj
        obtain ⟨r, hr', er8⟩ := wr.getA j l hl
        have er := s11 _ _ er8
        obtain ⟨k1, k11, lr⟩ := Pt.lv r (List.mem_of_getElem? hr')
        have lrl := lr.len
        have wR : (VV hq).W (Xp.exF q r) := ((Pt.ws.iff _).mp (List.mem_map_of_mem (f := Xp.exF q) (List.mem_of_getElem? hr'))).1
        have dR : Xp.Div (Xp.exF q r) (Xp.exF q R) := ((Pt.ws.iff _).mp (List.mem_map_of_mem (f := Xp.exF q) (List.mem_of_getElem? hr'))).2
        have c1 : 1 ≤ c := Xp.Lvs.Cnt.pos dR (Pt.cnt j r c hr' hc)
        have k1n : k1 ≤ n := by
          obtain ⟨z, ez⟩ := dR
          exact ((VV hq).quot (lvR.L hq) (lr.L hq) ez).1
        have c24 : c ≤ n := by
          obtain ⟨z, ez, _⟩ := (Pt.cnt j r c hr' hc).ex
          have := ((VV hq).quot (lvR.L hq) (Xp.Lvs.lpow (lr.L hq) c) ez).1
          have := Nat.mul_le_mul_left c k11
          omega
        have etop : r.getD (r.length - 1) 0 = 1 := by
          rw [show r.length - 1 = k1 by omega]
          exact lr.top
        refine ⟨p, _, rfl, SqT.of ep, rfl, _, _, rfl, _, _, rfl, rfl, ?_⟩
        refine ⟨_, rfl, _, _, rfl, rfl, _, rfl, ?_⟩
        rw [decide_eq_false (show ¬ ((c : Nat) : Int) < 1 by omega)]
        refine iteF ⟨_, rfl, l, _, rfl, .inr (SqT.of er), _, _, rfl, rfl, _, rfl, ?_⟩
        rw [decide_eq_false (show ¬ ((r.map V.int).length : Int) < 2 by rw [List.length_map]; omega)]
        refine iteF ⟨_, rfl, 1, rfl, l, _, -1, .int (r.getD (r.length - 1) 0), rfl, rfl, SqT.of er, atI_last2 (by omega), rfl, _, rfl, ?_⟩
        rw [etop]
        refine iteF ⟨_, rfl, _, rfl, l, r, q, rfl, er, by omega, by omega, lr.po.rs, hq, sm.le (by omega), fun b H13 s13 ib => ⟨b, rfl, ?_⟩⟩
        rw [ib.mpr (w_wh hq lr wR)]
        refine iteF ?_
        have s813 := s11.trans s13
        refine ⟨_, rfl, (c : Int), rfl, by omega, by omega, ?_⟩
        rw [Int.toNat_natCast]
        refine for_range (lo := 0) (n := c) (fun m σ' H' => ∃ (M : Addr) (made : List Int) (x6 : Option V), σ' = [some (.ref a), some (.ref d), some (.int (0 + (i : Int))), some (.int q), some (.ref o), x5, x6, some (.int (ms.getD (ms.length - 1) 0)), some (.ref D), some (.ref M), some (.ref l), some (.int (c : Nat)), x12, x13, x14, x15] ∧ Same H8 H' ∧ H' M = some (.tup (made.map V.int)) ∧ Po q made 25 ∧ Xp.exF q made = Xp.mC (q : Int) Xp.nul (ms.getD (ms.length - 1) 0) * (prodP (((rs.map (Xp.exF q)).zip cs).take j) * Xp.exF q r ^ m))
          ⟨M, made, _, rfl, s813, s13 _ _ eM, pMd, by rw [exM, Lean.Grind.Semiring.pow_zero]; grind⟩ ?_ ?_
        · rintro m σ' H14 hm ⟨M, made, x6, rfl, s14, eM, pMd, exM⟩
          have lMd := pMd.len
          refine ⟨_, rfl, _, rfl, _, rfl, M, l, made, r, q, rfl, SqT.of eM, SqT.of (s14 _ _ er8), by omega, by omega, pMd.rs, lr.po.rs, hpm, fun us y v H15 s15 n15 e15 => ?_⟩
          have lus : us.length ≤ 60 := by
            rcases times_len y with z | ⟨_, _, z⟩
            · rw [z]; decide
            · have := lr.po.len
              omega
          have exU : Xp.exF q us = Xp.mC (q : Int) Xp.nul (ms.getD (ms.length - 1) 0) * (prodP (((rs.map (Xp.exF q)).zip cs).take j) * Xp.exF q r ^ (m + 1)) := by
            rw [ex_mul (times_eqm hpm y), exM, Lean.Grind.Semiring.pow_succ]
            grind
          obtain ⟨dd, ddn, ld⟩ := made_lv lvR Pt hr' hc (m := m + 1) (by omega)
          have lu2 := len_lm hq (⟨rs_of hpm y, y.tr, lus⟩ : Po q us 60) ld exU
          exact ⟨v, us, _, rfl, s14.trans s15, e15, ⟨rs_of hpm y, y.tr, by omega⟩, exU⟩
        · rintro σ' H14 ⟨M, made, x6, rfl, s14, eM, pMd, exM⟩
          exact ⟨M, made, _, _, _, rfl, s14, eM, pMd, by rw [made_next hr' hc]; exact exM⟩
      · rintro σ' H11 ⟨M, made, x6, x10, x11, rfl, s11, eM, pMd, exM⟩
        rw [List.length_map, show ((rs.map (Xp.exF q)).zip cs).take ps.length = (rs.map (Xp.exF q)).zip cs from List.take_of_length_le (by rw [List.length_zip, List.length_map]; omega), ← made_all lvR Pt, ← eRm] at exM
        have emd := ex_inj pMd pm exM
        subst emd
        refine ⟨_, rfl, D, rfl, ⟨_, SqL.of (eD8 s11)⟩, fun C hC => ?_⟩
        refine lc_it (walk_list (xs := ps.map V.ref)) (fun j H' => Same H11 H' ∧ ∃ rk : List Addr, H' C = some (.lst (rk.map V.ref)) ∧ Rks H' rk (la.take j) (rs.take j)) ⟨same_upd hC, [], upd_same, trivial⟩ (fun j H' _ h => SqL.of (h.1 _ _ (eD8 s11))) ?_ ?_
        · rintro j x H12 H13 hj ⟨s12, rk, eC, hk⟩ ⟨rfl, hx⟩
          rw [List.length_map] at hj
          have s812 := s11.trans s12
          obtain ⟨p, l, c, rfl, hl, hc, ep⟩ := (pr.keep (kpS s812)).at hx
          obtain ⟨r, hr', er8⟩ := wr.getA j l hl
          have er := s812 _ _ er8
          have lrk := hk.len
          rw [List.length_take] at lrk
          refine ⟨p, _, rfl, SqT.of ep, rfl, _, _, rfl, _, _, rfl, rfl, ?_⟩
          refine ⟨rfl, _, rfl, l, _, rfl, .inr (SqT.of er), _, rfl, (by show 2 ≤ sizeLine; decide), fun v hv => ?_⟩
          have sv := same_upd (o := .tup [.int ((r.map V.int).length : Nat), .ref l]) hv
          refine ⟨_, sv _ _ eC, ?_, lcs hC (s12.trans sv), rk ++ [v], ?_, ?_⟩
          · rw [List.length_map]
            exact small1000 (by omega)
          · rw [upd_same, List.map_append]
            rfl
          · rw [List.take_add_one, List.take_add_one, hl, hr']
            refine (Rks.snoc (r := r) ?_ (sv _ _ er) (hk.keep (kpS sv))).keep (kpU (sv _ _ eC))
            rw [upd_same, List.length_map]
        · rintro H12 ⟨s12, rk, eC, hk⟩
          rw [List.length_map, show la.take ps.length = la from List.take_of_length_le (by omega), show rs.take ps.length = rs from List.take_of_length_le (by omega)] at hk
          have s812 := s11.trans s12
          have lrk := hk.len
          have e4 : H12 o = some (.tup (made.map V.int)) := s812 _ _ W8.a0
          have eM12 := s12 _ _ eM
          refine ⟨_, rfl, _, rfl, _, _, dp_tup (SqT.of eM12), dp_tup (SqT.of e4), sh_ints _, sh_ints _, _, rfl, ?_⟩
          rw [eqv_dec, decide_eq_true rfl]
          refine iteF ?_
          obtain ⟨_, hk2⟩ := hk.knI
          refine ⟨_, rfl, _, rfl, C, rk, knI H12, rfl, SqL.of eC, fun t ht => ?_, hk.ord Pt.ord, fun S hS => ?_⟩
          · obtain ⟨u, h1, h2⟩ := hk2 t ht
            exact ⟨u, h1, SqT.of h2⟩
          have sS := same_upd (o := .lst (rk.map V.ref)) hS
          refine ⟨_, _, .lst (SqL.of (sS _ _ eC)) (dp_rks (hk.keep (kpS sS))), .lst (SqL.of upd_same) (dp_rks (hk.keep (kpS sS))), sh_rks _, sh_rks _, _, rfl, ?_⟩
          rw [eqv_rks]
          refine iteF ?_
          have hk := hk.keep (kpS sS)
          have eC13 := sS _ _ eC
          have s813 := s812.trans sS
          generalize L2.upd H12 S (.lst (rk.map V.ref)) = H13 at hk eC13 s813
          refine ⟨_, rfl, C, rfl, ⟨_, SqL.of eC13⟩, fun B hB => ?_⟩
          refine lc_it (walk_list (xs := rk.map V.ref)) (fun j H' => Same H13 H' ∧ H' B = some (.lst ((List.replicate j false).map V.bl))) ⟨same_upd hB, upd_same⟩ (fun j H' _ h => SqL.of (h.1 _ _ eC13)) ?_ ?_
          · rintro j x H14 H15 hj ⟨s14, eB⟩ ⟨rfl, hx⟩
            rw [List.length_map] at hj
            have hk14 := hk.keep (kpS s14)
            obtain ⟨p, l, r, rfl, hr', ep, el⟩ := hk14.at hx
            refine ⟨rfl, _, rfl, .inl ⟨rfl, _, SqL.of (s14 _ _ eC13)⟩, _, rfl, C, rk.map V.ref, .ref p, rs.map rkD, rkD r, rfl, rfl, SqL.of (s14 _ _ eC13), dp_rks hk14, dp_rk ep el, rkD_plain rs, rkD_plain1 r, Nat.le_trans (rkD_deep1 r) (by decide), _, _, rfl, rfl, ?_⟩
            have cz := rk_count rsd r
            have ey : decide ((1 : Int) < (((rs.map rkD).countP fun z => PyData.eqv z (rkD r) : Nat) : Int)) = false := decide_eq_false (by omega)
            refine ⟨_, eB, ?_, lcs hB s14, ?_⟩
            · rw [List.length_map, List.length_replicate]
              exact small1000 (by omega)
            · rw [upd_same]
              show some (HO.lst ((List.replicate j false).map V.bl ++ [V.bl (decide ((1 : Int) < (((rs.map rkD).countP fun z => PyData.eqv z (rkD r) : Nat) : Int)))])) = _
              rw [ey, List.replicate_succ', List.map_append]
              rfl
          · rintro H14 ⟨s14, eB⟩
            refine ⟨B, _, rfl, SqL.of eB, false, by rw [any_none], iteF ?_⟩
            have s814 := s813.trans s14
            have hl0 : made.getD (made.length - 1) 0 % (q : Int) ≠ 0 := by
              rw [Int.emod_eq_of_lt l0 l1]
              exact tl
            refine ⟨by decide, fun F0 hF0 => ?_⟩
            have sF := same_upd (o := .lst []) hF0
            refine ⟨_, rfl, (q : Int), rfl, by omega, by omega, ?_⟩
            rw [Int.toNat_natCast]
            refine for_range (lo := 0) (n := q) (fun z σ' H' => ∃ (fl : List Addr) (zs : List (Nat × Nat)) (x10 x11 x14 x15 : Option V), σ' = [some (.ref a), some (.ref d), some (.int (0 + (i : Int))), some (.int q), some (.ref o), x5, x6, some (.int (made.getD (made.length - 1) 0)), some (.ref D), some (.ref M), x10, x11, some (.ref C), some (.ref F0), x14, x15] ∧ Same H14 H' ∧ H' F0 = some (.lst (fl.map V.ref)) ∧ Zrs H' fl zs ∧ zs.map (fun x => x.1) = (List.range z).filter (fun z : Nat => decide (ev made (z : Int) made.length % (q : Int) = 0)) ∧ ∀ z c : Nat, (z, c) ∈ zs → (VV hq).Cnt (Xp.exF q made) (Xp.exF q [(-(z : Int)).fmod q, 1]) c)
              ⟨[], [], _, _, _, _, rfl, sF, upd_same, trivial, rfl, fun z c h => by cases h⟩ ?_ ?_
            · rintro z σ' H16 hz ⟨fl, zs, x10, x11, x14, x15, rfl, s16, eF, hZ, ez, cz⟩
              have s816 := s814.trans s16
              have lfl := hZ.len
              have lzs : zs.length ≤ z := by
                have := congrArg List.length ez
                rw [List.length_map] at this
                have h2 := List.length_filter_le (fun z : Nat => decide (ev made (z : Int) made.length % (q : Int) = 0)) (List.range z)
                rw [List.length_range] at h2
                omega
              rw [Int.zero_add]
              have e16 : H16 o = some (.tup (made.map V.int)) := s816 _ _ W8.a0
              refine ⟨_, rfl, _, rfl, _, rfl, o, made, (z : Int), q, rfl, SqT.of e16, by omega, pm.rs, by omega, by omega, hpm, rfl, _, rfl, ite2 (fun hb => ?_) (fun hb => ?_)⟩
              · have hz0 := V.int.inj (of_decide_eq_true hb)
                refine ⟨_, rfl, .inl ⟨rfl, _, SqL.of eF⟩, _, rfl, _, rfl, D, rfl, ⟨_, SqL.of (eD8 s816)⟩, fun B2 hB2 => ?_⟩
                refine lc_it (walk_list (xs := ps.map V.ref)) (fun j H' => Same H16 H' ∧ H' B2 = some (.lst ((((rs.zip cs).take j).filter fun x => decide (x.1 = [(-(z : Int)).fmod q, 1])).map fun x => V.int ((x.2 : Nat) : Int)))) ⟨same_upd hB2, upd_same⟩ (fun j H' _ h => SqL.of (h.1 _ _ (eD8 s816))) ?_ ?_
                · rintro j x H17 H18 hj ⟨s17, eB2⟩ ⟨rfl, hx⟩
                  rw [List.length_map] at hj
                  have s817 := s816.trans s17
                  obtain ⟨p, l, c, rfl, hl, hc, ep⟩ := (pr.keep (kpS s817)).at hx
                  obtain ⟨r, hr', er8⟩ := wr.getA j l hl
                  have er := s817 _ _ er8
                  have hzz : (rs.zip cs)[j]? = some (r, c) := List.getElem?_zip_eq_some.mpr ⟨hr', hc⟩
                  refine ⟨p, _, rfl, SqT.of ep, rfl, _, _, rfl, _, _, rfl, rfl, ?_⟩
                  refine ⟨rfl, _, rfl, _, rfl, _, _, rfl, rfl, ?_⟩
                  refine ⟨_, rfl, _, _, rfl, rfl, by omega, (by show 2 ≤ sizeLine; decide), fun w hw => ?_⟩
                  rw [show (0 : Int) - (z : Int) = -(z : Int) by omega]
                  have sw := same_upd (o := .tup [.int ((-(z : Int)).fmod q), .int 1]) hw
                  refine ⟨_, _, dp_tup (SqT.of (sw _ _ er)), dp_tup (ns := [(-(z : Int)).fmod q, 1]) (SqT.of upd_same), sh_ints _, sh_ints _, _, rfl, ?_⟩
                  rw [eqv_dec]
                  by_cases e : r = [(-(z : Int)).fmod q, 1]
                  · rw [decide_eq_true e]
                    refine iteT ⟨_, rfl, _, sw _ _ eB2, ?_, lcs hB2 (s17.trans sw), ?_⟩
                    · rw [List.length_map]
                      have h1 := List.length_filter_le (fun x : List Int × Nat => decide (x.1 = [(-(z : Int)).fmod q, 1])) ((rs.zip cs).take j)
                      rw [List.length_take, List.length_zip] at h1
                      exact small1000 (by omega)
                    · rw [upd_same, List.take_add_one, hzz, List.filter_append, List.map_append]
                      show _ = some (HO.lst (_ ++ (List.filter _ [(r, c)]).map _))
                      rw [List.filter_cons, if_pos (decide_eq_true e)]
                      rfl
                  · rw [decide_eq_false e]
                    refine iteF ⟨s17.trans sw, ?_⟩
                    rw [sw _ _ eB2, List.take_add_one, hzz, List.filter_append, List.map_append]
                    show _ = some (HO.lst (_ ++ (List.filter _ [(r, c)]).map _))
                    rw [List.filter_cons, if_neg (by rw [decide_eq_false e]; decide), List.filter_nil, List.map_nil, List.append_nil]
                · rintro H17 ⟨s17, eB2⟩
                  rw [show (rs.zip cs).take (ps.map V.ref).length = rs.zip cs from List.take_of_length_le (by rw [List.length_map, List.length_zip]; omega)] at eB2
                  have hm : ∀ x ∈ (rs.zip cs).filter (fun x => decide (x.1 = [(-(z : Int)).fmod q, 1])), (VV hq).Cnt (Xp.exF q made) (Xp.exF q [(-(z : Int)).fmod q, 1]) x.2 := fun x hx => by
                    obtain ⟨h1, h2⟩ := List.mem_filter.mp hx
                    have h2 := of_decide_eq_true h2
                    obtain ⟨y, hy⟩ := List.mem_iff_getElem?.mp h1
                    obtain ⟨h3, h4⟩ := List.getElem?_zip_eq_some.mp hy
                    rw [← h2]
                    refine cnt_made (l := made.getD (made.length - 1) 0) hl0 ?_ eRm (Pt.cnt y x.1 x.2 h3 h4)
                    rw [h2]
                    exact lin_whole hq (lin_lvl hq (z : Int))
                  have hne : (rs.zip cs).filter (fun x => decide (x.1 = [(-(z : Int)).fmod q, 1])) ≠ [] := fun e => by
                    obtain ⟨y, c, h1, h2⟩ := root_in hl0 lvR Pt eRm hz0
                    have : ([(-(z : Int)).fmod q, 1], c) ∈ (rs.zip cs).filter (fun x => decide (x.1 = [(-(z : Int)).fmod q, 1])) := List.mem_filter.mpr ⟨List.mem_of_getElem? (List.getElem?_zip_eq_some.mpr ⟨h1, h2⟩), decide_eq_true rfl⟩
                    rw [e] at this
                    cases this
                  generalize (rs.zip cs).filter (fun x => decide (x.1 = [(-(z : Int)).fmod q, 1])) = fz at eB2 hm hne
                  match fz, hne with
                  | y :: fz', _ =>
                    refine ⟨B2, _, 0, .int (y.2 : Nat), rfl, rfl, SqL.of eB2, (show atI ((y :: fz').map fun x : List Int × Nat => V.int ((x.2 : Nat) : Int)) (((0 : Nat)) : Int) = some (.int (y.2 : Nat)) from atI_nat rfl), (by show 2 ≤ sizeLine; decide), fun v hv => ?_⟩
                    have sv := same_upd (o := .tup [.int (z : Nat), .int (y.2 : Nat)]) hv
                    have s17v := s17.trans sv
                    have eF2 := s17v _ _ eF
                    refine ⟨F0, _, _, rfl, rfl, eF2, ?_, fl ++ [v], zs ++ [(z, y.2)], _, _, _, _, rfl, lcs hF0 (s16.trans s17v), ?_, ?_, ?_, fun z' c' h => ?_⟩
                    · rw [List.length_map]
                      exact small1000 (by omega)
                    · rw [upd_same, List.map_append]
                      rfl
                    · exact (Zrs.snoc (z := (z, y.2)) upd_same (hZ.keep (kpS s17v))).keep (kpU eF2)
                    · rw [List.map_append, ez, List.range_succ, List.filter_append, List.filter_cons, if_pos (decide_eq_true hz0)]
                      rfl
                    · rcases List.mem_append.mp h with h | h
                      · exact cz z' c' h
                      · have := List.mem_singleton.mp h
                        cases this
                        exact hm y List.mem_cons_self
              · have hz0 : ¬ ev made (z : Int) made.length % (q : Int) = 0 := fun y => hb (decide_eq_true (by rw [y]))
                refine ⟨fl, zs, _, _, _, _, rfl, s16, eF, hZ, ?_, cz⟩
                rw [ez, List.range_succ, List.filter_append, List.filter_cons, if_neg (by rw [decide_eq_false hz0]; decide), List.filter_nil, List.append_nil]
            · rintro σ' H16 ⟨fl, zs, x10, x11, x14, x15, rfl, s16, eF, hZ, ez, cz⟩
              have s816 := s814.trans s16
              have eD16 := eD8 s816
              have g16 := g8.same s816
              have g17 := grLst (ys := ps.map V.ref ++ [V.int 0]) g16 nD eD16
              have neF : F0 ≠ D := fun e => by
                have z := (s813.trans s14).free hF0
                rw [e, eD] at z
                cases z
              have eF17 : L2.upd H16 D (.lst (ps.map V.ref ++ [V.int 0])) F0 = some (.lst (fl.map V.ref)) := by
                rw [upd_ne neF]
                exact eF
              have hZ17 : Zrs (L2.upd H16 D (.lst (ps.map V.ref ++ [V.int 0]))) fl zs := hZ.keep (kpU eD16)
              refine ⟨_, rfl, .inl ⟨rfl, _, SqL.of eD16⟩, D, _, _, rfl, rfl, eD16, ?_, ?_⟩
              · rw [List.length_map]
                exact small1000 (by omega)
              generalize L2.upd H16 D (.lst (ps.map V.ref ++ [V.int 0])) = H17 at g17 eF17 hZ17
              have W17 := W7.gr g17
              refine ⟨_, rfl, _, rfl, rfl, rfl, o, made, q, hq, rfl, W17.a0, pm, hn, W17.T, fun D2 ps2 zs2 H18 g18 nD2 eD2 hZ2 R2 => ?_⟩
              have ezz : zs = zs2 := zs_eq (ez.trans R2.zs.symm) cz R2.cnt
              subst ezz
              have eF18 := g18.x _ _ eF17 (fun _ z => by cases z)
              have hZ18 := hZ17.keep (kpG g18)
              have lz1 := hZ18.len
              have lz2 := hZ2.len
              have lzq : zs.length ≤ q := by
                have := congrArg List.length ez
                rw [List.length_map] at this
                have h2 := List.length_filter_le (fun z : Nat => decide (ev made (z : Int) made.length % (q : Int) = 0)) (List.range q)
                rw [List.length_range] at h2
                omega
              have sm2 : SameAt K H18 2 (.ref D2) (.ref F0) := by
                refine .inr ⟨D2, F0, _, _, rfl, rfl, .inl ⟨SqL.of eD2, SqL.of eF18⟩, by rw [List.length_map, List.length_map]; omega, by rw [List.length_map]; omega, fun y u v hu hv => ?_⟩
                obtain ⟨p1, z1, rfl, h1, ep1⟩ := hZ2.at hu
                obtain ⟨p2, z2, rfl, h2, ep2⟩ := hZ18.at hv
                rw [h1] at h2
                cases h2
                refine .inr ⟨p1, p2, _, _, rfl, rfl, .inr ⟨SqT.of ep1, SqT.of ep2⟩, rfl, (by show 2 ≤ 1000; decide), fun y u v hu hv => ?_⟩
                rw [hu] at hv
                cases hv
                match y, hu with
                | 0, hu => cases hu; exact ⟨rfl, rfl⟩
                | 1, hu => cases hu; exact ⟨rfl, rfl⟩
              refine ⟨_, rfl, .ref D2, .ref F0, rfl, sm2, fun H19 s19 => ⟨true, rfl, iteF ?_⟩⟩
              have W19 := (W17.gr g18).same s19
              refine ⟨_, rfl, _, rfl, rfl, rfl, o, made, q, hq, rfl, W19.a0, pm, hn, W19.T, fun t3 D3 ps3 la3 R3 rs3 cs3 H20 g20 nt3 nD3 et3 eD3 pr3 wr3 PP3 => ?_⟩
              refine ⟨t3, _, 1, .ref D3, rfl, rfl, SqT.of et3, rfl, _, _, .int 0, .lst (SqL.of eD3) (dp_pts pr3 wr3), rfl, sh_pts _, _, rfl, ?_⟩
              rw [pts_no0]
              exact iteF ⟨_, _, _, _, _, _, _, _, _, _, _, _, _, _, rfl, (W19.gr g20).tl⟩
    · rintro σ' H2 ⟨x2, x3, x4, x5, x6, x7, x8, x9, x10, x11, x12, x13, x14, x15, rfl, W2⟩
      have p3 : Pm (3 : Int) := ⟨by decide, by decide⟩
      have m3 : ((3 : Nat) : Int) ∈ primes := by decide
      have m2 : ((2 : Nat) : Int) ∈ primes := by decide
      refine ⟨(by show 4 ≤ sizeLine; decide), fun t1 h1 => ?_⟩
      have u1 := same_upd (o := .tup [.int 2, .int 0, .int 0, .int 2]) h1
      have W3 := W2.same u1
      have r3 : Rs 3 [2, 0, 0, 2] := rs_litA (by decide) (by decide)
      have r2 : Rs 2 [1] := rs_litA (by decide) (by decide)
      refine ⟨rfl, rfl, t1, [2, 0, 0, 2], 3, m3, rfl, upd_same, ⟨r3, by decide, by decide⟩, by decide, W3.T, fun t D ps la R rs cs H3 g3 nt nD et eD pr wr PP => ?_⟩
      obtain ⟨rfl, rfl⟩ := told3 PP
      refine ⟨(by show 2 ≤ sizeLine; decide), fun a1 b1 => ⟨(by show 2 ≤ sizeLine; decide), fun a2 b2 => ⟨(by show 1 ≤ sizeLine; decide), fun a3 b3 => ⟨(by show 2 ≤ sizeLine; decide), fun a4 b4 => ?_⟩⟩⟩⟩
      have v1 := same_upd (o := .tup [.int 1, .int 1]) b1
      have v2 := same_upd (o := .tup [.ref a1, .int 3]) b2
      have v3 := same_upd (o := .lst [.ref a2]) b3
      have v4 := same_upd (o := .tup [.int 2, .ref a3]) b4
      have e1 := (v2.trans (v3.trans v4)) _ _ (upd_same (H := H3) (a := a1) (o := .tup [.int 1, .int 1]))
      have e2 := (v3.trans v4) _ _ (upd_same (H := L2.upd H3 a1 (.tup [.int 1, .int 1])) (a := a2) (o := .tup [.ref a1, .int 3]))
      have e3 := v4 _ _ (upd_same (H := L2.upd (L2.upd H3 a1 (.tup [.int 1, .int 1])) a2 (.tup [.ref a1, .int 3])) (a := a3) (o := .lst [.ref a2]))
      have e4 := upd_same (H := L2.upd (L2.upd (L2.upd H3 a1 (.tup [.int 1, .int 1])) a2 (.tup [.ref a1, .int 3])) a3 (.lst [.ref a2])) (a := a4) (o := .tup [.int 2, .ref a3])
      have v := v1.trans (v2.trans (v3.trans v4))
      generalize L2.upd (L2.upd (L2.upd (L2.upd H3 a1 (.tup [.int 1, .int 1])) a2 (.tup [.ref a1, .int 3])) a3 (.lst [.ref a2])) a4 (.tup [.int 2, .ref a3]) = H4 at e1 e2 e3 e4 v
      have W4 := (W3.gr g3).same v
      have dt := dp_pts (K := K) (pr.keep (kpS v)) (wr.keep (kpS v))
      refine ⟨_, _, .tup (SqT.of (v _ _ et)) (.cons (.int _) (.cons (.lst (SqL.of (v _ _ eD)) dt) .nil)), .tup (SqT.of e4) (.cons (.int 2) (.cons (.lst (SqL.of e3) (.cons (.tup (SqT.of e2) (.cons (dp_tup (ns := [1, 1]) (SqT.of e1)) (.cons (.int 3) .nil))) .nil)) .nil)), by decide, by decide, _, rfl, iteT ?_⟩
      refine ⟨(by show 1 ≤ sizeLine; decide), fun t5 h5 => ?_⟩
      have u5 := same_upd (o := .tup [.int 1]) h5
      have W5 := W4.same u5
      refine ⟨t5, [1], 2, m2, rfl, upd_same, ⟨r2, by decide, by decide⟩, by decide, W5.T, fun t D ps la R rs cs H6 g6 nt nD et eD pr wr PP => ?_⟩
      obtain ⟨rfl, rfl⟩ := told1 PP
      refine ⟨(by show 0 ≤ sizeLine; decide), fun a1 b1 => ⟨(by show 2 ≤ sizeLine; decide), fun a2 b2 => ?_⟩⟩
      have v1 := same_upd (o := .lst []) b1
      have v2 := same_upd (o := .tup [.int 1, .ref a1]) b2
      have e1 := v2 _ _ (upd_same (H := H6) (a := a1) (o := .lst []))
      have e2 := upd_same (H := L2.upd H6 a1 (.lst [])) (a := a2) (o := .tup [.int 1, .ref a1])
      have v := v1.trans v2
      generalize L2.upd (L2.upd H6 a1 (.lst [])) a2 (.tup [.int 1, .ref a1]) = H7 at e1 e2 v
      have dt := dp_pts (K := K) (pr.keep (kpS v)) (wr.keep (kpS v))
      refine ⟨_, _, .tup (SqT.of (v _ _ et)) (.cons (.int _) (.cons (.lst (SqL.of (v _ _ eD)) dt) .nil)), .tup (SqT.of e2) (.cons (.int 1) (.cons (.lst (SqL.of e1) .nil) .nil)), by decide, by decide, ?_⟩
      exact k _
end
end Xk
end
section
set_option Elab.async false
set_option linter.all false
set_option maxRecDepth 100000
set_option maxHeartbeats 4000000
namespace Xk
open PySem PySem.Spec PyProof.Rows L2 Xh LamX He NdefX
section
variable {P : Program} {w : World} {K : PySem.W.Frag} {mg : Str → Option Value} {base : Heap}
theorem o_init0 {f : Addr} {fd : FuncData} (F : FunD K "__init__" "RungError.__init__" (defArgs s_RungError___init) (defBody s_RungError___init) (defScope s_RungError___init) [] [] f fd) : FnR P w K mg base (L2.CX P w) 1 f (spRI1 K) :=
  ok_rinit (st := s_RungError___init) F sc_RungError___init (fun kV doc pm an cdv ct => StX.bind_star1 (p1 := "self") (pv := "told") (B := fun vs => bindArgs (PySem.W.fnOf "__init__" "RungError.__init__" (defArgs s_RungError___init) (defBody s_RungError___init) (defScope s_RungError___init) .none kV doc pm an cdv ct) ⟨vs, []⟩) (fun a => rfl) (fun a r rs => rfl))
    (fun X hK hN hs => by
      subst hK
      have hN0 : X.N[0]? = some ("self" : Str) := by rw [hN]; rfl
      have hv0 : Vis X.env.scope ("self" : Str) := by rw [hs]; first | exact Or.inl rfl | exact Or.inr (Or.inl rfl) | exact Or.inr (Or.inr rfl)
      exact pss_one (ps_ost (pv 0 hN0 hv0) (pe_clsnm (pv 0 hN0 hv0))))
theorem code_of {x q : Str} {params : Arguments} {body : List Stmt} {scope : Scope} {dvs : List V} {kws : List (Str × V)} {p : Defn} {fd : FuncData} (F : FunD K x q params body scope dvs kws (fAd K p) fd) : fd.code = .ref (cT K p).1 := by
  obtain ⟨oc, od, dV, kV, doc, pm, an, cdv, ct, osl, rfl, lk, hcd, hD, _⟩ := F.ex
  obtain ⟨c, rfl⟩ := codeIn_ref hcd
  show Value.ref c = .ref (codeOf K p)
  rw [codeOf_eq lk rfl]
theorem lit_tup (H : Hp) (h : tupB K "PRIMES" (primes.map Dv.int) = true) : SqT K H (ga K "PRIMES") (primes.map V.int) := by
  have z := tupB_ok h H
  rw [List.map_map] at z
  exact z
def kOf (K : PySem.W.Frag) (i : Fin 14) : Addr := ga K (((["BadPrime", "BadPoly"] : List Str)).getD i.val "BadPrime")
theorem facts {h : Heap} {f : Addr} (X : K.In h) (G : h.Ns mainGlobals mg) (hfa : mg ("law" : Str) = some (.ref f)) (c : SaysX faL fnL [] [("rest_power", none), ("raw_power", none), ("raw_parts", none)] exL w h K) :
    ∃ fd : FuncData, (∀ (s : Shared) (v : Value), BindsTo s fd ⟨[v], []⟩ [("_law_script", v)]) ∧ ∀ base : Heap, TabB base mg (cT K ("rest_power", none)).1 (cT K ("rest_power", none)).2 → TabB base mg (cT K ("raw_power", none)).1 (cT K ("raw_power", none)).2 → TabB base mg (cT K ("raw_parts", none)).1 (cT K ("raw_parts", none)).2 → FnOk P w K mg base CX0 64 f fd ["_law_script"] (spLaw K (cT K ("rest_power", none)).2 (cT K ("raw_power", none)).2 (cT K ("raw_parts", none)).2) := by
  obtain ⟨e0, e⟩ := ba c.more
  obtain ⟨e1, e⟩ := ba e
  obtain ⟨e2, e⟩ := ba e
  obtain ⟨e3, e⟩ := ba e
  obtain ⟨e4, e⟩ := ba e
  have e5 := e
  obtain ⟨r_BadPrime, w_BadPrime, i_BadPrime, t_BadPrime⟩ := clsB_ok e1
  obtain ⟨r_BadPoly, w_BadPoly, i_BadPoly, t_BadPoly⟩ := clsB_ok e2
  have hne_rest_power_raw_power := of_decide_eq_true e3
  have hne_rest_power_raw_parts := of_decide_eq_true e4
  have hne_raw_power_raw_parts := of_decide_eq_true e5
  obtain ⟨fdRungError___init, FRungError___init⟩ := c.t.d.def_ 0 (d := fnL[0]) rfl
  obtain ⟨fdpower_by, Fpower_by⟩ := c.t.d.def_ 1 (d := fnL[1]) rfl
  obtain ⟨fdis_prime, Fis_prime⟩ := c.t.d.def_ 2 (d := fnL[2]) rfl
  obtain ⟨fdis_number, Fis_number⟩ := c.t.d.def_ 3 (d := fnL[3]) rfl
  obtain ⟨fdis_rest, Fis_rest⟩ := c.t.d.def_ 4 (d := fnL[4]) rfl
  obtain ⟨fdrefuse_prime, Frefuse_prime⟩ := c.t.d.def_ 5 (d := fnL[5]) rfl
  obtain ⟨fdrest_power, Frest_power⟩ := c.t.d.def_ 6 (d := fnL[6]) rfl
  obtain ⟨fdraw_stepped, Fraw_stepped⟩ := c.t.d.def_ 7 (d := fnL[7]) rfl
  obtain ⟨fdcleared, Fcleared⟩ := c.t.d.def_ 8 (d := fnL[8]) rfl
  obtain ⟨fdhead_place, Fhead_place⟩ := c.t.d.def_ 9 (d := fnL[9]) rfl
  obtain ⟨fdunit_row, Funit_row⟩ := c.t.d.def_ 10 (d := fnL[10]) rfl
  obtain ⟨fdraw_kernel, Fraw_kernel⟩ := c.t.d.def_ 11 (d := fnL[11]) rfl
  obtain ⟨fdtrimmed, Ftrimmed⟩ := c.t.d.def_ 12 (d := fnL[12]) rfl
  obtain ⟨fdraw_scaled, Fraw_scaled⟩ := c.t.d.def_ 13 (d := fnL[13]) rfl
  obtain ⟨fdraw_plus, Fraw_plus⟩ := c.t.d.def_ 14 (d := fnL[14]) rfl
  obtain ⟨fdraw_minus, Fraw_minus⟩ := c.t.d.def_ 15 (d := fnL[15]) rfl
  obtain ⟨fdraw_times, Fraw_times⟩ := c.t.d.def_ 16 (d := fnL[16]) rfl
  obtain ⟨fdraw_parted, Fraw_parted⟩ := c.t.d.def_ 17 (d := fnL[17]) rfl
  obtain ⟨fdraw_left, Fraw_left⟩ := c.t.d.def_ 18 (d := fnL[18]) rfl
  obtain ⟨fdraw_value, Fraw_value⟩ := c.t.d.def_ 19 (d := fnL[19]) rfl
  obtain ⟨fdraw_power, Fraw_power⟩ := c.t.d.def_ 20 (d := fnL[20]) rfl
  obtain ⟨fdraw_slope, Fraw_slope⟩ := c.t.d.def_ 21 (d := fnL[21]) rfl
  obtain ⟨fdraw_level, Fraw_level⟩ := c.t.d.def_ 22 (d := fnL[22]) rfl
  obtain ⟨fdraw_greatest, Fraw_greatest⟩ := c.t.d.def_ 23 (d := fnL[23]) rfl
  obtain ⟨fdpadded, Fpadded⟩ := c.t.d.def_ 24 (d := fnL[24]) rfl
  obtain ⟨fdturn_rows, Fturn_rows⟩ := c.t.d.def_ 25 (d := fnL[25]) rfl
  obtain ⟨fdis_poly, Fis_poly⟩ := c.t.d.def_ 26 (d := fnL[26]) rfl
  obtain ⟨fdrefuse_polys, Frefuse_polys⟩ := c.t.d.def_ 27 (d := fnL[27]) rfl
  obtain ⟨fdparts, Fparts⟩ := c.t.d.def_ 28 (d := fnL[28]) rfl
  obtain ⟨fdrest_roots, Frest_roots⟩ := c.t.d.def_ 29 (d := fnL[29]) rfl
  obtain ⟨fdrefuse_nought_poly, Frefuse_nought_poly⟩ := c.t.d.def_ 30 (d := fnL[30]) rfl
  obtain ⟨fdraw_parts, Fraw_parts⟩ := c.t.d.def_ 31 (d := fnL[31]) rfl
  obtain ⟨fdtaken_out, Ftaken_out⟩ := c.t.d.def_ 32 (d := fnL[32]) rfl
  obtain ⟨fdwhole_parts, Fwhole_parts⟩ := c.t.d.def_ 33 (d := fnL[33]) rfl
  obtain ⟨fdsingle_parts, Fsingle_parts⟩ := c.t.d.def_ 34 (d := fnL[34]) rfl
  obtain ⟨fdsteady_polys, Fsteady_polys⟩ := c.t.d.def_ 35 (d := fnL[35]) rfl
  obtain ⟨fdsplit_by, Fsplit_by⟩ := c.t.d.def_ 36 (d := fnL[36]) rfl
  obtain ⟨fdhalf_mask, Fhalf_mask⟩ := c.t.d.def_ 37 (d := fnL[37]) rfl
  obtain ⟨fdlaw_begin, Flaw_begin⟩ := c.t.d.def_ 38 (d := fnL[38]) rfl
  obtain ⟨fdlaw_take, Flaw_take⟩ := c.t.d.def_ 39 (d := fnL[39]) rfl
  obtain ⟨fdlaw_of, Flaw_of⟩ := c.t.d.def_ 40 (d := fnL[40]) rfl
  obtain ⟨fdlaw_same, Flaw_same⟩ := c.t.d.def_ 41 (d := fnL[41]) rfl
  obtain ⟨fdlaw_trim, Flaw_trim⟩ := c.t.d.def_ 42 (d := fnL[42]) rfl
  obtain ⟨fdlaw_rests, Flaw_rests⟩ := c.t.d.def_ 43 (d := fnL[43]) rfl
  obtain ⟨fdlaw_poly, Flaw_poly⟩ := c.t.d.def_ 44 (d := fnL[44]) rfl
  obtain ⟨fdlaw_conv, Flaw_conv⟩ := c.t.d.def_ 45 (d := fnL[45]) rfl
  obtain ⟨fdlaw_mul, Flaw_mul⟩ := c.t.d.def_ 46 (d := fnL[46]) rfl
  obtain ⟨fdlaw_back, Flaw_back⟩ := c.t.d.def_ 47 (d := fnL[47]) rfl
  obtain ⟨fdlaw_cut_by, Flaw_cut_by⟩ := c.t.d.def_ 48 (d := fnL[48]) rfl
  obtain ⟨fdlaw_rem, Flaw_rem⟩ := c.t.d.def_ 49 (d := fnL[49]) rfl
  obtain ⟨fdlaw_worth, Flaw_worth⟩ := c.t.d.def_ 50 (d := fnL[50]) rfl
  obtain ⟨fdlaw_tuples, Flaw_tuples⟩ := c.t.d.def_ 51 (d := fnL[51]) rfl
  obtain ⟨fdlaw_pairs, Flaw_pairs⟩ := c.t.d.def_ 52 (d := fnL[52]) rfl
  obtain ⟨fdlaw_first_part, Flaw_first_part⟩ := c.t.d.def_ 53 (d := fnL[53]) rfl
  obtain ⟨fdlaw_is_whole, Flaw_is_whole⟩ := c.t.d.def_ 54 (d := fnL[54]) rfl
  obtain ⟨fdlaw, Flaw⟩ := c.t.d.def_ 55 (d := fnL[55]) rfl
  have e := hfa.symm.trans (glo_ok X G (c.t.d.fact 58 (f := .glo "law") rfl))
  cases e
  have b := FunD.bindsA (ps := ["_law_script"]) Flaw fun _ _ _ _ _ _ us hl => match us, hl with | [_], _ => rfl
  have T : Fre mg := ⟨free_ok X G (c.t.d.fact 60 (f := .free "len") rfl), free_ok X G (c.t.d.fact 61 (f := .free "abs") rfl), free_ok X G (c.t.d.fact 62 (f := .free "list") rfl), free_ok X G (c.t.d.fact 63 (f := .free "tuple") rfl), free_ok X G (c.t.d.fact 64 (f := .free "int") rfl), free_ok X G (c.t.d.fact 65 (f := .free "bool") rfl), free_ok X G (c.t.d.fact 66 (f := .free "str") rfl), free_ok X G (c.t.d.fact 67 (f := .free "isinstance") rfl), free_ok X G (c.t.d.fact 68 (f := .free "range") rfl), free_ok X G (c.t.d.fact 69 (f := .free "all") rfl), free_ok X G (c.t.d.fact 70 (f := .free "zip") rfl), free_ok X G (c.t.d.fact 71 (f := .free "enumerate") rfl), free_ok X G (c.t.d.fact 72 (f := .free "max") rfl), free_ok X G (c.t.d.fact 73 (f := .free "reversed") rfl), free_ok X G (c.t.d.fact 74 (f := .free "any") rfl), free_ok X G (c.t.d.fact 75 (f := .free "sorted") rfl), free_ok X G (c.t.d.fact 76 (f := .free "set") rfl)⟩
  have x_BadPrime : RX K mg (ga K "BadPrime") (ma K (ga K "RungError") "__init__") "BadPrime" := ⟨r_BadPrime, w_BadPrime, i_BadPrime, t_BadPrime, glo_ok X G (c.t.d.fact 1 (f := .glo "BadPrime") rfl)⟩
  have x_BadPoly : RX K mg (ga K "BadPoly") (ma K (ga K "RungError") "__init__") "BadPoly" := ⟨r_BadPoly, w_BadPoly, i_BadPoly, t_BadPoly, glo_ok X G (c.t.d.fact 2 (f := .glo "BadPoly") rfl)⟩
  have mP : mg "PRIMES" = some (.ref (ga K "PRIMES")) := glo_ok X G (c.t.d.fact 3 (f := .glo "PRIMES") rfl)
  have hP : ∀ H, SqT K H (ga K "PRIMES") (primes.map V.int) := fun H => lit_tup H e0
  have mI_MOST_RESTS : ∃ t, mg "MOST_RESTS" = some (.int 25 t) := int_ok X G (c.t.d.fact 59 (f := .int "MOST_RESTS" 25) rfl)
  refine ⟨fdlaw, fun s v => b s [v] rfl, fun base TB_rest_power TB_raw_power TB_raw_parts => ?_⟩
  have o_init : FnR P w K mg base (L2.CX P w) 1 (ma K (ga K "RungError") "__init__") (spRI1 K) := o_init0 FRungError___init
  have hu2 : ∀ p ∈ [((cT K ("rest_power", none)).2, rpQ), ((cT K ("raw_power", none)).2, pwQ), ((cT K ("raw_parts", none)).2, kyQ)], p.1 = (cT K ("rest_power", none)).2 → p.2 = rpQ := fun p hp e => by
    rcases List.mem_cons.mp hp with rfl | hp
    · rfl
    rcases List.mem_cons.mp hp with rfl | hp
    · exact absurd e (Ne.symm hne_rest_power_raw_power)
    · rw [List.mem_singleton.mp hp] at e ⊢
      exact absurd e (Ne.symm hne_rest_power_raw_parts)
  have hu3 : ∀ p ∈ [((cT K ("rest_power", none)).2, rpQ), ((cT K ("raw_power", none)).2, pwQ), ((cT K ("raw_parts", none)).2, kyQ)], p.1 = (cT K ("raw_power", none)).2 → p.2 = pwQ := fun p hp e => by
    rcases List.mem_cons.mp hp with rfl | hp
    · exact absurd e hne_rest_power_raw_power
    rcases List.mem_cons.mp hp with rfl | hp
    · rfl
    · rw [List.mem_singleton.mp hp] at e ⊢
      exact absurd e (Ne.symm hne_raw_power_raw_parts)
  have hu4 : ∀ p ∈ [((cT K ("rest_power", none)).2, rpQ), ((cT K ("raw_power", none)).2, pwQ), ((cT K ("raw_parts", none)).2, kyQ)], p.1 = (cT K ("raw_parts", none)).2 → p.2 = kyQ := fun p hp e => by
    rcases List.mem_cons.mp hp with rfl | hp
    · exact absurd e hne_rest_power_raw_parts
    rcases List.mem_cons.mp hp with rfl | hp
    · exact absurd e hne_raw_power_raw_parts
    · rw [List.mem_singleton.mp hp] at e ⊢
      try rfl
  have o_law_begin := own_of Flaw_begin (ok_begin (P := P) (w := w) (mg := mg) (base := base)  Flaw_begin T) (glo_ok X G (c.t.d.fact 41 (f := .glo "_law_begin") rfl)) (fun _ _ _ _ _ _ us hl => match us, hl with | [_], _ => rfl)
  have o_law_take := own_of Flaw_take (ok_take (P := P) (w := w) (mg := mg) (base := base)  Flaw_take T) (glo_ok X G (c.t.d.fact 42 (f := .glo "_law_take") rfl)) (fun _ _ _ _ _ _ us hl => match us, hl with | [_, _], _ => rfl)
  have o_law_of := own_of Flaw_of (ok_of (P := P) (w := w) (mg := mg) (base := base)  Flaw_of T o_law_take) (glo_ok X G (c.t.d.fact 43 (f := .glo "_law_of") rfl)) (fun _ _ _ _ _ _ us hl => match us, hl with | [_, _], _ => rfl)
  have o_law_same := own_of Flaw_same (ok_same (P := P) (w := w) (mg := mg) (base := base)  Flaw_same T (glo_ok X G (c.t.d.fact 44 (f := .glo "_law_same") rfl)) 3) (glo_ok X G (c.t.d.fact 44 (f := .glo "_law_same") rfl)) (fun _ _ _ _ _ _ us hl => match us, hl with | [_, _], _ => rfl)
  have o_is_prime := own_of Fis_prime (ok_is_prime (P := P) (w := w) (mg := mg) (base := base)  Fis_prime mP hP) (glo_ok X G (c.t.d.fact 5 (f := .glo "is_prime") rfl)) (fun _ _ _ _ _ _ us hl => match us, hl with | [_], _ => rfl)
  have o_is_number := own_of Fis_number (ok_is_number (P := P) (w := w) (mg := mg) (base := base)  Fis_number T) (glo_ok X G (c.t.d.fact 6 (f := .glo "is_number") rfl)) (fun _ _ _ _ _ _ us hl => match us, hl with | [_], _ => rfl)
  have o_is_rest := own_of Fis_rest (ok_is_rest (P := P) (w := w) (mg := mg) (base := base)  Fis_rest o_is_number) (glo_ok X G (c.t.d.fact 7 (f := .glo "is_rest") rfl)) (fun _ _ _ _ _ _ us hl => match us, hl with | [_, _], _ => rfl)
  have o_refuse_prime := own_of Frefuse_prime (ok_refuse_prime (P := P) (w := w) (mg := mg) (base := base)  Frefuse_prime o_is_prime x_BadPrime o_init) (glo_ok X G (c.t.d.fact 8 (f := .glo "refuse_prime") rfl)) (fun _ _ _ _ _ _ us hl => match us, hl with | [_], _ => rfl)
  have G_power_by := ok_power_by (P := P) (w := w) (mg := mg) (base := base) (kl := 1) Fpower_by (glo_ok X G (c.t.d.fact 4 (f := .glo "power_by") rfl))
  have o_rest_power := own_of Frest_power (ok_rest_power (P := P) (w := w) (mg := mg) (base := base) (T := [((cT K ("rest_power", none)).2, rpQ), ((cT K ("raw_power", none)).2, pwQ), ((cT K ("raw_parts", none)).2, kyQ)]) Frest_power (code_of (p := ("rest_power", none)) Frest_power) TB_rest_power List.mem_cons_self hu2 G_power_by) (glo_ok X G (c.t.d.fact 9 (f := .glo "rest_power") rfl)) (fun _ _ _ _ _ _ us hl => match us, hl with | [_, _, _], _ => rfl)
  have o_trimmed := own_of Ftrimmed (ok_trimmed (P := P) (w := w) (mg := mg) (base := base)  Ftrimmed T) (glo_ok X G (c.t.d.fact 15 (f := .glo "trimmed") rfl)) (fun _ _ _ _ _ _ us hl => match us, hl with | [_], _ => rfl)
  have o_raw_scaled := own_of Fraw_scaled (ok_raw_scaled (P := P) (w := w) (mg := mg) (base := base)  Fraw_scaled o_trimmed) (glo_ok X G (c.t.d.fact 16 (f := .glo "raw_scaled") rfl)) (fun _ _ _ _ _ _ us hl => match us, hl with | [_, _, _], _ => rfl)
  have o_raw_plus := own_of Fraw_plus (ok_raw_plus (P := P) (w := w) (mg := mg) (base := base)  Fraw_plus T o_trimmed) (glo_ok X G (c.t.d.fact 17 (f := .glo "raw_plus") rfl)) (fun _ _ _ _ _ _ us hl => match us, hl with | [_, _, _], _ => rfl)
  have o_raw_minus := own_of Fraw_minus (ok_raw_minus (P := P) (w := w) (mg := mg) (base := base)  Fraw_minus o_raw_scaled o_raw_plus) (glo_ok X G (c.t.d.fact 18 (f := .glo "raw_minus") rfl)) (fun _ _ _ _ _ _ us hl => match us, hl with | [_, _, _], _ => rfl)
  have o_raw_times := own_of Fraw_times (ok_raw_times (P := P) (w := w) (mg := mg) (base := base)  Fraw_times T o_trimmed) (glo_ok X G (c.t.d.fact 19 (f := .glo "raw_times") rfl)) (fun _ _ _ _ _ _ us hl => match us, hl with | [_, _, _], _ => rfl)
  have o_raw_parted := own_of Fraw_parted (ok_raw_parted (P := P) (w := w) (mg := mg) (base := base) (TT := [((cT K ("rest_power", none)).2, rpQ), ((cT K ("raw_power", none)).2, pwQ), ((cT K ("raw_parts", none)).2, kyQ)]) Fraw_parted T o_trimmed o_rest_power) (glo_ok X G (c.t.d.fact 20 (f := .glo "raw_parted") rfl)) (fun _ _ _ _ _ _ us hl => match us, hl with | [_, _, _], _ => rfl)
  have o_raw_left := own_of Fraw_left (ok_raw_left (P := P) (w := w) (mg := mg) (base := base) (TT := [((cT K ("rest_power", none)).2, rpQ), ((cT K ("raw_power", none)).2, pwQ), ((cT K ("raw_parts", none)).2, kyQ)]) Fraw_left o_raw_parted) (glo_ok X G (c.t.d.fact 21 (f := .glo "raw_left") rfl)) (fun _ _ _ _ _ _ us hl => match us, hl with | [_, _, _], _ => rfl)
  have G_power_by := ok_power_by (P := P) (w := w) (mg := mg) (base := base) (kl := 6) Fpower_by (glo_ok X G (c.t.d.fact 4 (f := .glo "power_by") rfl))
  have o_raw_power := own_of Fraw_power (ok_raw_power (P := P) (w := w) (mg := mg) (base := base) (TT := [((cT K ("rest_power", none)).2, rpQ), ((cT K ("raw_power", none)).2, pwQ), ((cT K ("raw_parts", none)).2, kyQ)]) Fraw_power (code_of (p := ("raw_power", none)) Fraw_power) TB_raw_power (List.mem_cons_of_mem _ List.mem_cons_self) hu3 G_power_by o_raw_times o_raw_left) (glo_ok X G (c.t.d.fact 23 (f := .glo "raw_power") rfl)) (fun _ _ _ _ _ _ us hl => match us, hl with | [_, _, _, _], _ => rfl)
  have o_raw_level := own_of Fraw_level (ok_raw_level (P := P) (w := w) (mg := mg) (base := base) (TT := [((cT K ("rest_power", none)).2, rpQ), ((cT K ("raw_power", none)).2, pwQ), ((cT K ("raw_parts", none)).2, kyQ)]) Fraw_level o_raw_scaled o_rest_power) (glo_ok X G (c.t.d.fact 25 (f := .glo "raw_level") rfl)) (fun _ _ _ _ _ _ us hl => match us, hl with | [_, _], _ => rfl)
  have o_raw_greatest := own_of Fraw_greatest (ok_raw_greatest (P := P) (w := w) (mg := mg) (base := base) (TT := [((cT K ("rest_power", none)).2, rpQ), ((cT K ("raw_power", none)).2, pwQ), ((cT K ("raw_parts", none)).2, kyQ)]) Fraw_greatest o_raw_left o_raw_level) (glo_ok X G (c.t.d.fact 26 (f := .glo "raw_greatest") rfl)) (fun _ _ _ _ _ _ us hl => match us, hl with | [_, _, _], _ => rfl)
  have o_q_trimmed := own_of Ftrimmed (q_trimmed (P := P) (w := w) (mg := mg) (base := base)  Ftrimmed T) (glo_ok X G (c.t.d.fact 15 (f := .glo "trimmed") rfl)) (fun _ _ _ _ _ _ us hl => match us, hl with | [_], _ => rfl)
  have o_padded := own_of Fpadded (ok_padded (P := P) (w := w) (mg := mg) (base := base)  Fpadded T) (glo_ok X G (c.t.d.fact 27 (f := .glo "padded") rfl)) (fun _ _ _ _ _ _ us hl => match us, hl with | [_, _], _ => rfl)
  have o_turn_rows := own_of Fturn_rows (ok_turn_rows (P := P) (w := w) (mg := mg) (base := base) (TT := [((cT K ("rest_power", none)).2, rpQ), ((cT K ("raw_power", none)).2, pwQ), ((cT K ("raw_parts", none)).2, kyQ)]) Fturn_rows T o_raw_left o_raw_power o_raw_times o_padded) (glo_ok X G (c.t.d.fact 28 (f := .glo "turn_rows") rfl)) (fun _ _ _ _ _ _ us hl => match us, hl with | [_, _], _ => rfl)
  have o_raw_value := own_of Fraw_value (ok_raw_value (P := P) (w := w) (mg := mg) (base := base)  Fraw_value T) (glo_ok X G (c.t.d.fact 22 (f := .glo "raw_value") rfl)) (fun _ _ _ _ _ _ us hl => match us, hl with | [_, _, _], _ => rfl)
  have o_raw_slope := own_of Fraw_slope (ok_raw_slope (P := P) (w := w) (mg := mg) (base := base)  Fraw_slope T o_trimmed) (glo_ok X G (c.t.d.fact 24 (f := .glo "raw_slope") rfl)) (fun _ _ _ _ _ _ us hl => match us, hl with | [_, _], _ => rfl)
  have o_cleared := own_of Fcleared (ok_cleared (P := P) (w := w) (mg := mg) (base := base)  Fcleared T) (glo_ok X G (c.t.d.fact 11 (f := .glo "cleared") rfl)) (fun _ _ _ _ _ _ us hl => match us, hl with | [_, _, _, _], _ => rfl)
  have o_raw_stepped := own_of Fraw_stepped (ok_raw_stepped (P := P) (w := w) (mg := mg) (base := base) (TT := [((cT K ("rest_power", none)).2, rpQ), ((cT K ("raw_power", none)).2, pwQ), ((cT K ("raw_parts", none)).2, kyQ)]) Fraw_stepped T o_rest_power o_cleared) (glo_ok X G (c.t.d.fact 10 (f := .glo "raw_stepped") rfl)) (fun _ _ _ _ _ _ us hl => match us, hl with | [_, _, _], _ => rfl)
  have o_head_place := own_of Fhead_place (ok_head_place (P := P) (w := w) (mg := mg) (base := base)  Fhead_place T) (glo_ok X G (c.t.d.fact 12 (f := .glo "head_place") rfl)) (fun _ _ _ _ _ _ us hl => match us, hl with | [_], _ => rfl)
  have o_unit_row := own_of Funit_row (ok_unit_row (P := P) (w := w) (mg := mg) (base := base)  Funit_row T) (glo_ok X G (c.t.d.fact 13 (f := .glo "unit_row") rfl)) (fun _ _ _ _ _ _ us hl => match us, hl with | [_, _], _ => rfl)
  have o_raw_kernel := own_of Fraw_kernel (ok_raw_kernel (P := P) (w := w) (mg := mg) (base := base) (TT := [((cT K ("rest_power", none)).2, rpQ), ((cT K ("raw_power", none)).2, pwQ), ((cT K ("raw_parts", none)).2, kyQ)]) Fraw_kernel T o_raw_stepped o_head_place o_unit_row) (glo_ok X G (c.t.d.fact 14 (f := .glo "raw_kernel") rfl)) (fun _ _ _ _ _ _ us hl => match us, hl with | [_, _, _], _ => rfl)
  have o_half_mask := own_of Fhalf_mask (ok_half_mask (P := P) (w := w) (mg := mg) (base := base) (TT := [((cT K ("rest_power", none)).2, rpQ), ((cT K ("raw_power", none)).2, pwQ), ((cT K ("raw_parts", none)).2, kyQ)]) Fhalf_mask T o_raw_plus o_trimmed o_raw_minus o_raw_power) (glo_ok X G (c.t.d.fact 40 (f := .glo "half_mask") rfl)) (fun _ _ _ _ _ _ us hl => match us, hl with | [_, _, _, _], _ => rfl)
  have o_taken_out := own_of Ftaken_out (ok_taken_out (P := P) (w := w) (mg := mg) (base := base) (TT := [((cT K ("rest_power", none)).2, rpQ), ((cT K ("raw_power", none)).2, pwQ), ((cT K ("raw_parts", none)).2, kyQ)]) Ftaken_out o_raw_parted) (glo_ok X G (c.t.d.fact 35 (f := .glo "taken_out") rfl)) (fun _ _ _ _ _ _ us hl => match us, hl with | [_, _, _], _ => rfl)
  have o_split_by := own_of Fsplit_by (ok_split_by (P := P) (w := w) (mg := mg) (base := base) (TT := [((cT K ("rest_power", none)).2, rpQ), ((cT K ("raw_power", none)).2, pwQ), ((cT K ("raw_parts", none)).2, kyQ)]) Fsplit_by T (glo_ok X G (c.t.d.fact 39 (f := .glo "split_by") rfl)) o_raw_left o_raw_greatest o_half_mask o_raw_parted 24) (glo_ok X G (c.t.d.fact 39 (f := .glo "split_by") rfl)) (fun _ _ _ _ _ _ us hl => match us, hl with | [_, _, _], _ => rfl)
  have o_steady_polys := own_of Fsteady_polys (ok_steady_polys (P := P) (w := w) (mg := mg) (base := base) (TT := [((cT K ("rest_power", none)).2, rpQ), ((cT K ("raw_power", none)).2, pwQ), ((cT K ("raw_parts", none)).2, kyQ)]) Fsteady_polys T o_turn_rows o_raw_kernel o_q_trimmed) (glo_ok X G (c.t.d.fact 38 (f := .glo "steady_polys") rfl)) (fun _ _ _ _ _ _ us hl => match us, hl with | [_, _], _ => rfl)
  have o_single_parts := own_of Fsingle_parts (ok_single_parts (P := P) (w := w) (mg := mg) (base := base) (TT := [((cT K ("rest_power", none)).2, rpQ), ((cT K ("raw_power", none)).2, pwQ), ((cT K ("raw_parts", none)).2, kyQ)]) Fsingle_parts T o_steady_polys o_split_by) (glo_ok X G (c.t.d.fact 37 (f := .glo "single_parts") rfl)) (fun _ _ _ _ _ _ us hl => match us, hl with | [_, _], _ => rfl)
  have o_whole_parts := own_of Fwhole_parts (ok_whole_parts (P := P) (w := w) (mg := mg) (base := base) (TT := [((cT K ("rest_power", none)).2, rpQ), ((cT K ("raw_power", none)).2, pwQ), ((cT K ("raw_parts", none)).2, kyQ)]) Fwhole_parts T (glo_ok X G (c.t.d.fact 36 (f := .glo "whole_parts") rfl)) o_raw_slope o_raw_greatest o_raw_parted o_single_parts o_taken_out 25) (glo_ok X G (c.t.d.fact 36 (f := .glo "whole_parts") rfl)) (fun _ _ _ _ _ _ us hl => match us, hl with | [_, _], _ => rfl)
  have o_raw_parts := own_of Fraw_parts (ok_raw_parts (P := P) (w := w) (mg := mg) (base := base) (TT := [((cT K ("rest_power", none)).2, rpQ), ((cT K ("raw_power", none)).2, pwQ), ((cT K ("raw_parts", none)).2, kyQ)]) Fraw_parts (code_of (p := ("raw_parts", none)) Fraw_parts) TB_raw_parts (List.mem_cons_of_mem _ (List.mem_cons_of_mem _ List.mem_cons_self)) hu4 T o_whole_parts o_taken_out) (glo_ok X G (c.t.d.fact 34 (f := .glo "raw_parts") rfl)) (fun _ _ _ _ _ _ us hl => match us, hl with | [_, _], _ => rfl)
  have o_is_poly := own_of Fis_poly (ok_is_poly (P := P) (w := w) (mg := mg) (base := base)  Fis_poly T mI_MOST_RESTS o_is_rest) (glo_ok X G (c.t.d.fact 29 (f := .glo "is_poly") rfl)) (fun _ _ _ _ _ _ us hl => match us, hl with | [_, _], _ => rfl)
  have o_refuse_polys := own_of Frefuse_polys (ok_refuse_polys (P := P) (w := w) (mg := mg) (base := base) (C := kOf K) Frefuse_polys o_refuse_prime o_is_poly x_BadPoly o_init) (glo_ok X G (c.t.d.fact 30 (f := .glo "refuse_polys") rfl)) (fun _ _ _ _ _ _ us hl => match us, hl with | [_, _], _ => rfl)
  have o_refuse_nought_poly := own_of Frefuse_nought_poly (ok_refuse_nought_poly (P := P) (w := w) (mg := mg) (base := base)  Frefuse_nought_poly o_refuse_polys) (glo_ok X G (c.t.d.fact 33 (f := .glo "refuse_nought_poly") rfl)) (fun _ _ _ _ _ _ us hl => match us, hl with | [_, _], _ => rfl)
  have G_parts := ok_parts (P := P) (w := w) (mg := mg) (base := base) (TT := [((cT K ("rest_power", none)).2, rpQ), ((cT K ("raw_power", none)).2, pwQ), ((cT K ("raw_parts", none)).2, kyQ)]) Fparts o_refuse_nought_poly o_raw_level o_raw_parts
  have k_parts := own_ofK (n := 1) (ks := ["prime"]) Fparts G_parts (glo_ok X G (c.t.d.fact 31 (f := .glo "parts") rfl)) (fun _ _ _ _ _ _ us ws hl hk => match us, hl, ws, hk with | [_], _, [_], _ => rfl)
  have o_parts := own_of0 Fparts G_parts (glo_ok X G (c.t.d.fact 31 (f := .glo "parts") rfl)) 1 (by intro z; cases z) rfl (fun D _ _ _ _ _ us ks hl hk => match us, hl, ks, hk with | [_], _, [_], _ => ⟨_, _, _, _, _, _, rfl, rfl, rfl⟩)
  have G_rest_roots := ok_rest_roots (P := P) (w := w) (mg := mg) (base := base) (TT := [((cT K ("rest_power", none)).2, rpQ), ((cT K ("raw_power", none)).2, pwQ), ((cT K ("raw_parts", none)).2, kyQ)]) Frest_roots T o_refuse_nought_poly o_raw_value o_taken_out
  have k_rest_roots := own_ofK (n := 1) (ks := ["prime"]) Frest_roots G_rest_roots (glo_ok X G (c.t.d.fact 32 (f := .glo "rest_roots") rfl)) (fun _ _ _ _ _ _ us ws hl hk => match us, hl, ws, hk with | [_], _, [_], _ => rfl)
  have o_rest_roots := own_of0 Frest_roots G_rest_roots (glo_ok X G (c.t.d.fact 32 (f := .glo "rest_roots") rfl)) 1 (by intro z; cases z) rfl (fun D _ _ _ _ _ us ks hl hk => match us, hl, ks, hk with | [_], _, [_], _ => ⟨_, _, _, _, _, _, rfl, rfl, rfl⟩)
  have o_law_trim := own_of Flaw_trim (ok_law_trim (P := P) (w := w) (mg := mg) (base := base)  Flaw_trim T) (glo_ok X G (c.t.d.fact 45 (f := .glo "_law_trim") rfl)) (fun _ _ _ _ _ _ us hl => match us, hl with | [_], _ => rfl)
  have o_law_rests := own_of Flaw_rests (ok_law_rests (P := P) (w := w) (mg := mg) (base := base)  Flaw_rests T o_law_take) (glo_ok X G (c.t.d.fact 46 (f := .glo "_law_rests") rfl)) (fun _ _ _ _ _ _ us hl => match us, hl with | [_, _, _], _ => rfl)
  have o_law_poly := own_of Flaw_poly (ok_law_poly (P := P) (w := w) (mg := mg) (base := base)  Flaw_poly T o_law_take o_law_rests o_law_trim) (glo_ok X G (c.t.d.fact 47 (f := .glo "_law_poly") rfl)) (fun _ _ _ _ _ _ us hl => match us, hl with | [_, _, _], _ => rfl)
  have o_law_conv := own_of Flaw_conv (ok_law_conv (P := P) (w := w) (mg := mg) (base := base)  Flaw_conv T) (glo_ok X G (c.t.d.fact 48 (f := .glo "_law_conv") rfl)) (fun _ _ _ _ _ _ us hl => match us, hl with | [_, _, _], _ => rfl)
  have o_law_mul := own_of Flaw_mul (ok_law_mul (P := P) (w := w) (mg := mg) (base := base)  Flaw_mul o_law_conv o_law_trim) (glo_ok X G (c.t.d.fact 49 (f := .glo "_law_mul") rfl)) (fun _ _ _ _ _ _ us hl => match us, hl with | [_, _, _], _ => rfl)
  have o_law_back := own_of Flaw_back (ok_back (P := P) (w := w) (mg := mg) (base := base)  Flaw_back T) (glo_ok X G (c.t.d.fact 50 (f := .glo "_law_back") rfl)) (fun _ _ _ _ _ _ us hl => match us, hl with | [_, _], _ => rfl)
  have o_law_cut_by := own_of Flaw_cut_by (ok_law_cut_by (P := P) (w := w) (mg := mg) (base := base)  Flaw_cut_by T o_law_trim o_law_back) (glo_ok X G (c.t.d.fact 51 (f := .glo "_law_cut_by") rfl)) (fun _ _ _ _ _ _ us hl => match us, hl with | [_, _, _], _ => rfl)
  have o_law_rem := own_of Flaw_rem (ok_law_rem (P := P) (w := w) (mg := mg) (base := base)  Flaw_rem o_law_cut_by) (glo_ok X G (c.t.d.fact 52 (f := .glo "_law_rem") rfl)) (fun _ _ _ _ _ _ us hl => match us, hl with | [_, _, _], _ => rfl)
  have o_law_worth := own_of Flaw_worth (ok_law_worth (P := P) (w := w) (mg := mg) (base := base)  Flaw_worth) (glo_ok X G (c.t.d.fact 53 (f := .glo "_law_worth") rfl)) (fun _ _ _ _ _ _ us hl => match us, hl with | [_, _, _], _ => rfl)
  have o_law_pairs := own_of Flaw_pairs (ok_law_pairs (P := P) (w := w) (mg := mg) (base := base)  Flaw_pairs T) (glo_ok X G (c.t.d.fact 55 (f := .glo "_law_pairs") rfl)) (fun _ _ _ _ _ _ us hl => match us, hl with | [_, _], _ => rfl)
  have o_law_tuples := own_of Flaw_tuples (ok_law_tuples (P := P) (w := w) (mg := mg) (base := base)  Flaw_tuples T o_law_pairs) (glo_ok X G (c.t.d.fact 54 (f := .glo "_law_tuples") rfl)) (fun _ _ _ _ _ _ us hl => match us, hl with | [_, _], _ => rfl)
  have o_law_first_part := own_of Flaw_first_part (ok_law_first_part (P := P) (w := w) (mg := mg) (base := base)  Flaw_first_part T o_law_tuples o_law_rem) (glo_ok X G (c.t.d.fact 56 (f := .glo "_law_first_part") rfl)) (fun _ _ _ _ _ _ us hl => match us, hl with | [_, _], _ => rfl)
  have o_law_is_whole := own_of Flaw_is_whole (ok_law_is_whole (P := P) (w := w) (mg := mg) (base := base)  Flaw_is_whole o_law_first_part) (glo_ok X G (c.t.d.fact 57 (f := .glo "_law_is_whole") rfl)) (fun _ _ _ _ _ _ us hl => match us, hl with | [_, _], _ => rfl)
  exact ok_law  Flaw T o_law_begin o_law_take o_law_of o_law_poly o_law_is_whole o_law_mul o_law_same o_law_worth k_parts o_parts k_rest_roots
end
end Xk
end
set_option Elab.async false
set_option linter.all false
set_option maxRecDepth 100000
set_option maxHeartbeats 0
open PySem PySem.W PySem.Calls PyProof.Rows
theorem PySem.Challenge.cw_rungfields_k09_whole_parts_found_holds : PySem.Challenge.rw_rungfields_k09_whole_parts_found.Holds := by
  w_on; o_law
  refine HandSHeadRun.head_any (r := OpenLaw.row PySem.Challenge.rw_rungfields_k09_whole_parts_found) (q := view (OpenLaw.row PySem.Challenge.rw_rungfields_k09_whole_parts_found).prog [68]) (H := Xk.hk) (ob := Xk.ob) (M := 14000) (loose := Xk.loL) (d := HandSHeadRun.topDef (OpenLaw.row PySem.Challenge.rw_rungfields_k09_whole_parts_found).prog 68) (kwd := []) Xk.ob_eq
    (by kernel_rfl) (fun s => by kernel_rfl) Xk.run (by kernel_rfl) (by kernel_rfl) (by kernel_rfl) (by rfl) (by first | assumption | decide +kernel) (by decide +kernel) ⟨rfl, rfl, rfl, rfl, rfl, by decide +kernel⟩ ?hw ?hc
  case hw => w_witness2
  case hc =>
    refine LamX.walk_ofTsE (l := PySem.Challenge.rw_rungfields_k09_whole_parts_found) (n := 63) (k := 64) (x := "_law_script") (CX := fun _ => L2.CX0) rfl (by decide) (by kernel_rfl) ⟨rfl, by decide, by decide⟩ ?F (fun _ _ _ _ _ z => z)
    intro w mg fa h Y G hmg0
    obtain ⟨K, KX, c⟩ := Y
    have hmg : mg ("law" : PySem.Str) = some (.ref fa) := by
      have e : (HandSHeadRun.topDef (OpenLaw.row PySem.Challenge.rw_rungfields_k09_whole_parts_found).prog 68).name = ("law" : PySem.Str) := by kernel_rfl
      rw [← e]
      exact hmg0
    obtain ⟨fd, hb, hF⟩ := Xk.facts (P := (PySem.Challenge.rw_rungfields_k09_whole_parts_found).prog) (w := w) KX G hmg c
    have m1 : (("rest_power", none) : He.Defn) ∈ ([("rest_power", none), ("raw_power", none), ("raw_parts", none)] : List He.Defn) := List.mem_cons_self
    have m2 : (("raw_power", none) : He.Defn) ∈ ([("rest_power", none), ("raw_power", none), ("raw_parts", none)] : List He.Defn) := List.mem_cons_of_mem _ (List.mem_cons_self)
    have m3 : (("raw_parts", none) : He.Defn) ∈ ([("rest_power", none), ("raw_power", none), ("raw_parts", none)] : List He.Defn) := List.mem_cons_of_mem _ (List.mem_cons_of_mem _ ((List.mem_singleton.mpr rfl)))
    refine ⟨K, KX, fd, [He.cT K ("rest_power", none), He.cT K ("raw_power", none), He.cT K ("raw_parts", none)], Xk.spLaw K (He.cT K ("rest_power", none)).2 (He.cT K ("raw_power", none)).2 (He.cT K ("raw_parts", none)).2, ?_, ?_, ?_, hb, ?_, ?_⟩
    · intro p hp
      rcases List.mem_cons.mp hp with rfl | hp
      · exact c.empty _ m1
      rcases List.mem_cons.mp hp with rfl | hp
      · exact c.empty _ m2
      rw [List.mem_singleton.mp hp]
      exact c.empty _ m3
    · intro p hp
      rcases List.mem_cons.mp hp with rfl | hp
      · exact c.out _ m1
      rcases List.mem_cons.mp hp with rfl | hp
      · exact c.out _ m2
      rw [List.mem_singleton.mp hp]
      exact c.out _ m3
    · intro p hp
      rcases List.mem_cons.mp hp with rfl | hp
      · exact PySem.W.codeHd_of_K KX (c.hd _ m1)
      rcases List.mem_cons.mp hp with rfl | hp
      · exact PySem.W.codeHd_of_K KX (c.hd _ m2)
      rw [List.mem_singleton.mp hp]
      exact PySem.W.codeHd_of_K KX (c.hd _ m3)
    · intro H a ns hl _ hT hS
      refine ⟨a, ns, rfl, hS, fun p hp => ?_, fun _ => rfl⟩
      rcases List.mem_cons.mp hp with rfl | hp
      · exact LamX.TabS.nil (hT _ (List.mem_cons_self))
      rcases List.mem_cons.mp hp with rfl | hp
      · exact LamX.TabS.nil (hT _ (List.mem_cons_of_mem _ (List.mem_cons_self)))
      rw [List.mem_singleton.mp hp]
      exact LamX.TabS.nil (hT _ (List.mem_cons_of_mem _ (List.mem_cons_of_mem _ ((List.mem_singleton.mpr rfl)))))
    · intro base _ _ hTB
      exact hF base (hTB _ (List.mem_cons_self)) (hTB _ (List.mem_cons_of_mem _ (List.mem_cons_self))) (hTB _ (List.mem_cons_of_mem _ (List.mem_cons_of_mem _ ((List.mem_singleton.mpr rfl)))))
