import PyProof.Rows.All
import Wide.All
import OpenK.AllK
import Wide.FinOn
import HandS.ExcInit
import HandS.IsInst
import HandS.Wide
import HandS.Defaults
import KE.KExcIs
import HandS.SetFor
import HandS.Strs
import HandS.More
import HandS.ForMost
import HandS.Evl
import HandS.Deep
import HandS.WordsExc
import HandS.ExcIs
import HandS.Exc
import HandS.ExcOwn
import HandS.MakeKwOnly
import HandS.ExcCtx
import HandS.TryMany
import HandS.Style
import HandS.Conv
import HandS.Walk
import HandS.SortRule
import PyProof.Rows.SortKeyStr
import PyProof.EqKinds
import PyProof.ReprLen
import PyProof.ReprRoads
import HandS.RaiseMore
import HandS.TryOnly
import HandS.Ends
import HandS.HeadHook3
import PySem.Challenge.RW_partedvalues_k18_walks_that_lead_nowhere
set_option Elab.async false
set_option linter.all false
set_option maxRecDepth 100000
set_option maxHeartbeats 2000000
/-! An own exception made as a value, with positional or keyword arguments. -/
namespace PySem
namespace KwX
open PySem.W PySem.Calls PyProof.Rows PySem.HandSPX
section
variable {M : Model} {A : Around} {E : Value → Shared → Prop} {hh : Heap} {gg : Array GenState} {dr : Drawn} {tt : Nat} {oss : OsState}
variable {nm q : Str} {C N : Addr} {bs bm mb : List Value} {hdct : Bool} {sn : List Str} {sub : List Value} {ab : Bool} {col : Option Bool} {dd : Option Addr} {k0 k1 k2 k3 k5 : Option Value} {B newId initId : String}
/-- the look at the arguments of the maker, whatever the keywords -/
theorem chk_new (F : ExcBaseFacts B newId initId mb) (hT : ∀ Y : String, bm.contains (.type Y) = mb.contains (.type Y)) {ps : List Value} {kws : List (Str × Value)} {Q : Unit → Shared → Prop}
    (hC : hh.get? C = some (excClassObj nm q C N bs bm hdct sn sub ab col dd k0 k1 k2 k3 k5 newId)) (hq : Q () ⟨hh, gg, dr, tt, oss⟩) :
    wpAny M A (checkBuiltinCall newId ⟨.ref C :: ps, kws⟩) Q E ⟨hh, gg, dr, tt, oss⟩ := by
  have w1 : (Value.ref C :: bm).contains (.type B) = true := by
    rw [List.contains_cons, hT, F.hasB, Bool.or_true]
  have w2 := F.noStar
  simp only [checkBuiltinCall, F.newKind, F.newSplit, F.newRow]
  repeat
    first
      | refine wpAny_loadPart_at hC ?_
      | (refine wpAny_isSubtype_exc hC ?_; rw [w1])
      | refine wpAny_staticBase_exc hC ?_
      | refine wpAny_madeBy_exc hC ?_
      | simp only [bne_self_eq_false, Bool.false_eq_true, if_false]
      | wp_step
  exact hq
end

section
variable {prog : Program} {w : World} {A : Around} {E : Value → Shared → Prop} {R : Result → Shared → Prop} {hh : Heap} {gg : Array GenState} {dr : Drawn} {tt : Nat} {oss : OsState}
variable {nm q : Str} {C N : Addr} {bs bm mb : List Value} {hdct : Bool} {sn : List Str} {sub : List Value} {ab : Bool} {col : Option Bool} {dd : Option Addr} {k0 k1 k2 k3 k5 : Option Value} {B newId initId : String}
/-- the maker's own run -/
theorem made_kw (F : ExcBaseFacts B newId initId mb) (hT : ∀ Y : String, bm.contains (.type Y) = mb.contains (.type Y)) {ps : List Value} {kws : List (Str × Value)}
    (hC : hh.get? C = some (excClassObj nm q C N bs bm hdct sn sub ab col dd k0 k1 k2 k3 k5 newId)) (hz : ps.length ≤ sizeLine)
    (hq : R (.ok (.ret (.ref (hh.objs.size + 1)))) ⟨(hh.push (W.kdv_tup ps)).push (excO C hh.objs.size), gg, dr, tt, oss⟩) :
    codeAny (model prog w) A (.builtin newId ⟨.ref C :: ps, kws⟩) R ⟨hh, gg, dr, tt, oss⟩ := by
  have w0 := F.ends
  have wB : (Value.ref C :: bm).contains (.type B) = true := by
    rw [List.contains_cons, hT, F.hasB, Bool.or_true]
  have wA : (Value.ref C :: bm).contains (.type "AttributeError") = false := by
    rw [List.contains_cons, hT, F.noAttr]
    rfl
  have wN : (Value.ref C :: bm).contains (.type "NameError") = false := by
    rw [List.contains_cons, hT, F.noName]
    rfl
  refine codeAny_builtinAt F.entry ?_
  unfold Builtin.«BaseException.__new__»
  refine wpAt_bind ?_
  show wpAt _ _ _ (stack >>= _) _ _ _
  refine wpAt_bind (wpAt_stack fun p below => wpAt_of_wpAny ?_)
  wp_walk
  refine wpAt_of_wpAny ?_
  rw [F.owner]
  repeat
    first
      | with_reducible refine wpAny_madeHere_exc F.canon hC ?_
      | with_reducible refine wpAny_loadPart_at hC ?_
      | (with_reducible refine wpAny_isSubtype_exc hC ?_; first | rw [wB] | rw [wA] | rw [wN])
      | wp_step
  show R _ _
  rw [Heap.size_push]
  exact hq
/-- type.__call__ of such a class: the maker, then its own __init__ -/
theorem called_kw (F : ExcBaseFacts B newId initId mb) (hT : ∀ Y : String, bm.contains (.type Y) = mb.contains (.type Y)) {ps : List Value} {kws : List (Str × Value)} {fI : Addr} {Q : Fin → Shared → Prop}
    (hC : hh.get? C = some (excClassObj nm q C N bs bm hdct sn sub ab col dd k0 k1 k2 k3 k5 newId))
    (hi : W.Looks (model prog w) hh (typeLookup (.ref C) "__init__") (some (.ref fI))) (hb : ∀ me, W.Looks (model prog w) hh (bindSpecial (.ref fI) me) (.ref fI, [me])) (hz : ps.length ≤ sizeLine)
    (hq : codeAny (model prog w) A (.call (.ref fI) ⟨.ref (hh.objs.size + 1) :: ps, kws⟩)
      (fun r z => match r with | .ok (.ret v) => v = .none ∧ Q (.done (.ret (.ref (hh.objs.size + 1)))) z | .ok _ => False | .error e => E e z)
      ⟨(hh.push (W.kdv_tup ps)).push (excO C hh.objs.size), gg, dr, tt, oss⟩) :
    wpAny (model prog w) A (Builtin.«type.__call__» ⟨.ref C :: ps, kws⟩) Q E ⟨hh, gg, dr, tt, oss⟩ := by
  repeat
    first
      | with_reducible refine wpAny_loadPart_at hC ?_
      | with_reducible refine wpAny_madeBy_exc hC ?_
      | wp_step
  refine codeAny_call_builtin_code (Code.quiet_builtin _ F.quiet) (chk_new F hT hC ?_)
  refine made_kw F hT hC hz ?_
  show wpAny _ _ _ _ _ _
  have kp : ∀ b o, hh.get? b = some o → ((hh.push (W.kdv_tup ps)).push (excO C hh.objs.size)).get? b = some o := fun b o e =>
    Heap.get?_push_of_some _ (Heap.get?_push_of_some _ e)
  have hC1 := kp _ _ hC
  have hx : ((hh.push (W.kdv_tup ps)).push (excO C hh.objs.size)).get? (hh.objs.size + 1) = some (excO C hh.objs.size) := by heap_get
  have wC : (Value.ref C :: bm).contains (.ref C) = true := by simp
  have i1 := hi.keeps kp
  have b1 := (hb (.ref (hh.objs.size + 1))).keeps kp
  unfold isInstance
  repeat
    first
      | with_reducible refine wpAny_loadPart_at hx ?_
      | (with_reducible refine wpAny_isSubtype_exc hC1 ?_; rw [wC])
      | wp_step
  show wpAny _ _ (typeLookup (.ref C) _) _ _ _
  refine i1.at ?_
  refine wpAny_holding (wpAny_bind (b1.at ?_))
  refine wpAny_bind (wpAny_call (codeAny_mono hq fun r z hz => ?_))
  rcases r with e | (v | _ | _ | _) <;> first | exact hz | exact hz.elim | skip
  obtain ⟨rfl, hz⟩ := hz
  first
    | exact wpAny_pure (wpAny_pure hz)
    | (wp_walk; exact hz)
theorem call_kw (F : ExcBaseFacts B newId initId mb) (hT : ∀ Y : String, bm.contains (.type Y) = mb.contains (.type Y)) {ps : List Value} {kws : List (Str × Value)} {fI : Addr}
    (hC : hh.get? C = some (excClassObj nm q C N bs bm hdct sn sub ab col dd k0 k1 k2 k3 k5 newId))
    (hi : W.Looks (model prog w) hh (typeLookup (.ref C) "__init__") (some (.ref fI))) (hb : ∀ me, W.Looks (model prog w) hh (bindSpecial (.ref fI) me) (.ref fI, [me])) (hz : ps.length ≤ sizeLine)
    (hq : codeAny (model prog w) (A.under (.builtin "type.__call__" ⟨.ref C :: ps, kws⟩)) (.call (.ref fI) ⟨.ref (hh.objs.size + 1) :: ps, kws⟩) (W.InitBack (hh.objs.size + 1) R)
      ⟨(hh.push (W.kdv_tup ps)).push (excO C hh.objs.size), gg, dr, tt, oss⟩) :
    codeAny (model prog w) A (.call (.ref C) ⟨ps, kws⟩) R ⟨hh, gg, dr, tt, oss⟩ := by
  have f1 := tc_lookup
  have f2 := tc_bind (.ref C)
  have hTy : (⟨hh, gg, dr, tt, oss⟩ : Shared).TypeIs (.ref C) "type" := ⟨_, hC, rfl⟩
  refine codeAny_of_tree ?_
  show wpAny _ _ (callAny (.ref C) _) _ _ _
  repeat
    any_goals
      first
        | assumption
        | with_reducible refine wpAny_loadPart_at hC ?_
        | wp_step
  refine ⟨rfl, ?_⟩
  refine codeAny_call_builtin_at (Code.quiet_builtin _ (by decide +kernel)) entry_typeCall (wpAny_check_type_call_sub hC (called_kw F hT hC hi hb hz ?_))
  refine codeAny_mono hq fun r z hz => ?_
  rcases r with e | (v | _ | _ | _) <;> exact hz
end
end KwX
end PySem

namespace L2
open PySem PySem.Spec PyProof.Rows
/-- at a: an exception of the class at C whose dict at d holds fs -/
def ExcAt (H : Hp) (a C : Addr) (fs : List (Str × V)) : Prop := ∃ d : Addr, H a = some (exo a C (some d)) ∧ H d = some (exd d fs)
/-- C(.., k = v, ..), C an own error class with an own (or inherited) __init__: a value -/
def tExcN (C : Addr) (n m : Nat) (sp : Sp) (gV : List V → List V → List V) (t tk : TA) : TE := fun σ H Q => t σ H fun vs H1 => tk σ H1 fun zs H2 => vs.length = n ∧ zs.length = m ∧ vs.length ≤ 1000 ∧
  ∀ x, H2 x = none → sp (gV (.ref x :: vs) zs) (upd H2 x (exo x C none)) (fun v H3 => v = .non ∧ Q (.ref x) H3) (fun _ _ _ => False)
section
variable {X : Cx} {CX : CXT} {k n : Nat} {fI C : Addr} {fd : FuncData} {ps ks : List Str} {sp : Sp} {x : Str} {p pos : Pos} {e : Expr} {es : List Expr} {kws : List Keyword} {t tk : TA}
variable {g : List Value → List Value → List Value} {gV : List V → List V → List V}
theorem run_excN {pins : List (Addr × Obj)} {σ : St} {H : Hp} {s : Shared} {Q : VK} {us ws : List Value} {vs zs : List V} (T : OexC X.K C) (iC : PySem.W.findIn X.K (.ref C) "__init__" = some (some (.ref fI)))
    (tI : PySem.W.typeIn X.K (.ref fI) = some (.type "function")) (F1 : FnOk X.prog X.w X.K X.mg X.base CX k fI fd ps sp) (hr : Room (k + 1) X.A) (hb : KBn X.K fd ps (n + 1) ks g gV)
    (hx : Passes CX X (fun _ _ _ => False)) (I : Inv X pins σ H s) (r : Vals vs us) (rz : Vals zs ws) (l1 : vs.length = n) (l2 : zs.length = ks.length) (l3 : vs.length ≤ 1000)
    (h : ∀ x, H x = none → sp (gV (.ref x :: vs) zs) (upd H x (exo x C none)) (fun v H3 => v = .non ∧ Q (.ref x) H3) (fun _ _ _ => False)) :
    wpAny (model X.prog X.w) X.A (call (.ref C) us (ks.zip ws)) (EP X pins σ Q) X.xe s := by
  obtain ⟨nm, q, N, bs, bm, sn, sub, ab, col, dd, k0, k1, k2, k3, k5, hC, hbm⟩ := T.cls
  obtain ⟨hp, gg, dr, tk', os⟩ := s
  have hsz : hp.objs.size ≤ hp.objs.size + 1 := Nat.le_succ _
  have hq := h (hp.objs.size + 1) (I.hok.fresh hsz)
  have kp : ∀ b o, hp.get? b = some o → ((hp.push (PySem.W.kdv_tup us)).push (PySem.HandSPX.excO C hp.objs.size)).get? b = some o := fun b o e =>
    Heap.get?_push_of_some _ (Heap.get?_push_of_some _ e)
  have hget : ((hp.push (PySem.W.kdv_tup us)).push (PySem.HandSPX.excO C hp.objs.size)).get? (hp.objs.size + 1) = some (PySem.HandSPX.excO C hp.objs.size) := by heap_get
  have I2 : Inv X pins σ (upd H (hp.objs.size + 1) (exo (hp.objs.size + 1) C none)) ⟨(hp.push (PySem.W.kdv_tup us)).push (PySem.HandSPX.excO C hp.objs.size), gg, dr, tk', os⟩ :=
    I.laid (t' := tk') kp hsz (exo_ok hget)
  have r1 : Vals (V.ref (hp.objs.size + 1) :: vs) (Value.ref (hp.objs.size + 1) :: us) := .cons rfl r
  have r2 := hb.rel r1 rz
  have e1 : (Value.ref (hp.objs.size + 1) :: us).length = n + 1 := by
    rw [List.length_cons, ← Paired.length r, l1]
  have e2 : ws.length = ks.length := (Paired.length rz).symm.trans l2
  have e3 : us.length ≤ sizeLine := by
    rw [← Paired.length r, sizeLine_eq]
    omega
  refine wpAny_call (PySem.KwX.call_kw F.excBase_ValueError (fun Y => PySem.HandSPX.refsVE_contains Y bm hbm) (I.kIn _ _ hC) (PySem.W.looks_findIn I.kIn iC) (fun me => PySem.W.bind_fn I.kIn me tI) e3
    (codeAny_mono (F1.run _ X.stack _ _ ⟨Value.ref (hp.objs.size + 1) :: us, ks.zip ws⟩ (g (Value.ref (hp.objs.size + 1) :: us) ws) _ _ (fun _ _ _ => False) (hr.make C us (ks.zip ws))
      (I2.env0.make C us (ks.zip ws)) (hb.to _ (Value.ref (hp.objs.size + 1) :: us) ws I2.kIn e1 e2) r2 hq) fun r z hz => ?_))
  cases r with
  | error er => exact hx pins σ _ _ er z I2 hz
  | ok fl =>
    cases fl with
    | ret u =>
      obtain ⟨v, H3, I3, rv, ev, q3⟩ := I2.after hz
      subst ev
      exact ⟨rv, ⟨V.ref (hp.objs.size + 1), H3, I3, rfl, q3⟩⟩
    | next => exact False.elim hz
    | brk => exact False.elim hz
    | cont => exact False.elim hz
/-- C(k = v, ..) -/
theorem pe_excK (T : OexC X.K C) (iC : PySem.W.findIn X.K (.ref C) "__init__" = some (some (.ref fI))) (tI : PySem.W.typeIn X.K (.ref fI) = some (.type "function"))
    (F1 : FnOk X.prog X.w X.K X.mg X.base CX k fI fd ps sp) (hr : Room (k + 1) X.A) (hg : Gl X x) (hm : X.mg x = some (.ref C)) (hb : KBn X.K fd ps 1 ks g gV) (hx : Passes CX X (fun _ _ _ => False)) (hkw : PK X kws tk)
    (hall : (backToKw pos (keywordEach kws X.env)).all (·.1.isSome) = true := by rfl) (hks : (backToKw pos (keywordEach kws X.env)).filterMap (·.1) = ks := by rfl)
    (hdb : (x == ("__debug__" : Str)) = false := by decide)
    (hpl : ((backTo pos (starEach [] X.env)).any (·.1) || (backToKw pos (keywordEach kws X.env)).any (·.1.isNone)) = false := by rfl) :
    PE X (.Call (.Name x p) [] kws pos) (tExcN C 0 ks.length sp gV tNil tk) := by
  refine ⟨fun pins s σ H Q I h => ?_⟩
  refine wpAny_Call_Name_kw (ld_glob I hg hm ?_ hdb)
  refine PySem.W.callWith_KW0 (h₀ := X.base) I.ok.mod.kin T.kC hall ?_ hpl
  refine thn (hkw.run pos pins s σ H _ I h) fun ws s2 ⟨zs, H2, I2, rz, l1, l2, l3, q2⟩ => ⟨I2.kIn, ?_⟩
  rw [hks]
  exact run_excN (us := []) (vs := []) T iC tI F1 hr hb hx I2 .nil rz rfl l2 l3 q2
/-- C(e, ..) -/
theorem pe_excP {ds : List Value} {dvs : List V} (T : OexC X.K C) (iC : PySem.W.findIn X.K (.ref C) "__init__" = some (some (.ref fI))) (tI : PySem.W.typeIn X.K (.ref fI) = some (.type "function"))
    (F1 : FnOk X.prog X.w X.K X.mg X.base CX k fI fd ps sp) (hr : Room (k + 1) X.A) (hg : Gl X x) (hm : X.mg x = some (.ref C)) (hb : KBn X.K fd ps (n + 1) [] g gV) (hx : Passes CX X (fun _ _ _ => False)) (ha : PA X (e :: es) t)
    (hdb : (x == ("__debug__" : Str)) = false := by decide) (he : starEach (e :: es) X.env = (false, eval e X.env) :: starEach es X.env := by rfl) (hpl : (backTo pos (starEach es X.env)).any (·.1) = false := by rfl) :
    PE X (.Call (.Name x p) (e :: es) [] pos) (tExcN C n 0 sp gV t tNil) := by
  refine ⟨fun pins s σ H Q I h => ?_⟩
  refine wpAny_Call_Name_kw (ld_glob I hg hm ?_ hdb)
  refine PySem.W.callWith_K (h₀ := X.base) I.ok.mod.kin T.kC (thn (ha.run pos pins s σ H _ I h) fun us s1 ⟨vs, H1, I1, r, l1, l2, l3, q⟩ => ⟨I1.kIn, ?_⟩) he hpl
  exact run_excN (ws := []) (zs := []) (ks := []) T iC tI F1 hr hb hx I1 r .nil l1 rfl l3 q
end

/-! ### a field of such an exception, its class -/
/-- what an own error class says, so that isinstance and the fields of its instances are told -/
structure ExcW (K : PySem.W.Frag) (C : Addr) : Prop where
  is1 : (PySem.W.clsIn K C).isSome = true
  ga : PySem.W.findIn K (.ref C) "__getattribute__" = some (some (.builtin "BaseException.__getattribute__"))
  gg : PySem.W.findIn K (.ref C) "__getattr__" = some none
  ex : PySem.W.subIn K (.ref C) (.type "BaseException") = some true
  hd : PySem.W.hasDictIn K C = true
  ca : PySem.W.findIn K (.ref C) "__class__" = some (some (.builtin "object.__class__"))
  sg : PySem.W.specialIn K (.builtin "object.__class__") "__get__" = some (some (.builtin "getset_descriptor.__get__"))
  tk : PySem.W.takesIn K (.builtin "object.__class__") = some true
  ob : PySem.W.mroIn K C (.type "object") = some true
def tExF (K : PySem.W.Frag) (f : Str) (to : TE) : TE := fun σ H Q => to σ H fun x H1 => ∃ (a C : Addr) (fs : List (Str × V)) (v : V), x = .ref a ∧ ExcAt H1 a C fs ∧ ExcW K C ∧ PySem.W.findIn K (.ref C) f = some none ∧ fs.lookup f = some v ∧ Q v H1
section
variable {X : Cx} {o : Expr} {to : TE} {f : Str} {pos : Pos}
theorem Inv.excAt {pins : List (Addr × Obj)} {σ : St} {H : Hp} {s : Shared} {a C : Addr} {fs : List (Str × V)} (I : Inv X pins σ H s) (h : ExcAt H a C fs) :
    ∃ (ox od : Obj), PySem.W.InstAt s.heap a ox C (some od) ∧ ∀ (f : Str) (v : V), fs.lookup f = some v → ∃ u, PySem.W.lookIn f od = some (some u) ∧ RelV v u := by
  obtain ⟨d, ha, hd⟩ := h
  obtain ⟨t1, e1⟩ := exo_at I.hok ha
  obtain ⟨mA, hns, rel⟩ := exd_at I.hok hd
  obtain ⟨od, ho, hl⟩ := lookIn_ns hns
  refine ⟨_, od, ⟨e1, rfl, rfl, ho⟩, fun f v e => ?_⟩
  obtain ⟨u, hu, ru⟩ := RelO.some_of (v := v) (o := mA f) (by rw [← e]; exact rel f)
  exact ⟨u, by rw [hl, hu], ru⟩
/-- error.f -/
theorem pe_exF (ho : PE X o to) (hb : attributeBase o f X.env (eval o X.env) = eval o X.env := by rfl) : PE X (.Attribute o f pos) (tExF X.K f to) := by
  refine ⟨fun pins s σ H Q I h => ?_⟩
  refine attr_of hb (thn (ho.run pins s σ H _ I h) fun u s1 ⟨x, H1, I1, rx, a, C, fs, v, ex, ha, T, hno, hl, q⟩ => ?_)
  subst ex
  obtain rfl : u = Value.ref a := rx
  obtain ⟨ox, od, J, hf⟩ := I1.excAt ha
  obtain ⟨w', hu, ru⟩ := hf f v hl
  exact HandSPX.exc_get I1.kIn J T.ga T.gg T.ex (PySem.W.findObj_own T.hd hno rfl hu) (handed_of ru) ⟨v, H1, I1.tok _, ru, q⟩
/-- isinstance(error, c) -/
def rIsX (K : PySem.W.Frag) : List V → Hp → VK → Prop := fun xs H Q => ∃ (a C : Addr) (fs : List (Str × V)) (c : V) (u : Value) (b : Bool), xs = [.ref a, c] ∧ ClsV c u ∧ ExcAt H a C fs ∧ ExcW K C ∧
  PySem.W.kitOne K (.ref C) u = some b ∧ Q (.bl b) H
theorem call_isX : CallR X (.builtin "isinstance") (rIsX X.K) := by
  intro pins s σ H xs us Q I r h
  obtain ⟨a, C, fs, c, u, b, rfl, k, ha, T, e, q⟩ := h
  obtain ⟨u1, u2, rfl, r1, r2⟩ := vals2 r
  have e2 := k.eq r2
  subst e2
  obtain rfl : u1 = Value.ref a := r1
  obtain ⟨ox, od, J, _⟩ := I.excAt ha
  exact PySem.W.kia_one (PySem.W.kitx_exc T.is1 T.ga T.gg T.ex T.ca T.sg T.tk T.ob) I.kIn J e (fun z => nomatch z) fun tk' => ⟨.bl b, H, I.tok tk', rfl, q⟩
end

/-! ### powers of great numbers, repr of None and of truths -/
def CPowW (i j : Int) : Prop := 0 ≤ j ∧ j ≤ 3 ∧ i.natAbs < 2 ^ 10000
theorem op_powW {X : Cx} : OpR X (binaryOp .Pow) (rI CPowW fun i j => .int (i ^ j.toNat)) := opI fun i j _ _ _ _ _ hc q => by
  obtain ⟨h0, h1, h2⟩ := hc
  refine pow_int h0 ?_ q
  have b1 : Builtin.Int.intBits i ≤ i.natAbs.log2 + 1 := by
    unfold Builtin.Int.intBits
    split <;> omega
  have b2 : i.natAbs.log2 < 10000 := PySem.Flt.log2_lt_of (by decide) h2
  have b3 : (Builtin.Int.intBits i : Int) ≤ 10000 := by omega
  have b4 : (Builtin.Int.intBits i : Int) * j ≤ 10000 * 3 := Int.mul_le_mul b3 h1 h0 (by decide)
  exact Int.le_trans b4 (by decide)
def rRepr : List V → Hp → VK → Prop := fun xs H Q => (xs = [.non] ∧ Q (.str "None") H) ∨ ∃ b, xs = [.bl b] ∧ Q (.str (if b then "True" else "False")) H
theorem call_reprNB {X : Cx} : CallR X (.builtin "repr") rRepr := by
  intro pins s σ H xs us Q I r h
  rcases h with ⟨rfl, q⟩ | ⟨b, rfl, q⟩
  · obtain ⟨u, rfl, r1⟩ := vals1 r
    obtain rfl : u = Value.none := r1
    exact PySem.P.repr_of_none ⟨.str _, H, I.tok _, ⟨_, rfl⟩, q⟩
  · obtain ⟨u, rfl, r1⟩ := vals1 r
    obtain rfl : u = Value.bool b := r1
    exact PySem.P.repr_of_bool ⟨.str _, H, I.tok _, ⟨_, rfl⟩, q⟩
end L2
set_option Elab.async false
set_option linter.all false
set_option maxRecDepth 100000
set_option maxHeartbeats 2000000
/-! Sets of texts: made of a list, measured, sorted. -/
namespace TxSet
open PySem PySem.Spec PyProof.Rows L2
/-- a member of the set's table: a text under its hash -/
def Mem1 (w : World) (e : Int × Value) : Prop := ∃ k tk, e.2 = Value.str k tk ∧ e.1 = hashStr w k
def txt (e : Int × Value) : Str := match e.2 with
  | .str k _ => k
  | _ => Str.empty
/-- the set at a holds just the texts L; its table can be walked -/
def SetT (w : World) (h : Heap) (a : Addr) (L : List Str) : Prop :=
  ∃ o es ep t, h.get? a = some o ∧ o.ExactSet ∧ o.data = .set es ep t ∧ (∀ e ∈ es.toList, Mem1 w e) ∧ (es.toList.map txt).Perm L ∧ L.Nodup ∧
    es.size < scanBound ∧ t.fits es.size = true ∧ Ris t.place.toList ∧ (w.params.followText "set-order" = true ∨ t.led = true)
section
variable {P : Program} {w : World} {h h' : Heap} {a : Addr} {L : List Str}
theorem SetT.at (R : SetT w h a L) (k : ∀ o, h.get? a = some o → h'.get? a = some o) : SetT w h' a L := by
  obtain ⟨o, es, ep, t, ho, r⟩ := R
  exact ⟨o, es, ep, t, k o ho, r⟩
theorem txt_is {e : Int × Value} (g : Mem1 w e) (k : Str) : (strKind P w).is k e.2 = true ↔ txt e = k := by
  obtain ⟨k', tk, h1, _⟩ := g
  unfold txt
  rw [h1]
  show Value.isStrOf k (.str k' tk) = true ↔ k' = k
  simp [Value.isStrOf]
theorem mem_elems {l : List (Int × Value)} (g : ∀ e ∈ l, Mem1 w e) : ElemsOf (strKind P w) l := fun e he => by
  obtain ⟨k, tk, h1, h2⟩ := g e he
  refine ⟨⟨k, ?_, h2⟩, ?_⟩
  · rw [h1]
    exact strKind_is P w k tk
  · rw [h1]
    rfl
theorem mem_txt {l : List (Int × Value)} (g : ∀ e ∈ l, Mem1 w e) (k : Str) : k ∈ l.map txt ↔ ∃ e ∈ l, (strKind P w).is k e.2 = true := by
  constructor
  · intro z
    obtain ⟨e, he, q⟩ := List.mem_map.mp z
    exact ⟨e, he, (txt_is (g e he) k).2 q⟩
  · rintro ⟨e, he, q⟩
    exact List.mem_map.mpr ⟨e, he, (txt_is (g e he) k).1 q⟩
end
/-- one text more -/
def ins (L : List Str) (k : Str) : List Str := if k ∈ L then L else k :: L
def dd (xs : List Str) : List Str := xs.foldl ins []
section
variable {P : Program} {w : World} {A : Around} {E : Value → Shared → Prop} {s : Shared} {a : Addr} {L : List Str}
theorem add_tail {g : Bool → Sem Unit} (hg : ∀ (b : Bool) (z : Shared) (Q' : Unit → Shared → Prop), Q' () z → wpAny (model P w) A (g b) Q' E z)
    {o : Obj} {es : Array (Int × Value)} {ep : Nat} {t : SetTable} (ho : s.heap.get? a = some o) (hex : o.ExactSet) (hd : o.data = .set es ep t)
    {fs : Array (Int × Value)} {t2 : SetTable} {M : List Str} (g1 : ∀ e ∈ fs.toList, Mem1 w e) (p1 : (fs.toList.map txt).Perm M) (nd : M.Nodup)
    (hb1 : fs.size < scanBound) (hf2 : t2.fits fs.size = true) (hr : Ris t2.place.toList) (hl : w.params.followText "set-order" = true ∨ t2.led = true) {dummy : Bool} {R : Option Bool → Shared → Prop}
    (hR : ∀ h', Heap.SameBut a s.heap h' → SetT w h' a M → R (some true) { s with heap := h' }) :
    wpAny (model P w) A (do
        storeSet a fs t2
        if (!dummy && t2.tooFull) = true then do
            g (relayAll t2 fs (SetTable.grown fs.size)).2.2
            storeSet a (relayAll t2 fs (SetTable.grown fs.size)).1 (relayAll t2 fs (SetTable.grown fs.size)).2.1
            pure (some true)
          else pure (some true)) R E s := by
  refine wpAny_bind (wpAny_storeSet_of ho hd ?_ (fits_of_scanBound hb1))
  have ho1 := store_at (es' := fs) (t' := t2) ho hd
  have sb1 := Heap.SameBut.update s.heap a (Obj.putSet fs t2)
  split
  · have pm := relayAll_perm t2 fs (SetTable.grown fs.size)
    have w1 := relayAll_fits t2 fs (SetTable.grown fs.size)
    have w2 := relayAll_ris t2 fs (SetTable.grown fs.size)
    have w3 := relayAll_led t2 fs (SetTable.grown fs.size)
    generalize relayAll t2 fs (SetTable.grown fs.size) = Z at pm w1 w2 w3 ⊢
    obtain ⟨gs, t3, gave⟩ := Z
    dsimp only at pm w1 w2 w3 ⊢
    have hsz : gs.size = fs.size := by
      rw [← Array.length_toList, pm.length_eq, Array.length_toList]
    have hb2 : gs.size < scanBound := hsz ▸ hb1
    refine wpAny_bind (hg _ _ _ ?_)
    refine wpAny_bind (wpAny_storeSet_of ho1 rfl ?_ (fits_of_scanBound hb2))
    have ho2 := store_at (es' := gs) (t' := t3) ho1 rfl
    refine wpAny_pure (hR _ (sb1.trans (Heap.SameBut.update _ a _)) ?_)
    refine ⟨_, gs, _, t3, ho2, hex, rfl, fun e he => g1 e (pm.mem_iff.mp he), (pm.map txt).trans p1, nd, hb2, w1, w2, ?_⟩
    exact hl.imp id fun z => w3.trans z
  · exact wpAny_pure (hR _ sb1 ⟨_, fs, _, t2, ho1, hex, rfl, g1, p1, nd, hb1, hf2, hr, hl⟩)
theorem add_hashed {k : Str} {tk : Tok} {Q : Bool → Shared → Prop} (R : SetT w s.heap a L) (room : L.length + 1 < scanBound)
    (hQ : ∀ b h', Heap.SameBut a s.heap h' → SetT w h' a (ins L k) → Q b { s with heap := h' }) : wpAny (model P w) A (setAddHashed a (.str k tk) ((strKind P w).hash k)) Q E s := by
  obtain ⟨o, es, ep, t, ho, hex, hd, g, pm0, nd, hb, hf, hr, hl⟩ := R
  have hkey : (strKind P w).is k (.str k tk) = true := strKind_is P w k tk
  have hsc : (Value.str k tk).scannable = true := rfl
  have hel : ElemsOf (strKind P w) es.toList := mem_elems g
  unfold setAddHashed setAddHashedIn
  refine wpAny_holding (wpAny_bind (wpAny_setState_of ho hd hf ?_))
  dsimp only
  rw [byScan_of hsc hb hel]
  simp only [↓reduceIte]
  unfold setAddByScan
  refine wpAny_bind ?_
  refine wpAny_bind (wpAny_rule ?_)
  refine wpAny_bind (wpAny_setScan_of hkey ho hd hf hel ?_)
  cases hfi : List.findIdx? (fun e => (strKind P w).is k e.2) es.toList with
  | some j =>
    dsimp only
    obtain ⟨hj, pj, _⟩ := List.findIdx?_eq_some_iff_getElem.mp hfi
    have hk : k ∈ L := pm0.mem_iff.mp ((mem_txt (P := P) g k).2 ⟨es.toList[j], List.getElem_mem hj, pj⟩)
    refine wpAny_pure (wpAny_pure ?_)
    refine hQ _ s.heap (Heap.SameBut.refl a s.heap) ?_
    rw [show ins L k = L from if_pos hk]
    exact ⟨o, es, ep, t, ho, hex, hd, g, pm0, nd, hb, hf, hr, hl⟩
  | none =>
    dsimp only
    have hk : k ∉ L := fun z => by
      obtain ⟨e, he, q⟩ := (mem_txt (P := P) g k).1 (pm0.mem_iff.mpr z)
      have c := List.findIdx?_eq_none_iff.mp hfi e he
      rw [q] at c
      cases c
    have hgw : ∀ (b : Bool) {z : Shared} {Q' : Unit → Shared → Prop}, Q' () z → wpAny (model P w) A (match b with | true => rule "set.scan.the-table-gave-way" | false => pure ()) Q' E z := fun b z Q' q => by
      cases b
      · exact wpAny_pure q
      · exact wpAny_rule q
    have pm := layNew_perm t es ((strKind P w).hash k) (.str k tk)
    have w1 := layNew_fits t es ((strKind P w).hash k) (.str k tk)
    have w2 := layNew_ris t es ((strKind P w).hash k) (.str k tk) hr
    have w3 := layNew_led t es ((strKind P w).hash k) (.str k tk)
    generalize layNew t es ((strKind P w).hash k) (.str k tk) = Z at pm w1 w2 w3 ⊢
    obtain ⟨fs, t1, dummy, gave⟩ := Z
    dsimp only at pm w1 w2 w3 ⊢
    rw [Array.toList_push] at pm
    have pc : fs.toList.Perm (((strKind P w).hash k, Value.str k tk) :: es.toList) := pm.trans (List.perm_append_singleton _ _)
    have pk : (fs.toList.map txt).Perm (k :: L) := (pc.map txt).trans (List.Perm.cons k pm0)
    have g1 : ∀ e ∈ fs.toList, Mem1 w e := fun e he => by
      rcases List.mem_cons.mp (pc.mem_iff.mp he) with z | z
      · rw [z]
        exact ⟨k, tk, rfl, rfl⟩
      · exact g e z
    have nd1 : (k :: L).Nodup := List.nodup_cons.mpr ⟨hk, nd⟩
    have hsz : fs.size = L.length + 1 := by
      have z := pk.length_eq
      rw [List.length_map, Array.length_toList, List.length_cons] at z
      exact z
    have hb1 : fs.size < scanBound := by
      rw [hsz]
      exact room
    have hled : w.params.followText "set-order" = true ∨ t1.led = true := hl.imp id fun z => w3.trans z
    have fin : ∀ h', Heap.SameBut a s.heap h' → SetT w h' a (k :: L) → Q true { s with heap := h' } := fun h' sb r => hQ true h' sb (by
      rw [show ins L k = k :: L from if_neg hk]
      exact r)
    refine wpAny_bind (hgw _ ?_)
    split
    · refine wpAny_bind ?_
      rw [hashByValue_scannable 8 hsc]
      refine wpAny_pure ?_
      refine add_tail ?_ ho hex hd g1 pk nd1 hb1 ?_ ?_ ?_ ?_
      · intro b z Q' q
        cases b <;> first | exact wpAny_pure q | exact wpAny_rule q
      · first
          | (split <;> first | exact w1 | exact SetTable.fits_plain_off w1)
          | exact w1
      · first
          | (split <;> exact w2)
          | exact w2
      · first
          | (split <;> exact hled)
          | exact hled
      · intro h' sb r
        dsimp only
        exact wpAny_pure (fin h' sb r)
    · refine wpAny_bind (wpAny_pure ?_)
      simp only [↓reduceIte]
      refine add_tail ?_ ho hex hd g1 pk nd1 hb1 w1 w2 hled ?_
      · intro b z Q' q
        cases b <;> first | exact wpAny_pure q | exact wpAny_rule q
      · intro h' sb r
        dsimp only
        exact wpAny_pure (fin h' sb r)
theorem dd_more (xs : List Str) (x : Str) : dd (xs ++ [x]) = ins (dd xs) x := by
  unfold dd
  rw [List.foldl_append]
  rfl
theorem ins_len (L : List Str) (k : Str) : (ins L k).length ≤ L.length + 1 := by
  unfold ins
  split
  · exact Nat.le_succ _
  · exact Nat.le_refl _
theorem dd_len : ∀ xs : List Str, (dd xs).length ≤ xs.length := by
  have go : ∀ (xs L : List Str), (xs.foldl ins L).length ≤ L.length + xs.length := by
    intro xs
    induction xs with
    | nil => intro L; exact Nat.le_refl _
    | cons x xs ih =>
      intro L
      have h1 := ih (ins L x)
      have h2 := ins_len L x
      rw [List.foldl_cons, List.length_cons]
      omega
  intro xs
  have h := go xs []
  rw [List.length_nil, Nat.zero_add] at h
  exact h
/-- texts, one by one, into the set -/
theorem into_set {I : Addr} {fp wr : List Addr} {G : Array GenState → Array GenState → Prop} {n : Nat} {Pv : Nat → Value → Prop} {St : Nat → Shared → Prop} {R : Result → Shared → Prop}
    (W : WalksS P w A.in1 I fp wr G n Pv St) (S : Addr) (hSf : S ∉ fp) (xs : List Str) (hn : n = xs.length) (hb : xs.length + 1 < scanBound) (hval : ∀ i v, Pv i v → ∃ k t, xs[i]? = some k ∧ v = .str k t) :
    ∀ (k i : Nat) (s : Shared), n - i = k → i ≤ n → St i s → SetT w s.heap S (dd (xs.take i)) → (∀ z, Moved (S :: wr) G s z → SetT w z.heap S (dd xs) → R (.ok (.ret .none)) z) →
      codeAny (model P w) A (.builtin "set.update.loop" ⟨[.ref S, .ref I], []⟩) R s := by
  have hSw : S ∉ wr := fun h => hSf (W.sub _ h)
  have hsub : ∀ b ∈ wr, b ∈ S :: wr := fun b hb => List.mem_cons_of_mem _ hb
  intro k
  induction k with
  | zero =>
    intro i s hk' hi hst hS hR
    obtain rfl : i = n := by omega
    refine codeAny_builtin F.entry_set_update_loop ?_
    rw [Around.under_plainId F.plain_set_update_loop _]
    show wpAny _ A.in1 (pyNext (.ref I) >>= _) _ _ s
    refine wpAny_bind (W.done s _ _ hst fun z hm => ?_)
    show wpAny _ A.in1 (ret Value.none) _ _ z
    rw [List.take_of_length_le (by omega)] at hS
    exact wpAny_pure (hR z (hm.mono hsub) (hS.at fun o e => hm.heap S o hSw e))
  | succ k ih =>
    intro i s hk' hi hst hS hR
    have hlt : i < n := by omega
    refine codeAny_builtin F.entry_set_update_loop ?_
    rw [Around.under_plainId F.plain_set_update_loop _]
    show wpAny _ A.in1 (pyNext (.ref I) >>= _) _ _ s
    refine wpAny_bind (W.item i s _ _ hlt hst fun v z hP hst' hm => ?_)
    obtain ⟨y, t, hy, rfl⟩ := hval i v hP
    have hS' : SetT w z.heap S (dd (xs.take i)) := hS.at fun o e => hm.heap S o hSw e
    have hl : (dd (xs.take i)).length + 1 < scanBound := by
      have h1 := dd_len (xs.take i)
      rw [List.length_take] at h1
      omega
    show wpAny _ A.in1 (holding [Value.str y t] (setAdd S (.str y t)) >>= _) _ _ z
    refine wpAny_bind (wpAny_holding ?_)
    unfold setAdd
    refine wpAny_holding ?_
    refine wpAny_bind ((strKind P w).pyHash (k := y) (strKind_is P w y t) ?_)
    refine add_hashed (s := { z with toks := z.toks + 1 }) hS' hl fun b h' hsb hS2 => ?_
    have hS3 : SetT w h' S (dd (xs.take (i + 1))) := by
      rw [List.take_add_one, hy]
      show SetT w h' S (dd (xs.take i ++ [y]))
      rw [dd_more]
      exact hS2
    refine wpAny_pure ⟨plainId_quiet F.plain_set_update_loop _, ih (i + 1) _ (by omega) hlt (W.frame _ z _ _ hst' (Nat.le_succ _) fun b hb o e => ?_) hS3 fun y' hm'' hS'' => ?_⟩
    · rw [hsb.2 b (fun h : b = S => hSf (by rw [← h]; exact hb))]
      exact e
    · refine hR y' (Moved.trans W.gtrans ((hm.mono hsub).then_heap (Nat.le_succ _) fun b o hb e => ?_) hm'') hS''
      rw [hsb.2 b (fun h : b = S => hb (by rw [h]; exact List.mem_cons_self))]
      exact e
theorem new_at {h : Heap} (ho : h.get? a = some { cls := .type "set", dict := none, data := .set #[] 0 (.fresh 0 0 (!w.params.followText "set-order")) }) : SetT w h a (dd ([] : List Str)) := by
  refine ⟨_, #[], 0, _, ho, ⟨rfl, rfl, rfl⟩, rfl, (fun e he => by simp at he), List.Perm.refl _, List.nodup_nil, (by decide), (by rfl), List.Pairwise.nil, ?_⟩
  show _ ∨ (!w.params.followText "set-order") = true
  cases w.params.followText "set-order"
  · exact .inr rfl
  · exact .inl rfl
abbrev emptyS (w : World) : Obj := { cls := .type "set", dict := none, data := .set #[] 0 (.fresh 0 0 (!w.params.followText "set-order")) }
set_option maxRecDepth 100000 in
set_option maxHeartbeats 3200000 in
/-- set(a list of texts) -/
theorem set_of_list {l : Addr} {items : Array Value} (xs : List Str) {Q : Value → Shared → Prop} (hh : A.handled = none) (hl : s.heap.IsList l items) (hit : StrsAre items.toList xs) (hb : xs.length + 1 < scanBound)
    (h : ∀ (h' : Heap) (tk : Nat), SetT w h' s.heap.objs.size (dd xs) → (∀ b o, s.heap.get? b = some o → h'.get? b = some o) → Q (.ref s.heap.objs.size) { s with heap := h', toks := tk }) :
    wpAny (model P w) A (call (.type "set") [.ref l]) Q E s := by
  have hisz : items.size = xs.length := by
    have q := hit.length
    rw [Array.length_toList] at q
    exact q
  obtain ⟨c, tl, hmro⟩ := F.called_set.mro
  have hmade := F.called_set.made
  have hsub := F.called_set.sub
  refine wpAny_call (codeAny_of_tree ?_)
  show wpAny _ _ (callAny (.type "set") _) _ _ _
  refine wpAny_pure ⟨Code.quiet_builtin _ (by decide +kernel), codeAny_builtin F.entry_type_call ?_⟩
  rw [Around.under_plain (weight_type_call_type "set" [.ref l] []) rfl]
  have h1 := F.called_set.notType
  have h2 := F.called_set.canCreate
  have hct := F.typeCall_set_1 (.ref l)
  repeat (any_goals (first | assumption | wp_step))
  refine codeAny_mono (code_set_led1 (.ref l) (E := E) (Q₁ := fun obj z => obj = .ref s.heap.objs.size ∧ z = { s with heap := s.heap.push (emptyS w) }) ⟨rfl, rfl⟩) fun r z hr => ?_
  cases r with
  | error e => exact hr
  | ok fl =>
    cases fl with
    | ret obj =>
      obtain ⟨rfl, rfl⟩ := hr
      have hS : (s.heap.push (emptyS w)).get? s.heap.objs.size = some (emptyS w) := Heap.get?_push_size _ rfl
      have hT : Shared.TypeIs { s with heap := s.heap.push (emptyS w) } (.ref s.heap.objs.size) "set" := ⟨_, hS, rfl⟩
      have hli := F.called_set.init.lookup
      have hbi := F.called_set.init.bind (.ref s.heap.objs.size)
      repeat (any_goals (first | assumption | wp_step))
      refine codeAny_mono (codeAny_call_builtin (R := wants (fun r z2 => r = .none ∧ ∃ h' tk, z2 = { s with heap := h', toks := tk } ∧ SetT w h' s.heap.objs.size (dd xs) ∧
          (∀ b o, s.heap.get? b = some o → h'.get? b = some o)) E) F.called_set.init.plain F.entry_set_init (check_set_init_1 hT ?_)) fun r2 z2 hr2 => ?_
      · obtain ⟨ol, hol, hcl, nl, hdl⟩ := hl
        obtain ⟨ocls, odict, odata, oslots⟩ := ol
        simp only at hcl hdl
        subst hcl; subst hdl
        have hol' : (s.heap.push (emptyS w)).get? l = some { cls := .type "list", dict := odict, data := .seq items nl, slots := oslots } := Heap.get?_push_of_some _ hol
        have hsls := F.sub_list_set
        have hslf := F.sub_list_frozenset
        have hne : (Value.type "list" == Value.type "dict") = false := by decide
        have hl1 : (s.heap.push (emptyS w)).IsList l items := ⟨_, hol', rfl, nl, rfl⟩
        unfold Builtin.«set.__init__» noKeywords Builtin.Frozenset.updateFrom
        generalize hPI : pyIter = PI
        wp_walk
        subst hPI
        refine wpAny_pyIter_list hl1 ?_
        refine wpAny_bind (wpAny_runValue ?_)
        have hlS : l < s.heap.objs.size := Heap.lt_size hol
        have hh3 : A.in1.in1.in1.handled = none := by simp [hh]
        have hneI : l ≠ (s.heap.push (emptyS w)).objs.size := by
          rw [Heap.size_push]
          exact Nat.ne_of_lt (Nat.lt_succ_of_lt hlS)
        have hSf : s.heap.objs.size ∉ [(s.heap.push (emptyS w)).objs.size, l] := by
          rw [Heap.size_push]
          simp only [List.mem_cons, List.mem_singleton, List.not_mem_nil, or_false, not_or]
          exact ⟨Nat.ne_of_lt (Nat.lt_succ_self _), Nat.ne_of_gt hlS⟩
        have hval : ∀ (i : Nat) (v : Value), items[i]? = some v → ∃ k t, xs[i]? = some k ∧ v = .str k t := fun i v hv => by
          have hi : i < xs.length := by
            rw [← hisz]
            exact (Array.getElem?_eq_some_iff.mp hv).1
          obtain ⟨t, e⟩ := SS.strs_at hit i v (by rw [Array.getElem?_toList]; exact hv)
          refine ⟨xs[i], t, List.getElem?_eq_getElem hi, ?_⟩
          rw [e, List.getD_eq_getElem?_getD, List.getElem?_eq_getElem hi]
          rfl
        refine into_set ((Walks.list hh3 _ l hneI items).toS) s.heap.objs.size hSf xs hisz hb hval (items.size - 0) 0 _ (by omega) (Nat.zero_le _)
          ⟨⟨_, Heap.get?_push_size _ rfl, rfl, rfl⟩, (hl1.push _)⟩ ?hS0 ?hR
        case hS0 => exact new_at (Heap.get?_push_of_some _ hS)
        case hR =>
          intro z3 hm hS'
          obtain ⟨h', g2, d', tk', os'⟩ := z3
          have eg : g2 = s.gens := hm.gens
          have ed : d' = s.drawn := hm.drawn
          have eo : os' = s.os := hm.os
          subst eg; subst ed; subst eo
          show wpAny _ _ _ _ _ _
          refine wpAny_pure ?_
          show wpAny _ _ (ret Value.none) _ _ _
          refine wpAny_pure ⟨rfl, h', tk', rfl, hS', fun b o e => ?_⟩
          have hb0 : b < s.heap.objs.size := Heap.lt_size e
          have hb1 : b ≠ s.heap.objs.size := Nat.ne_of_lt hb0
          have hb2 : b ≠ (s.heap.push (emptyS w)).objs.size := by
            rw [Heap.size_push]
            exact Nat.ne_of_lt (Nat.lt_succ_of_lt hb0)
          refine hm.heap b o ?_ (Heap.get?_push_of_some _ (Heap.get?_push_of_some _ e))
          simp only [List.mem_cons, List.mem_singleton, List.not_mem_nil, or_false, not_or]
          exact ⟨hb1, hb2⟩
      · cases r2 with
        | error e => exact hr2
        | ok fl2 =>
          cases fl2 with
          | ret r =>
            obtain ⟨rfl, h', tk, rfl, hS', hk'⟩ := hr2
            repeat (any_goals (first | assumption | wp_step))
            exact h _ _ hS' hk'
          | _ => exact hr2.elim
    | _ => exact hr.elim
end
end TxSet
set_option Elab.async false
set_option linter.all false
set_option maxRecDepth 100000
set_option maxHeartbeats 2000000
namespace TxSet
open PySem PySem.Spec PyProof.Rows L2
theorem strs_map : ∀ (l : List Value), (∀ v ∈ l, ∃ k tk, v = Value.str k tk) → ∃ ss : List Str, StrsAre l ss ∧ ss = l.map (fun v => txt (0, v))
  | [], _ => ⟨[], .nil, rfl⟩
  | v :: l, h => by
    obtain ⟨k, tk, rfl⟩ := h v List.mem_cons_self
    obtain ⟨ss, h1, h2⟩ := strs_map l fun u hu => h u (List.mem_cons_of_mem _ hu)
    exact ⟨k :: ss, .cons k tk h1, by rw [h2]; rfl⟩
section
variable {P : Program} {w : World} {A : Around} {E : Value → Shared → Prop} {s : Shared} {a : Addr} {L : List Str}
/-- sorted(a set of texts) -/
theorem sorted_txt {Q : Value → Shared → Prop} (R : SetT w s.heap a L) (hh : A.handled = none) (h64 : L.length < 64)
    (hQ : ∀ z p (out : Array Value) (c : Nat) (ys : List Str), (∀ b o, s.heap.get? b = some o → z.heap.get? b = some o) → z.gens = s.gens → z.os = s.os → s.heap.objs.size ≤ p →
      z.heap.get? p = some (seqObj "list" out c) → StrsAre out.toList ys → ys.Perm L → sortedS ys = true → Q (.ref p) z) :
    wpAny (model P w) A (call (.builtin "sorted") [.ref a]) Q E s := by
  obtain ⟨o, es, ep, t, ho, hex, hd, g, pm0, nd, hb, hf, hr, hl⟩ := R
  refine Calls.call_function_entry kind_sorted plain_sorted entry_sorted (args_sorted1 _) ?_
  unfold Builtin.«sorted»
  refine wpAny_bind (m := checkCount "sorted" 1 1 _) (wpAny_pure ?_)
  refine wpAny_bind (collect_set (A := A.in1) hh ⟨o, ho, hex.1, hd⟩ hf hb hr hl fun s1 vs k1 hz g1 o1 pm => ?_)
  obtain ⟨ss, hI, e1⟩ := strs_map vs fun v hv => by
    obtain ⟨e, he, q⟩ := List.mem_map.mp (pm.mem_iff.mp hv)
    obtain ⟨k, tk, h1, _⟩ := g e he
    exact ⟨k, tk, by rw [← q]; exact h1⟩
  have pk : ss.Perm L := by
    have q := pm.map (fun v => txt (0, v))
    rw [List.map_map, ← e1] at q
    exact q.trans pm0
  have hvl : vs.length < 64 := by
    have z := hI.length
    rw [z, pk.length_eq]
    exact h64
  refine wpAny_bind (wpAny_newList ?_ (by rw [sizeLine_eq]; omega))
  have hoL : (s1.heap.push (seqObj "list" vs.toArray 0)).get? s1.heap.objs.size = some (seqObj "list" vs.toArray 0) := Heap.get?_push_size _ rfl
  refine wpAny_bind (wpAny_holding (wpAny_call_entry slot_list_sort ⟨_, hoL, rfl⟩ entry_list_sort
    (list_sort_treeK strKind_oneLt hoL hI.keysOf (fun v1 v2 rest e => keyKind_strs (by rw [← e]; exact hI)) hvl fun st' hp hs => ?_) (args_list_sort _)))
  obtain ⟨ys, g1', g2', g3'⟩ := sorted_out_str hI hp hs
  refine ⟨_, rfl, ?_⟩
  obtain ⟨c, hc⟩ := sortedHeap_at (vs := vs) (out := _) hoL
  refine wpAny_pure ⟨_, rfl, hQ _ s1.heap.objs.size _ c ys (fun b u e => ?_) g1 o1 hz hc g1' (g2'.trans pk) g3'⟩
  have q := k1 b u e
  have hlt := Heap.lt_size q
  show (sortedHeap (s1.heap.push (seqObj "list" vs.toArray 0)) s1.heap.objs.size vs _).get? b = some u
  rw [sortedHeap_old (Nat.ne_of_lt hlt) (by rw [size_push']; exact Nat.lt_succ_of_lt hlt)]
  exact Heap.get?_push_of_some _ q
end
/-- of two risings of the same texts there is one -/
def tle (x y : Str) : Prop := x.cps.toList ≤ y.cps.toList
theorem rising_all : ∀ (r : List Str) (x : Str), risingS x r = true → (∀ y ∈ r, tle x y) ∧ r.Pairwise tle
  | [], _, _ => ⟨(fun _ h => nomatch h), List.Pairwise.nil⟩
  | y :: r, x, h => by
    have h' : (!Spec.ltCps y.cps.toList x.cps.toList && risingS y r) = true := h
    rw [Bool.and_eq_true, Bool.not_eq_true', ltCps_eq, decide_eq_false_iff_not] at h'
    obtain ⟨h1, h2⟩ := h'
    have hxy : tle x y := List.not_lt.mp h1
    obtain ⟨a1, a2⟩ := rising_all r y h2
    refine ⟨fun z hz => ?_, List.pairwise_cons.mpr ⟨a1, a2⟩⟩
    rcases List.mem_cons.mp hz with e | hz
    · rw [e]
      exact hxy
    · exact List.le_trans hxy (a1 z hz)
theorem sorted_pair : ∀ l : List Str, sortedS l = true → l.Pairwise tle
  | [], _ => List.Pairwise.nil
  | x :: r, h => by
    obtain ⟨a1, a2⟩ := rising_all r x h
    exact List.pairwise_cons.mpr ⟨a1, a2⟩
theorem one_rising {xs ys zs : List Str} (h1 : ys.Perm xs) (s1 : sortedS ys = true) (h2 : zs.Perm xs) (s2 : sortedS zs = true) : ys = zs := by
  refine List.Perm.eq_of_pairwise (le := tle) (fun a b _ _ p q => ?_) (sorted_pair ys s1) (sorted_pair zs s2) (h1.trans h2.symm)
  have e : a.cps.toList = b.cps.toList := List.le_antisymm p q
  obtain ⟨a⟩ := a
  obtain ⟨b⟩ := b
  have e' : a = b := Array.toList_inj.mp e
  rw [e']
/-- as many as there are: no two are one -/
theorem ins_mem (L : List Str) (k x : Str) : x ∈ ins L k ↔ x = k ∨ x ∈ L := by
  unfold ins
  split
  · rename_i h
    exact ⟨.inr, fun z => z.elim (fun e => e ▸ h) id⟩
  · rw [List.mem_cons]
theorem dd_go : ∀ (xs L : List Str), (xs.foldl ins L).length ≤ L.length + xs.length ∧ (∀ x, x ∈ xs.foldl ins L ↔ x ∈ L ∨ x ∈ xs) ∧ ((xs.foldl ins L).length = L.length + xs.length ↔ xs.Nodup ∧ ∀ x ∈ xs, x ∉ L)
  | [], L => ⟨Nat.le_refl _, fun x => by simp, by simp⟩
  | y :: xs, L => by
    obtain ⟨a1, a2, a3⟩ := dd_go xs (ins L y)
    have l1 := ins_len L y
    rw [List.foldl_cons]
    refine ⟨by rw [List.length_cons]; omega, fun x => ?_, ?_⟩
    · rw [a2 x, ins_mem, List.mem_cons]
      constructor
      · rintro ((e | h) | h)
        · exact .inr (.inl e)
        · exact .inl h
        · exact .inr (.inr h)
      · rintro (h | e | h)
        · exact .inl (.inr h)
        · exact .inl (.inl e)
        · exact .inr h
    · by_cases hy : y ∈ L
      · have e : ins L y = L := if_pos hy
        rw [e] at a1 ⊢
        constructor
        · intro z
          rw [List.length_cons] at z
          omega
        · rintro ⟨_, z⟩
          exact absurd hy (z y List.mem_cons_self)
      · have e : ins L y = y :: L := if_neg hy
        rw [e] at a3 ⊢
        rw [List.length_cons] at a3 ⊢
        rw [show L.length + (xs.length + 1) = L.length + 1 + xs.length by omega, a3, List.nodup_cons]
        constructor
        · rintro ⟨h1, h2⟩
          refine ⟨⟨fun z => h2 y z List.mem_cons_self, h1⟩, fun x hx => ?_⟩
          rcases List.mem_cons.mp hx with e | hx
          · rw [e]
            exact hy
          · exact fun z => h2 x hx (List.mem_cons_of_mem _ z)
        · rintro ⟨⟨h1, h2⟩, h3⟩
          refine ⟨h2, fun x hx z => ?_⟩
          rcases List.mem_cons.mp z with e | z
          · exact h1 (e ▸ hx)
          · exact h3 x (List.mem_cons_of_mem _ hx) z
theorem dd_full (xs : List Str) : (dd xs).length = xs.length ↔ xs.Nodup := by
  have h := (dd_go xs []).2.2
  rw [List.length_nil, Nat.zero_add] at h
  show (xs.foldl ins []).length = xs.length ↔ _
  rw [h]
  exact ⟨fun z => z.1, fun z => ⟨z, fun _ _ q => nomatch q⟩⟩
theorem dd_mem (xs : List Str) (x : Str) : x ∈ dd xs ↔ x ∈ xs := by
  have h := (dd_go xs []).2.1 x
  show x ∈ xs.foldl ins [] ↔ _
  rw [h]
  exact ⟨fun z => z.elim (fun q => nomatch q) id, .inr⟩
theorem ins_nodup {L : List Str} (h : L.Nodup) (k : Str) : (ins L k).Nodup := by
  unfold ins
  split
  · exact h
  · rename_i z
    exact List.nodup_cons.mpr ⟨z, h⟩
theorem dd_nodup (xs : List Str) : (dd xs).Nodup := by
  have go : ∀ (xs L : List Str), L.Nodup → (xs.foldl ins L).Nodup := by
    intro xs
    induction xs with
    | nil => intro L h; exact h
    | cons x xs ih => intro L h; exact ih _ (ins_nodup h x)
  exact go xs [] List.nodup_nil
end TxSet
namespace L2
open PySem PySem.Spec PyProof.Rows
/-- len(set(xs)) -/
def tLenSetT (K : PySem.W.Frag) (ta : TE) : TE := fun σ H Q => ta σ H fun x H1 => ∃ (l : Addr) (xs : List Str), x = .ref l ∧ SqL K H1 l (xs.map V.str) ∧ xs.length ≤ 4000 ∧ Q (.int ((TxSet.dd xs).length : Nat)) H1
theorem pe_lenSetT {X : Cx} {a : Expr} {ta : TE} {p p2 q pos : Pos} (hc : X.calm = true) (hg : Gl X "len") (hm : X.mg "len" = none) (hg2 : Gl X "set") (hm2 : X.mg "set" = none) (ha : PE X a ta)
    (na : starEach [a] X.env = (false, eval a X.env) :: starEach [] X.env := by rfl) : PE X (.Call (.Name "len" p) [.Call (.Name "set" p2) [a] [] q] [] pos) (tLenSetT X.K ta) := by
  refine ⟨fun pins s σ H Q I h => ?_⟩
  refine Call_ (ld_blt I hg hm boot_len ?_)
  refine PyProof.Rows.callWith_builtin1 (PyProof.Rows.args_cons ?_ rfl) rfl rfl
  refine Call_ (ld_blt I hg2 hm2 boot_set ?_)
  refine PyProof.Rows.callWith_type1 (PyProof.Rows.args_cons (thn (ha.run pins s σ H _ I h) fun v s1 ⟨x, H1, I1, r1, q1⟩ => PyProof.Rows.args_nil ?_) na) na rfl
  obtain ⟨l, xs, rfl, hq, hl, q1⟩ := q1
  cases r1
  obtain ⟨its, r, pl, hz⟩ := I1.list hq
  refine TxSet.set_of_list xs (I1.ok.hd hc) pl.isList (by simpa using strsAre_of r) (by unfold scanBound; omega) fun h' tk hS hk => ?_
  refine PyProof.Rows.args_nil ?_
  obtain ⟨o, es, ep, t, ho, hex, hd, _, pm, _, hb, hf, _⟩ := hS
  have hn : es.size = (TxSet.dd xs).length := by
    have z := pm.length_eq
    rw [List.length_map, Array.length_toList] at z
    exact z
  have I2 : Inv X pins σ H1 { s1 with heap := h', toks := tk } := I1.kept fun b o e => hk b o e
  refine call_len_set ho hex hd hf ?_ ⟨.int ((TxSet.dd xs).length : Nat), H1, I2.tok _, ⟨_, by rw [hn]⟩, q1⟩
  have hb' : es.size < 4096 := hb
  omega
/-- sorted(set(xs)) -/
def tSortSetT (K : PySem.W.Frag) (ta : TE) : TE := fun σ H Q => ta σ H fun x H1 => ∃ (l : Addr) (xs : List Str), x = .ref l ∧ SqL K H1 l (xs.map V.str) ∧ xs.length ≤ 4000 ∧ (TxSet.dd xs).length < 64 ∧
  ∀ (ys : List Str) (p : Addr), ys.Perm (TxSet.dd xs) → sortedS ys = true → H1 p = none → Q (.ref p) (upd H1 p (.lst (ys.map V.str)))
theorem pe_sortSetT {X : Cx} {a : Expr} {ta : TE} {p p2 q pos : Pos} (hc : X.calm = true) (hg : Gl X "sorted") (hm : X.mg "sorted" = none) (hg2 : Gl X "set") (hm2 : X.mg "set" = none) (ha : PE X a ta)
    (na : starEach [a] X.env = (false, eval a X.env) :: starEach [] X.env := by rfl) : PE X (.Call (.Name "sorted" p) [.Call (.Name "set" p2) [a] [] q] [] pos) (tSortSetT X.K ta) := by
  refine ⟨fun pins s σ H Q I h => ?_⟩
  refine Call_ (ld_blt I hg hm boot_sorted ?_)
  refine PyProof.Rows.callWith_builtin1 (PyProof.Rows.args_cons ?_ rfl) rfl rfl
  refine Call_ (ld_blt I hg2 hm2 boot_set ?_)
  refine PyProof.Rows.callWith_type1 (PyProof.Rows.args_cons (thn (ha.run pins s σ H _ I h) fun v s1 ⟨x, H1, I1, r1, q1⟩ => PyProof.Rows.args_nil ?_) na) na rfl
  obtain ⟨l, xs, rfl, hq, hl, h64, q1⟩ := q1
  cases r1
  obtain ⟨its, r, pl, hz⟩ := I1.list hq
  refine TxSet.set_of_list xs (I1.ok.hd hc) pl.isList (by simpa using strsAre_of r) (by unfold scanBound; omega) fun h' tk hS hk => ?_
  refine PyProof.Rows.args_nil ?_
  refine TxSet.sorted_txt (s := { s1 with heap := h', toks := tk }) hS (I1.ok.hd hc) h64 fun z p out c ys k2 g2 o2 hp hout hys hperm hsort => ?_
  have old : ∀ b o, s1.heap.get? b = some o → z.heap.get? b = some o := fun b o e => k2 b o (hk b o e)
  have hge : s1.heap.objs.size ≤ p := by
    have h1 : s1.heap.objs.size ≤ h'.objs.size := by
      obtain ⟨o, _, _, _, ho, _⟩ := hS
      exact Nat.le_of_lt (Heap.lt_size ho)
    exact Nat.le_trans h1 hp
  have hlen : (ys.map V.str).length ≤ sizeLine := by
    rw [List.length_map, hperm.length_eq]
    exact Nat.le_of_lt (Nat.lt_of_lt_of_le h64 (by decide))
  obtain ⟨zh, zg, zd, zt, zo⟩ := z
  obtain rfl : zg = s1.gens := g2
  obtain rfl : zo = s1.os := o2
  have hn : H1 p = none := I1.hok.fresh hge
  have J : Inv X pins σ (upd H1 p (.lst (ys.map V.str))) { s1 with heap := zh, gens := s1.gens, drawn := zd, toks := zt } :=
    I1.call (ch := []) (Un.laid old hge hn) (I1.hok.laid old hge ⟨hlen, out.toList, c, vals_of_strs hys, hout⟩) I1.bare (fun _ z => nomatch z)
  exact ⟨.ref p, _, J, rfl, q1 ys p hperm hsort hn⟩
end L2
set_option Elab.async false
set_option linter.all false
set_option maxRecDepth 100000
set_option maxHeartbeats 2000000
namespace K02
open PySem L2 PyProof.Rows
def top (i : Nat) : Stmt := PySem.Challenge.pw_partedvalues_k18_walks_that_lead_nowhere.main.body.getD i (.Pass ⟨0, 0, 0, 0⟩)
abbrev sFresh : Stmt := top 1
abbrev sKindW : Stmt := top 8
abbrev sResP : Stmt := top 11
abbrev sInPath : Stmt := top 12
abbrev sInPlace : Stmt := top 13
abbrev sItemsF : Stmt := top 14
abbrev sOthersW : Stmt := top 15
abbrev sPlaceOf : Stmt := top 16
abbrev sLookOf : Stmt := top 17
abbrev sKindOf : Stmt := top 19
abbrev sWalk : Stmt := top 21
abbrev sAnsAt : Stmt := top 22
abbrev sFoundAt : Stmt := top 23
abbrev sHasKey : Stmt := top 24
abbrev sWayW : Stmt := top 25
abbrev sCoin : Stmt := top 27
abbrev sWkPlaces : Stmt := top 28
abbrev sWkLook : Stmt := top 29
abbrev sWkDone : Stmt := top 30
abbrev sWkTree : Stmt := top 31
abbrev sWkThing : Stmt := top 32
abbrev sPick : Stmt := top 33
abbrev sWords : Stmt := top 34
abbrev sSack : Stmt := top 35
abbrev sNoWalk : Stmt := top 36
abbrev sNoBase : Stmt := top 37
abbrev sNoLook : Stmt := top 38
abbrev sNoRight : Stmt := top 39
abbrev sLaw : Stmt := top 40
abbrev sTakeErr : Stmt := top 3
/-! ### heaps -/
/-- what was tracked stands, but at p -/
def But (p : Addr) (H H' : Hp) : Prop := ∀ b o, b ≠ p → H b = some o → H' b = some o
theorem But.refl (p : Addr) (H : Hp) : But p H H := fun _ _ _ h => h
theorem But.trans {p : Addr} {H H1 H2 : Hp} (a : But p H H1) (b : But p H1 H2) : But p H H2 := fun c o n h => b c o n (a c o n h)
theorem But.of {p : Addr} {H H' : Hp} (s : Same H H') : But p H H' := fun c o _ h => s c o h
theorem But.upd {p : Addr} {H : Hp} {o : HO} : But p H (upd H p o) := fun c o n h => by
  rw [upd_ne n]
  exact h
theorem But.new {p q : Addr} {H : Hp} {o : HO} (h : H q = none) : But p H (L2.upd H q o) := fun c u _ e => by
  rw [upd_ne (ne_of_none e h)]
  exact e
theorem same_new {H : Hp} {p : Addr} (h : H p = none) (o : HO) : Same H (upd H p o) := fun b u q => by
  rw [upd_ne (ne_of_none q h)]
  exact q
/-- a purse: three numbers, the last one the number of draws -/
def Purse (H : Hp) (p : Addr) (n : Nat) : Prop := ∃ a b c : Int, H p = some (.lst [.int a, .int b, .int c]) ∧ 0 ≤ b ∧ b < 10 ^ 25 ∧ 0 ≤ c ∧ c ≤ (n : Int)
theorem Purse.mono {H : Hp} {p : Addr} {m n : Nat} (h : Purse H p m) (hm : m ≤ n) : Purse H p n := by
  obtain ⟨a, b, c, e, h1, h2, h3, h4⟩ := h
  exact ⟨a, b, c, e, h1, h2, h3, by omega⟩
theorem Purse.same {H H' : Hp} {p : Addr} {n : Nat} (h : Purse H p n) (s : Same H H') : Purse H' p n := by
  obtain ⟨a, b, c, e, r⟩ := h
  exact ⟨a, b, c, s _ _ e, r⟩
theorem Purse.some {H : Hp} {p : Addr} {n : Nat} (h : Purse H p n) : ∃ o, H p = some o := by
  obtain ⟨a, b, c, e, r⟩ := h
  exact ⟨_, e⟩
/-- free behind But is free before (away from p) -/
theorem But.free {p q : Addr} {H H' : Hp} {o : HO} (s : But p H H') (hp : H p = some o) (hp' : ∃ o', H' p = some o') (h : H' q = none) : H q = none := by
  cases e : H q with
  | none => rfl
  | some u =>
    by_cases hq : q = p
    · obtain ⟨o', ho'⟩ := hp'
      rw [hq, ho'] at h
      cases h
    · rw [s q u hq e] at h
      cases h

theorem at3_0 {x y z : V} : atI [x, y, z] 0 = some x := atI_nat (j := 0) rfl
theorem at3_1 {x y z : V} : atI [x, y, z] 1 = some y := atI_nat (j := 1) rfl
theorem at3_2 {x y z : V} : atI [x, y, z] 2 = some z := atI_nat (j := 2) rfl
theorem pos_nat {a b : Int} {n : Nat} (h0 : 0 ≤ a) (h : a < b) (hb : b.toNat ≤ n) : a.natAbs < n := by omega
/-! ### the promises -/
def spPurse (K : PySem.W.Frag) : Sp := fun vs H Q _ => ∃ (a : Addr) (ns : List Int) (i : Nat), vs = [.ref a, .int (i : Int)] ∧ SqL K H a (ns.map V.int) ∧ ns.length ≤ 63 ∧ i ≤ 100 ∧
  ∀ p H', H p = none → Same H H' → Purse H' p 0 → Q (.ref p) H'
def spCoin : Sp := fun vs H Q _ => ∃ (p : Addr) (m : Int) (n : Nat), vs = [.ref p, .int m] ∧ Purse H p n ∧ n < 10 ^ 60 ∧ 0 < m ∧ m ≤ 10 ^ 12 ∧
  ∀ d H', 0 ≤ d → d < m → But p H H' → Purse H' p (n + 1) → Q (.int d) H'
structure Txt (K : PySem.W.Frag) (mg : Str → Option Value) : Prop where
  len : mg "len" = none
  max : mg "max" = none
  min : mg "min" = none
  abs : mg "abs" = none
  int : mg "int" = none
  range : mg "range" = none
  set : mg "set" = none
  list : mg "list" = none
  tuple : mg "tuple" = none
  all : mg "all" = none
  repr : mg "repr" = none
  isi : mg "isinstance" = none
section
variable {P : Program} {w : World} {K : PySem.W.Frag} {mg : Str → Option Value} {base : Heap}
theorem scP : FnScope ["script", "place", "cell", "stirred"] ["script", "place"] (defScope sSack) := ⟨rfl, rfl, rfl, by decide +kernel, rfl, by decide +kernel, by decide +kernel⟩
theorem ok_sack {f : Addr} {fd : FuncData} (F : Fun K "_law_tr_sack" "_law_tr_sack" sSack f fd) (T : Txt K mg) : FnOk P w K mg base CX0 1 f fd ["script", "place"] (spPurse K) := by
  refine F.ok scP (fun vs H Q E h => ?_) (fun cdv A outer s H vs Q E hr h => ?_)
  · obtain ⟨a, ns, i, rfl, _⟩ := h
    rfl
  obtain ⟨a, ns, i, rfl, hS, hl, hi, k⟩ := h
  refine ⟨_, Evl.pss_cut (ps_set (i := 2) scP.nd rfl (Or.inl rfl) (pe_ifExp (pt_cmpR op_lt (pv 1) (pe_callB call_len_seq (by rfl) T.len PySem.boot_len (pa_cons (pv 0) pa_nil)) (nomark _)) (pe_ix ix_list (pv 0) (pv 1) (fun _ _ => rfl)) pe_int))
    (pss_cons (ps_set (i := 3) scP.nd rfl (Or.inl rfl) (pe_op op_mod (pe_callTy call_int1 (by rfl) T.int boot_int (pa_cons (pe_op op_add (pe_op op_add (pe_op op_mul (pv 2) pe_int) (pe_op op_mul (pv 1) pe_int)) pe_int) pa_nil)) (pe_op op_add (pe_op op_pow pe_int pe_int) pe_int)))
    (pss_one (ps_ret (pe_lst (pa_cons (pe_callB (call_max2 rfl) (by rfl) T.max boot_max (pa_cons pe_int (pa_cons (pe_op op_sub (pe_callB call_abs (by rfl) T.abs boot_abs (pa_cons (pv 2) pa_nil)) (pe_op op_pow pe_int pe_int)) pa_nil)))
      (pa_cons (pv 3) (pa_cons pe_int pa_nil))))))), ?_⟩
  refine ⟨fun σ' H' => H' = H ∧ ∃ c : Int, σ' = [some (.ref a), some (.int (i : Int)), some (.int c), none], ?_, ?_⟩
  · refine ⟨_, rfl, _, rfl, a, _, rfl, .inl hS, _, _, rfl, rfl, _, rfl, ?_⟩
    refine ite2 (fun c => ?_) (fun c => ⟨rfl, 0, rfl⟩)
    have c' : (i : Int) < (((ns.map V.int).length : Nat) : Int) := of_decide_eq_true c
    rw [List.length_map] at c'
    have hi' : i < ns.length := by omega
    refine ⟨_, rfl, _, rfl, a, _, _, _, rfl, rfl, hS, atI_nat (v := .int ns[i]) (by rw [List.getElem?_map, List.getElem?_eq_getElem hi']; rfl), ?_⟩
    exact ⟨rfl, _, rfl⟩
  · rintro σ' H' ⟨rfl, c, rfl⟩
    refine ⟨_, rfl, _, _, rfl, rfl, .inr ⟨by decide, by decide⟩, _, rfl, _, _, rfl, rfl, .inr ⟨by decide, by decide⟩, _, _, rfl, rfl, _, _, rfl, rfl, .inl ⟨_, rfl, ?_⟩⟩
    refine ⟨_, _, rfl, rfl, ⟨by decide, by decide, by decide⟩, _, _, rfl, rfl, _, _, rfl, rfl, (by show (0 : Int) < 10 ^ (24 : Nat) + 7; decide), ?_⟩
    refine ⟨_, rfl, _, rfl, _, _, rfl, rfl, ⟨by decide, by decide, by decide⟩, _, _, rfl, rfl, _, _, rfl, _, rfl, ?_⟩
    refine ⟨(by show 3 ≤ sizeLine; decide), fun p hp => ?_⟩
    refine k p _ hp (same_new hp _) ⟨_, _, _, upd_same, ?_, ?_, Int.le_refl 0, Int.le_refl 0⟩
    · exact Int.emod_nonneg _ (by show (10 ^ (24 : Nat) + 7 : Int) ≠ 0; decide)
    · refine Int.lt_trans (Int.emod_lt_of_pos _ (by show (0 : Int) < 10 ^ (24 : Nat) + 7; decide)) ?_
      show (10 ^ (24 : Nat) + 7 : Int) < 10 ^ 25
      decide
theorem scC : FnScope ["purse", "many", "drawn", "stirred"] ["purse", "many"] (defScope sCoin) := ⟨rfl, rfl, rfl, by decide +kernel, rfl, by decide +kernel, by decide +kernel⟩
theorem ok_coin {f : Addr} {fd : FuncData} (F : Fun K "_law_coin" "_law_coin" sCoin f fd) (T : Txt K mg) : FnOk P w K mg base CX0 1 f fd ["purse", "many"] spCoin := by
  refine F.ok scC (fun vs H Q E h => ?_) (fun cdv A outer s H vs Q E hr h => ?_)
  · obtain ⟨p, m, n, rfl, _⟩ := h
    rfl
  obtain ⟨p, m, n, rfl, ⟨a, b, c, hp, hb0, hb1, hc0, hc1⟩, hn, hm0, hm1, k⟩ := h
  refine ⟨_, pss_cons (ps_if (pt_cmpR op_gt (pe_ix ix_list (pv 0) pe_int (fun _ _ => rfl)) pe_int (nomark _))
      (pss_cons (ps_set (i := 2) scC.nd rfl (Or.inl rfl) (pe_op op_mod (pe_callTy call_int1 (by rfl) T.int boot_int (pa_cons (pe_ix ix_list (pv 0) pe_int (fun _ _ => rfl)) pa_nil)) (pv 1)))
      (pss_cons (ps_asg (pe_op op_fdivW (pe_ix ix_list (pv 0) pe_int (fun _ _ => rfl)) (pv 1)) (pg_sub (pv 0) pe_int set_list))
      (pss_one (ps_ret (pv 2))))) pss_nil)
    (pss_cons (ps_asg (pe_op op_add (pe_ix ix_list (pv 0) pe_int (fun _ _ => rfl)) pe_int) (pg_sub (pv 0) pe_int set_list))
    (pss_cons (ps_set (i := 3) scC.nd rfl (Or.inl rfl) (pe_op op_mod (pe_op op_powW (pe_callTy call_int1 (by rfl) T.int boot_int (pa_cons (pe_op op_add (pe_ix ix_list (pv 0) pe_int (fun _ _ => rfl)) (pe_op op_mul pe_int (pe_ix ix_list (pv 0) pe_int (fun _ _ => rfl)))) pa_nil)) pe_int) (pe_op op_add (pe_op op_pow pe_int pe_int) pe_int)))
    (pss_cons (ps_set (i := 3) scC.nd rfl (Or.inl rfl) (pe_op op_mod (pe_op op_powW (pe_callTy call_int1 (by rfl) T.int boot_int (pa_cons (pe_op op_add (pv 3) (pe_op op_mul pe_int (pe_ix ix_list (pv 0) pe_int (fun _ _ => rfl)))) pa_nil)) pe_int) (pe_op op_add (pe_op op_pow pe_int pe_int) pe_int)))
    (pss_one (ps_ret (pe_op op_mod (pe_callTy call_int1 (by rfl) T.int boot_int (pa_cons (pe_op op_fdivW (pv 3) pe_int) pa_nil)) (pv 1))))))), ?_⟩
  refine ⟨_, rfl, p, _, _, _, rfl, rfl, SqL.of hp, at3_0, _, _, rfl, rfl, _, rfl, ?_⟩
  have m2 : m.natAbs < 2 ^ 50 := Nat.lt_of_le_of_lt (show m.natAbs ≤ 10 ^ 12 by omega) (by decide)
  refine ite2 (fun h1 => ?_) (fun h1 => ?_)
  · refine ⟨_, rfl, p, _, _, _, rfl, rfl, SqL.of hp, at3_0, .inl ⟨_, rfl, _, rfl, _, _, rfl, rfl, hm0, ?_⟩⟩
    refine ⟨_, rfl, p, _, _, _, rfl, rfl, SqL.of hp, at3_0, _, rfl, _, _, rfl, rfl, wide_div hm0 m2 (by decide) (by decide), ?_⟩
    refine ⟨_, rfl, p, _, _, 0, rfl, rfl, hp, rfl, ?_⟩
    refine ⟨_, rfl, k _ _ (Int.emod_nonneg _ (by omega)) (Int.emod_lt_of_pos _ hm0) But.upd ⟨_, _, _, upd_same, hb0, hb1, hc0, by omega⟩⟩
  · have c1 : c + 1 ≤ 10 ^ 60 := by omega
    refine ⟨_, rfl, p, _, _, _, rfl, rfl, SqL.of hp, at3_2, _, _, rfl, rfl, ?_⟩
    refine ⟨_, rfl, p, _, _, 2, rfl, rfl, hp, rfl, ?_⟩
    have hp1 : (upd H p (.lst [.int a, .int b, .int (c + 1)])) p = some (.lst [.int a, .int b, .int (c + 1)]) := upd_same
    refine ⟨_, rfl, p, _, _, _, rfl, rfl, SqL.of hp1, at3_1, _, rfl, p, _, _, _, rfl, rfl, SqL.of hp1, at3_2, ?_⟩
    refine ⟨_, _, rfl, rfl, .inl ⟨by decide, by decide⟩, _, _, rfl, rfl, .inl ⟨_, rfl, _, _, rfl, rfl, ⟨by decide, by decide, ?_⟩, ?_⟩⟩
    · exact Nat.lt_of_lt_of_le (pos_nat (b := 10 ^ 25 + 2038074743 * 10 ^ 60 + 1) (n := 2 ^ 300) (by omega) (by omega) (by decide)) (Nat.pow_le_pow_right (by decide) (by decide))
    refine ⟨_, _, rfl, rfl, ⟨by decide, by decide, by decide⟩, _, _, rfl, rfl, _, _, rfl, rfl, (by show (0 : Int) < 10 ^ (25 : Nat) + 13; decide), ?_⟩
    generalize hd : (b + 2038074743 * (c + 1)) ^ (3 : Int).toNat % (10 ^ (25 : Int).toNat + 13) = d
    have d0 : 0 ≤ d := by
      rw [← hd]
      exact Int.emod_nonneg _ (by decide)
    have d1 : d < 10 ^ 26 := by
      rw [← hd]
      exact Int.lt_trans (Int.emod_lt_of_pos _ (by decide)) (by decide)
    refine ⟨_, rfl, _, rfl, p, _, _, _, rfl, rfl, SqL.of hp1, at3_2, ?_⟩
    refine ⟨_, _, rfl, rfl, .inl ⟨by decide, by decide⟩, _, _, rfl, rfl, .inl ⟨_, rfl, _, _, rfl, rfl, ⟨by decide, by decide, ?_⟩, ?_⟩⟩
    · exact Nat.lt_of_lt_of_le (pos_nat (b := 10 ^ 26 + 982451653 * 10 ^ 60 + 1) (n := 2 ^ 300) (by omega) (by omega) (by decide)) (Nat.pow_le_pow_right (by decide) (by decide))
    refine ⟨_, _, rfl, rfl, ⟨by decide, by decide, by decide⟩, _, _, rfl, rfl, _, _, rfl, rfl, (by show (0 : Int) < 10 ^ (24 : Nat) + 7; decide), ?_⟩
    refine ⟨_, rfl, _, _, rfl, rfl, wide_div (b := 11) (by decide) (by decide) (by decide) (by decide), .inl ⟨_, rfl, _, rfl, _, _, rfl, rfl, hm0, ?_⟩⟩
    exact k _ _ (Int.emod_nonneg _ (by omega)) (Int.emod_lt_of_pos _ hm0) But.upd ⟨_, _, _, upd_same, hb0, hb1, by omega, by omega⟩
end
end K02
set_option Elab.async false
set_option linter.all false
set_option maxRecDepth 100000
set_option maxHeartbeats 4000000
namespace K02
open PySem L2 PyProof.Rows
abbrev nW : List Str := ["purse", "many", "letters", "sort_here", "menu", "stem", "start", "rank", "found", "size", "base", "word", "tail", "at", "turn"]
/-- what stands around: the purse drawn from c times at most, all else kept, a list of texts apart -/
def Around1 (H : Hp) (p : Addr) (c : Nat) (H' : Hp) : Prop := But p H H' ∧ Purse H' p c
theorem Around1.same {H H1 H2 : Hp} {p : Addr} {c : Nat} (h : Around1 H p c H1) (s : Same H1 H2) : Around1 H p c H2 := ⟨h.1.trans (.of s), h.2.same s⟩
theorem Around1.mono {H H1 : Hp} {p : Addr} {c d : Nat} (h : Around1 H p c H1) (hd : c ≤ d) : Around1 H p d H1 := ⟨h.1, h.2.mono hd⟩
theorem Around1.draw {H H1 H2 : Hp} {p : Addr} {c : Nat} (h : Around1 H p c H1) (b : But p H1 H2) (q : Purse H2 p (c + 1)) : Around1 H p (c + 1) H2 := ⟨h.1.trans b, q⟩
theorem Around1.new {H H1 : Hp} {p a : Addr} {c : Nat} {o : HO} (h : Around1 H p c H1) (ha : H1 a = none) : Around1 H p c (upd H1 a o) := h.same (same_new ha o)
theorem Around1.trans {H H1 H2 : Hp} {p : Addr} {c d : Nat} (h : Around1 H p c H1) (k : Around1 H1 p d H2) : Around1 H p d H2 := ⟨h.1.trans k.1, k.2⟩
/-- an object that is not the purse may change -/
theorem Around1.put {H H1 : Hp} {p a : Addr} {c : Nat} {o : HO} (h : Around1 H p c H1) (ha : H a = none) (hp : a ≠ p) : Around1 H p c (upd H1 a o) := by
  refine ⟨fun b u n e => ?_, ?_⟩
  · rw [upd_ne (ne_of_none e ha)]
    exact h.1 b u n e
  · obtain ⟨x, y, z, e, r⟩ := h.2
    exact ⟨x, y, z, by rw [upd_ne hp.symm]; exact e, r⟩
theorem Around1.free {H H1 : Hp} {p a : Addr} {c n : Nat} (h : Around1 H p c H1) (h0 : Purse H p n) (ha : H1 a = none) : H a = none := by
  obtain ⟨o, e⟩ := h0.some
  exact h.1.free e h.2.some ha
theorem Purse.ne {H : Hp} {p a : Addr} {n : Nat} (h : Purse H p n) (ha : H a = none) : a ≠ p := fun e => by
  obtain ⟨o, q⟩ := h.some
  rw [e, q] at ha
  cases ha
/-- small letters alone -/
def ls (z : Str) : Prop := ∀ c ∈ z.cps.toList, 97 ≤ c ∧ c ≤ 122
/-- a name: one to eight small letters -/
def okName (z : Str) : Prop := 1 ≤ z.length ∧ z.length ≤ 8 ∧ ls z
def spWords : Sp := fun vs H Q _ => ∃ (p : Addr) (m n : Nat), vs = [.ref p, .int (m : Int)] ∧ 1 ≤ m ∧ m ≤ 26 ∧ Purse H p n ∧ n + 400 < 10 ^ 60 ∧
  ∀ (r : Addr) (zs : List Str) H', Around1 H p (n + 400) H' → H r = none → H' r = some (.lst (zs.map V.str)) → zs.length = m → zs.Nodup → (∀ z ∈ zs, okName z) → Q (.ref r) H'
abbrev LT : Str := Str.ofString "abcdefghijklmnopqrstuvwxyz"
def menuT : List Str := ["soon", "late", "absent", "nothing", "name", "any", "row", "record", "a", "b", "f", "read", "call", "known"].map Str.ofString
theorem menu_small : ∀ z ∈ menuT, z.length ≤ 8 := by decide +kernel
theorem at_ofN {α : Type} {xs : List α} {z : Int} {j : Nat} {v : α} (e : z = (j : Int)) (h : xs[j]? = some v) : atI xs z = some v := by
  rw [e]
  exact atI_nat h
theorem sum_ones : ∀ {ys : List Str}, (∀ y ∈ ys, y.length = 1) → (ys.map (·.length)).sum = ys.length
  | [], _ => rfl
  | y :: ys, h => by
    rw [List.map_cons, List.sum_cons, sum_ones fun z hz => h z (List.mem_cons_of_mem _ hz), h y List.mem_cons_self, List.length_cons]
    exact Nat.add_comm _ _
theorem join_room {ys : List Str} (h : ∀ y ∈ ys, y.length = 1) (hl : ys.length ≤ 1000) : (ys.map (·.length)).sum + ys.length * (Str.ofString "").length ≤ 16777216 := by
  rw [sum_ones h, show (Str.ofString "").length = 0 by decide]
  omega
theorem lt_all : ∀ r, r < 26 → LT.cps.toList[r]? = some (97 + r) := by decide +kernel
theorem lt_at {d : Int} (h0 : 0 ≤ d) (h1 : d < 26) : atI LT.cps.toList d = some (97 + d.toNat) := at_ofN (show d = ((d.toNat : Nat) : Int) by omega) (lt_all d.toNat (by omega))
theorem ls_one {r : Nat} (h : r < 26) : ls ⟨#[97 + r]⟩ := fun c hc => by
  have e : c = 97 + r := by simpa using hc
  omega
theorem ls_app {x y : Str} (hx : ls x) (hy : ls y) : ls (x ++ y) := fun c hc => by
  have e : (x ++ y).cps.toList = x.cps.toList ++ y.cps.toList := Array.toList_append
  rw [e] at hc
  rcases List.mem_append.mp hc with h | h
  · exact hx c h
  · exact hy c h
theorem ls_cut {z : Str} (h : ls z) (lo hi : Option Int) : ls (cutS z lo hi) := fun c hc => by
  have hc' : c ∈ ((z.cps.toList.drop (HT.sIx z.length 0 lo)).take (HT.sIx z.length z.length hi - HT.sIx z.length 0 lo)).toArray.toList := hc
  rw [List.toList_toArray] at hc'
  exact h c (List.mem_of_mem_drop (List.mem_of_mem_take hc'))
theorem ls_join : ∀ {ys : List Str}, (∀ y ∈ ys, ls y) → ls (Str.join (Str.ofString "") ys)
  | [], _ => fun c hc => by
    have e : (Str.join (Str.ofString "") []).cps.toList = [] := rfl
    rw [e] at hc
    cases hc
  | [x], h => h x List.mem_cons_self
  | x :: y :: r, h => by
    have e0 : ls (Str.ofString "") := fun c hc => by
      have e : (Str.ofString "").cps.toList = [] := by decide +kernel
      rw [e] at hc
      cases hc
    show ls (x ++ Str.ofString "" ++ Str.join (Str.ofString "") (y :: r))
    exact ls_app (ls_app (h x List.mem_cons_self) e0) (ls_join fun z hz => h z (List.mem_cons_of_mem _ hz))
theorem ls_joinT {ys : List Str} (h : ∀ y ∈ ys, ls y) : ls (Txt.join (Str.ofString "") ys) := by
  have e : Txt.join (Str.ofString "") ys = Str.join (Str.ofString "") ys := StrLaws.glued_eq_join _ _
  rw [e]
  exact ls_join h
theorem cut_pre {z : Str} {k : Int} {n : Nat} (e : k = (n : Int)) : (cutS z none (some k)).length = min n z.length ∧ (cutS z none (some k)).cps.toList = z.cps.toList.take n := by
  subst e
  have e1 : (cutS z none (some (n : Int))).cps.toList = z.cps.toList.take n := by
    show ((z.cps.toList.drop (HT.sIx z.length 0 none)).take (HT.sIx z.length z.length (some (n : Int)) - HT.sIx z.length 0 none)).toArray.toList = _
    rw [HT.sIx_none, HT.sIx_nat, List.drop_zero, Nat.sub_zero, List.toList_toArray]
    rcases Nat.le_total n z.length with h | h
    · rw [Nat.min_eq_left h]
    · rw [Nat.min_eq_right h]
      have hz : z.length = z.cps.toList.length := rfl
      rw [List.take_of_length_le (by rw [hz]; exact Nat.le_refl _), List.take_of_length_le (by rw [← hz]; exact h)]
  refine ⟨?_, e1⟩
  show (cutS z none (some (n : Int))).cps.toList.length = _
  rw [e1, List.length_take]
  rfl
theorem cut_post {z : Str} {k : Int} {n : Nat} (e : k = (n : Int)) (hn : n ≤ z.length) : (cutS z (some k) none).cps.toList = z.cps.toList.drop n := by
  subst e
  show ((z.cps.toList.drop (HT.sIx z.length 0 (some (n : Int)))).take (HT.sIx z.length z.length none - HT.sIx z.length 0 (some (n : Int)))).toArray.toList = _
  rw [HT.sIx_none, HT.sIx_nat, List.toList_toArray, Nat.min_eq_left hn]
  refine List.take_of_length_le ?_
  rw [List.length_drop]
  exact Nat.le_refl _
theorem nodup_map {f : Nat → Str} {m : Nat} (h : ∀ i j, i < m → j < m → f i = f j → i = j) : ((List.range m).map f).Nodup := by
  rw [List.nodup_iff_pairwise_ne, List.pairwise_map]
  refine List.Pairwise.imp_of_mem (fun {a b} ha hb hab e => ?_) (List.nodup_iff_pairwise_ne.mp (List.nodup_range (n := m)))
  exact hab (h a b (List.mem_range.mp ha) (List.mem_range.mp hb) e)
theorem more_map {H : Hp} {D : Addr} {f : Nat → Str} {i : Nat} {y : V} (e : y = .str (f i)) : (upd H D (.lst (((List.range i).map f).map V.str ++ [y]))) D = some (.lst (((List.range (i + 1)).map f).map V.str)) := by
  rw [upd_same, e, List.range_succ, List.map_append, List.map_append]
  rfl
theorem room_map {f : Nat → Str} {i : Nat} (h : i ≤ 1000) : (((List.range i).map f).map V.str).length < sizeLine := by
  rw [List.length_map, List.length_map, List.length_range]
  exact Nat.lt_of_le_of_lt h (by decide)
theorem menu_ok : ∀ z ∈ menuT, 1 ≤ z.length ∧ z.length ≤ 8 ∧ z.cps.toList.all (fun c => decide (97 ≤ c ∧ c ≤ 122)) = true := by decide +kernel
theorem menu_name {z : Str} (h : z ∈ menuT) : okName z := by
  obtain ⟨h1, h2, h3⟩ := menu_ok z h
  exact ⟨h1, h2, fun c hc => of_decide_eq_true (List.all_eq_true.mp h3 c hc)⟩
theorem menu_inj : ∀ i, i < 14 → ∀ j, j < 14 → menuT.getD i Str.empty = menuT.getD j Str.empty → i = j := by decide +kernel
theorem menu_at {d : Int} (h0 : 0 ≤ d) (h1 : d < 14) : atI (menuT.map V.str) d = some (.str (menuT.getD d.toNat Str.empty)) ∧ menuT.getD d.toNat Str.empty ∈ menuT := by
  have hl : menuT.length = 14 := rfl
  have hd : d.toNat < menuT.length := by omega
  have e : menuT.getD d.toNat Str.empty = menuT[d.toNat] := by
    rw [List.getD_eq_getElem?_getD, List.getElem?_eq_getElem hd]
    rfl
  refine ⟨at_ofN (show d = ((d.toNat : Nat) : Int) by omega) ?_, by rw [e]; exact List.getElem_mem hd⟩
  rw [List.getElem?_map, List.getElem?_eq_getElem hd, e]
  rfl
theorem same_put {H H' : Hp} {a : Addr} {o : HO} (s : Same H H') (ha : H a = none) : Same H (upd H' a o) := fun b u e => by
  rw [upd_ne (ne_of_none e ha)]
  exact s b u e
/-- one more text behind a list of texts -/
theorem more_str {H : Hp} {D : Addr} {ys : List Str} {z : Str} : (upd H D (.lst (ys.map V.str ++ [.str z]))) D = some (.lst ((ys ++ [z]).map V.str)) := by
  rw [upd_same, List.map_append]
  rfl
theorem all_more {ys : List Str} {z : Str} {n : Nat} (h : ∀ y ∈ ys, y.length ≤ n) (hz : z.length ≤ n) : ∀ y ∈ ys ++ [z], y.length ≤ n := fun y hy => by
  rcases List.mem_append.mp hy with hy | hy
  · exact h y hy
  · rw [List.mem_singleton.mp hy]
    exact hz
theorem len_more {ys : List Str} {z : Str} {i : Nat} (h : ys.length = i) : (ys ++ [z]).length = i + 1 := by
  rw [List.length_append, h]
  rfl
theorem room_more {ys : List Str} {n : Nat} (h : ys.length ≤ n) (hn : n ≤ 1000) : (ys.map V.str).length < sizeLine := by
  rw [List.length_map]
  exact Nat.lt_of_lt_of_le (show ys.length < 1001 by omega) (by decide)
theorem only_one {ys : List Str} (h : ys.length = 1) : ∃ z, ys = [z] := by
  match ys, h with
  | [z], _ => exact ⟨z, rfl⟩
theorem two_at {x y : Str} {d : Int} {n : Nat} (h0 : 0 ≤ d) (h1 : d < 2) (hx : x.length ≤ n) (hy : y.length ≤ n) : ∃ z : Str, atI [V.str x, V.str y] d = some (.str z) ∧ z.length ≤ n := by
  have e : d = ((0 : Nat) : Int) ∨ d = ((1 : Nat) : Int) := by omega
  rcases e with e | e
  · exact ⟨x, at_ofN e rfl, hx⟩
  · exact ⟨y, at_ofN e rfl, hy⟩
theorem cut_one (ys : List Str) : cutV (ys.map V.str) none (some 1) = (ys.take 1).map V.str := by
  have e : cutV (ys.map V.str) none (some ((1 : Nat) : Int)) = (ys.take 1).map V.str := by
    unfold cutV
    rw [HT.sIx_none, HT.sIx_nat, List.drop_zero, Nat.sub_zero, List.map_take]
    cases ys with
    | nil => rfl
    | cons y r => rfl
  exact e
theorem cut_many (ys : List Str) (m : Nat) : cutV (ys.map V.str) none (some (m : Int)) = (ys.take m).map V.str := by
  unfold cutV
  rw [HT.sIx_none, HT.sIx_nat, List.drop_zero, Nat.sub_zero, List.map_take]
  rcases Nat.le_total m (ys.map V.str).length with h | h
  · rw [Nat.min_eq_left h]
  · rw [Nat.min_eq_right h, List.take_of_length_le (Nat.le_refl _), List.take_of_length_le h]
theorem small100 {n : Nat} (h : n ≤ 1000) : n ≤ sizeLine := Nat.le_trans h (by decide)
theorem lst_ne {xs ys : List V} (h : xs ≠ ys) : HO.lst xs ≠ HO.lst ys := fun e => h (HO.lst.inj e)
/-- [letters[_law_coin(purse, 26)] for turn in range(m)], the loop alone -/
theorem letters_go {σ : L2.St} {H0 H : Hp} {p D : Addr} {c m : Nat} {Qd : Hp → Prop} (h0 : ∀ v, ((wipe σ [14]).set 14 (some v))[0]? = some (some (.ref p))) (h2 : ∀ v, ((wipe σ [14]).set 14 (some v))[2]? = some (some (.str LT)))
    (hw : ∀ v, wipe ((wipe σ [14]).set 14 (some v)) [14] = wipe σ [14]) (hA : Around1 H0 p c H) (hc : c + m < 10 ^ 60) (hm : m ≤ 1000) (hD : H D = none)
    (hd : ∀ (ys : List Str) H', Around1 H p (c + m) H' → H' D = some (.lst (ys.map V.str)) → ys.length = m → (∀ y ∈ ys, y.length = 1) → (∀ y ∈ ys, ls y) → Qd H') :
    ∃ W : Nat → Nat → Hp → Prop, (∃ m, W 0 m (upd H D (.lst []))) ∧ ∀ i k H1, W i k H1 →
      ((Itr 0 m).stop i H1 ∧ Qd H1) ∨ ((Itr 0 m).go i H1 ∧ ∃ Nx : Hp → Prop, (∀ H', Nx H' → ∃ m', m' < k ∧ W (i + 1) m' H') ∧ ∀ x H', (Itr 0 m).yld i H1 x H' → gName 14 x (wipe σ [14]) H' fun σ2 H2 => wipe σ2 [14] = wipe σ [14] ∧ tYes σ2 H2 fun b H3 =>
        if b = true then tOp rIxS (tVar 2) (tCall spCoin [] E0 (tCons (tVar 0) (tCons (tC (.int 26)) tNil))) σ2 H3 fun y H4 => ∃ acc, H4 D = some (.lst acc) ∧ acc.length < sizeLine ∧ Nx (upd H4 D (.lst (acc ++ [y]))) else Nx H3) := by
  have hDp : D ≠ p := hA.2.ne hD
  refine lc_range (lo := 0) (n := m) (fun i H' => ∃ ys : List Str, Around1 H p (c + i) H' ∧ H' D = some (.lst (ys.map V.str)) ∧ ys.length = i ∧ (∀ y ∈ ys, y.length = 1) ∧ ∀ y ∈ ys, ls y)
    ⟨[], ⟨.of (same_new hD _), hA.2.same (same_new hD _)⟩, upd_same, rfl, (fun _ h => nomatch h), fun _ h => nomatch h⟩ ?_ ?_
  · rintro i H1 hi ⟨ys, hA1, hD1, hl, h1, hs1⟩
    refine ⟨hw _, ?_⟩
    show tOp rIxS (tVar 2) (tCall spCoin [] E0 (tCons (tVar 0) (tCons (tC (.int 26)) tNil))) _ H1 _
    refine ⟨_, h2 _, _, h0 _, p, 26, c + i, rfl, hA1.2, by omega, by decide, by decide, fun d H2 d0 d1 hb hp2 => ?_⟩
    refine ⟨LT, d, _, rfl, rfl, by decide +kernel, lt_at d0 d1, ?_⟩
    have hD2 : H2 D = some (.lst (ys.map V.str)) := hb _ _ hDp hD1
    refine ⟨_, hD2, by rw [List.length_map]; exact Nat.lt_of_lt_of_le (show ys.length < 1000 by omega) (by decide), ys ++ [⟨#[97 + d.toNat]⟩], ?_, ?_, ?_, ?_, ?_⟩
    · exact (hA1.draw hb hp2).put hD hDp
    · rw [upd_same, List.map_append]
      rfl
    · rw [List.length_append, hl]
      rfl
    · intro y hy
      rcases List.mem_append.mp hy with hy | hy
      · exact h1 y hy
      · rw [List.mem_singleton.mp hy]
        rfl
    · intro y hy
      rcases List.mem_append.mp hy with hy | hy
      · exact hs1 y hy
      · rw [List.mem_singleton.mp hy]
        exact ls_one (by omega)
  · rintro H1 ⟨ys, hA1, hD1, hl, h1, hs1⟩
    exact hd ys H1 hA1 hD1 hl h1 hs1
end K02
set_option Elab.async false
set_option linter.all false
set_option maxRecDepth 100000
set_option maxHeartbeats 4000000
namespace K02
open PySem L2 PyProof.Rows
/-! ### data, apart from where it lies -/
inductive D where
  | leaf (v : V)
  | lst (ds : List D)
  | tup (ds : List D)
def Leaf (v : V) : Prop := v = .non ∨ (∃ b, v = .bl b) ∨ (∃ i, v = .int i) ∨ ∃ z, v = .str z
/-- depth and width -/
def Fits (c : Nat) : Nat → D → Prop
  | 0, d => ∃ v, d = .leaf v
  | _ + 1, .leaf _ => True
  | n + 1, .lst ds => ds.length ≤ c ∧ ∀ d ∈ ds, Fits c n d
  | n + 1, .tup ds => ds.length ≤ c ∧ ∀ d ∈ ds, Fits c n d
theorem Fits.leaf {c n : Nat} {v : V} : Fits c n (.leaf v) := by
  cases n with
  | zero => exact ⟨v, rfl⟩
  | succ n => trivial
mutual
/-- v is d in the heap; the lists of it stand at F, each in one place -/
def Rep (H : Hp) : D → V → List Addr → Prop
  | .leaf w, u, F => u = w ∧ Leaf w ∧ F = []
  | .lst ds, u, F => ∃ a xs G, u = .ref a ∧ H a = some (.lst xs) ∧ Reps H ds xs G ∧ a ∉ G ∧ F = a :: G
  | .tup ds, u, F => ∃ a xs, u = .ref a ∧ H a = some (.tup xs) ∧ Reps H ds xs F
def Reps (H : Hp) : List D → List V → List Addr → Prop
  | [], xs, F => xs = [] ∧ F = []
  | d :: ds, xs, F => ∃ x ys F1 F2, xs = x :: ys ∧ Rep H d x F1 ∧ Reps H ds ys F2 ∧ (∀ a ∈ F1, a ∉ F2) ∧ F = F1 ++ F2
end
/-- lists of S may change; all else that was tracked stands -/
def Kp (S : Addr → Prop) (H H' : Hp) : Prop := ∀ b o, H b = some o → (¬ S b ∨ ∀ xs, o ≠ HO.lst xs) → H' b = some o
section
variable {S T : Addr → Prop} {H H1 H2 : Hp}
theorem Kp.same (s : Same H H1) : Kp S H H1 := fun b o e _ => s b o e
theorem Kp.trans (h : Kp S H H1) (k : Kp S H1 H2) : Kp S H H2 := fun b o e n => k b o (h b o e n) n
theorem Kp.wide (h : Kp S H H1) (hs : ∀ a, S a → T a) : Kp T H H1 := fun b o e n => h b o e (n.imp (fun z y => z (hs b y)) id)
theorem Kp.toSame (h : Kp S H H1) (hs : ∀ a, S a → H a = none) : Same H H1 := fun b o e => h b o e (.inl fun z => by
  rw [hs b z] at e
  cases e)
theorem Kp.set {a : Addr} {xs ys : List V} (ha : H a = some (.lst xs)) (hs : S a) : Kp S H (upd H a (.lst ys)) := fun b o e n => by
  by_cases hb : b = a
  · subst hb
    rw [ha] at e
    rcases n with n | n
    · exact absurd hs n
    · exact absurd (Option.some.inj e).symm (n xs)
  · rw [upd_ne hb]
    exact e
theorem Kp.new {a : Addr} {o : HO} (ha : H a = none) : Kp S H (upd H a o) := .same (same_new ha o)
/-- a new object may change behind -/
theorem Kp.put {a : Addr} {o : HO} (h : Kp S H H1) (ha : H a = none) : Kp S H (upd H1 a o) := fun b u e n => by
  rw [upd_ne (ne_of_none e ha)]
  exact h b u e n
theorem Kp.there (h : Kp S H H1) {b : Addr} {o : HO} (e : H b = some o) (n : ∀ xs, o ≠ HO.lst xs) : H1 b = some o := h b o e (.inr n)
end
mutual
theorem Rep.kp {S : Addr → Prop} {H H1 : Hp} (k : Kp S H H1) : ∀ {d : D} {v : V} {F : List Addr}, Rep H d v F → (∀ a ∈ F, ¬ S a) → Rep H1 d v F
  | .leaf w, u, F, h, _ => h
  | .lst ds, u, F, h, n => by
    obtain ⟨a, xs, G, e, ha, hr, hn, rfl⟩ := h
    exact ⟨a, xs, G, e, k _ _ ha (.inl (n a List.mem_cons_self)), Reps.kp k hr fun b hb => n b (List.mem_cons_of_mem _ hb), hn, rfl⟩
  | .tup ds, u, F, h, n => by
    obtain ⟨a, xs, e, ha, hr⟩ := h
    exact ⟨a, xs, e, k _ _ ha (.inr fun _ z => nomatch z), Reps.kp k hr n⟩
theorem Reps.kp {S : Addr → Prop} {H H1 : Hp} (k : Kp S H H1) : ∀ {ds : List D} {xs : List V} {F : List Addr}, Reps H ds xs F → (∀ a ∈ F, ¬ S a) → Reps H1 ds xs F
  | [], xs, F, h, _ => h
  | d :: ds, xs, F, h, n => by
    obtain ⟨x, ys, F1, F2, e, h1, h2, hd, rfl⟩ := h
    exact ⟨x, ys, F1, F2, e, Rep.kp k h1 fun a ha => n a (List.mem_append_left _ ha), Reps.kp k h2 fun a ha => n a (List.mem_append_right _ ha), hd, rfl⟩
end
theorem Rep.same {H H1 : Hp} {d : D} {v : V} {F : List Addr} (h : Rep H d v F) (s : Same H H1) : Rep H1 d v F := h.kp (S := fun _ => False) (.same s) fun _ _ z => z
theorem Reps.same {H H1 : Hp} {ds : List D} {xs : List V} {F : List Addr} (h : Reps H ds xs F) (s : Same H H1) : Reps H1 ds xs F := Reps.kp (S := fun _ => False) (.same s) h fun _ _ z => z
mutual
/-- where its lists stand something stands -/
theorem Rep.at_ {H : Hp} : ∀ {d : D} {v : V} {F : List Addr}, Rep H d v F → ∀ a ∈ F, ∃ xs, H a = some (.lst xs)
  | .leaf w, u, F, h, a, ha => by
    obtain ⟨_, _, rfl⟩ := h
    cases ha
  | .lst ds, u, F, h, a, ha => by
    obtain ⟨b, xs, G, e, hb, hr, hn, rfl⟩ := h
    rcases List.mem_cons.mp ha with z | z
    · exact ⟨xs, z ▸ hb⟩
    · exact Reps.at_ hr a z
  | .tup ds, u, F, h, a, ha => by
    obtain ⟨b, xs, e, hb, hr⟩ := h
    exact Reps.at_ hr a ha
theorem Reps.at_ {H : Hp} : ∀ {ds : List D} {xs : List V} {F : List Addr}, Reps H ds xs F → ∀ a ∈ F, ∃ xs, H a = some (.lst xs)
  | [], xs, F, h, a, ha => by
    obtain ⟨_, rfl⟩ := h
    cases ha
  | d :: ds, xs, F, h, a, ha => by
    obtain ⟨x, ys, F1, F2, e, h1, h2, hd, rfl⟩ := h
    rcases List.mem_append.mp ha with z | z
    · exact Rep.at_ h1 a z
    · exact Reps.at_ h2 a z
end
theorem Reps.len {H : Hp} : ∀ {ds : List D} {xs : List V} {F : List Addr}, Reps H ds xs F → xs.length = ds.length
  | [], xs, F, h => by
    obtain ⟨rfl, _⟩ := h
    rfl
  | d :: ds, xs, F, h => by
    obtain ⟨x, ys, F1, F2, rfl, h1, h2, hd, rfl⟩ := h
    rw [List.length_cons, List.length_cons, h2.len]
/-- the item at a place, and what a change of it makes of the whole -/
theorem Reps.item {H : Hp} : ∀ {ds : List D} {xs : List V} {F : List Addr} {i : Nat} {x : V}, Reps H ds xs F → xs[i]? = some x →
    ∃ d G, ds[i]? = some d ∧ Rep H d x G ∧ (∀ a ∈ G, a ∈ F) ∧ ∀ (t : Addr) (H1 : Hp) (d' : D), t ∉ F → Kp (fun a => a ∈ G ∨ a = t) H H1 → Rep H1 d' x G → Reps H1 (ds.set i d') xs F
  | [], xs, F, i, x, h, e => by
    obtain ⟨rfl, _⟩ := h
    simp at e
  | d :: ds, xs, F, 0, x, h, e => by
    obtain ⟨y, ys, F1, F2, rfl, h1, h2, hd, rfl⟩ := h
    have ey : y = x := Option.some.inj e
    subst ey
    refine ⟨d, F1, rfl, h1, fun a ha => List.mem_append_left _ ha, fun t H1 d' ht k hr => ⟨y, ys, F1, F2, rfl, hr, h2.kp k (fun a ha z => ?_), hd, rfl⟩⟩
    rcases z with z | z
    · exact hd a z ha
    · exact ht (z ▸ List.mem_append_right _ ha)
  | d :: ds, xs, F, i + 1, x, h, e => by
    obtain ⟨y, ys, F1, F2, rfl, h1, h2, hd, rfl⟩ := h
    have e' : ys[i]? = some x := e
    obtain ⟨d0, G, e1, hr, hG, hset⟩ := Reps.item h2 e'
    refine ⟨d0, G, e1, hr, fun a ha => List.mem_append_right _ (hG a ha), fun t H1 d' ht k hr' => ⟨y, ys, F1, F2, rfl, h1.kp k (fun a ha z => ?_), hset t H1 d' (fun z => ht (List.mem_append_right _ z)) k hr', hd, rfl⟩⟩
    rcases z with z | z
    · exact hd a ha (hG a z)
    · exact ht (z ▸ List.mem_append_left _ ha)
/-- one more behind -/
theorem Reps.snoc {H : Hp} : ∀ {ds : List D} {xs : List V} {F G : List Addr} {d : D} {x : V}, Reps H ds xs F → Rep H d x G → (∀ a ∈ F, a ∉ G) → Reps H (ds ++ [d]) (xs ++ [x]) (F ++ G)
  | [], xs, F, G, d, x, h, hr, hn => by
    obtain ⟨rfl, rfl⟩ := h
    exact ⟨x, [], G, [], rfl, hr, ⟨rfl, rfl⟩, (fun _ _ z => nomatch z), by rw [List.append_nil]; rfl⟩
  | d0 :: ds, xs, F, G, d, x, h, hr, hn => by
    obtain ⟨y, ys, F1, F2, rfl, h1, h2, hd, rfl⟩ := h
    refine ⟨y, ys ++ [x], F1, F2 ++ G, rfl, h1, Reps.snoc h2 hr (fun a ha => hn a (List.mem_append_right _ ha)), fun a ha z => ?_, by rw [List.append_assoc]⟩
    rcases List.mem_append.mp z with z | z
    · exact hd a ha z
    · exact hn a (List.mem_append_left _ ha) z
/-! ### the marks -/
mutual
def mark : D → Int → D × Int
  | .leaf v, k => (.leaf v, k + 1)
  | .lst ds, k => (.lst ((marks ds k).1 ++ [.leaf (.int ((marks ds k).2 + 1))]), (marks ds k).2 + 1)
  | .tup ds, k => (.tup (marks ds k).1, (marks ds k).2 + 1)
def marks : List D → Int → List D × Int
  | [], k => ([], k)
  | d :: ds, k => ((mark d k).1 :: (marks ds (mark d k).2).1, (marks ds (mark d k).2).2)
end
theorem marks_len : ∀ (ds : List D) (k : Int), (marks ds k).1.length = ds.length
  | [], _ => rfl
  | d :: ds, k => by
    show (marks ds (mark d k).2).1.length + 1 = ds.length + 1
    rw [marks_len ds]
theorem marks_snoc : ∀ (ds : List D) (d : D) (k : Int), marks (ds ++ [d]) k = ((marks ds k).1 ++ [(mark d (marks ds k).2).1], (mark d (marks ds k).2).2)
  | [], d, k => rfl
  | c :: ds, d, k => by
    have h := marks_snoc ds d (mark c k).2
    show ((mark c k).1 :: (marks (ds ++ [d]) (mark c k).2).1, (marks (ds ++ [d]) (mark c k).2).2) = _
    rw [h]
    rfl
/-- behind i marks: the first i marked, the others as they were -/
theorem marks_step {ds : List D} {i : Nat} {d : D} (h : ds[i]? = some d) (k : Int) :
    ((marks (ds.take i) k).1 ++ ds.drop i)[i]? = some d ∧ ((marks (ds.take i) k).1 ++ ds.drop i).set i (mark d (marks (ds.take i) k).2).1 = (marks (ds.take (i + 1)) k).1 ++ ds.drop (i + 1) ∧ (marks (ds.take (i + 1)) k).2 = (mark d (marks (ds.take i) k).2).2 := by
  have hi := (List.getElem?_eq_some_iff.mp h).1
  have hl : (marks (ds.take i) k).1.length = i := by
    rw [marks_len, List.length_take]
    omega
  have e1 : ds.take (i + 1) = ds.take i ++ [d] := by
    rw [List.take_add_one, h]
    rfl
  have e2 : ds.drop i = d :: ds.drop (i + 1) := by
    have z := List.drop_eq_getElem_cons hi
    have y := (List.getElem?_eq_some_iff.mp h).2
    rw [y] at z
    exact z
  rw [e1, marks_snoc, e2]
  refine ⟨?_, ?_, rfl⟩
  · rw [List.getElem?_append_right (by omega), hl, Nat.sub_self]
    rfl
  · rw [List.set_append_right _ _ (by omega), hl, Nat.sub_self, List.append_assoc]
    rfl
/-! ### what isinstance tells of them -/
theorem leaf_ty {K : PySem.W.Frag} {H : Hp} {v : V} (h : Leaf v) : ∃ s : String, TyX K H v (.type s) ∧ (s = "NoneType" ∧ v = .non ∨ s = "bool" ∧ (∃ b, v = .bl b) ∨ s = "int" ∧ (∃ i, v = .int i) ∨ s = "str" ∧ ∃ z, v = .str z) := by
  rcases h with rfl | ⟨b, rfl⟩ | ⟨i, rfl⟩ | ⟨z, rfl⟩
  · exact ⟨_, .base .non, .inl ⟨rfl, rfl⟩⟩
  · exact ⟨_, .base (.bl b), .inr (.inl ⟨rfl, b, rfl⟩)⟩
  · exact ⟨_, .base (.int i), .inr (.inr (.inl ⟨rfl, i, rfl⟩))⟩
  · exact ⟨_, .base (.str z), .inr (.inr (.inr ⟨rfl, z, rfl⟩))⟩
/-- the kind of a datum: its type's name, whether it is a list, a tuple -/
def D.isL : D → Bool
  | .lst _ => true
  | _ => false
def D.isT : D → Bool
  | .tup _ => true
  | _ => false
def D.its : D → List D
  | .lst ds => ds
  | .tup ds => ds
  | .leaf _ => []
theorem Rep.ty {K : PySem.W.Frag} {H : Hp} {d : D} {v : V} {F : List Addr} (h : Rep H d v F) : ∃ s : String, TyX K H v (.type s) ∧ kitB s "list" = some d.isL ∧ kitB s "tuple" = some d.isT ∧ kitB s "dict" = some false := by
  cases d with
  | leaf w =>
    obtain ⟨rfl, hl, _⟩ := h
    obtain ⟨s, ht, hs⟩ := leaf_ty (K := K) (H := H) hl
    refine ⟨s, ht, ?_⟩
    rcases hs with ⟨rfl, _⟩ | ⟨rfl, _⟩ | ⟨rfl, _⟩ | ⟨rfl, _⟩ <;> exact ⟨(by show kitB _ _ = some false; decide +kernel), (by show kitB _ _ = some false; decide +kernel), by decide +kernel⟩
  | lst ds =>
    obtain ⟨a, xs, G, rfl, ha, _⟩ := h
    exact ⟨"list", .base (.lst ha), (by show kitB _ _ = some true; decide +kernel), (by show kitB _ _ = some false; decide +kernel), by decide +kernel⟩
  | tup ds =>
    obtain ⟨a, xs, rfl, ha, _⟩ := h
    exact ⟨"tuple", .base (.tup ha), (by show kitB _ _ = some false; decide +kernel), (by show kitB _ _ = some true; decide +kernel), by decide +kernel⟩
theorem kit_two {K : PySem.W.Frag} {s : String} {x y : Bool} (h1 : kitB s "list" = some x) (h2 : kitB s "tuple" = some y) : PySem.W.kitAny K (.type s) [.type "list", .type "tuple"] = some (x || y) := by
  refine kitAny_cons (kit_ty h1) (fun e => ?_) (fun e => by rw [e]; rfl)
  refine kitAny_cons (kit_ty h2) (fun e2 => ?_) (fun e2 => by rw [e2, Bool.or_true])
  rw [e, e2]
  exact kitAny_nil
theorem ifT {c : Bool} {A B : Prop} (hc : c = true) (h : A) : if c = true then A else B := by
  rw [hc]
  exact iteT h
theorem ifF {c : Bool} {A B : Prop} (hc : c = false) (h : B) : if c = true then A else B := by
  rw [hc]
  exact iteF h
theorem one_at {x : V} : atI [x] 0 = some x := atI_nat (j := 0) rfl
end K02
set_option Elab.async false
set_option linter.all false
set_option maxRecDepth 100000
set_option maxHeartbeats 4000000
namespace K02
open PySem L2 PyProof.Rows
mutual
/-- v is d in the heap, wherever its lists stand -/
def RW (H : Hp) : D → V → Prop
  | .leaf w, u => u = w ∧ Leaf w
  | .lst ds, u => ∃ a xs, u = .ref a ∧ H a = some (.lst xs) ∧ RWs H ds xs
  | .tup ds, u => ∃ a xs, u = .ref a ∧ H a = some (.tup xs) ∧ RWs H ds xs
def RWs (H : Hp) : List D → List V → Prop
  | [], xs => xs = []
  | d :: ds, xs => ∃ x ys, xs = x :: ys ∧ RW H d x ∧ RWs H ds ys
end
mutual
theorem RW.same {H H1 : Hp} (s : Same H H1) : ∀ {d : D} {v : V}, RW H d v → RW H1 d v
  | .leaf w, u, h => h
  | .lst ds, u, h => by
    obtain ⟨a, xs, e, ha, hr⟩ := h
    exact ⟨a, xs, e, s _ _ ha, RWs.same s hr⟩
  | .tup ds, u, h => by
    obtain ⟨a, xs, e, ha, hr⟩ := h
    exact ⟨a, xs, e, s _ _ ha, RWs.same s hr⟩
theorem RWs.same {H H1 : Hp} (s : Same H H1) : ∀ {ds : List D} {xs : List V}, RWs H ds xs → RWs H1 ds xs
  | [], xs, h => h
  | d :: ds, xs, h => by
    obtain ⟨x, ys, e, h1, h2⟩ := h
    exact ⟨x, ys, e, RW.same s h1, RWs.same s h2⟩
end
mutual
theorem Rep.rw {H : Hp} : ∀ {d : D} {v : V} {F : List Addr}, Rep H d v F → RW H d v
  | .leaf w, u, F, h => ⟨h.1, h.2.1⟩
  | .lst ds, u, F, h => by
    obtain ⟨a, xs, G, e, ha, hr, _⟩ := h
    exact ⟨a, xs, e, ha, Reps.rw hr⟩
  | .tup ds, u, F, h => by
    obtain ⟨a, xs, e, ha, hr⟩ := h
    exact ⟨a, xs, e, ha, Reps.rw hr⟩
theorem Reps.rw {H : Hp} : ∀ {ds : List D} {xs : List V} {F : List Addr}, Reps H ds xs F → RWs H ds xs
  | [], xs, F, h => h.1
  | d :: ds, xs, F, h => by
    obtain ⟨x, ys, F1, F2, e, h1, h2, _⟩ := h
    exact ⟨x, ys, e, Rep.rw h1, Reps.rw h2⟩
end
theorem RWs.len {H : Hp} : ∀ {ds : List D} {xs : List V}, RWs H ds xs → xs.length = ds.length
  | [], xs, h => by
    have e : xs = [] := h
    rw [e]
    rfl
  | d :: ds, xs, h => by
    obtain ⟨x, ys, rfl, h1, h2⟩ := h
    rw [List.length_cons, List.length_cons, h2.len]
theorem RWs.item {H : Hp} : ∀ {ds : List D} {xs : List V} {i : Nat} {x : V}, RWs H ds xs → xs[i]? = some x → ∃ d, ds[i]? = some d ∧ RW H d x
  | [], xs, i, x, h, e => by
    have z : xs = [] := h
    rw [z] at e
    simp at e
  | d :: ds, xs, 0, x, h, e => by
    obtain ⟨y, ys, rfl, h1, h2⟩ := h
    have ey : y = x := Option.some.inj e
    exact ⟨d, rfl, ey ▸ h1⟩
  | d :: ds, xs, i + 1, x, h, e => by
    obtain ⟨y, ys, rfl, h1, h2⟩ := h
    exact RWs.item h2 (i := i) e
theorem RW.ty {K : PySem.W.Frag} {H : Hp} {d : D} {v : V} (h : RW H d v) : ∃ s : String, TyX K H v (.type s) ∧ kitB s "list" = some d.isL ∧ kitB s "tuple" = some d.isT ∧ kitB s "dict" = some false := by
  cases d with
  | leaf w =>
    obtain ⟨rfl, hl⟩ := h
    obtain ⟨s, ht, hs⟩ := leaf_ty (K := K) (H := H) hl
    refine ⟨s, ht, ?_⟩
    rcases hs with ⟨rfl, _⟩ | ⟨rfl, _⟩ | ⟨rfl, _⟩ | ⟨rfl, _⟩ <;> exact ⟨(by show kitB _ _ = some false; decide +kernel), (by show kitB _ _ = some false; decide +kernel), by decide +kernel⟩
  | lst ds =>
    obtain ⟨a, xs, rfl, ha, _⟩ := h
    exact ⟨"list", .base (.lst ha), (by show kitB _ _ = some true; decide +kernel), (by show kitB _ _ = some false; decide +kernel), by decide +kernel⟩
  | tup ds =>
    obtain ⟨a, xs, rfl, ha, _⟩ := h
    exact ⟨"tuple", .base (.tup ha), (by show kitB _ _ = some false; decide +kernel), (by show kitB _ _ = some true; decide +kernel), by decide +kernel⟩
/-- a copy: the same datum, all its lists new -/
def spCopy (n : Nat) : Sp := fun vs H Q _ => ∃ (v : V) (d : D) (m : Nat), vs = [v] ∧ m + 1 ≤ n ∧ RW H d v ∧ Fits 1000 m d ∧
  ∀ u H' G, Same H H' → Rep H' d u G → (∀ a ∈ G, H a = none) → Q u H'
def spMark (n : Nat) : Sp := fun vs H Q _ => ∃ (v : V) (t : Addr) (d : D) (F : List Addr) (m : Nat) (k : Int), vs = [v, .ref t] ∧ m + 1 ≤ n ∧ Rep H d v F ∧ Fits 1000 m d ∧ H t = some (.lst [.int k]) ∧ t ∉ F ∧
  ∀ H', Kp (fun a => a ∈ F ∨ a = t) H H' → Rep H' (mark d k).1 v F → H' t = some (.lst [.int (mark d k).2]) → Q .non H'
def spSame (n : Nat) : Sp := fun vs H Q _ => ∃ (v u : V) (d : D) (m : Nat), vs = [v, u] ∧ m + 1 ≤ n ∧ RW H d v ∧ RW H d u ∧ Fits 1000 m d ∧ ∀ H', Same H H' → Q (.bl true) H'
theorem Fits.its {c m : Nat} {d : D} (h : Fits c m d) (hd : d.isL = true ∨ d.isT = true) : ∃ m', m = m' + 1 ∧ d.its.length ≤ c ∧ ∀ e ∈ d.its, Fits c m' e := by
  cases m with
  | zero =>
    obtain ⟨v, rfl⟩ := h
    rcases hd with z | z <;> cases z
  | succ m =>
    cases d with
    | leaf v => rcases hd with z | z <;> cases z
    | lst ds => exact ⟨m, rfl, h.1, h.2⟩
    | tup ds => exact ⟨m, rfl, h.1, h.2⟩
/-- a list or a tuple, with its items -/
theorem Rep.seq {H : Hp} {d : D} {v : V} {F : List Addr} (h : Rep H d v F) (hd : d.isL = true ∨ d.isT = true) : ∃ a xs G, v = .ref a ∧ (d.isL = true ∧ H a = some (.lst xs) ∧ a ∉ G ∧ F = a :: G ∨ d.isT = true ∧ H a = some (.tup xs) ∧ F = G) ∧ Reps H d.its xs G := by
  cases d with
  | leaf w => rcases hd with z | z <;> cases z
  | lst ds =>
    obtain ⟨a, xs, G, e, ha, hr, hn, eF⟩ := h
    exact ⟨a, xs, G, e, .inl ⟨rfl, ha, hn, eF⟩, hr⟩
  | tup ds =>
    obtain ⟨a, xs, e, ha, hr⟩ := h
    exact ⟨a, xs, F, e, .inr ⟨rfl, ha, rfl⟩, hr⟩
section
variable {P : Program} {w : World} {K : PySem.W.Frag} {mg : Str → Option Value} {base : Heap}
theorem none_of {f : Addr} {fd : FuncData} {ps : List Str} {sp : Sp} (h : ∀ vs H Q E, ¬ sp vs H Q E) : FnOk P w K mg base CX0 0 f fd ps sp :=
  ⟨fun vs H Q E x => absurd x (h vs H Q E), fun A outer s H args us vs Q E _ _ _ _ x => absurd x (h vs H Q E)⟩
theorem copy_none {f : Addr} {fd : FuncData} {ps : List Str} : FnOk P w K mg base CX0 0 f fd ps (spCopy 0) := none_of fun vs H Q E h => by
  obtain ⟨v, d, m, _, h1, _⟩ := h
  omega
theorem mark_none {f : Addr} {fd : FuncData} {ps : List Str} : FnOk P w K mg base CX0 0 f fd ps (spMark 0) := none_of fun vs H Q E h => by
  obtain ⟨v, t, d, F, m, k, _, h1, _⟩ := h
  omega
theorem same_none {f : Addr} {fd : FuncData} {ps : List Str} : FnOk P w K mg base CX0 0 f fd ps (spSame 0) := none_of fun vs H Q E h => by
  obtain ⟨v, u, d, m, _, h1, _⟩ := h
  omega
/-- the turns of [copy(one) for one in thing], D the new list -/
theorem copies_go {te : TE} {σ2 : V → L2.St} {n : Nat} {H1 : Hp} {D0 : Addr} {ds : List D} {xs : List V} {m : Nat} (hte : ∀ x H Q, spCopy n [x] H Q E0 → te (σ2 x) H Q) (hR : RWs H1 ds xs) (hf : ∀ e ∈ ds, Fits 1000 m e) (hm : m + 1 ≤ n) (hD : H1 D0 = none) (hl : ds.length ≤ 1000) :
    (∃ ys G, Same H1 (upd H1 D0 (.lst [])) ∧ (upd H1 D0 (.lst [])) D0 = some (.lst ys) ∧ Reps (upd H1 D0 (.lst [])) (ds.take 0) ys G ∧ (∀ a ∈ G, H1 a = none ∧ a ≠ D0)) ∧
    ∀ i x H2, xs[i]? = some x → (∃ ys G, Same H1 H2 ∧ H2 D0 = some (.lst ys) ∧ Reps H2 (ds.take i) ys G ∧ (∀ a ∈ G, H1 a = none ∧ a ≠ D0)) →
      te (σ2 x) H2 fun y H4 => ∃ acc, H4 D0 = some (.lst acc) ∧ acc.length < sizeLine ∧ ∃ ys G, Same H1 (upd H4 D0 (.lst (acc ++ [y]))) ∧ (upd H4 D0 (.lst (acc ++ [y]))) D0 = some (.lst ys) ∧ Reps (upd H4 D0 (.lst (acc ++ [y]))) (ds.take (i + 1)) ys G ∧ (∀ a ∈ G, H1 a = none ∧ a ≠ D0) := by
  refine ⟨⟨[], [], same_new hD _, upd_same, ⟨rfl, rfl⟩, fun _ z => nomatch z⟩, ?_⟩
  rintro i x H2 hi ⟨ys, G, hs2, hD2, hr, hG⟩
  obtain ⟨e, he, hrep⟩ := RWs.item (hR.same hs2) hi
  have hil := (List.getElem?_eq_some_iff.mp he).1
  refine hte x H2 _ ⟨x, e, m, rfl, hm, hrep, hf e (List.mem_of_getElem? he), fun u H3 G3 hs3 hr3 hG3 => ?_⟩
  have hD3 := hs3 _ _ hD2
  have hyl : ys.length = i := by
    rw [hr.len, List.length_take]
    omega
  have nD : ∀ a ∈ G3, a ≠ D0 := fun a ha z => by
    rw [← z, hG3 a ha] at hD2
    cases hD2
  have n1 : ∀ a ∈ G3, H1 a = none := fun a ha => hs2.free (hG3 a ha)
  have kp : Kp (fun a => a = D0) H3 (upd H3 D0 (.lst (ys ++ [u]))) := Kp.set hD3 rfl
  refine ⟨ys, hD3, Nat.lt_of_le_of_lt (show ys.length ≤ 1000 by omega) (by decide), ys ++ [u], G ++ G3, same_put (hs2.trans hs3) hD, upd_same, ?_, fun a ha => ?_⟩
  · have et : ds.take (i + 1) = ds.take i ++ [e] := by
      rw [List.take_add_one, he]
      rfl
    rw [et]
    refine Reps.snoc ((hr.same hs3).kp kp fun a ha => (hG a ha).2) (hr3.kp kp nD) fun a ha z => ?_
    obtain ⟨zs, hz⟩ := hr.at_ a ha
    rw [hG3 a z] at hz
    cases hz
  · rcases List.mem_append.mp ha with z | z
    · exact hG a z
    · exact ⟨n1 a z, nD a z⟩
end
end K02
set_option Elab.async false
set_option linter.all false
set_option maxRecDepth 100000
set_option maxHeartbeats 4000000
namespace K02
open PySem L2 PyProof.Rows
/-- a datum, its items, where their lists stand -/
inductive Shp (H : Hp) : D → V → List Addr → List V → List Addr → Prop where
  | leaf {v : V} (h : Leaf v) : Shp H (.leaf v) v [] [] []
  | lst {ds : List D} {a : Addr} {xs : List V} {G : List Addr} (h : H a = some (.lst xs)) (r : Reps H ds xs G) (n : a ∉ G) : Shp H (.lst ds) (.ref a) (a :: G) xs G
  | tup {ds : List D} {a : Addr} {xs : List V} {G : List Addr} (h : H a = some (.tup xs)) (r : Reps H ds xs G) : Shp H (.tup ds) (.ref a) G xs G
theorem Rep.shp {H : Hp} {d : D} {v : V} {F : List Addr} (h : Rep H d v F) : ∃ xs G, Shp H d v F xs G := by
  cases d with
  | leaf w =>
    obtain ⟨rfl, hl, rfl⟩ := h
    exact ⟨_, _, .leaf hl⟩
  | lst ds =>
    obtain ⟨a, xs, G, rfl, ha, hr, hn, rfl⟩ := h
    exact ⟨_, _, .lst ha hr hn⟩
  | tup ds =>
    obtain ⟨a, xs, rfl, ha, hr⟩ := h
    exact ⟨_, _, .tup ha hr⟩
theorem Shp.reps {H : Hp} {d : D} {v : V} {F G : List Addr} {xs : List V} (h : Shp H d v F xs G) : Reps H d.its xs G ∧ ∀ a ∈ G, a ∈ F := by
  cases h with
  | leaf h => exact ⟨⟨rfl, rfl⟩, fun _ z => z⟩
  | lst h r n => exact ⟨r, fun _ z => List.mem_cons_of_mem _ z⟩
  | tup h r => exact ⟨r, fun _ z => z⟩
theorem Fits.its0 {c m : Nat} {d : D} (h : Fits c m d) : d.its.length ≤ c ∧ ∀ e ∈ d.its, ∃ m', m = m' + 1 ∧ Fits c m' e := by
  cases d with
  | leaf v => exact ⟨Nat.zero_le _, fun _ z => nomatch z⟩
  | lst ds =>
    obtain ⟨m', rfl, a, b⟩ := h.its (.inl rfl)
    exact ⟨a, fun e he => ⟨m', rfl, b e he⟩⟩
  | tup ds =>
    obtain ⟨m', rfl, a, b⟩ := h.its (.inr rfl)
    exact ⟨a, fun e he => ⟨m', rfl, b e he⟩⟩
section
variable {P : Program} {w : World} {K : PySem.W.Frag} {mg : Str → Option Value} {base : Heap}
theorem scFr : FnScope ["thing", "each", "key"] ["thing"] (defScope sFresh) := ⟨rfl, rfl, rfl, by decide +kernel, rfl, by decide +kernel, by decide +kernel⟩
theorem ok_fresh {f : Addr} {fd : FuncData} {n : Nat} (F : Fun K "fresh" "fresh" sFresh f fd) (T : Txt K mg) (G : FnOk P w K mg base CX0 n f fd ["thing"] (spCopy n)) (b : Binds K fd ["thing"] []) (m : mg "fresh" = some (.ref f)) (zD : mg "dict" = none) :
    FnOk P w K mg base CX0 (n + 1) f fd ["thing"] (spCopy (n + 1)) := by
  refine F.ok scFr (fun vs H Q E h => ?_) (fun cdv A outer s H vs Q E hr h => ?_)
  · obtain ⟨v, d, m0, rfl, _⟩ := h
    rfl
  obtain ⟨v, d, m0, rfl, hm, hR, hF, kk⟩ := h
  refine ⟨_, pss_cons (ps_if (pt_val (pe_callB call_isi (by rfl) T.isi boot_isinstance (pa_cons (pv 0) (pa_cons (pe_bltn (v := .ty "list") (by rfl) T.list boot_list rfl) pa_nil))))
      (pss_one (ps_ret (pe_lc (own := [("each", 1)]) (g := gName 1) (tt := tYes) rfl scFr.nd (pi_list (pv 0)) (blkOk_by (N := ["thing", "each", "key"]) (sc := defScope sFresh) (by decide +kernel)) (fun _ _ _ _ _ => pg_name (i := 1) scFr.nd rfl (Or.inl rfl)) (fun _ _ _ _ _ => pts_nil)
        (fun _ _ _ _ _ => pe_call G hr rfl m F.kp b .nil pass0 (pa_cons (pv 1) pa_nil))))) pss_nil)
    (pss_cons (ps_if (pt_val (pe_callB call_isi (by rfl) T.isi boot_isinstance (pa_cons (pv 0) (pa_cons (pe_bltn (v := .ty "tuple") (by rfl) T.tuple boot_tuple rfl) pa_nil))))
      (pss_one (ps_ret (pe_callTy call_tuple_of (by rfl) T.tuple boot_tuple (pa_cons (pe_lc (own := [("each", 1)]) (g := gName 1) (tt := tYes) rfl scFr.nd (pi_tup (pv 0)) (blkOk_by (N := ["thing", "each", "key"]) (sc := defScope sFresh) (by decide +kernel)) (fun _ _ _ _ _ => pg_name (i := 1) scFr.nd rfl (Or.inl rfl)) (fun _ _ _ _ _ => pts_nil)
        (fun _ _ _ _ _ => pe_call G hr rfl m F.kp b .nil pass0 (pa_cons (pv 1) pa_nil))) pa_nil)))) pss_nil)
    (pss_cons (ps_if (pt_val (pe_callB call_isi (by rfl) T.isi boot_isinstance (pa_cons (pv 0) (pa_cons (pe_bltn (v := .ty "dict") (by rfl) zD boot_dict rfl) pa_nil)))) pss_never pss_nil)
    (pss_one (ps_ret (pv 0))))), ?_⟩
  obtain ⟨sT, hty, k1, k2, k3⟩ := hR.ty (K := K)
  refine ⟨_, rfl, v, _, _, _, _, rfl, .ty _, hty, kit_ty k1, _, rfl, ?_⟩
  cases d with
  | leaf w0 =>
    refine iteF ⟨_, rfl, v, _, _, _, _, rfl, .ty _, hty, kit_ty k2, _, rfl, iteF ⟨_, rfl, v, _, _, _, _, rfl, .ty _, hty, kit_ty k3, _, rfl, iteF ⟨_, rfl, ?_⟩⟩⟩
    obtain ⟨rfl, hl⟩ := hR
    exact kk _ H [] (Same.refl H) ⟨rfl, hl, rfl⟩ fun _ z => nomatch z
  | lst ds =>
    refine iteT ?_
    obtain ⟨a, xs, rfl, ha, hr0⟩ := hR
    obtain ⟨m', rfl, hl, hf⟩ := hF.its (.inl rfl)
    refine ⟨_, rfl, a, rfl, ⟨_, SqL.of ha⟩, fun D0 hD => ?_⟩
    obtain ⟨g0, g1⟩ := copies_go (te := tCall (spCopy n) [] E0 (tCons (tVar 1) tNil)) (σ2 := fun x => [some (.ref a), some x, none]) (m := m') (fun x H Q h => ⟨x, rfl, h⟩) hr0 hf (by omega) hD hl
    refine lc_list (K := K) (a := a) (xs := xs) (fun i H2 => ∃ ys G, Same H H2 ∧ H2 D0 = some (.lst ys) ∧ Reps H2 (ds.take i) ys G ∧ (∀ a ∈ G, H a = none ∧ a ≠ D0)) g0 (fun i H2 _ ⟨_, _, h, _⟩ => SqL.of (h _ _ ha)) ?_ ?_
    · rintro i x H2 hi h
      exact ⟨rfl, g1 i x H2 hi h⟩
    · rintro H2 ⟨ys, G, hs, hD2, hr2, hG⟩
      rw [hr0.len, List.take_length] at hr2
      exact kk _ H2 (D0 :: G) hs ⟨D0, ys, G, rfl, hD2, hr2, fun z => (hG _ z).2 rfl, rfl⟩ fun b hb => by
        rcases List.mem_cons.mp hb with z | z
        · exact z ▸ hD
        · exact (hG b z).1
  | tup ds =>
    refine iteF ⟨_, rfl, v, _, _, _, _, rfl, .ty _, hty, kit_ty k2, _, rfl, iteT ?_⟩
    obtain ⟨a, xs, rfl, ha, hr0⟩ := hR
    obtain ⟨m', rfl, hl, hf⟩ := hF.its (.inr rfl)
    refine ⟨_, rfl, a, rfl, ⟨_, SqT.of ha⟩, fun D0 hD => ?_⟩
    obtain ⟨g0, g1⟩ := copies_go (te := tCall (spCopy n) [] E0 (tCons (tVar 1) tNil)) (σ2 := fun x => [some (.ref a), some x, none]) (m := m') (fun x H Q h => ⟨x, rfl, h⟩) hr0 hf (by omega) hD hl
    refine lc_tup (K := K) (a := a) (xs := xs) (fun i H2 => ∃ ys G, Same H H2 ∧ H2 D0 = some (.lst ys) ∧ Reps H2 (ds.take i) ys G ∧ (∀ a ∈ G, H a = none ∧ a ≠ D0)) g0 (fun i H2 _ ⟨_, _, h, _⟩ => SqT.of (h _ _ ha)) ?_ ?_
    · rintro i x H2 hi h
      exact ⟨rfl, g1 i x H2 hi h⟩
    · rintro H2 ⟨ys, G, hs, hD2, hr2, hG⟩
      rw [hr0.len, List.take_length] at hr2
      refine ⟨D0, ys, rfl, .inl ⟨SqL.of hD2, fun l hl2 => ?_⟩⟩
      have s3 := same_new hl2 (.tup ys)
      exact kk _ _ G (hs.trans s3) ⟨l, ys, rfl, upd_same, hr2.same s3⟩ fun b hb => (hG b hb).1
end
end K02
set_option Elab.async false
set_option linter.all false
set_option maxRecDepth 100000
set_option maxHeartbeats 4000000
namespace K02
open PySem L2 PyProof.Rows
/-! ### values -/
inductive Wv where
  | non
  | int (i : Int)
  | row (ws : List Wv)
  | rcd (ns : List Str) (ws : List Wv)
def kz (ns : List Str) (xs : List V) : List (Key × V) := (ns.zip xs).map fun q => (Sum.inr q.1, q.2)
mutual
def RV (H : Hp) : Wv → V → Prop
  | .non, v => v = .non
  | .int i, v => v = .int i
  | .row ws, v => ∃ a xs, v = .ref a ∧ H a = some (.lst xs) ∧ RVs H ws xs
  | .rcd ns ws, v => ∃ a xs, v = .ref a ∧ H a = some (.dK (kz ns xs)) ∧ ns.length = ws.length ∧ RVs H ws xs
def RVs (H : Hp) : List Wv → List V → Prop
  | [], xs => xs = []
  | w :: ws, xs => ∃ x ys, xs = x :: ys ∧ RV H w x ∧ RVs H ws ys
end
mutual
theorem RV.same {H H1 : Hp} (s : Same H H1) : ∀ {w : Wv} {v : V}, RV H w v → RV H1 w v
  | .non, v, h => h
  | .int i, v, h => h
  | .row ws, v, h => by
    obtain ⟨a, xs, e, ha, hr⟩ := h
    exact ⟨a, xs, e, s _ _ ha, RVs.same s hr⟩
  | .rcd ns ws, v, h => by
    obtain ⟨a, xs, e, ha, hl, hr⟩ := h
    exact ⟨a, xs, e, s _ _ ha, hl, RVs.same s hr⟩
theorem RVs.same {H H1 : Hp} (s : Same H H1) : ∀ {ws : List Wv} {xs : List V}, RVs H ws xs → RVs H1 ws xs
  | [], xs, h => h
  | w :: ws, xs, h => by
    obtain ⟨x, ys, e, h1, h2⟩ := h
    exact ⟨x, ys, e, RV.same s h1, RVs.same s h2⟩
end
theorem RVs.len {H : Hp} : ∀ {ws : List Wv} {xs : List V}, RVs H ws xs → xs.length = ws.length
  | [], xs, h => by
    have e : xs = [] := h
    rw [e]
    rfl
  | w :: ws, xs, h => by
    obtain ⟨x, ys, rfl, h1, h2⟩ := h
    rw [List.length_cons, List.length_cons, h2.len]
theorem RVs.item {H : Hp} : ∀ {ws : List Wv} {xs : List V} {i : Nat} {x : V}, RVs H ws xs → xs[i]? = some x → ∃ w, ws[i]? = some w ∧ RV H w x
  | [], xs, i, x, h, e => by
    have z : xs = [] := h
    rw [z] at e
    simp at e
  | w :: ws, xs, 0, x, h, e => by
    obtain ⟨y, ys, rfl, h1, h2⟩ := h
    have ey : y = x := Option.some.inj e
    exact ⟨w, rfl, ey ▸ h1⟩
  | w :: ws, xs, i + 1, x, h, e => by
    obtain ⟨y, ys, rfl, h1, h2⟩ := h
    exact RVs.item h2 (i := i) e
theorem RVs.back {H : Hp} : ∀ {ws : List Wv} {xs : List V} {i : Nat} {w : Wv}, RVs H ws xs → ws[i]? = some w → ∃ x, xs[i]? = some x ∧ RV H w x
  | [], xs, i, w, h, e => by simp at e
  | w' :: ws, xs, 0, w, h, e => by
    obtain ⟨y, ys, rfl, h1, h2⟩ := h
    have ey : w' = w := Option.some.inj e
    exact ⟨y, rfl, ey ▸ h1⟩
  | w' :: ws, xs, i + 1, w, h, e => by
    obtain ⟨y, ys, rfl, h1, h2⟩ := h
    exact RVs.back h2 (i := i) e
theorem RVs.snoc {H : Hp} {w : Wv} {x : V} : ∀ {ws : List Wv} {xs : List V}, RVs H ws xs → RV H w x → RVs H (ws ++ [w]) (xs ++ [x])
  | [], xs, h, k => by
    have e : xs = [] := h
    rw [e]
    exact ⟨x, [], rfl, k, rfl⟩
  | w' :: ws, xs, h, k => by
    obtain ⟨y, ys, rfl, h1, h2⟩ := h
    exact ⟨y, _, rfl, h1, RVs.snoc h2 k⟩
def Wv.isR : Wv → Bool
  | .row _ => true
  | _ => false
def Wv.isD : Wv → Bool
  | .rcd _ _ => true
  | _ => false
def kindS : Wv → String
  | .non => "none"
  | .int _ => "integer"
  | .row _ => "row"
  | .rcd _ _ => "record"
theorem RV.ty {K : PySem.W.Frag} {H : Hp} {w : Wv} {v : V} (h : RV H w v) : ∃ s : String, TyX K H v (.type s) ∧ kitB s "list" = some w.isR ∧ kitB s "dict" = some w.isD := by
  cases w with
  | non =>
    obtain rfl : v = .non := h
    exact ⟨"NoneType", .base .non, (by show kitB _ _ = some false; decide +kernel), (by show kitB _ _ = some false; decide +kernel)⟩
  | int i =>
    obtain rfl : v = .int i := h
    exact ⟨"int", .base (.int i), (by show kitB _ _ = some false; decide +kernel), (by show kitB _ _ = some false; decide +kernel)⟩
  | row ws =>
    obtain ⟨a, xs, rfl, ha, _⟩ := h
    exact ⟨"list", .base (.lst ha), (by show kitB _ _ = some true; decide +kernel), (by show kitB _ _ = some false; decide +kernel)⟩
  | rcd ns ws =>
    obtain ⟨a, xs, rfl, ha, _⟩ := h
    exact ⟨"dict", .base (.dK ha), (by show kitB _ _ = some false; decide +kernel), (by show kitB _ _ = some true; decide +kernel)⟩
/-! ### what stands in a record -/
def wFd : List Str → List Wv → Str → Option Wv
  | n :: ns, w :: ws, z => if n = z then some w else wFd ns ws z
  | _, _, _ => none
theorem kz_val {H : Hp} : ∀ {ns : List Str} {ws : List Wv} {xs : List V} {z : Str}, RVs H ws xs → (∀ w, wFd ns ws z = some w → ∃ x, valV (kz ns xs) (Sum.inr z) = some x ∧ RV H w x) ∧ (wFd ns ws z = none → ns.length = ws.length → valV (kz ns xs) (Sum.inr z) = none)
  | [], ws, xs, z, h => ⟨fun w e => (by unfold wFd at e; cases e), fun _ _ => rfl⟩
  | n :: ns, [], xs, z, h => ⟨fun w e => (by unfold wFd at e; cases e), fun _ e => nomatch e⟩
  | n :: ns, w :: ws, xs, z, h => by
    obtain ⟨x, ys, rfl, h1, h2⟩ := h
    have ih := kz_val (ns := ns) (z := z) h2
    have ek : kz (n :: ns) (x :: ys) = (Sum.inr n, x) :: kz ns ys := rfl
    by_cases e : n = z
    · refine ⟨fun w' e' => ?_, fun e' => ?_⟩
      · unfold wFd at e'
        rw [if_pos e] at e'
        cases e'
        exact ⟨x, by rw [ek]; exact valV_pos (p := (Sum.inr n, x)) (by rw [e]), h1⟩
      · unfold wFd at e'
        rw [if_pos e] at e'
        cases e'
    · have ne : ¬ (Sum.inr n : Key) = Sum.inr z := fun q => e (Sum.inr.inj q)
      refine ⟨fun w' e' => ?_, fun e' el => ?_⟩
      · unfold wFd at e'
        rw [if_neg e] at e'
        obtain ⟨y, q1, q2⟩ := ih.1 w' e'
        exact ⟨y, by rw [ek, valV_neg (p := (Sum.inr n, x)) ne]; exact q1, q2⟩
      · unfold wFd at e'
        rw [if_neg e] at e'
        rw [ek, valV_neg (p := (Sum.inr n, x)) ne]
        exact ih.2 e' (Nat.succ.inj el)
/-! ### places -/
inductive Pl where
  | value
  | res (n : Nat)
  | item (p : Pl) (i : Nat)
  | field (p : Pl) (z : Str)
def S (s : String) : D := .leaf (.str (Str.ofString s))
def plD : Pl → D
  | .value => .tup [S "value"]
  | .res n => .tup [S "result", .leaf (.int (n : Int))]
  | .item p i => .tup [S "item", plD p, .leaf (.int (i : Int))]
  | .field p z => .tup [S "field", plD p, .leaf (.str z)]
/-- a key within -/
inductive Ky where
  | ix (i : Nat)
  | fd (z : Str)
def Ky.v : Ky → V
  | .ix i => .int (i : Int)
  | .fd z => .str z
def wIn : Wv → Ky → Option Wv
  | .row ws, .ix i => ws[i]?
  | .rcd ns ws, .fd z => wFd ns ws z
  | _, _ => none
def wKs (w : Wv) : List Ky → Option Wv
  | [] => some w
  | k :: ks => (wIn w k).bind fun u => wKs u ks
/-- what leads to a place: the value or a result, and keys -/
def plB : Pl → Option Nat
  | .value => none
  | .res n => some n
  | .item p _ => plB p
  | .field p _ => plB p
def plK : Pl → List Ky
  | .value => []
  | .res _ => []
  | .item p i => plK p ++ [.ix i]
  | .field p z => plK p ++ [.fd z]
def bV : Option Nat → V
  | none => .str (Str.ofString "value")
  | some n => .int (n : Int)
def wB (w : Wv) (rs : List Wv) : Option Nat → Option Wv
  | none => some w
  | some n => rs[n]?
def wAt (w : Wv) (rs : List Wv) (p : Pl) : Option Wv := (wB w rs (plB p)).bind fun u => wKs u (plK p)
theorem wKs_snoc (k : Ky) : ∀ (ks : List Ky) (w : Wv), wKs w (ks ++ [k]) = (wKs w ks).bind fun u => wIn u k
  | [], w => by
    show ((wIn w k).bind fun u => some u) = wIn w k
    cases wIn w k <;> rfl
  | j :: ks, w => by
    show ((wIn w j).bind fun u => wKs u (ks ++ [k])) = ((wIn w j).bind fun u => wKs u ks).bind _
    cases wIn w j with
    | none => rfl
    | some u => exact wKs_snoc k ks u
theorem wAt_item {w : Wv} {rs : List Wv} {p : Pl} {i : Nat} : wAt w rs (.item p i) = (wAt w rs p).bind fun u => wIn u (.ix i) := by
  unfold wAt
  show ((wB w rs (plB p)).bind fun u => wKs u (plK p ++ [.ix i])) = _
  cases wB w rs (plB p) with
  | none => rfl
  | some u => exact wKs_snoc _ _ u
theorem wAt_field {w : Wv} {rs : List Wv} {p : Pl} {z : Str} : wAt w rs (.field p z) = (wAt w rs p).bind fun u => wIn u (.fd z) := by
  unfold wAt
  show ((wB w rs (plB p)).bind fun u => wKs u (plK p ++ [.fd z])) = _
  cases wB w rs (plB p) with
  | none => rfl
  | some u => exact wKs_snoc _ _ u
def plN : Pl → Nat
  | .value => 0
  | .res _ => 0
  | .item p _ => plN p + 1
  | .field p _ => plN p + 1
/-! ### looks and their answers -/
inductive Lk where
  | what (p : Pl)
  | none (p : Pl)
  | has (p : Pl) (k : Ky)
def lkP : Lk → Pl
  | .what p => p
  | .none p => p
  | .has p _ => p
def lkD : Lk → D
  | .what p => .tup [S "what", plD p]
  | .none p => .tup [S "none", plD p]
  | .has p k => .tup [S "has", plD p, .leaf k.v]
def Wv.isN : Wv → Bool
  | .non => true
  | _ => false
/-- may be asked: a row by an index, a record by a name -/
def okKy : Wv → Ky → Prop
  | .row _, .ix _ => True
  | .rcd _ _, .fd _ => True
  | _, _ => False
def ansW (w : Wv) : Lk → V
  | .what _ => .str (Str.ofString (kindS w))
  | .none _ => .bl w.isN
  | .has _ k => .bl (wIn w k).isSome
def okLk (w : Wv) : Lk → Prop
  | .has _ k => okKy w k
  | _ => True
/-! ### trees -/
inductive Tr where
  | fin (d : D)
  | look (l : Lk) (as : List V) (ts : List Tr)
def wayD (a : V) (t : D) : D := .tup [.leaf a, t]
mutual
def trD : Tr → D
  | .fin d => .tup [S "end", d]
  | .look l as ts => .tup [S "look", lkD l, .lst (List.zipWith wayD as (trDs ts))]
def trDs : List Tr → List D
  | [] => []
  | t :: ts => trD t :: trDs ts
end
theorem trDs_map : ∀ ts : List Tr, trDs ts = ts.map trD
  | [] => by rw [trDs]; rfl
  | t :: ts => by rw [trDs, trDs_map ts]; rfl
/-- a value leads through so many looks to what stands at the end -/
inductive Leads (w : Wv) (rs : List Wv) : Nat → Tr → D → Prop
  | done (n : Nat) (d : D) : Leads w rs n (.fin d) d
  | step {n : Nat} {l : Lk} {u : Wv} {as : List V} {ts : List Tr} {i : Nat} {t : Tr} {d : D} (h1 : wAt w rs (lkP l) = some u) (h2 : okLk u l) (hp : plN (lkP l) ≤ 20) (h3 : as[i]? = some (ansW u l)) (h4 : ∀ j, j < i → as[j]? ≠ some (ansW u l)) (h5 : ts[i]? = some t) (h6 : Leads w rs n t d) (hl : as.length = ts.length) (ha : ∀ a ∈ as, (∃ b, a = .bl b) ∧ (∃ b, ansW u l = .bl b) ∨ (∃ z, a = .str z) ∧ ∃ z, ansW u l = .str z) : Leads w rs (n + 1) (.look l as ts) d
mutual
def nEnds : Tr → Nat
  | .fin _ => 1
  | .look _ _ ts => nEndss ts
def nEndss : List Tr → Nat
  | [] => 0
  | t :: ts => nEnds t + nEndss ts
end
/-- so deep at most, of few ways -/
def TrOk : Nat → Tr → Prop
  | _, .fin _ => True
  | 0, .look _ _ _ => False
  | n + 1, .look _ as ts => as.length = ts.length ∧ ts.length ≤ 4 ∧ ∀ t ∈ ts, TrOk n t
end K02
set_option Elab.async false
set_option linter.all false
set_option maxRecDepth 100000
set_option maxHeartbeats 4000000
namespace K02
open PySem L2 PyProof.Rows
theorem SqT.same {K : PySem.W.Frag} {H H1 : Hp} {a : Addr} {xs : List V} (h : SqT K H a xs) (e : Same H H1) : SqT K H1 a xs := by
  rcases h with (h | ⟨o, h⟩) | h
  · exact .inl (.inl (e _ _ h))
  · exact .inl (.inr ⟨o, e _ _ h⟩)
  · exact .inr h
/-- a place as the program keeps it: ("at", path) -/
def PathAt (K : PySem.W.Frag) (H : Hp) (b : Addr) (p : Pl) : Prop := SqT K H b (bV (plB p) :: (plK p).map Ky.v)
def PA (K : PySem.W.Frag) (H : Hp) (v : V) (p : Pl) : Prop := ∃ a b, v = .ref a ∧ SqT K H a [.str (Str.ofString "at"), .ref b] ∧ PathAt K H b p
theorem PathAt.same {K : PySem.W.Frag} {H H1 : Hp} {b : Addr} {p : Pl} (h : PathAt K H b p) (s : Same H H1) : PathAt K H1 b p := SqT.same h s
theorem PA.same {K : PySem.W.Frag} {H H1 : Hp} {v : V} {p : Pl} (h : PA K H v p) (s : Same H H1) : PA K H1 v p := by
  obtain ⟨a, b, e, h1, h2⟩ := h
  exact ⟨a, b, e, SqT.same h1 s, h2.same s⟩
def spKind : Sp := fun vs H Q _ => ∃ (v : V) (w : Wv), vs = [v] ∧ RV H w v ∧ Q (.str (Str.ofString (kindS w))) H
def kyS : Ky → String
  | .ix _ => "row"
  | .fd _ => "record"
def spKindW : Sp := fun vs H Q _ => ∃ k : Ky, vs = [k.v] ∧ Q (.str (Str.ofString (kyS k))) H
def spHasKey : Sp := fun vs H Q _ => ∃ (v : V) (w : Wv) (k : Ky), vs = [v, k.v] ∧ RV H w v ∧ okKy w k ∧ Q (.bl (wIn w k).isSome) H
def spResP : Sp := fun vs H Q _ => ∃ n : Nat, vs = [.int (n : Int)] ∧ ∀ u H', Same H H' → (∀ K, PA K H' u (.res n)) → Q u H'
def pNext (p : Pl) : Ky → Pl
  | .ix i => .item p i
  | .fd z => .field p z
def spInPath (K : PySem.W.Frag) : Sp := fun vs H Q _ => ∃ (v : V) (p : Pl) (k : Ky), vs = [v, k.v] ∧ PA K H v p ∧ (plK p).length ≤ 100 ∧ ∀ b H', Same H H' → PathAt K H' b (pNext p k) → Q (.ref b) H'
def spInPlace (K : PySem.W.Frag) : Sp := fun vs H Q _ => ∃ (v : V) (p : Pl) (k : Ky), vs = [v, k.v] ∧ PA K H v p ∧ (plK p).length ≤ 100 ∧ ∀ u H', Same H H' → PA K H' u (pNext p k) → Q u H'
def spPlaceOf (K : PySem.W.Frag) (n : Nat) : Sp := fun vs H Q _ => ∃ (v : V) (p : Pl), vs = [v] ∧ RW H (plD p) v ∧ plN p + 4 ≤ n ∧ n ≤ 60 ∧ ∀ u H', Same H H' → PA K H' u p → Q u H'
theorem plK_len : ∀ p, (plK p).length = plN p
  | .value => rfl
  | .res _ => rfl
  | .item p i => by
    show (plK p ++ [Ky.ix i]).length = plN p + 1
    rw [List.length_append, plK_len p]
    rfl
  | .field p z => by
    show (plK p ++ [Ky.fd z]).length = plN p + 1
    rw [List.length_append, plK_len p]
    rfl
theorem path_next (p : Pl) (k : Ky) : (bV (plB p) :: (plK p).map Ky.v) ++ [k.v] = bV (plB (pNext p k)) :: (plK (pNext p k)).map Ky.v := by
  cases k
  · show _ = bV (plB p) :: (plK p ++ [Ky.ix _]).map Ky.v
    rw [List.map_append]
    rfl
  · show _ = bV (plB p) :: (plK p ++ [Ky.fd _]).map Ky.v
    rw [List.map_append]
    rfl
theorem pl_form (p : Pl) : p = .value ∨ (∃ n, p = .res n) ∨ ∃ (nm : String) (q : Pl) (k : Ky), (nm = "item" ∨ nm = "field") ∧ p = pNext q k ∧ plD p = .tup [S nm, plD q, .leaf k.v] ∧ plN p = plN q + 1 := by
  cases p with
  | value => exact .inl rfl
  | res n => exact .inr (.inl ⟨n, rfl⟩)
  | item q i => exact .inr (.inr ⟨"item", q, .ix i, .inl rfl, rfl, rfl, rfl⟩)
  | field q z => exact .inr (.inr ⟨"field", q, .fd z, .inr rfl, rfl, rfl, rfl⟩)
section
variable {P : Program} {w : World} {K : PySem.W.Frag} {mg : Str → Option Value} {base : Heap}
theorem scKo : FnScope ["value"] ["value"] (defScope sKindOf) := ⟨rfl, rfl, rfl, by decide +kernel, rfl, by decide +kernel, by decide +kernel⟩
theorem ok_kind {f : Addr} {fd : FuncData} (F : Fun K "kind_of" "kind_of" sKindOf f fd) (T : Txt K mg) (zD : mg "dict" = none) : FnOk P w K mg base CX0 1 f fd ["value"] spKind := by
  refine F.ok scKo (fun vs H Q E h => ?_) (fun cdv A outer s H vs Q E hr h => ?_)
  · obtain ⟨v, w, rfl, _⟩ := h
    rfl
  obtain ⟨v, w, rfl, hw, kk⟩ := h
  refine ⟨_, pss_cons (ps_if (pt_cmpR op_isN (pv 0) pe_non (nomark _)) (pss_one (ps_ret pe_str)) pss_nil)
    (pss_cons (ps_if (pt_val (pe_callB call_isi (by rfl) T.isi boot_isinstance (pa_cons (pv 0) (pa_cons (pe_bltn (v := .ty "list") (by rfl) T.list boot_list rfl) pa_nil)))) (pss_one (ps_ret pe_str)) pss_nil)
    (pss_one (ps_ret (pe_ifExp (pt_val (pe_callB call_isi (by rfl) T.isi boot_isinstance (pa_cons (pv 0) (pa_cons (pe_bltn (v := .ty "dict") (by rfl) zD boot_dict rfl) pa_nil)))) pe_str pe_str)))), ?_⟩
  obtain ⟨sT, hty, k1, k2⟩ := hw.ty (K := K)
  refine ⟨_, rfl, rfl, _, rfl, ?_⟩
  cases w with
  | non =>
    obtain rfl : v = .non := hw
    exact ifT (decide_eq_true rfl) kk
  | int i =>
    obtain rfl : v = .int i := hw
    exact ifF (decide_eq_false fun z => nomatch z) ⟨_, rfl, _, _, _, _, _, rfl, .ty _, hty, kit_ty k1, _, rfl, iteF ⟨_, rfl, _, _, _, _, _, rfl, .ty _, hty, kit_ty k2, _, rfl, iteF kk⟩⟩
  | row ws =>
    obtain ⟨a, xs, rfl, _⟩ := id hw
    exact ifF (decide_eq_false fun z => nomatch z) ⟨_, rfl, _, _, _, _, _, rfl, .ty _, hty, kit_ty k1, _, rfl, iteT kk⟩
  | rcd ns ws =>
    obtain ⟨a, xs, rfl, _⟩ := id hw
    exact ifF (decide_eq_false fun z => nomatch z) ⟨_, rfl, _, _, _, _, _, rfl, .ty _, hty, kit_ty k1, _, rfl, iteF ⟨_, rfl, _, _, _, _, _, rfl, .ty _, hty, kit_ty k2, _, rfl, iteT kk⟩⟩
theorem scKw : FnScope ["key"] ["key"] (defScope sKindW) := ⟨rfl, rfl, rfl, by decide +kernel, rfl, by decide +kernel, by decide +kernel⟩
theorem ok_kindw {f : Addr} {fd : FuncData} (F : Fun K "kind_with" "kind_with" sKindW f fd) (T : Txt K mg) (zS : mg "str" = none) : FnOk P w K mg base CX0 1 f fd ["key"] spKindW := by
  refine F.ok scKw (fun vs H Q E h => ?_) (fun cdv A outer s H vs Q E hr h => ?_)
  · obtain ⟨k, rfl, _⟩ := h
    rfl
  obtain ⟨k, rfl, kk⟩ := h
  refine ⟨_, pss_one (ps_ret (pe_ifExp (pt_val (pe_callB call_isi (by rfl) T.isi boot_isinstance (pa_cons (pv 0) (pa_cons (pe_bltn (v := .ty "str") (by rfl) zS boot_str rfl) pa_nil)))) pe_str pe_str)), ?_⟩
  cases k with
  | ix i => exact ⟨_, rfl, _, _, _, _, _, rfl, .ty _, .base (.int _), kit_ty (a := "int") (b := "str") (r := false) (by decide +kernel), _, rfl, iteF kk⟩
  | fd z => exact ⟨_, rfl, _, _, _, _, _, rfl, .ty _, .base (.str _), kit_ty (a := "str") (b := "str") (r := true) (by decide +kernel), _, rfl, iteT kk⟩
theorem scHk : FnScope ["found", "key"] ["found", "key"] (defScope sHasKey) := ⟨rfl, rfl, rfl, by decide +kernel, rfl, by decide +kernel, by decide +kernel⟩
theorem ok_haskey {f : Addr} {fd : FuncData} (F : Fun K "has_key" "has_key" sHasKey f fd) (T : Txt K mg) (zS : mg "str" = none) : FnOk P w K mg base CX0 1 f fd ["found", "key"] spHasKey := by
  refine F.ok scHk (fun vs H Q E h => ?_) (fun cdv A outer s H vs Q E hr h => ?_)
  · obtain ⟨v, w, k, rfl, _⟩ := h
    rfl
  obtain ⟨v, w, k, rfl, hw, hk, kk⟩ := h
  have hu1 : (A.deeper (envOfC "has_key" (defScope sHasKey) s.heap.objs.size f cdv)).units + 1 < cLine := by
    have := hr.units
    omega
  refine ⟨_, pss_one (ps_ret (pe_ifExp (pt_val (pe_callB call_isi (by rfl) T.isi boot_isinstance (pa_cons (pv 1) (pa_cons (pe_bltn (v := .ty "str") (by rfl) zS boot_str rfl) pa_nil)))) (pe_cmp (pc_din hu1 (pv 1) (pv 0))) (pe_cmpR op_lt (pv 1) (pe_callB call_len_seq (by rfl) T.len PySem.boot_len (pa_cons (pv 0) pa_nil)) (nomark _)))), ?_⟩
  cases k with
  | ix i =>
    cases w with
    | row ws =>
      obtain ⟨a, xs, rfl, ha, hr2⟩ := hw
      refine ⟨_, rfl, _, _, _, _, _, rfl, .ty _, .base (.int _), kit_ty (a := "int") (b := "str") (r := false) (by decide +kernel), _, rfl, iteF ⟨_, rfl, _, rfl, a, xs, rfl, .inl (SqL.of ha), _, _, rfl, rfl, ?_⟩⟩
      have e : decide (((i : Nat) : Int) < ((xs.length : Nat) : Int)) = (wIn (.row ws) (.ix i)).isSome := by
        show _ = (ws[i]?).isSome
        rw [hr2.len]
        by_cases c : i < ws.length
        · rw [List.getElem?_eq_getElem c, decide_eq_true (by omega)]
          rfl
        · rw [List.getElem?_eq_none (by omega), decide_eq_false (by omega)]
          rfl
      show Q (.bl (decide (((i : Nat) : Int) < ((xs.length : Nat) : Int)))) H
      rw [e]
      exact kk
    | non => exact hk.elim
    | int i => exact hk.elim
    | rcd ns ws => exact hk.elim
  | fd z =>
    cases w with
    | rcd ns ws =>
      obtain ⟨a, xs, rfl, ha, hln, hr2⟩ := hw
      refine ⟨_, rfl, _, _, _, _, _, rfl, .ty _, .base (.str _), kit_ty (a := "str") (b := "str") (r := true) (by decide +kernel), _, rfl, iteT ⟨_, rfl, _, rfl, a, _, rfl, DGet.k (k := Sum.inr z) ha, ?_⟩⟩
      have hz := kz_val (ns := ns) (z := z) hr2
      have e : (valV (kz ns xs) (Sum.inr z)).isSome = (wIn (.rcd ns ws) (.fd z)).isSome := by
        show _ = (wFd ns ws z).isSome
        cases q : wFd ns ws z with
        | none => rw [hz.2 q hln]; rfl
        | some u =>
          obtain ⟨x, e1, _⟩ := hz.1 u q
          rw [e1]; rfl
      rw [e]
      exact kk
    | non => exact hk.elim
    | int i => exact hk.elim
    | row ws => exact hk.elim
theorem scRp : FnScope ["number"] ["number"] (defScope sResP) := ⟨rfl, rfl, rfl, by decide +kernel, rfl, by decide +kernel, by decide +kernel⟩
theorem ok_resp {f : Addr} {fd : FuncData} (F : Fun K "result_place" "result_place" sResP f fd) : FnOk P w K mg base CX0 1 f fd ["number"] spResP := by
  refine F.ok scRp (fun vs H Q E h => ?_) (fun cdv A outer s H vs Q E hr h => ?_)
  · obtain ⟨n, rfl, _⟩ := h
    rfl
  obtain ⟨n, rfl, kk⟩ := h
  refine ⟨_, pss_one (ps_ret (pe_tup (pa_cons pe_str (pa_cons (pe_tup (pa_cons (pv 0) pa_nil)) pa_nil)))), ?_⟩
  refine ⟨_, rfl, by show 1 ≤ sizeLine; decide, fun b hb => ⟨by show 2 ≤ sizeLine; decide, fun a ha => ?_⟩⟩
  have s1 := same_new hb (.tup [V.int (n : Int)])
  have s2 := same_new ha (.tup [V.str (Str.ofString "at"), V.ref b])
  exact kk _ _ (s1.trans s2) fun K => ⟨a, b, rfl, SqT.of upd_same, SqT.of (s2 _ _ upd_same)⟩
theorem scIp : FnScope ["place", "key"] ["place", "key"] (defScope sInPath) := ⟨rfl, rfl, rfl, by decide +kernel, rfl, by decide +kernel, by decide +kernel⟩
theorem ok_inpath {f : Addr} {fd : FuncData} (F : Fun K "inner_path" "inner_path" sInPath f fd) : FnOk P w K mg base CX0 1 f fd ["place", "key"] (spInPath K) := by
  refine F.ok scIp (fun vs H Q E h => ?_) (fun cdv A outer s H vs Q E hr h => ?_)
  · obtain ⟨v, p, k, rfl, _⟩ := h
    rfl
  obtain ⟨v, p, k, rfl, ⟨a, b, rfl, ha, hb⟩, hl, kk⟩ := h
  refine ⟨_, pss_cons (ps_if (pt_cmpR op_eq (pe_ix ix_tup (pv 0) pe_int (fun _ _ => rfl)) pe_str (nomark _)) pss_never pss_nil)
    (pss_one (ps_ret (pe_op op_catT (pe_ix ix_tup (pv 0) pe_int (fun _ _ => rfl)) (pe_tup (pa_cons (pv 1) pa_nil))))), ?_⟩
  refine ⟨_, rfl, a, _, 0, _, rfl, rfl, ha, atI_nat (j := 0) rfl, rfl, _, rfl, ifF (decide_eq_false fun e => absurd (V.str.inj e) (by decide)) ?_⟩
  refine ⟨_, rfl, a, _, 1, _, rfl, rfl, ha, atI_nat (j := 1) rfl, _, rfl, by show 1 ≤ sizeLine; decide, fun t ht => ?_⟩
  have s1 := same_new ht (.tup [k.v])
  refine ⟨b, t, _, _, rfl, rfl, SqT.same hb s1, SqT.of upd_same, (fun e => nomatch e), ?_, (fun e => nomatch e), fun _ q hq => ?_⟩
  · rw [List.length_cons, List.length_map]
    exact Nat.le_trans (show _ ≤ 1000 by show (plK p).length + 1 + 1 ≤ 1000; omega) (by decide)
  · have s2 := same_new hq (.tup ((bV (plB p) :: (plK p).map Ky.v) ++ [k.v]))
    refine kk q _ (s1.trans s2) ?_
    show SqT K _ q _
    rw [← path_next]
    exact SqT.of upd_same
theorem scIq : FnScope ["place", "key"] ["place", "key"] (defScope sInPlace) := ⟨rfl, rfl, rfl, by decide +kernel, rfl, by decide +kernel, by decide +kernel⟩
theorem ok_inplace {f fP : Addr} {fd fdP : FuncData} (F : Fun K "inner_place" "inner_place" sInPlace f fd)
    (FP : Fun K "inner_path" "inner_path" sInPath fP fdP) (GP : FnOk P w K mg base CX0 1 fP fdP ["place", "key"] (spInPath K)) (bP : Binds K fdP ["place", "key"] []) (mP : mg "inner_path" = some (.ref fP)) : FnOk P w K mg base CX0 2 f fd ["place", "key"] (spInPlace K) := by
  refine F.ok scIq (fun vs H Q E h => ?_) (fun cdv A outer s H vs Q E hr h => ?_)
  · obtain ⟨v, p, k, rfl, _⟩ := h
    rfl
  obtain ⟨v, p, k, rfl, hp, hl, kk⟩ := h
  refine ⟨_, pss_one (ps_ret (pe_tup (pa_cons pe_str (pa_cons (pe_call GP hr rfl mP FP.kp bP .nil pass0 (pa_cons (pv 0) (pa_cons (pv 1) pa_nil))) pa_nil)))), ?_⟩
  refine ⟨_, rfl, _, rfl, v, p, k, rfl, hp, hl, fun b H1 hs1 hb => ⟨by show 2 ≤ sizeLine; decide, fun a ha => ?_⟩⟩
  have s2 := same_new ha (.tup [V.str (Str.ofString "at"), V.ref b])
  exact kk _ _ (hs1.trans s2) ⟨a, b, rfl, SqT.of upd_same, hb.same s2⟩
theorem scPo : FnScope ["told", "word", "whole", "rest"] ["told"] (defScope sPlaceOf) := ⟨rfl, rfl, rfl, by decide +kernel, rfl, by decide +kernel, by decide +kernel⟩
theorem place_none {f : Addr} {fd : FuncData} {ps : List Str} : FnOk P w K mg base CX0 0 f fd ps (spPlaceOf K 0) := none_of fun vs H Q E h => by
  obtain ⟨v, p, _, _, h1, _⟩ := h
  omega
theorem ok_place {f fR fI aV bV' : Addr} {fd fdR fdI : FuncData} {n : Nat} (F : Fun K "place_of" "place_of" sPlaceOf f fd) (mV : mg "VALUE" = some (.ref aV)) (hV : ∀ H, SqT K H aV [.str (Str.ofString "at"), .ref bV']) (hV' : ∀ H, SqT K H bV' [.str (Str.ofString "value")])
    (FR : Fun K "result_place" "result_place" sResP fR fdR) (GR : FnOk P w K mg base CX0 1 fR fdR ["number"] spResP) (bR : Binds K fdR ["number"] []) (mR : mg "result_place" = some (.ref fR))
    (FI : Fun K "inner_place" "inner_place" sInPlace fI fdI) (GI : FnOk P w K mg base CX0 2 fI fdI ["place", "key"] (spInPlace K)) (bI : Binds K fdI ["place", "key"] []) (mI : mg "inner_place" = some (.ref fI))
    (G : FnOk P w K mg base CX0 n f fd ["told"] (spPlaceOf K n)) (b : Binds K fd ["told"] []) (m : mg "place_of" = some (.ref f)) : FnOk P w K mg base CX0 (n + 1) f fd ["told"] (spPlaceOf K (n + 1)) := by
  refine F.ok scPo (fun vs H Q E h => ?_) (fun cdv A outer s H vs Q E hr h => ?_)
  · obtain ⟨v, p, rfl, _⟩ := h
    rfl
  obtain ⟨v, p, rfl, hp, hn, hn60, kk⟩ := h
  have hr1 := hr.mono (show 1 ≤ n by omega)
  have hr2 := hr.mono (show 2 ≤ n by omega)
  refine ⟨_, pss_cons (ps_set (i := 1) scPo.nd rfl (Or.inl rfl) (pe_ix ix_tup (pv 0) pe_int (fun _ _ => rfl)))
    (pss_cons (ps_if (pt_cmpR op_eq (pv 1) pe_str (nomark _)) (pss_one (ps_ret (pe_glob (v := .ref aV) rfl mV rfl))) pss_nil)
    (pss_cons (ps_if (pt_cmpR op_eq (pv 1) pe_str (nomark _)) (pss_one (ps_ret (pe_call GR hr1 rfl mR FR.kp bR .nil pass0 (pa_cons (pe_ix ix_tup (pv 0) pe_int (fun _ _ => rfl)) pa_nil)))) pss_nil)
    (pss_cons (ps_if (pt_cmpR op_eq (pv 1) pe_str (nomark _)) pss_never pss_nil)
    (pss_cons (ps_set (i := 2) scPo.nd rfl (Or.inl rfl) (pe_call G hr rfl m F.kp b .nil pass0 (pa_cons (pe_ix ix_tup (pv 0) pe_int (fun _ _ => rfl)) pa_nil)))
    (Evl.pss_cut (ps_set (i := 3) scPo.nd rfl (Or.inl rfl) (pe_ifExp (pt_cmpR op_in_seq (pv 1) (pe_tup (pa_cons pe_str (pa_cons pe_str pa_nil))) (by rfl)) pe_str pe_str))
    (pss_cons (ps_if (PW.pt (pw_or (pt_cmpR op_isN (pv 2) pe_non (nomark _)) (pw_or1 (pt_cmpR op_notIn_seq (pe_ix ix_tup (pv 2) pe_int (fun _ _ => rfl)) (pe_tup (pa_cons pe_str (pa_cons (pv 3) pa_nil))) (by rfl))))) pss_never pss_nil)
    (pss_cons (ps_if (pt_cmpR op_eq (pv 1) pe_str (nomark _)) pss_never pss_nil)
    (pss_cons (ps_if (pt_cmpR op_eq (pv 1) pe_str (nomark _)) pss_never pss_nil)
    (pss_one (ps_ret (pe_call GI hr2 rfl mI FI.kp bI .nil pass0 (pa_cons (pv 2) (pa_cons (pe_ix ix_tup (pv 0) pe_int (fun _ _ => rfl)) pa_nil)))))))))))))
    , ?_⟩
  have so : ∀ {s t : String}, ¬ Str.ofString s = Str.ofString t → decide (V.str (Str.ofString s) = V.str (Str.ofString t)) = false := fun h => decide_eq_false fun e => h (V.str.inj e)
  rcases pl_form p with rfl | ⟨i, rfl⟩ | ⟨nm, q, k, hnm, rfl, e, en⟩
  · obtain ⟨a, xs, rfl, ha, x, _, rfl, hx, _⟩ := hp
    obtain ⟨rfl, _⟩ := hx
    refine ⟨_, rfl, a, _, 0, _, rfl, rfl, SqT.of ha, atI_nat (j := 0) rfl, _, rfl, rfl, _, rfl, ifT (decide_eq_true rfl) ?_⟩
    exact kk _ H (Same.refl H) ⟨aV, bV', rfl, hV H, hV' H⟩
  · obtain ⟨a, xs, rfl, ha, x, _, rfl, hx, y, _, rfl, hy, _⟩ := hp
    obtain ⟨rfl, _⟩ := hx
    obtain ⟨rfl, _⟩ := hy
    refine ⟨_, rfl, a, _, 0, _, rfl, rfl, SqT.of ha, atI_nat (j := 0) rfl, _, rfl, rfl, _, rfl, ifF (so (by decide)) ?_⟩
    refine ⟨_, rfl, rfl, _, rfl, ifT (decide_eq_true rfl) ?_⟩
    exact ⟨_, rfl, a, _, 1, _, rfl, rfl, SqT.of ha, atI_nat (j := 1) rfl, i, rfl, fun u H1 hs1 hu => kk u H1 hs1 (hu K)⟩
  rw [e] at hp
  obtain ⟨a, xs, rfl, ha, x, _, rfl, hx, y, _, rfl, hy, z, _, rfl, hz, hnil⟩ := hp
  obtain rfl : _ = [] := hnil
  obtain ⟨rfl, _⟩ := hx
  obtain ⟨rfl, _⟩ := hz
  have n1 : ¬ Str.ofString nm = Str.ofString "value" := by rcases hnm with rfl | rfl <;> decide
  have n2 : ¬ Str.ofString nm = Str.ofString "result" := by rcases hnm with rfl | rfl <;> decide
  have n3 : ¬ Str.ofString nm = Str.ofString "known" := by rcases hnm with rfl | rfl <;> decide
  have n4 : ¬ Str.ofString nm = Str.ofString "items" := by rcases hnm with rfl | rfl <;> decide
  have n5 : ¬ Str.ofString nm = Str.ofString "others" := by rcases hnm with rfl | rfl <;> decide
  refine ⟨_, rfl, a, _, 0, _, rfl, rfl, SqT.of ha, atI_nat (j := 0) rfl, _, rfl, rfl, _, rfl, ifF (so n1) ?_⟩
  refine ⟨_, rfl, rfl, _, rfl, ifF (so n2) ⟨_, rfl, rfl, _, rfl, ifF (so n3) ?_⟩⟩
  refine ⟨_, rfl, a, _, 1, _, rfl, rfl, SqT.of ha, atI_nat (j := 1) rfl, y, q, rfl, hy, by omega, by omega, fun u H1 hs1 hu => ?_⟩
  obtain ⟨a1, b1, rfl, hA, hB⟩ := id hu
  refine ⟨fun σ' H' => Same H1 H' ∧ ∃ rs : Str, σ' = [some (.ref a), some (.str (Str.ofString nm)), some (.ref a1), some (.str rs)], ?_, ?_⟩
  · refine ⟨_, rfl, by show 2 ≤ sizeLine; decide, fun t ht => ⟨t, _, rfl, .inr (SqT.of upd_same), rfl, rfl, _, rfl, ?_⟩⟩
    have st := same_new ht (.tup [V.str (Str.ofString "item"), V.str (Str.ofString "items")])
    exact ite2 (fun _ => ⟨st, _, rfl⟩) (fun _ => ⟨st, _, rfl⟩)
  rintro _ H2 ⟨hs2, rs, rfl⟩
  have hu2 := hu.same hs2
  have hA2 := SqT.same hA hs2
  have ha2 := hs2 _ _ (hs1 _ _ ha)
  refine ⟨_, rfl, rfl, _, rfl, ifF (decide_eq_false fun z => nomatch z) ?_⟩
  refine ⟨_, rfl, a1, _, 0, _, rfl, rfl, hA2, atI_nat (j := 0) rfl, _, rfl, by show 2 ≤ sizeLine; decide, fun t ht => ⟨t, _, rfl, .inr (SqT.of upd_same), rfl, rfl, _, rfl, ?_⟩⟩
  have st := same_new ht (.tup [V.str (Str.ofString "at"), V.str rs])
  refine ifF (by simp [inV, eqV]) ?_
  refine ⟨_, rfl, rfl, _, rfl, ifF (so n4) ⟨_, rfl, rfl, _, rfl, ifF (so n5) ?_⟩⟩
  have hl : (plK q).length ≤ 100 := by
    rw [plK_len]
    omega
  exact ⟨_, rfl, _, rfl, a, _, 2, _, rfl, rfl, SqT.of (st _ _ ha2), atI_nat (j := 2) rfl, .ref a1, q, k, rfl, hu2.same st, hl, fun u2 H3 hs3 hu3 => kk u2 H3 (((hs1.trans hs2).trans st).trans hs3) hu3⟩
end
end K02
set_option Elab.async false
set_option linter.all false
set_option maxRecDepth 100000
set_option maxHeartbeats 4000000
namespace K02
open PySem L2 PyProof.Rows
theorem pe_either {X : Cx} {e : Expr} {t1 t2 : TE} (h1 : PE X e t1) (h2 : PE X e t2) : PE X e (fun σ H Q => t1 σ H Q ∨ t2 σ H Q) := ⟨fun pins s σ H Q I h => h.elim (h1.run pins s σ H Q I) (h2.run pins s σ H Q I)⟩
def lkW : Lk → String
  | .what _ => "what"
  | .none _ => "none"
  | .has _ _ => "has"
def lkV : Lk → List V
  | .has _ k => [k.v]
  | _ => []
theorem lk_form (l : Lk) : lkD l = .tup (S (lkW l) :: plD (lkP l) :: (lkV l).map D.leaf) := by cases l <;> rfl
theorem ky_leaf (k : Ky) : Leaf k.v := by
  cases k
  · exact .inr (.inr (.inl ⟨_, rfl⟩))
  · exact .inr (.inr (.inr ⟨_, rfl⟩))
theorem rws_leafs {H : Hp} : ∀ {vs xs : List V}, RWs H (vs.map D.leaf) xs → xs = vs
  | [], xs, h => h
  | v :: vs, xs, h => by
    obtain ⟨x, ys, rfl, h1, h2⟩ := h
    rw [h1.1, rws_leafs h2]
theorem lk_rw {H : Hp} {l : Lk} {v : V} (h : RW H (lkD l) v) : ∃ a x, v = .ref a ∧ H a = some (.tup (.str (Str.ofString (lkW l)) :: x :: lkV l)) ∧ RW H (plD (lkP l)) x := by
  rw [lk_form] at h
  obtain ⟨a, xs, rfl, ha, x0, _, rfl, h0, x1, xs2, rfl, h1, h2⟩ := h
  obtain ⟨rfl, _⟩ := h0
  obtain rfl := rws_leafs h2
  exact ⟨a, x1, rfl, ha, h1⟩
def spLookOf (K : PySem.W.Frag) : Sp := fun vs H Q _ => ∃ (v : V) (l : Lk), vs = [v] ∧ RW H (lkD l) v ∧ plN (lkP l) ≤ 20 ∧ ∀ a b H', Same H H' → H' a = some (.tup (.str (Str.ofString (lkW l)) :: .ref b :: lkV l)) → PathAt K H' b (lkP l) → Q (.ref a) H'
def spFound (K : PySem.W.Frag) : Sp := fun vs H Q _ => ∃ (b ra : Addr) (x v : V) (xs : List V) (p : Pl) (w u : Wv) (rs : List Wv), vs = [.ref b, x, v, .ref ra] ∧ PathAt K H b p ∧ plN p ≤ 20 ∧ RV H w v ∧ H ra = some (.lst xs) ∧ RVs H rs xs ∧ wAt w rs p = some u ∧
  ∀ y H', Same H H' → RV H' u y → Q y H'
def spAns (K : PySem.W.Frag) : Sp := fun vs H Q _ => ∃ (ra : Addr) (tv v : V) (xs : List V) (l : Lk) (w u : Wv) (rs : List Wv), vs = [tv, v, .ref ra] ∧ RW H (lkD l) tv ∧ plN (lkP l) ≤ 20 ∧ RV H w v ∧ H ra = some (.lst xs) ∧ RVs H rs xs ∧ wAt w rs (lkP l) = some u ∧ okLk u l ∧
  ∀ H', Same H H' → Q (ansW u l) H'
theorem wKs_prefix : ∀ {ks : List Ky} {w u : Wv}, wKs w ks = some u → ∀ i k, ks[i]? = some k → ∃ m m', wKs w (ks.take i) = some m ∧ wIn m k = some m' ∧ wKs w (ks.take (i + 1)) = some m'
  | [], w, u, h, i, k, e => by simp at e
  | k0 :: ks, w, u, h, 0, k, e => by
    have ek : k0 = k := Option.some.inj e
    subst ek
    cases q : wIn w k0 with
    | none =>
      have h' : ((wIn w k0).bind fun u => wKs u ks) = some u := h
      rw [q] at h'
      cases h'
    | some m => exact ⟨w, m, rfl, q, by show ((wIn w k0).bind fun u => wKs u (ks.take 0)) = some m; rw [q]; rfl⟩
  | k0 :: ks, w, u, h, i + 1, k, e => by
    have h' : ((wIn w k0).bind fun u => wKs u ks) = some u := h
    cases q : wIn w k0 with
    | none =>
      rw [q] at h'
      cases h'
    | some m0 =>
      rw [q] at h'
      obtain ⟨m, m', a1, a2, a3⟩ := wKs_prefix (show wKs m0 ks = some u from h') i k (by simpa using e)
      exact ⟨m, m', by show ((wIn w k0).bind fun u => wKs u (ks.take i)) = some m; rw [q]; exact a1, a2, by show ((wIn w k0).bind fun u => wKs u (ks.take (i + 1))) = some m'; rw [q]; exact a3⟩
theorem okKy_of {w u : Wv} {k : Ky} (h : wIn w k = some u) : okKy w k ∧ kindS w = kyS k := by
  cases w <;> cases k <;> first | exact ⟨trivial, rfl⟩ | (exact absurd h (by unfold wIn; exact fun z => nomatch z))
section
variable {P : Program} {w : World} {K : PySem.W.Frag} {mg : Str → Option Value} {base : Heap}
theorem scLo : FnScope ["told"] ["told"] (defScope sLookOf) := ⟨rfl, rfl, rfl, by decide +kernel, rfl, by decide +kernel, by decide +kernel⟩
theorem ok_lookof {f fP : Addr} {fd fdP : FuncData} (F : Fun K "look_of" "look_of" sLookOf f fd)
    (FP : Fun K "place_of" "place_of" sPlaceOf fP fdP) (GP : FnOk P w K mg base CX0 24 fP fdP ["told"] (spPlaceOf K 24)) (bP : Binds K fdP ["told"] []) (mP : mg "place_of" = some (.ref fP)) : FnOk P w K mg base CX0 25 f fd ["told"] (spLookOf K) := by
  refine F.ok scLo (fun vs H Q E h => ?_) (fun cdv A outer s H vs Q E hr h => ?_)
  · obtain ⟨v, l, rfl, _⟩ := h
    rfl
  obtain ⟨v, l, rfl, hl, hn, kk⟩ := h
  refine ⟨_, pss_one (ps_ret (pe_op op_catT (pe_tup (pa_cons (pe_ix ix_tup (pv 0) pe_int (fun _ _ => rfl)) (pa_cons (pe_ix ix_tup (pe_call GP hr rfl mP FP.kp bP .nil pass0 (pa_cons (pe_ix ix_tup (pv 0) pe_int (fun _ _ => rfl)) pa_nil)) pe_int (fun _ _ => rfl)) pa_nil))) (pe_slice sl_tup (pv 0) (po_some pe_int) po_none))), ?_⟩
  obtain ⟨a, x, rfl, ha, hx⟩ := lk_rw hl
  refine ⟨_, rfl, a, _, 0, _, rfl, rfl, SqT.of ha, atI_nat (j := 0) rfl, _, rfl, a, _, 1, _, rfl, rfl, SqT.of ha, atI_nat (j := 1) rfl, x, lkP l, rfl, hx, by omega, by decide, fun u H1 hs1 hu => ?_⟩
  obtain ⟨a1, b, rfl, hA, hB⟩ := hu
  refine ⟨a1, _, 1, _, rfl, rfl, hA, atI_nat (j := 1) rfl, by show 2 ≤ sizeLine; decide, fun t ht => ?_⟩
  have st := same_new ht (.tup [V.str (Str.ofString (lkW l)), V.ref b])
  refine ⟨_, rfl, _, rfl, a, _, rfl, SqT.of (st _ _ (hs1 _ _ ha)), ?_, fun q hq => ?_⟩
  · cases l
    · exact fun z => absurd z.1 (by show ¬ (HT.sIx 2 0 (some 2) = 0); decide)
    · exact fun z => absurd z.1 (by show ¬ (HT.sIx 2 0 (some 2) = 0); decide)
    · exact fun z => absurd z.1 (by show ¬ (HT.sIx 3 0 (some 2) = 0); decide)
  have ec : cutV (V.str (Str.ofString (lkW l)) :: x :: lkV l) (some 2) none = lkV l := by cases l <;> rfl
  rw [ec]
  have sq := same_new hq (.tup (lkV l))
  have s13 := (hs1.trans st).trans sq
  refine ⟨t, q, _, _, rfl, rfl, SqT.of (sq _ _ upd_same), SqT.of upd_same, (fun e => nomatch e), ?_, fun e => ?_, fun e r hr2 => ?_⟩
  · cases l
    · show 2 ≤ sizeLine; decide
    · show 2 ≤ sizeLine; decide
    · show 3 ≤ sizeLine; decide
  · refine kk t b _ s13 ?_ (hB.same (st.trans sq))
    have := sq _ _ (upd_same (a := t) (H := H1) (o := HO.tup [V.str (Str.ofString (lkW l)), V.ref b]))
    rw [this, e]
  · have sr := same_new hr2 (.tup ([V.str (Str.ofString (lkW l)), V.ref b] ++ lkV l))
    exact kk r b _ (s13.trans sr) upd_same (hB.same ((st.trans sq).trans sr))
theorem scFa : FnScope ["path", "place", "value", "results", "found", "key"] ["path", "place", "value", "results"] (defScope sFoundAt) := ⟨rfl, rfl, rfl, by decide +kernel, rfl, by decide +kernel, by decide +kernel⟩
theorem ok_found {f fK fW fH : Addr} {fd fdK fdW fdH : FuncData} (F : Fun K "found_at" "found_at" sFoundAt f fd) (T : Txt K mg)
    (FK : Fun K "kind_of" "kind_of" sKindOf fK fdK) (GK : FnOk P w K mg base CX0 1 fK fdK ["value"] spKind) (bK : Binds K fdK ["value"] []) (mK : mg "kind_of" = some (.ref fK))
    (FW : Fun K "kind_with" "kind_with" sKindW fW fdW) (GW : FnOk P w K mg base CX0 1 fW fdW ["key"] spKindW) (bW : Binds K fdW ["key"] []) (mW : mg "kind_with" = some (.ref fW))
    (FH : Fun K "has_key" "has_key" sHasKey fH fdH) (GH : FnOk P w K mg base CX0 1 fH fdH ["found", "key"] spHasKey) (bH : Binds K fdH ["found", "key"] []) (mH : mg "has_key" = some (.ref fH)) : FnOk P w K mg base CX0 2 f fd ["path", "place", "value", "results"] (spFound K) := by
  refine F.ok scFa (fun vs H Q E h => ?_) (fun cdv A outer s H vs Q E hr h => ?_)
  · obtain ⟨b, ra, x, v, xs, p, w, u, rs, rfl, _⟩ := h
    rfl
  obtain ⟨b, ra, x, v, xs, p, w0, u, rs, rfl, hb, hn, hv, hra, hrs, hat, kk⟩ := h
  have hu1 : (A.deeper (envOfC "found_at" (defScope sFoundAt) s.heap.objs.size f cdv)).units + 1 < cLine := by
    have := hr.units
    omega
  refine ⟨_, pss_cons (ps_set (i := 4) scFa.nd rfl (Or.inl rfl) (pv 2))
    (Evl.pss_cut (ps_if (pt_cmpR (op_neD hr.units) (pe_ix ix_tup (pv 0) pe_int (fun _ _ => rfl)) pe_str (nomark _))
        (pss_cons (ps_if (pt_cmpR op_ge (pe_ix ix_tup (pv 0) pe_int (fun _ _ => rfl)) (pe_callB call_len_seq (by rfl) T.len PySem.boot_len (pa_cons (pv 3) pa_nil)) (nomark _)) pss_never pss_nil)
          (pss_one (ps_set (i := 4) scFa.nd rfl (Or.inl rfl) (pe_ix ix_list (pv 3) (pe_ix ix_tup (pv 0) pe_int (fun _ _ => rfl)) (fun _ _ => rfl))))) pss_nil)
    (Evl.pss_cut (ps_for PassesOwn.never rfl (pi_tup (pe_slice sl_tup (pv 0) (po_some pe_int) po_none)) (pg_name (i := 5) scFa.nd rfl (Or.inl rfl))
        (pss_cons (ps_if (PW.pt (pw_or (pt_cmpR op_ne (pe_call GK hr rfl mK FK.kp bK .nil pass0 (pa_cons (pv 4) pa_nil)) (pe_call GW hr rfl mW FW.kp bW .nil pass0 (pa_cons (pv 5) pa_nil)) (nomark _)) (pw_or1 (pt_not (pt_val (pe_call GH hr rfl mH FH.kp bH .nil pass0 (pa_cons (pv 4) (pa_cons (pv 5) pa_nil)))))))) pss_never pss_nil)
          (pss_one (ps_set (i := 4) scFa.nd rfl (Or.inl rfl) (pe_either (pe_dget hu1 (pv 4) (pv 5) (fun _ _ => rfl)) (pe_ix ix_list (pv 4) (pv 5) (fun _ _ => rfl)))))))
    (pss_one (ps_ret (pv 4))))), ?_⟩
  -- where it begins
  have h0 : ∃ u0, wB w0 rs (plB p) = some u0 ∧ wKs u0 (plK p) = some u := by
    unfold wAt at hat
    cases q : wB w0 rs (plB p) with
    | none =>
      rw [q] at hat
      cases hat
    | some u0 =>
      rw [q] at hat
      exact ⟨u0, rfl, hat⟩
  obtain ⟨u0, hu0, hks⟩ := h0
  have b0 : atI (bV (plB p) :: (plK p).map Ky.v) 0 = some (bV (plB p)) := atI_nat (j := 0) rfl
  refine ⟨_, rfl, ?_⟩
  refine ⟨fun σ' H' => H' = H ∧ ∃ y, RV H u0 y ∧ σ' = [some (.ref b), some x, some v, some (.ref ra), some y, none], ?_, ?_⟩
  · refine ⟨_, rfl, b, _, 0, _, rfl, rfl, hb, b0, ?_⟩
    cases q : plB p with
    | none =>
      refine ⟨.str (Str.ofString "value"), .str (Str.ofString "value"), .str _, .str _, by decide +kernel, by decide +kernel, _, rfl, ifF (by simp [PyData.eqv]) ?_⟩
      rw [q] at hu0
      obtain rfl : w0 = u0 := Option.some.inj hu0
      exact ⟨rfl, v, hv, rfl⟩
    | some i =>
      refine ⟨.int (i : Int), .str (Str.ofString "value"), .int _, .str _, by simp [SeqAt.shaped, PyData.canLay0, PyData.depth], by decide +kernel, _, rfl, ifT (by simp [PyData.eqv]) ?_⟩
      rw [q] at hu0
      obtain ⟨y, hy, ry⟩ := hrs.back (show rs[i]? = some u0 from hu0)
      have hi := (List.getElem?_eq_some_iff.mp hy).1
      refine ⟨_, rfl, b, _, 0, _, rfl, rfl, hb, b0, _, rfl, ra, xs, rfl, .inl (SqL.of hra), _, _, by rw [q]; rfl, rfl, _, rfl, ifF (decide_eq_false (by omega)) ?_⟩
      exact ⟨_, rfl, _, rfl, b, _, 0, _, rfl, rfl, hb, b0, ra, xs, _, y, rfl, by rw [q]; rfl, SqL.of hra, atI_nat hy, rfl, y, ry, rfl⟩
  rintro _ H1 ⟨rfl, y0, ry0, rfl⟩
  -- inwards
  refine ⟨fun σ' H' => Same H1 H' ∧ ∃ (y : V) (v5 : Option V), RV H' u y ∧ σ' = [some (.ref b), some x, some v, some (.ref ra), some y, v5], ?_, ?_⟩
  · refine ⟨_, rfl, _, rfl, b, _, rfl, hb, ?_, fun t ht => ?_⟩
    · rw [List.length_cons]
      intro z
      have z1 := z.1
      rw [show HT.sIx (((plK p).map Ky.v).length + 1) 0 (some (1 : Int)) = 1 by rw [show (1 : Int) = ((1 : Nat) : Int) from rfl, HT.sIx_nat]; omega] at z1
      cases z1
    have ec : cutV (bV (plB p) :: (plK p).map Ky.v) (some 1) none = (plK p).map Ky.v := by
      unfold cutV
      rw [HT.sIx_none, show (1 : Int) = ((1 : Nat) : Int) from rfl, HT.sIx_nat, List.length_cons, show min 1 (((plK p).map Ky.v).length + 1) = 1 by omega]
      show ((plK p).map Ky.v).take (((plK p).map Ky.v).length + 1 - 1) = _
      rw [Nat.add_sub_cancel, List.take_length]
    rw [ec]
    have st := same_new ht (.tup ((plK p).map Ky.v))
    have et : (upd H1 t (.tup ((plK p).map Ky.v))) t = some (.tup ((plK p).map Ky.v)) := upd_same
    generalize upd H1 t (.tup ((plK p).map Ky.v)) = H2 at st et ⊢
    refine ⟨t, rfl, ⟨_, SqT.of et⟩, ?_⟩
    refine for_tup (K := K) (a := t) (xs := (plK p).map Ky.v) (fun i σ' H' => Same H2 H' ∧ ∃ (m : Wv) (y : V) (v5 : Option V), wKs u0 ((plK p).take i) = some m ∧ RV H' m y ∧ σ' = [some (.ref b), some x, some v, some (.ref ra), some y, v5])
      ⟨Same.refl _, u0, y0, _, rfl, ry0.same st, rfl⟩ (fun i σ' H' _ ⟨h, _⟩ => SqT.of (h _ _ et)) ?_ ?_
    · rintro i z σ' H3 hi ⟨hs3, m, y, v5, hm, ry, rfl⟩
      rw [List.getElem?_map] at hi
      obtain ⟨k, hk, rfl⟩ : ∃ k, (plK p)[i]? = some k ∧ k.v = z := by
        cases e : (plK p)[i]? with
        | none =>
          rw [e] at hi
          cases hi
        | some k =>
          rw [e] at hi
          exact ⟨k, rfl, Option.some.inj hi⟩
      obtain ⟨m1, m2, e1, e2, e3⟩ := wKs_prefix hks i k hk
      rw [hm] at e1
      obtain rfl : m = m1 := Option.some.inj e1
      obtain ⟨ok, ekn⟩ := okKy_of e2
      refine ⟨_, rfl, y, m, rfl, ry, _, rfl, k, rfl, rfl, _, rfl, ?_⟩
      refine ifF (by rw [ekn, decide_eq_true rfl]; rfl) ?_
      refine ⟨_, rfl, _, rfl, y, m, k, rfl, ry, ok, _, rfl, ?_⟩
      rw [e2]
      refine iteF ?_
      cases m with
      | non => exact ok.elim
      | int j => exact ok.elim
      | row ws =>
        cases k with
        | fd z => exact ok.elim
        | ix j =>
          obtain ⟨a, ys, rfl, ha, hr2⟩ := ry
          obtain ⟨y2, hy2, ry2⟩ := hr2.back (show ws[j]? = some m2 from e2)
          exact .inr ⟨_, rfl, _, rfl, a, ys, _, y2, rfl, rfl, SqL.of ha, atI_nat hy2, hs3, m2, y2, _, e3, ry2, rfl⟩
      | rcd ns ws =>
        cases k with
        | ix j => exact ok.elim
        | fd z =>
          obtain ⟨a, ys, rfl, ha, hln, hr2⟩ := ry
          obtain ⟨y2, hy2, ry2⟩ := (kz_val (ns := ns) (z := z) hr2).1 m2 e2
          refine .inl ⟨_, rfl, _, rfl, a, y2, rfl, ?_, hs3, m2, y2, _, e3, ry2, rfl⟩
          rw [← hy2]
          exact DGet.k (k := Sum.inr z) ha
    · rintro σ' H3 ⟨hs3, m, y, v5, hm, ry, rfl⟩
      rw [List.length_map, List.take_length, hks] at hm
      obtain rfl : u = m := Option.some.inj hm
      exact ⟨st.trans hs3, y, v5, ry, rfl⟩
  rintro _ H2 ⟨hs2, y, v5, ry, rfl⟩
  exact ⟨_, rfl, kk y H2 hs2 ry⟩
end
end K02
set_option Elab.async false
set_option linter.all false
set_option maxRecDepth 100000
set_option maxHeartbeats 4000000
namespace K02
open PySem L2 PyProof.Rows
theorem way_rw {H : Hp} {as : List V} {ts : List Tr} {xs : List V} (h : RWs H (List.zipWith wayD as (trDs ts)) xs) (hl : as.length = ts.length) {i : Nat} {x : V} (hx : xs[i]? = some x) : ∃ (a : V) (t : Tr) (q : Addr) (y : V), as[i]? = some a ∧ ts[i]? = some t ∧ x = .ref q ∧ H q = some (.tup [a, y]) ∧ RW H (trD t) y := by
  obtain ⟨d, hd, hr⟩ := h.item hx
  rw [List.getElem?_zipWith, trDs_map, List.getElem?_map] at hd
  cases ea : as[i]? with
  | none =>
    rw [ea] at hd
    simp at hd
  | some a =>
    cases et : ts[i]? with
    | none =>
      rw [ea, et] at hd
      simp at hd
    | some t =>
      rw [ea, et] at hd
      have e : wayD a (trD t) = d := by simpa using hd
      rw [← e] at hr
      obtain ⟨q, ys, rfl, hq, y0, _, rfl, h0, y1, _, rfl, h1, h2⟩ := hr
      obtain rfl : _ = [] := h2
      obtain ⟨rfl, _⟩ := h0
      exact ⟨_, t, q, y1, rfl, rfl, rfl, hq, h1⟩
def spWayW : Sp := fun vs H Q _ => ∃ (la : Addr) (v : V) (xs : List V) (as : List V) (ts : List Tr) (i : Nat) (t : Tr), vs = [.ref la, v] ∧ H la = some (.lst xs) ∧ RWs H (List.zipWith wayD as (trDs ts)) xs ∧ as.length = ts.length ∧ as[i]? = some v ∧ (∀ j, j < i → as[j]? ≠ some v) ∧ ts[i]? = some t ∧
  (∀ a ∈ as, scal a v = true) ∧ ∀ x, RW H (trD t) x → Q x H
def spWalk (K : PySem.W.Frag) : Sp := fun vs H Q _ => ∃ (tv v : V) (ra : Addr) (xs : List V) (w : Wv) (rs : List Wv) (T : Tr) (d : D) (N m : Nat), vs = [tv, v, .ref ra] ∧ RW H (trD T) tv ∧ RV H w v ∧ H ra = some (.lst xs) ∧ RVs H rs xs ∧ Leads w rs N T d ∧ Fits 1000 m d ∧ m + 1 ≤ 40 ∧
  ∀ u H' G, Same H H' → Rep H' d u G → (∀ a ∈ G, H a = none) → Q u H'
def spEnds (k : Nat) : Sp := fun vs H Q _ => ∃ (tv : V) (T : Tr) (m : Nat), vs = [tv] ∧ RW H (trD T) tv ∧ TrOk m T ∧ m + 1 ≤ k ∧ ∀ H', Same H H' → Q (.int (((nEnds T : Nat)) : Int)) H'
theorem ansW_ne {u : Wv} {l : Lk} : ansW u l ≠ .non := by cases l <;> exact fun z => nomatch z
theorem scal_ans {u : Wv} {l : Lk} {a : V} (h : (∃ b, a = .bl b) ∧ (∃ b, ansW u l = .bl b) ∨ (∃ z, a = .str z) ∧ ∃ z, ansW u l = .str z) : scal a (ansW u l) = true := by
  rcases h with ⟨⟨b, rfl⟩, ⟨c, e⟩⟩ | ⟨⟨b, rfl⟩, ⟨c, e⟩⟩ <;> (rw [e]; rfl)
theorem nEndss_sum : ∀ ts : List Tr, ((ts.map fun t => ((nEnds t : Nat) : Int)).sum) = ((nEndss ts : Nat) : Int)
  | [] => rfl
  | t :: ts => by
    rw [List.map_cons, List.sum_cons, nEndss_sum ts, nEndss]
    omega
section
variable {P : Program} {w : World} {K : PySem.W.Frag} {mg : Str → Option Value} {base : Heap}
theorem scAa : FnScope ["told", "value", "results", "look", "found"] ["told", "value", "results"] (defScope sAnsAt) := ⟨rfl, rfl, rfl, by decide +kernel, rfl, by decide +kernel, by decide +kernel⟩
theorem ok_ansat {f fL fF fK fW fH : Addr} {fd fdL fdF fdK fdW fdH : FuncData} (F : Fun K "answer_at" "answer_at" sAnsAt f fd)
    (FL : Fun K "look_of" "look_of" sLookOf fL fdL) (GL : FnOk P w K mg base CX0 25 fL fdL ["told"] (spLookOf K)) (bL : Binds K fdL ["told"] []) (mL : mg "look_of" = some (.ref fL))
    (FF : Fun K "found_at" "found_at" sFoundAt fF fdF) (GF : FnOk P w K mg base CX0 2 fF fdF ["path", "place", "value", "results"] (spFound K)) (bF : Binds K fdF ["path", "place", "value", "results"] []) (mF : mg "found_at" = some (.ref fF))
    (FK : Fun K "kind_of" "kind_of" sKindOf fK fdK) (GK : FnOk P w K mg base CX0 1 fK fdK ["value"] spKind) (bK : Binds K fdK ["value"] []) (mK : mg "kind_of" = some (.ref fK))
    (FW : Fun K "kind_with" "kind_with" sKindW fW fdW) (GW : FnOk P w K mg base CX0 1 fW fdW ["key"] spKindW) (bW : Binds K fdW ["key"] []) (mW : mg "kind_with" = some (.ref fW))
    (FH : Fun K "has_key" "has_key" sHasKey fH fdH) (GH : FnOk P w K mg base CX0 1 fH fdH ["found", "key"] spHasKey) (bH : Binds K fdH ["found", "key"] []) (mH : mg "has_key" = some (.ref fH)) : FnOk P w K mg base CX0 26 f fd ["told", "value", "results"] (spAns K) := by
  refine F.ok scAa (fun vs H Q E h => ?_) (fun cdv A outer s H vs Q E hr h => ?_)
  · obtain ⟨ra, tv, v, xs, l, w0, u, rs, rfl, _⟩ := h
    rfl
  obtain ⟨ra, tv, v, xs, l, w0, u, rs, rfl, hl, hn, hv, hra, hrs, hat, hok, kk⟩ := h
  have hr1 := hr.mono (show 1 ≤ 25 by decide)
  have hr2 := hr.mono (show 2 ≤ 25 by decide)
  refine ⟨_, pss_cons (ps_set (i := 3) scAa.nd rfl (Or.inl rfl) (pe_call GL hr rfl mL FL.kp bL .nil pass0 (pa_cons (pv 0) pa_nil)))
    (pss_cons (ps_set (i := 4) scAa.nd rfl (Or.inl rfl) (pe_call GF hr2 rfl mF FF.kp bF .nil pass0 (pa_cons (pe_ix ix_tup (pv 3) pe_int (fun _ _ => rfl)) (pa_cons (pe_ix ix_tup (pv 0) pe_int (fun _ _ => rfl)) (pa_cons (pv 1) (pa_cons (pv 2) pa_nil))))))
    (pss_cons (ps_if (pt_cmpR op_eq (pe_ix ix_tup (pv 3) pe_int (fun _ _ => rfl)) pe_str (nomark _)) (pss_one (ps_ret (pe_call GK hr1 rfl mK FK.kp bK .nil pass0 (pa_cons (pv 4) pa_nil)))) pss_nil)
    (pss_cons (ps_if (pt_cmpR op_eq (pe_ix ix_tup (pv 3) pe_int (fun _ _ => rfl)) pe_str (nomark _)) (pss_one (ps_ret (pe_cmpR op_isN (pv 4) pe_non (nomark _)))) pss_nil)
    (pss_cons (ps_if (pt_cmpR op_ne (pe_call GK hr1 rfl mK FK.kp bK .nil pass0 (pa_cons (pv 4) pa_nil)) (pe_call GW hr1 rfl mW FW.kp bW .nil pass0 (pa_cons (pe_ix ix_tup (pv 3) pe_int (fun _ _ => rfl)) pa_nil)) (nomark _)) pss_never pss_nil)
    (pss_one (ps_ret (pe_call GH hr1 rfl mH FH.kp bH .nil pass0 (pa_cons (pv 4) (pa_cons (pe_ix ix_tup (pv 3) pe_int (fun _ _ => rfl)) pa_nil))))))))), ?_⟩
  have so : ∀ {s t : String}, ¬ Str.ofString s = Str.ofString t → decide (V.str (Str.ofString s) = V.str (Str.ofString t)) = false := fun h => decide_eq_false fun e => h (V.str.inj e)
  obtain ⟨a0, x0, rfl, ha0, hx0⟩ := lk_rw hl
  refine ⟨_, rfl, _, l, rfl, hl, hn, fun a b H1 hs1 ha hb => ?_⟩
  refine ⟨_, rfl, a, _, 1, _, rfl, rfl, SqT.of ha, atI_nat (j := 1) rfl, _, rfl, a0, _, 1, _, rfl, rfl, SqT.of (hs1 _ _ ha0), atI_nat (j := 1) rfl, _, rfl, _, rfl, b, ra, x0, v, xs, lkP l, w0, u, rs, rfl, hb, hn, hv.same hs1, hs1 _ _ hra, hrs.same hs1, hat, fun y H2 hs2 hy => ?_⟩
  have ha2 := SqT.of (K := K) (hs2 _ _ ha)
  have s12 := hs1.trans hs2
  refine ⟨_, rfl, a, _, 0, _, rfl, rfl, ha2, atI_nat (j := 0) rfl, rfl, _, rfl, ?_⟩
  cases l with
  | what p => exact ifT (decide_eq_true rfl) ⟨_, rfl, y, u, rfl, hy, kk H2 s12⟩
  | none p =>
    refine ifF (so (s := "none") (t := "what") (by decide)) ⟨_, rfl, a, _, 0, _, rfl, rfl, ha2, atI_nat (j := 0) rfl, rfl, _, rfl, ifT (decide_eq_true rfl) ⟨_, rfl, rfl, ?_⟩⟩
    have e : decide (y = V.non) = u.isN := by
      cases u with
      | non =>
        obtain rfl : y = .non := hy
        exact decide_eq_true rfl
      | int i =>
        obtain rfl : y = .int i := hy
        exact decide_eq_false fun z => nomatch z
      | row ws =>
        obtain ⟨_, _, rfl, _⟩ := hy
        exact decide_eq_false fun z => nomatch z
      | rcd ns ws =>
        obtain ⟨_, _, rfl, _⟩ := hy
        exact decide_eq_false fun z => nomatch z
    have z := kk H2 s12
    show Q (.bl (decide (y = V.non))) H2
    rw [e]
    exact z
  | has p k =>
    refine ifF (so (s := "has") (t := "what") (by decide)) ⟨_, rfl, a, _, 0, _, rfl, rfl, ha2, atI_nat (j := 0) rfl, rfl, _, rfl, ifF (so (s := "has") (t := "none") (by decide)) ?_⟩
    have ek : kindS u = kyS k := by
      have h : okKy u k := hok
      cases u <;> cases k <;> first | rfl | exact h.elim
    refine ⟨_, rfl, y, u, rfl, hy, _, rfl, a, _, 2, _, rfl, rfl, ha2, atI_nat (j := 2) rfl, k, rfl, rfl, _, rfl, ifF (by rw [ek, decide_eq_true rfl]; rfl) ?_⟩
    exact ⟨_, rfl, _, rfl, a, _, 2, _, rfl, rfl, ha2, atI_nat (j := 2) rfl, y, u, k, rfl, hy, hok, kk H2 s12⟩
theorem scWw : FnScope ["ways", "answer", "told", "inner"] ["ways", "answer"] (defScope sWayW) := ⟨rfl, rfl, rfl, by decide +kernel, rfl, by decide +kernel, by decide +kernel⟩
theorem ok_wayw {f : Addr} {fd : FuncData} (F : Fun K "way_with" "way_with" sWayW f fd) : FnOk P w K mg base CX0 1 f fd ["ways", "answer"] spWayW := by
  refine F.ok scWw (fun vs H Q E h => ?_) (fun cdv A outer s H vs Q E hr h => ?_)
  · obtain ⟨la, v, xs, as, ts, i, t, rfl, _⟩ := h
    rfl
  obtain ⟨la, v, xs, as, ts, i, t, rfl, hla, hw, hlen, hi, hno, ht, hsc, kk⟩ := h
  refine ⟨_, pss_cons (ps_for PassesOwn.never rfl (pi_list (pv 0)) (pg_tup rfl (pgs_cons (pg_name (i := 2) scWw.nd rfl (Or.inl rfl)) (pgs_cons (pg_name (i := 3) scWw.nd rfl (Or.inl rfl)) pgs_nil)))
      (pss_one (ps_if (pt_cmpR op_eq (pv 2) (pv 1) (nomark _)) (pss_one (ps_ret (pv 3))) pss_nil)))
    (pss_one (ps_ret pe_non)), ?_⟩
  have hxl : xs.length = as.length := by
    rw [hw.len, List.length_zipWith, trDs_map, List.length_map]
    omega
  refine ⟨_, rfl, la, rfl, ⟨_, SqL.of hla⟩, ?_⟩
  refine for_list (K := K) (a := la) (xs := xs) (fun j σ' H' => H' = H ∧ j ≤ i ∧ ∃ v2 v3 : Option V, σ' = [some (.ref la), some v, v2, v3]) ⟨rfl, Nat.zero_le _, _, _, rfl⟩ (fun j σ' H' _ ⟨h, _⟩ => by rw [h]; exact SqL.of hla) ?_ ?_
  · rintro j x σ' H1 hj ⟨rfl, hji, v2, v3, rfl⟩
    obtain ⟨a, t', q, y, ea, et, rfl, hq, ry⟩ := way_rw hw hlen hj
    refine ⟨q, _, rfl, SqT.of hq, rfl, _, _, rfl, _, _, rfl, rfl, ?_⟩
    refine ⟨_, rfl, _, rfl, hsc a (List.mem_of_getElem? ea), _, rfl, ?_⟩
    by_cases c : a = v
    · refine ifT (decide_eq_true c) ⟨_, rfl, ?_⟩
      have e : j = i := by
        rcases Nat.lt_or_ge j i with z | z
        · exact absurd (by rw [ea, c]) (hno j z)
        · omega
      subst e
      rw [ht] at et
      obtain rfl := Option.some.inj et
      exact kk y ry
    · refine ifF (decide_eq_false c) ⟨rfl, ?_, _, _, rfl⟩
      rcases Nat.lt_or_ge j i with z | z
      · omega
      · have e : j = i := by omega
        subst e
        rw [hi] at ea
        exact absurd (Option.some.inj ea).symm c
  · rintro σ' H1 ⟨rfl, hji, _⟩
    have := (List.getElem?_eq_some_iff.mp hi).1
    omega
theorem scWk : FnScope ["told", "value", "results", "answer", "inner"] ["told", "value", "results"] (defScope sWalk) := ⟨rfl, rfl, rfl, by decide +kernel, rfl, by decide +kernel, by decide +kernel⟩
theorem ok_walk {f fA fW fF : Addr} {fd fdA fdW fdF : FuncData} (F : Fun K "walk" "walk" sWalk f fd)
    (FA : Fun K "answer_at" "answer_at" sAnsAt fA fdA) (GA : FnOk P w K mg base CX0 26 fA fdA ["told", "value", "results"] (spAns K)) (bA : Binds K fdA ["told", "value", "results"] []) (mA : mg "answer_at" = some (.ref fA))
    (FW : Fun K "way_with" "way_with" sWayW fW fdW) (GW : FnOk P w K mg base CX0 1 fW fdW ["ways", "answer"] spWayW) (bW : Binds K fdW ["ways", "answer"] []) (mW : mg "way_with" = some (.ref fW))
    (FF : Fun K "fresh" "fresh" sFresh fF fdF) (GF : FnOk P w K mg base CX0 40 fF fdF ["thing"] (spCopy 40)) (bF : Binds K fdF ["thing"] []) (mF : mg "fresh" = some (.ref fF)) : FnOk P w K mg base CX0 41 f fd ["told", "value", "results"] (spWalk K) := by
  refine F.ok scWk (fun vs H Q E h => ?_) (fun cdv A outer s H vs Q E hr h => ?_)
  · obtain ⟨tv, v, ra, xs, w0, rs, T, d, N, m, rfl, _⟩ := h
    rfl
  obtain ⟨tv, v, ra, xs, w0, rs, T, d, N, m, rfl, ht, hv, hra, hrs, hL, hF, hm, kk⟩ := h
  have hr1 := hr.mono (show 1 ≤ 40 by decide)
  have hr26 := hr.mono (show 26 ≤ 40 by decide)
  refine ⟨_, Evl.pss_cut (ps_while PassesOwn.never (pt_cmpR op_eq (pe_ix ix_tup (pv 0) pe_int (fun _ _ => rfl)) pe_str (nomark _))
      (pss_cons (ps_set (i := 3) scWk.nd rfl (Or.inl rfl) (pe_call GA hr26 rfl mA FA.kp bA .nil pass0 (pa_cons (pe_ix ix_tup (pv 0) pe_int (fun _ _ => rfl)) (pa_cons (pv 1) (pa_cons (pv 2) pa_nil)))))
      (pss_cons (ps_set (i := 4) scWk.nd rfl (Or.inl rfl) (pe_call GW hr1 rfl mW FW.kp bW .nil pass0 (pa_cons (pe_ix ix_tup (pv 0) pe_int (fun _ _ => rfl)) (pa_cons (pv 3) pa_nil))))
      (pss_cons (ps_if (pt_cmpR op_isN (pv 4) pe_non (nomark _)) pss_never pss_nil)
      (pss_one (ps_set (i := 0) scWk.nd rfl (Or.inl rfl) (pv 4)))))))
    (pss_one (ps_ret (pe_call GF hr rfl mF FF.kp bF .nil pass0 (pa_cons (pe_ix ix_tup (pv 0) pe_int (fun _ _ => rfl)) pa_nil)))), ?_⟩
  have so : ∀ {s t : String}, ¬ Str.ofString s = Str.ofString t → decide (V.str (Str.ofString s) = V.str (Str.ofString t)) = false := fun h => decide_eq_false fun e => h (V.str.inj e)
  refine ⟨fun σ' H' => Same H H' ∧ ∃ (tv : V) (v3 v4 : Option V), RW H' (trD (.fin d)) tv ∧ σ' = [some tv, some v, some (.ref ra), v3, v4], ?_, ?_⟩
  · refine ⟨fun N σ' H' => Same H H' ∧ ∃ (T : Tr) (tv : V) (v3 v4 : Option V), RW H' (trD T) tv ∧ Leads w0 rs N T d ∧ σ' = [some tv, some v, some (.ref ra), v3, v4], ⟨N, Same.refl _, T, tv, _, _, ht, hL, rfl⟩, ?_⟩
    rintro N σ' H1 ⟨hs1, T, tv, v3, v4, ht, hL, rfl⟩
    cases hL with
    | done N d =>
      have ht' := ht
      rw [trD] at ht'
      obtain ⟨a, ys, rfl, ha, x0, _, rfl, h0, _⟩ := ht'
      obtain ⟨rfl, _⟩ := h0
      exact ⟨_, rfl, a, _, 0, _, rfl, rfl, SqT.of ha, atI_nat (j := 0) rfl, rfl, _, rfl, ifF (so (by decide)) ⟨hs1, _, _, _, ht, rfl⟩⟩
    | @step n l u as ts i t d h1 h2 hp h3 h4 h5 h6 hl ha9 =>
      rw [trD] at ht
      obtain ⟨a, ys, rfl, ha, x0, _, rfl, h0, x1, _, rfl, hx1, x2, _, rfl, hx2, hnil⟩ := ht
      obtain rfl : _ = [] := hnil
      obtain ⟨rfl, _⟩ := h0
      obtain ⟨la, zs, rfl, hla, hzs⟩ := hx2
      refine ⟨_, rfl, a, _, 0, _, rfl, rfl, SqT.of ha, atI_nat (j := 0) rfl, rfl, _, rfl, ifT (decide_eq_true rfl) ?_⟩
      refine ⟨fun σ' H' => Same H H' ∧ ∃ (T : Tr) (tv : V) (v3 v4 : Option V), RW H' (trD T) tv ∧ Leads w0 rs n T d ∧ σ' = [some tv, some v, some (.ref ra), v3, v4], fun σ' H' hh => ⟨n, Nat.lt_succ_self n, hh⟩, ?_⟩
      refine ⟨_, rfl, a, _, 1, _, rfl, rfl, SqT.of ha, atI_nat (j := 1) rfl, _, rfl, _, rfl, ra, x1, v, xs, l, w0, u, rs, rfl, hx1, hp, hv.same hs1, hs1 _ _ hra, hrs.same hs1, h1, h2, fun H2 hs2 => ?_⟩
      refine ⟨_, rfl, a, _, 2, _, rfl, rfl, SqT.of (hs2 _ _ ha), atI_nat (j := 2) rfl, _, rfl, la, _, zs, as, ts, i, t, rfl, hs2 _ _ hla, hzs.same hs2, hl, h3, h4, h5, fun a h => scal_ans (ha9 a h), fun x hx => ?_⟩
      refine ⟨_, rfl, rfl, _, rfl, ifF (decide_eq_false fun z => ?_) ⟨_, rfl, hs1.trans hs2, t, x, _, _, hx, h6, rfl⟩⟩
      subst z
      cases t with
      | fin d' =>
        rw [trD] at hx
        obtain ⟨_, _, z, _⟩ := hx
        cases z
      | look l' as' ts' =>
        rw [trD] at hx
        obtain ⟨_, _, z, _⟩ := hx
        cases z
  rintro _ H1 ⟨hs1, tv, v3, v4, ht, rfl⟩
  rw [trD] at ht
  obtain ⟨a, ys, rfl, ha, x0, _, rfl, h0, x1, _, rfl, hx1, hnil⟩ := ht
  obtain rfl : _ = [] := hnil
  exact ⟨_, rfl, a, _, 1, _, rfl, rfl, SqT.of ha, atI_nat (j := 1) rfl, x1, d, m, rfl, hm, hx1, hF, fun u H2 G hs2 hu hG => kk u H2 G (hs1.trans hs2) hu fun b hb => hs1.free (hG b hb)⟩
end
end K02
set_option Elab.async false
set_option linter.all false
set_option maxRecDepth 100000
set_option maxHeartbeats 4000000
namespace K02
open PySem L2 PyProof.Rows
abbrev sTInit : Stmt := inClass sTakeErr 0
def cNames : List Str := ["TakeError", "InvalidAnswer", "UnknownPlace", "TakeEnded"].map Str.ofString
/-- the four classes stand as the text says; fI: the __init__ of the first, which the others have from it -/
structure ECls (K : PySem.W.Frag) (mg : Str → Option Value) (Cs : Nat → Addr) (fI : Addr) : Prop where
  mg : ∀ j x, cNames[j]? = some x → mg x = some (.ref (Cs j))
  oex : ∀ j, j < 4 → OexC K (Cs j)
  ew : ∀ j, j < 4 → ExcW K (Cs j)
  ini : ∀ j, j < 4 → PySem.W.findIn K (.ref (Cs j)) "__init__" = some (some (.ref fI))
  val : ∀ j, j < 4 → PySem.W.findIn K (.ref (Cs j)) "value" = some none
  tI : PySem.W.typeIn K (.ref fI) = some (.type "function")
  kit : ∀ i j, i < 4 → j < 4 → PySem.W.kitOne K (.ref (Cs i)) (.ref (Cs j)) = some (decide (j = 0 ∨ j = i))
  kitV : ∀ j, j < 4 → PySem.W.kitOne K (.ref (Cs j)) (.type "ValueError") = some true
  exm : ∀ i j, i < 4 → j < 4 → PySem.W.exmOne K (.ref (Cs i)) (.ref (Cs j)) = some (decide (j = 0 ∨ j = i))
def spTInit (K : PySem.W.Frag) : Sp := fun vs H Q _ => ∃ (x C : Addr) (v : V), vs = [.ref x, v] ∧ OexC K C ∧ PySem.W.findIn K (.ref C) "value" = some none ∧ H x = some (exo x C none) ∧
  ∀ dx, H dx = none → dx ≠ x → Q .non (upd (upd H dx (exd dx [("value", v)])) x (exo x C (some dx)))
/-- an error of a class with a number leaves, with what it holds -/
def Thr (Cs : Nat → Addr) (H : Hp) (E : XK) (e : Nat × D) : Prop := ∀ (d : Addr) H' u G, Same H H' → H d = none → H' d = some (.xd [(("value" : Str), u)]) → Rep H' e.2 u G → (∀ a ∈ G, H a = none) → E (.ref (Cs e.1)) (some d) H'
theorem Thr.same {Cs : Nat → Addr} {H H1 : Hp} {E : XK} {e : Nat × D} (h : Thr Cs H E e) (s : Same H H1) : Thr Cs H1 E e := fun d H' u G s2 hd hx hr hG => h d H' u G (s.trans s2) (s.free hd) hx hr fun a ha => s.free (hG a ha)
/-- the end of an error's making -/
theorem raise_at {K : PySem.W.Frag} {Cs : Nat → Addr} {C : Addr} {H H1 : Hp} {E : XK} {c : Nat} {dat : D} {v : V} {G : List Addr} (T : OexC K (Cs c)) (hv : PySem.W.findIn K (.ref (Cs c)) "value" = some none) (t : Thr Cs H E (c, dat)) (s : Same H H1) (r : Rep H1 dat v G) (n : ∀ a ∈ G, H a = none) :
    ∀ a, H1 a = none → spTInit K [.ref a, v] (upd H1 a (exo a (Cs c) none)) (fun v' H2 => v' = .non ∧ ∃ (d : Addr) (fs : List (Str × V)), H2 a = some (exo a (Cs c) (some d)) ∧ H2 d = some (exd d fs) ∧ H1 d = none ∧ E (.ref (Cs c)) (some d) (upd (L2.del H2 a) d (.xd fs))) (fun _ _ _ => False) := fun a ha =>
  ⟨a, Cs c, v, rfl, T, hv, upd_same, fun dx hd hn => by
    have hd0 : H1 dx = none := by
      rw [upd_ne hn] at hd
      exact hd
    have st : Same H1 (upd (L2.del (upd (upd (upd H1 a (exo a (Cs c) none)) dx (exd dx [(("value" : Str), v)])) a (exo a (Cs c) (some dx))) a) dx (.xd [(("value" : Str), v)])) := fun b o e => by
      have n1 := ne_of_none e hd0
      have n2 := ne_of_none e ha
      rw [upd_ne n1, del_ne n2, upd_ne n2, upd_ne n1, upd_ne n2]
      exact e
    refine ⟨rfl, dx, [(("value" : Str), v)], upd_same, ?_, hd0, t dx _ v G (s.trans st) (s.free hd0) upd_same (r.same st) n⟩
    rw [upd_ne hn, upd_same]⟩
theorem lf_str' {z : Str} : Leaf (.str z) := .inr (.inr (.inr ⟨_, rfl⟩))
theorem lf_int' {i : Int} : Leaf (.int i) := .inr (.inr (.inl ⟨_, rfl⟩))
theorem rep_leaf {H : Hp} {v : V} (h : Leaf v) : Rep H (.leaf v) v [] := ⟨rfl, h, rfl⟩
theorem wKs_app : ∀ (a b : List Ky) (w : Wv), wKs w (a ++ b) = (wKs w a).bind fun u => wKs u b
  | [], b, w => rfl
  | k :: a, b, w => by
    show ((wIn w k).bind fun u => wKs u (a ++ b)) = ((wIn w k).bind fun u => wKs u a).bind _
    cases wIn w k with
    | none => rfl
    | some u => exact wKs_app a b u
theorem wKs_stop {ks : List Ky} {w m : Wv} {i : Nat} {k : Ky} (h : wKs w (ks.take i) = some m) (e : ks[i]? = some k) (n : wIn m k = none) : wKs w ks = none := by
  have hi := (List.getElem?_eq_some_iff.mp e).1
  have z : ks = ks.take i ++ k :: ks.drop (i + 1) := by
    have y := List.drop_eq_getElem_cons hi
    rw [(List.getElem?_eq_some_iff.mp e).2] at y
    rw [← y, List.take_append_drop]
  rw [z, wKs_app, h]
  show ((wIn m k).bind fun u => wKs u (ks.drop (i + 1))) = none
  rw [n]
  rfl
theorem wKs_go {ks : List Ky} {w m m2 : Wv} {i : Nat} {k : Ky} (h : wKs w (ks.take i) = some m) (e : ks[i]? = some k) (n : wIn m k = some m2) : wKs w (ks.take (i + 1)) = some m2 := by
  rw [List.take_add_one, e]
  show wKs w (ks.take i ++ [k]) = _
  rw [wKs_app, h]
  show ((wIn m k).bind fun u => wKs u []) = _
  rw [n]
  rfl
theorem okKy_kind {m : Wv} {k : Ky} (h : kindS m = kyS k) : okKy m k := by
  cases m <;> cases k <;> simp only [kindS, kyS] at h <;> first | trivial | exact absurd h (by decide)
theorem kind_ne {m : Wv} {k : Ky} (h : ¬ kindS m = kyS k) : ¬ Str.ofString (kindS m) = Str.ofString (kyS k) := by
  cases m <;> cases k <;> simp only [kindS, kyS] at h ⊢ <;> first | exact absurd rfl h | exact absurd trivial h | decide
theorem fits_pl : ∀ p : Pl, Fits 1000 (plN p + 1) (plD p)
  | .value => ⟨by decide, fun d hd => by
      rw [List.mem_singleton.mp hd]
      exact Fits.leaf⟩
  | .res n => ⟨by show 2 ≤ 1000; decide, fun d hd => by
      rcases List.mem_cons.mp hd with rfl | hd
      · exact Fits.leaf
      · rw [List.mem_singleton.mp hd]
        exact Fits.leaf⟩
  | .item p i => ⟨by show 3 ≤ 1000; decide, fun d hd => by
      rcases List.mem_cons.mp hd with rfl | hd
      · exact Fits.leaf
      rcases List.mem_cons.mp hd with rfl | hd
      · exact fits_pl p
      · rw [List.mem_singleton.mp hd]
        exact Fits.leaf⟩
  | .field p z => ⟨by show 3 ≤ 1000; decide, fun d hd => by
      rcases List.mem_cons.mp hd with rfl | hd
      · exact Fits.leaf
      rcases List.mem_cons.mp hd with rfl | hd
      · exact fits_pl p
      · rw [List.mem_singleton.mp hd]
        exact Fits.leaf⟩
/-- what is found at a place, or the fault -/
def foF (w : Wv) (rs : List Wv) (p : Pl) : Wv ⊕ (Nat × D) :=
  match plB p, wB w rs (plB p) with
  | some n, none => .inr (3, .leaf (.int (n : Int)))
  | _, none => .inr (2, plD p)
  | _, some u0 => match wKs u0 (plK p) with
    | some u => .inl u
    | none => .inr (2, plD p)
/-- a look's answer, or the fault -/
def anF (w : Wv) (rs : List Wv) (l : Lk) : V ⊕ (Nat × D) :=
  match foF w rs (lkP l) with
  | .inr e => .inr e
  | .inl u => match l with
    | .has p k => if kindS u = kyS k then .inl (ansW u (.has p k)) else .inr (2, plD p)
    | l => .inl (ansW u l)
def spFoundX (K : PySem.W.Frag) (Cs : Nat → Addr) : Sp := fun vs H Q E => ∃ (b ra : Addr) (x v : V) (xs : List V) (p : Pl) (w : Wv) (rs : List Wv), vs = [.ref b, x, v, .ref ra] ∧ PathAt K H b p ∧ plN p ≤ 20 ∧ RW H (plD p) x ∧ RV H w v ∧ H ra = some (.lst xs) ∧ RVs H rs xs ∧
  (∀ u, foF w rs p = .inl u → ∀ y H', Same H H' → RV H' u y → Q y H') ∧ ∀ e, foF w rs p = .inr e → Thr Cs H E e
def spAnsX (K : PySem.W.Frag) (Cs : Nat → Addr) : Sp := fun vs H Q E => ∃ (ra : Addr) (tv v : V) (xs : List V) (l : Lk) (w : Wv) (rs : List Wv), vs = [tv, v, .ref ra] ∧ RW H (lkD l) tv ∧ plN (lkP l) ≤ 20 ∧ RV H w v ∧ H ra = some (.lst xs) ∧ RVs H rs xs ∧
  (∀ a, anF w rs l = .inl a → ∀ H', Same H H' → Q a H') ∧ ∀ e, anF w rs l = .inr e → Thr Cs H E e
section
variable {P : Program} {w : World} {K : PySem.W.Frag} {mg : Str → Option Value} {base : Heap} {Cs : Nat → Addr} {fI : Addr} {fdI : FuncData}
theorem scTI : FnScope ["self", "value"] ["self", "value"] (defScope sTInit) := ⟨rfl, rfl, rfl, by decide +kernel, rfl, by decide +kernel, by decide +kernel⟩
theorem ok_tinit (F : Fun K "__init__" "TakeError.__init__" sTInit fI fdI) : FnOk P w K mg base CX0 1 fI fdI ["self", "value"] (spTInit K) := by
  refine F.ok scTI (fun vs H Q E h => ?_) (fun cdv A outer s H vs Q E hr h => ?_)
  · obtain ⟨x, C, v, rfl, _⟩ := h
    rfl
  obtain ⟨x, C, v, rfl, T, hv, hx, k⟩ := h
  refine ⟨_, pss_one (ps_ost (pv 0) (pv 1)), ?_⟩
  exact ⟨_, rfl, _, rfl, x, C, rfl, T, hv, .inl ⟨hx, fun dx n ne => k dx n ne⟩⟩
theorem ok_foundX {f fK fW fH fF : Addr} {fd fdK fdW fdH fdF : FuncData} (F : Fun K "found_at" "found_at" sFoundAt f fd) (T : Txt K mg) (C : ECls K mg Cs fI) (FI : Fun K "__init__" "TakeError.__init__" sTInit fI fdI) (bI : Binds K fdI ["self", "value"] [])
    (FK : Fun K "kind_of" "kind_of" sKindOf fK fdK) (GK : FnOk P w K mg base CX0 1 fK fdK ["value"] spKind) (bK : Binds K fdK ["value"] []) (mK : mg "kind_of" = some (.ref fK))
    (FW : Fun K "kind_with" "kind_with" sKindW fW fdW) (GW : FnOk P w K mg base CX0 1 fW fdW ["key"] spKindW) (bW : Binds K fdW ["key"] []) (mW : mg "kind_with" = some (.ref fW))
    (FH : Fun K "has_key" "has_key" sHasKey fH fdH) (GH : FnOk P w K mg base CX0 1 fH fdH ["found", "key"] spHasKey) (bH : Binds K fdH ["found", "key"] []) (mH : mg "has_key" = some (.ref fH))
    (FF : Fun K "fresh" "fresh" sFresh fF fdF) (GF : FnOk P w K mg base CX0 40 fF fdF ["thing"] (spCopy 40)) (bF : Binds K fdF ["thing"] []) (mF : mg "fresh" = some (.ref fF)) : FnOk P w K mg base (L2.CX P w) 41 f fd ["path", "place", "value", "results"] (spFoundX K Cs) := by
  have GI : FnOk P w K mg base CX0 1 fI fdI ["self", "value"] (spTInit K) := ok_tinit FI
  refine F.okX scFa (fun vs H Q E h => ?_) (fun cdv A outer s H vs Q E hr h => ?_)
  · obtain ⟨b, ra, x, v, xs, p, w, rs, rfl, _⟩ := h
    rfl
  obtain ⟨b, ra, x, v, xs, p, w0, rs, rfl, hb, hn, hx, hv, hra, hrs, kk, kE⟩ := h
  have hu1 : (A.deeper (envOfC "found_at" (defScope sFoundAt) s.heap.objs.size f cdv)).units + 1 < cLine := by
    have := hr.units
    omega
  have hr1 := hr.mono (show 1 ≤ 40 by decide)
  have hr2 := hr.mono (show 2 ≤ 40 by decide)
  refine ⟨_, pss_cons (ps_set (i := 4) scFa.nd rfl (Or.inl rfl) (pv 2))
    (Evl.pss_cut (ps_if (pt_cmpR (op_neD hr.units) (pe_ix ix_tup (pv 0) pe_int (fun _ _ => rfl)) pe_str (nomark _))
        (pss_cons (ps_if (pt_cmpR op_ge (pe_ix ix_tup (pv 0) pe_int (fun _ _ => rfl)) (pe_callB call_len_seq (by rfl) T.len PySem.boot_len (pa_cons (pv 3) pa_nil)) (nomark _))
            (pss_one (ps_raise rfl (takes_of rfl rfl rfl rfl) (pmk_oex (C.oex 3 (by decide)) (C.ini 3 (by decide)) C.tI GI hr2 bI .nil pass0 rfl (C.mg 3 _ rfl) (pa_cons (pe_ix ix_tup (pv 0) pe_int (fun _ _ => rfl)) pa_nil)))) pss_nil)
          (pss_one (ps_set (i := 4) scFa.nd rfl (Or.inl rfl) (pe_ix ix_list (pv 3) (pe_ix ix_tup (pv 0) pe_int (fun _ _ => rfl)) (fun _ _ => rfl))))) pss_nil)
    (Evl.pss_cut (ps_for (passes_of rfl) rfl (pi_tup (pe_slice sl_tup (pv 0) (po_some pe_int) po_none)) (pg_name (i := 5) scFa.nd rfl (Or.inl rfl))
        (pss_cons (ps_if (PW.pt (pw_or (pt_cmpR op_ne (pe_call GK hr1 rfl mK FK.kp bK .nil pass0 (pa_cons (pv 4) pa_nil)) (pe_call GW hr1 rfl mW FW.kp bW .nil pass0 (pa_cons (pv 5) pa_nil)) (nomark _)) (pw_or1 (pt_not (pt_val (pe_call GH hr1 rfl mH FH.kp bH .nil pass0 (pa_cons (pv 4) (pa_cons (pv 5) pa_nil))))))))
            (pss_one (ps_raise rfl (takes_of rfl rfl rfl rfl) (pmk_oex (C.oex 2 (by decide)) (C.ini 2 (by decide)) C.tI GI hr2 bI .nil pass0 rfl (C.mg 2 _ rfl) (pa_cons (pe_call GF hr rfl mF FF.kp bF .nil pass0 (pa_cons (pv 1) pa_nil)) pa_nil)))) pss_nil)
          (pss_one (ps_set (i := 4) scFa.nd rfl (Or.inl rfl) (pe_either (pe_dget hu1 (pv 4) (pv 5) (fun _ _ => rfl)) (pe_ix ix_list (pv 4) (pv 5) (fun _ _ => rfl)))))))
    (pss_one (ps_ret (pv 4))))), ?_⟩
  have b0 : atI (bV (plB p) :: (plK p).map Ky.v) 0 = some (bV (plB p)) := atI_nat (j := 0) rfl
  refine ⟨_, rfl, ?_⟩
  -- where it begins
  refine ⟨fun σ' H' => H' = H ∧ ∃ u0 y, wB w0 rs (plB p) = some u0 ∧ RV H u0 y ∧ σ' = [some (.ref b), some x, some v, some (.ref ra), some y, none], ?_, ?_⟩
  · refine ⟨_, rfl, b, _, 0, _, rfl, rfl, hb, b0, ?_⟩
    cases q : plB p with
    | none =>
      refine ⟨.str (Str.ofString "value"), .str (Str.ofString "value"), .str _, .str _, by decide +kernel, by decide +kernel, _, rfl, ifF (by simp [PyData.eqv]) ?_⟩
      exact ⟨rfl, w0, v, rfl, hv, rfl⟩
    | some i =>
      refine ⟨.int (i : Int), .str (Str.ofString "value"), .int _, .str _, by simp [SeqAt.shaped, PyData.canLay0, PyData.depth], by decide +kernel, _, rfl, ifT (by simp [PyData.eqv]) ?_⟩
      refine ⟨_, rfl, b, _, 0, _, rfl, rfl, hb, b0, _, rfl, ra, xs, rfl, .inl (SqL.of hra), _, _, by rw [q]; rfl, rfl, _, rfl, ?_⟩
      have hxl := hrs.len
      by_cases c : i < rs.length
      · refine ifF (decide_eq_false (by omega)) ?_
        obtain ⟨y, hy, ry⟩ := hrs.back (List.getElem?_eq_getElem c)
        exact ⟨_, rfl, _, rfl, b, _, 0, _, rfl, rfl, hb, b0, ra, xs, _, y, rfl, by rw [q]; rfl, SqL.of hra, atI_nat hy, rfl, _, y, List.getElem?_eq_getElem c, ry, rfl⟩
      · refine ifT (decide_eq_true (by omega)) ?_
        have he : foF w0 rs p = .inr (3, .leaf (.int (i : Int))) := by
          have hn0 : wB w0 rs (some i) = none := List.getElem?_eq_none (by omega)
          unfold foF
          rw [q, hn0]
        refine ⟨_, rfl, b, _, 0, _, rfl, rfl, hb, b0, ?_⟩
        refine ⟨by show 1 ≤ 1000; decide, raise_at (C := Cs 3) (C.oex 3 (by decide)) (C.val 3 (by decide)) (kE _ he) (Same.refl H) (G := []) (by rw [q]; exact rep_leaf lf_int') fun _ q => nomatch q⟩
  rintro _ H1 ⟨rfl, u0, y0, hu0, ry0, rfl⟩
  have hfo : (∃ u, wKs u0 (plK p) = some u ∧ foF w0 rs p = .inl u) ∨ wKs u0 (plK p) = none ∧ foF w0 rs p = .inr (2, plD p) := by
    unfold foF
    cases q : wKs u0 (plK p) with
    | some u =>
      refine .inl ⟨u, rfl, ?_⟩
      rw [hu0]
      cases plB p <;> (show (match wKs u0 (plK p) with | some u => Sum.inl u | none => .inr (2, plD p)) = Sum.inl u; rw [q])
    | none =>
      refine .inr ⟨rfl, ?_⟩
      rw [hu0]
      cases plB p <;> (show (match wKs u0 (plK p) with | some u => Sum.inl u | none => .inr (2, plD p)) = Sum.inr (2, plD p); rw [q])
  -- inwards
  refine ⟨fun σ' H' => Same H1 H' ∧ ∃ (u : Wv) (y : V) (v5 : Option V), wKs u0 (plK p) = some u ∧ RV H' u y ∧ σ' = [some (.ref b), some x, some v, some (.ref ra), some y, v5], ?_, ?_⟩
  · refine ⟨_, rfl, _, rfl, b, _, rfl, hb, ?_, fun t ht => ?_⟩
    · rw [List.length_cons]
      intro z
      have z1 := z.1
      rw [show HT.sIx (((plK p).map Ky.v).length + 1) 0 (some (1 : Int)) = 1 by rw [show (1 : Int) = ((1 : Nat) : Int) from rfl, HT.sIx_nat]; omega] at z1
      cases z1
    have ec : cutV (bV (plB p) :: (plK p).map Ky.v) (some 1) none = (plK p).map Ky.v := by
      unfold cutV
      rw [HT.sIx_none, show (1 : Int) = ((1 : Nat) : Int) from rfl, HT.sIx_nat, List.length_cons, show min 1 (((plK p).map Ky.v).length + 1) = 1 by omega]
      show ((plK p).map Ky.v).take (((plK p).map Ky.v).length + 1 - 1) = _
      rw [Nat.add_sub_cancel, List.take_length]
    rw [ec]
    have st := same_new ht (.tup ((plK p).map Ky.v))
    have et : (upd H1 t (.tup ((plK p).map Ky.v))) t = some (.tup ((plK p).map Ky.v)) := upd_same
    generalize upd H1 t (.tup ((plK p).map Ky.v)) = H2 at st et ⊢
    refine ⟨t, rfl, ⟨_, SqT.of et⟩, ?_⟩
    refine for_tup (K := K) (a := t) (xs := (plK p).map Ky.v) (fun i σ' H' => Same H2 H' ∧ ∃ (m : Wv) (y : V) (v5 : Option V), wKs u0 ((plK p).take i) = some m ∧ RV H' m y ∧ σ' = [some (.ref b), some x, some v, some (.ref ra), some y, v5])
      ⟨Same.refl _, u0, y0, _, rfl, ry0.same st, rfl⟩ (fun i σ' H' _ h => SqT.of (h.1 _ _ et)) ?_ ?_
    · rintro i z σ' H3 hi ⟨hs3, m, y, v5, hm, ry, rfl⟩
      rw [List.getElem?_map] at hi
      obtain ⟨k, hk, rfl⟩ : ∃ k, (plK p)[i]? = some k ∧ k.v = z := by
        cases e : (plK p)[i]? with
        | none =>
          rw [e] at hi
          cases hi
        | some k =>
          rw [e] at hi
          exact ⟨k, rfl, Option.some.inj hi⟩
      have hs13 := st.trans hs3
      have bad : wIn m k = none → ∀ {Hn : Hp}, Same H1 Hn → ∃ v2, ([some (V.ref b), some x, some v, some (V.ref ra), some y, some k.v] : L2.St)[1]? = some (some v2) ∧ spCopy 40 ([v2] ++ []) Hn (fun u H' => [u].length ≤ 1000 ∧ ∀ a, H' a = none → spTInit K (V.ref a :: ([u] ++ [])) (upd H' a (exo a (Cs 2) none)) (fun v' H2 => v' = .non ∧ ∃ (d : Addr) (fs : List (Str × V)), H2 a = some (exo a (Cs 2) (some d)) ∧ H2 d = some (exd d fs) ∧ H' d = none ∧ E (.ref (Cs 2)) (some d) (upd (L2.del H2 a) d (.xd fs))) (fun _ _ _ => False)) (fun _ _ _ => False) := by
        intro hb2 Hn hsn
        have he : foF w0 rs p = .inr (2, plD p) := by
          rcases hfo with ⟨u, h1, _⟩ | ⟨_, h2⟩
          · rw [wKs_stop hm hk hb2] at h1
            cases h1
          · exact h2
        exact ⟨x, rfl, x, plD p, plN p + 1, rfl, by omega, hx.same hsn, fits_pl p, fun u H4 G hs4 hu hG => ⟨by show 1 ≤ 1000; decide, raise_at (C := Cs 2) (C.oex 2 (by decide)) (C.val 2 (by decide)) (kE _ he) (hsn.trans hs4) hu fun a ha => hsn.free (hG a ha)⟩⟩
      refine ⟨_, rfl, y, m, rfl, ry, _, rfl, k, rfl, rfl, _, rfl, ?_⟩
      by_cases c : kindS m = kyS k
      · refine ifF (by rw [c, decide_eq_true rfl]; rfl) ?_
        refine ⟨_, rfl, _, rfl, y, m, k, rfl, ry, okKy_kind c, _, rfl, ?_⟩
        cases hw : wIn m k with
        | none => exact iteT (bad hw hs13)
        | some m2 =>
          refine iteF ?_
          have e3 := wKs_go hm hk hw
          have ok := okKy_kind c
          cases m with
          | non => exact ok.elim
          | int j => exact ok.elim
          | row ws =>
            cases k with
            | fd z => exact ok.elim
            | ix j =>
              obtain ⟨a, ys, rfl, ha, hr2⟩ := ry
              obtain ⟨y2, hy2, ry2⟩ := hr2.back (show ws[j]? = some m2 from hw)
              exact .inr ⟨_, rfl, _, rfl, a, ys, _, y2, rfl, rfl, SqL.of ha, atI_nat hy2, hs3, m2, y2, _, e3, ry2, rfl⟩
          | rcd ns ws =>
            cases k with
            | ix j => exact ok.elim
            | fd z =>
              obtain ⟨a, ys, rfl, ha, hln, hr2⟩ := ry
              obtain ⟨y2, hy2, ry2⟩ := (kz_val (ns := ns) (z := z) hr2).1 m2 hw
              refine .inl ⟨_, rfl, _, rfl, a, y2, rfl, ?_, hs3, m2, y2, _, e3, ry2, rfl⟩
              rw [← hy2]
              exact DGet.k (k := Sum.inr z) ha
      · refine ifT (by rw [decide_eq_false (fun z => kind_ne c (V.str.inj z))]; rfl) (bad ?_ hs13)
        cases hw : wIn m k with
        | none => rfl
        | some m2 => exact absurd (okKy_of hw).2 c
    · rintro σ' H3 ⟨hs3, m, y, v5, hm, ry, rfl⟩
      rw [List.length_map, List.take_length] at hm
      exact ⟨st.trans hs3, m, y, v5, hm, ry, rfl⟩
  rintro _ H2 ⟨hs2, u, y, v5, hu, ry, rfl⟩
  rcases hfo with ⟨u', h1, h2⟩ | ⟨h1, _⟩
  · rw [hu] at h1
    obtain rfl := Option.some.inj h1
    exact ⟨_, rfl, kk u h2 y H2 hs2 ry⟩
  · rw [hu] at h1
    cases h1
end
end K02
set_option Elab.async false
set_option linter.all false
set_option maxRecDepth 100000
set_option maxHeartbeats 4000000
namespace K02
open PySem L2 PyProof.Rows
/-- a tree leads to a tree within -/
inductive To (w : Wv) (rs : List Wv) : Nat → Tr → Tr → Prop
  | done (n : Nat) (L : Tr) : To w rs n L L
  | step {n : Nat} {l : Lk} {a : V} {as : List V} {ts : List Tr} {i : Nat} {t L : Tr} (h1 : anF w rs l = .inl a) (hp : plN (lkP l) ≤ 20) (h3 : as[i]? = some a) (h4 : ∀ j, j < i → as[j]? ≠ some a) (h5 : ts[i]? = some t) (h6 : To w rs n t L) (hl : as.length = ts.length) (ha : ∀ b ∈ as, scal b a = true) (hn : a ≠ .non) : To w rs (n + 1) (.look l as ts) L
theorem scal_comm (a b : V) : scal a b = scal b a := by cases a <;> cases b <;> rfl
def spWayX : Sp := fun vs H Q _ => ∃ (la : Addr) (v : V) (xs : List V) (as : List V) (ts : List Tr), vs = [.ref la, v] ∧ H la = some (.lst xs) ∧ RWs H (List.zipWith wayD as (trDs ts)) xs ∧ as.length = ts.length ∧ (∀ a ∈ as, scal a v = true) ∧
  (∀ (i : Nat) (t : Tr), as[i]? = some v → (∀ j : Nat, j < i → as[j]? ≠ some v) → ts[i]? = some t → ∀ x, RW H (trD t) x → Q x H) ∧ (v ∉ as → Q .non H)
/-- where a walk comes to -/
def EndX (Cs : Nat → Addr) (w0 : Wv) (rs : List Wv) (L : Tr) (H : Hp) (Q : VK) (E : XK) : Prop :=
  (∃ d m, L = .fin d ∧ Fits 1000 m d ∧ m + 1 ≤ 40 ∧ ∀ u H' G, Same H H' → Rep H' d u G → (∀ a ∈ G, H a = none) → Q u H') ∨
  ∃ (l : Lk) (as : List V) (ts : List Tr) (e : Nat × D), L = .look l as ts ∧ plN (lkP l) ≤ 20 ∧ (anF w0 rs l = .inr e ∨ ∃ a, anF w0 rs l = .inl a ∧ e = (1, .leaf a) ∧ Leaf a ∧ a ∉ as ∧ as.length = ts.length ∧ ∀ b ∈ as, scal b a = true) ∧ Thr Cs H E e
theorem EndX.same {Cs : Nat → Addr} {w0 : Wv} {rs : List Wv} {L : Tr} {H H1 : Hp} {Q : VK} {E : XK} (h : EndX Cs w0 rs L H Q E) (s : Same H H1) : EndX Cs w0 rs L H1 Q E := by
  rcases h with ⟨d, m, e, h1, h2, k⟩ | ⟨l, as, ts, e, e1, h1, h2, k⟩
  · exact .inl ⟨d, m, e, h1, h2, fun u H' G s2 hr hG => k u H' G (s.trans s2) hr fun a ha => s.free (hG a ha)⟩
  · exact .inr ⟨l, as, ts, e, e1, h1, h2, k.same s⟩
def spWalkX (K : PySem.W.Frag) (Cs : Nat → Addr) : Sp := fun vs H Q E => ∃ (tv v : V) (ra : Addr) (xs : List V) (w : Wv) (rs : List Wv) (T L : Tr) (N : Nat), vs = [tv, v, .ref ra] ∧ RW H (trD T) tv ∧ RV H w v ∧ H ra = some (.lst xs) ∧ RVs H rs xs ∧ To w rs N T L ∧ EndX Cs w rs L H Q E
section
variable {P : Program} {w : World} {K : PySem.W.Frag} {mg : Str → Option Value} {base : Heap} {Cs : Nat → Addr} {fI : Addr} {fdI : FuncData}
theorem ok_ansatX {f fL fF fK fW fH fR : Addr} {fd fdL fdF fdK fdW fdH fdR : FuncData} (F : Fun K "answer_at" "answer_at" sAnsAt f fd) (C : ECls K mg Cs fI) (FI : Fun K "__init__" "TakeError.__init__" sTInit fI fdI) (bI : Binds K fdI ["self", "value"] [])
    (FL : Fun K "look_of" "look_of" sLookOf fL fdL) (GL : FnOk P w K mg base CX0 25 fL fdL ["told"] (spLookOf K)) (bL : Binds K fdL ["told"] []) (mL : mg "look_of" = some (.ref fL))
    (FF : Fun K "found_at" "found_at" sFoundAt fF fdF) (GF : FnOk P w K mg base (L2.CX P w) 41 fF fdF ["path", "place", "value", "results"] (spFoundX K Cs)) (bF : Binds K fdF ["path", "place", "value", "results"] []) (mF : mg "found_at" = some (.ref fF))
    (FK : Fun K "kind_of" "kind_of" sKindOf fK fdK) (GK : FnOk P w K mg base CX0 1 fK fdK ["value"] spKind) (bK : Binds K fdK ["value"] []) (mK : mg "kind_of" = some (.ref fK))
    (FW : Fun K "kind_with" "kind_with" sKindW fW fdW) (GW : FnOk P w K mg base CX0 1 fW fdW ["key"] spKindW) (bW : Binds K fdW ["key"] []) (mW : mg "kind_with" = some (.ref fW))
    (FR : Fun K "fresh" "fresh" sFresh fR fdR) (GR : FnOk P w K mg base CX0 40 fR fdR ["thing"] (spCopy 40)) (bR : Binds K fdR ["thing"] []) (mR : mg "fresh" = some (.ref fR))
    (FH : Fun K "has_key" "has_key" sHasKey fH fdH) (GH : FnOk P w K mg base CX0 1 fH fdH ["found", "key"] spHasKey) (bH : Binds K fdH ["found", "key"] []) (mH : mg "has_key" = some (.ref fH)) : FnOk P w K mg base (L2.CX P w) 42 f fd ["told", "value", "results"] (spAnsX K Cs) := by
  have GI : FnOk P w K mg base CX0 1 fI fdI ["self", "value"] (spTInit K) := ok_tinit FI
  refine F.okX scAa (fun vs H Q E h => ?_) (fun cdv A outer s H vs Q E hr h => ?_)
  · obtain ⟨ra, tv, v, xs, l, w0, rs, rfl, _⟩ := h
    rfl
  obtain ⟨ra, tv, v, xs, l, w0, rs, rfl, hl, hn, hv, hra, hrs, kk, kE⟩ := h
  have hr1 := hr.mono (show 1 ≤ 41 by decide)
  have hr2 := hr.mono (show 2 ≤ 41 by decide)
  have hr25 := hr.mono (show 25 ≤ 41 by decide)
  have hr40 := hr.mono (show 40 ≤ 41 by decide)
  refine ⟨_, pss_cons (ps_set (i := 3) scAa.nd rfl (Or.inl rfl) (pe_call GL hr25 rfl mL FL.kp bL .nil pass0 (pa_cons (pv 0) pa_nil)))
    (pss_cons (ps_set (i := 4) scAa.nd rfl (Or.inl rfl) (pe_call GF hr rfl mF FF.kp bF .nil (passes_call (takes_of rfl rfl rfl rfl) fun _ _ _ _ h => h) (pa_cons (pe_ix ix_tup (pv 3) pe_int (fun _ _ => rfl)) (pa_cons (pe_ix ix_tup (pv 0) pe_int (fun _ _ => rfl)) (pa_cons (pv 1) (pa_cons (pv 2) pa_nil))))))
    (pss_cons (ps_if (pt_cmpR op_eq (pe_ix ix_tup (pv 3) pe_int (fun _ _ => rfl)) pe_str (nomark _)) (pss_one (ps_ret (pe_call GK hr1 rfl mK FK.kp bK .nil pass0 (pa_cons (pv 4) pa_nil)))) pss_nil)
    (pss_cons (ps_if (pt_cmpR op_eq (pe_ix ix_tup (pv 3) pe_int (fun _ _ => rfl)) pe_str (nomark _)) (pss_one (ps_ret (pe_cmpR op_isN (pv 4) pe_non (nomark _)))) pss_nil)
    (pss_cons (ps_if (pt_cmpR op_ne (pe_call GK hr1 rfl mK FK.kp bK .nil pass0 (pa_cons (pv 4) pa_nil)) (pe_call GW hr1 rfl mW FW.kp bW .nil pass0 (pa_cons (pe_ix ix_tup (pv 3) pe_int (fun _ _ => rfl)) pa_nil)) (nomark _))
        (pss_one (ps_raise rfl (takes_of rfl rfl rfl rfl) (pmk_oex (C.oex 2 (by decide)) (C.ini 2 (by decide)) C.tI GI hr2 bI .nil pass0 rfl (C.mg 2 _ rfl) (pa_cons (pe_call GR hr40 rfl mR FR.kp bR .nil pass0 (pa_cons (pe_ix ix_tup (pv 0) pe_int (fun _ _ => rfl)) pa_nil)) pa_nil)))) pss_nil)
    (pss_one (ps_ret (pe_call GH hr1 rfl mH FH.kp bH .nil pass0 (pa_cons (pv 4) (pa_cons (pe_ix ix_tup (pv 3) pe_int (fun _ _ => rfl)) pa_nil))))))))), ?_⟩
  have so : ∀ {s t : String}, ¬ Str.ofString s = Str.ofString t → decide (V.str (Str.ofString s) = V.str (Str.ofString t)) = false := fun h => decide_eq_false fun e => h (V.str.inj e)
  obtain ⟨a0, x0, rfl, ha0, hx0⟩ := lk_rw hl
  refine ⟨_, rfl, _, l, rfl, hl, hn, fun a b H1 hs1 ha hb => ?_⟩
  refine ⟨_, rfl, a, _, 1, _, rfl, rfl, SqT.of ha, atI_nat (j := 1) rfl, _, rfl, a0, _, 1, _, rfl, rfl, SqT.of (hs1 _ _ ha0), atI_nat (j := 1) rfl, _, rfl, _, rfl, b, ra, x0, v, xs, lkP l, w0, rs, rfl, hb, hn, hx0.same hs1, hv.same hs1, hs1 _ _ hra, hrs.same hs1, fun u hu y H2 hs2 hy => ?_, fun e he => ?_⟩
  rotate_left
  · exact (kE e (by unfold anF; rw [he])).same hs1
  have ha2 := SqT.of (K := K) (hs2 _ _ ha)
  have s12 := hs1.trans hs2
  refine ⟨_, rfl, a, _, 0, _, rfl, rfl, ha2, atI_nat (j := 0) rfl, rfl, _, rfl, ?_⟩
  cases l with
  | what p => exact ifT (decide_eq_true rfl) ⟨_, rfl, y, u, rfl, hy, kk _ (by unfold anF; rw [show foF w0 rs (lkP (.what p)) = .inl u from hu]; rfl) H2 s12⟩
  | none p =>
    refine ifF (so (s := "none") (t := "what") (by decide)) ⟨_, rfl, a, _, 0, _, rfl, rfl, ha2, atI_nat (j := 0) rfl, rfl, _, rfl, ifT (decide_eq_true rfl) ⟨_, rfl, rfl, ?_⟩⟩
    have e : decide (y = V.non) = u.isN := by
      cases u with
      | non =>
        obtain rfl : y = .non := hy
        exact decide_eq_true rfl
      | int i =>
        obtain rfl : y = .int i := hy
        exact decide_eq_false fun z => nomatch z
      | row ws =>
        obtain ⟨_, _, rfl, _⟩ := hy
        exact decide_eq_false fun z => nomatch z
      | rcd ns ws =>
        obtain ⟨_, _, rfl, _⟩ := hy
        exact decide_eq_false fun z => nomatch z
    have z := kk (ansW u (.none p)) (by unfold anF; rw [show foF w0 rs (lkP (.none p)) = .inl u from hu]) H2 s12
    show Q (.bl (decide (y = V.non))) H2
    rw [e]
    exact z
  | has p k =>
    refine ifF (so (s := "has") (t := "what") (by decide)) ⟨_, rfl, a, _, 0, _, rfl, rfl, ha2, atI_nat (j := 0) rfl, rfl, _, rfl, ifF (so (s := "has") (t := "none") (by decide)) ?_⟩
    refine ⟨_, rfl, y, u, rfl, hy, _, rfl, a, _, 2, _, rfl, rfl, ha2, atI_nat (j := 2) rfl, k, rfl, rfl, _, rfl, ?_⟩
    by_cases c : kindS u = kyS k
    · refine ifF (by rw [c, decide_eq_true rfl]; rfl) ?_
      exact ⟨_, rfl, _, rfl, a, _, 2, _, rfl, rfl, ha2, atI_nat (j := 2) rfl, y, u, k, rfl, hy, okKy_kind c, kk _ (by unfold anF; rw [show foF w0 rs (lkP (.has p k)) = .inl u from hu]; exact if_pos c) H2 s12⟩
    · refine ifT (by rw [decide_eq_false (fun z => kind_ne c (V.str.inj z))]; rfl) ?_
      have he : anF w0 rs (.has p k) = .inr (2, plD p) := by
        unfold anF
        rw [show foF w0 rs (lkP (.has p k)) = .inl u from hu]
        exact if_neg c
      have hn' : plN p ≤ 20 := hn
      exact ⟨_, rfl, a0, _, 1, _, rfl, rfl, SqT.of (s12 _ _ ha0), atI_nat (j := 1) rfl, x0, plD p, plN p + 1, rfl, by omega, hx0.same s12, fits_pl p, fun u' H4 G hs4 hu' hG => ⟨by show 1 ≤ 1000; decide, raise_at (C := Cs 2) (C.oex 2 (by decide)) (C.val 2 (by decide)) (kE _ he) (s12.trans hs4) hu' fun a ha => s12.free (hG a ha)⟩⟩
theorem ok_waywX {f : Addr} {fd : FuncData} (F : Fun K "way_with" "way_with" sWayW f fd) : FnOk P w K mg base CX0 1 f fd ["ways", "answer"] spWayX := by
  refine F.ok scWw (fun vs H Q E h => ?_) (fun cdv A outer s H vs Q E hr h => ?_)
  · obtain ⟨la, v, xs, as, ts, rfl, _⟩ := h
    rfl
  obtain ⟨la, v, xs, as, ts, rfl, hla, hw, hlen, hsc, kk, kn⟩ := h
  refine ⟨_, pss_cons (ps_for PassesOwn.never rfl (pi_list (pv 0)) (pg_tup rfl (pgs_cons (pg_name (i := 2) scWw.nd rfl (Or.inl rfl)) (pgs_cons (pg_name (i := 3) scWw.nd rfl (Or.inl rfl)) pgs_nil)))
      (pss_one (ps_if (pt_cmpR op_eq (pv 2) (pv 1) (nomark _)) (pss_one (ps_ret (pv 3))) pss_nil)))
    (pss_one (ps_ret pe_non)), ?_⟩
  have hxl : xs.length = as.length := by
    rw [hw.len, List.length_zipWith, trDs_map, List.length_map]
    omega
  refine ⟨_, rfl, la, rfl, ⟨_, SqL.of hla⟩, ?_⟩
  refine for_list (K := K) (a := la) (xs := xs) (fun j σ' H' => H' = H ∧ (∀ i, i < j → as[i]? ≠ some v) ∧ ∃ v2 v3 : Option V, σ' = [some (.ref la), some v, v2, v3]) ⟨rfl, (fun i h => absurd h (Nat.not_lt_zero _)), _, _, rfl⟩ (fun j σ' H' _ h => by rw [h.1]; exact SqL.of hla) ?_ ?_
  · rintro j x σ' H1 hj ⟨rfl, hno, v2, v3, rfl⟩
    obtain ⟨a, t', q, y, ea, et, rfl, hq, ry⟩ := way_rw hw hlen hj
    refine ⟨q, _, rfl, SqT.of hq, rfl, _, _, rfl, _, _, rfl, rfl, ?_⟩
    refine ⟨_, rfl, _, rfl, hsc a (List.mem_of_getElem? ea), _, rfl, ?_⟩
    by_cases c : a = v
    · exact ifT (decide_eq_true c) ⟨_, rfl, kk j t' (by rw [ea, c]) hno et y ry⟩
    · refine ifF (decide_eq_false c) ⟨rfl, fun i hi z => ?_, _, _, rfl⟩
      rcases Nat.lt_or_ge i j with q | q
      · exact hno i q z
      · have e : i = j := by omega
        rw [e, ea] at z
        exact c (Option.some.inj z)
  · rintro σ' H1 ⟨rfl, hno, _, _, rfl⟩
    refine kn fun z => ?_
    obtain ⟨i, hi⟩ := List.getElem?_of_mem z
    exact hno i (by rw [hxl]; exact (List.getElem?_eq_some_iff.mp hi).1) hi
theorem ok_walkX {f fA fW fF : Addr} {fd fdA fdW fdF : FuncData} (F : Fun K "walk" "walk" sWalk f fd) (C : ECls K mg Cs fI) (FI : Fun K "__init__" "TakeError.__init__" sTInit fI fdI) (bI : Binds K fdI ["self", "value"] [])
    (FA : Fun K "answer_at" "answer_at" sAnsAt fA fdA) (GA : FnOk P w K mg base (L2.CX P w) 42 fA fdA ["told", "value", "results"] (spAnsX K Cs)) (bA : Binds K fdA ["told", "value", "results"] []) (mA : mg "answer_at" = some (.ref fA))
    (FW : Fun K "way_with" "way_with" sWayW fW fdW) (GW : FnOk P w K mg base CX0 1 fW fdW ["ways", "answer"] spWayX) (bW : Binds K fdW ["ways", "answer"] []) (mW : mg "way_with" = some (.ref fW))
    (FF : Fun K "fresh" "fresh" sFresh fF fdF) (GF : FnOk P w K mg base CX0 40 fF fdF ["thing"] (spCopy 40)) (bF : Binds K fdF ["thing"] []) (mF : mg "fresh" = some (.ref fF)) : FnOk P w K mg base (L2.CX P w) 43 f fd ["told", "value", "results"] (spWalkX K Cs) := by
  have GI : FnOk P w K mg base CX0 1 fI fdI ["self", "value"] (spTInit K) := ok_tinit FI
  refine F.okX scWk (fun vs H Q E h => ?_) (fun cdv A outer s H vs Q E hr h => ?_)
  · obtain ⟨tv, v, ra, xs, w0, rs, T, L, N, rfl, _⟩ := h
    rfl
  obtain ⟨tv, v, ra, xs, w0, rs, T, L, N, rfl, ht, hv, hra, hrs, hTo, hE⟩ := h
  have hr1 := hr.mono (show 1 ≤ 42 by decide)
  have hr2 := hr.mono (show 2 ≤ 42 by decide)
  have hr40 := hr.mono (show 40 ≤ 42 by decide)
  refine ⟨_, Evl.pss_cut (ps_while (passes_of rfl) (pt_cmpR op_eq (pe_ix ix_tup (pv 0) pe_int (fun _ _ => rfl)) pe_str (nomark _))
      (pss_cons (ps_set (i := 3) scWk.nd rfl (Or.inl rfl) (pe_call GA hr rfl mA FA.kp bA .nil (passes_call (takes_of rfl rfl rfl rfl) fun _ _ _ _ h => h) (pa_cons (pe_ix ix_tup (pv 0) pe_int (fun _ _ => rfl)) (pa_cons (pv 1) (pa_cons (pv 2) pa_nil)))))
      (pss_cons (ps_set (i := 4) scWk.nd rfl (Or.inl rfl) (pe_call GW hr1 rfl mW FW.kp bW .nil pass0 (pa_cons (pe_ix ix_tup (pv 0) pe_int (fun _ _ => rfl)) (pa_cons (pv 3) pa_nil))))
      (pss_cons (ps_if (pt_cmpR op_isN (pv 4) pe_non (nomark _)) (pss_one (ps_raise rfl (takes_of rfl rfl rfl rfl) (pmk_oex (C.oex 1 (by decide)) (C.ini 1 (by decide)) C.tI GI hr2 bI .nil pass0 rfl (C.mg 1 _ rfl) (pa_cons (pv 3) pa_nil)))) pss_nil)
      (pss_one (ps_set (i := 0) scWk.nd rfl (Or.inl rfl) (pv 4)))))))
    (pss_one (ps_ret (pe_call GF hr40 rfl mF FF.kp bF .nil pass0 (pa_cons (pe_ix ix_tup (pv 0) pe_int (fun _ _ => rfl)) pa_nil)))), ?_⟩
  have so : ∀ {s t : String}, ¬ Str.ofString s = Str.ofString t → decide (V.str (Str.ofString s) = V.str (Str.ofString t)) = false := fun h => decide_eq_false fun e => h (V.str.inj e)
  refine ⟨fun σ' H' => Same H H' ∧ ∃ (d : D) (tv : V) (v3 v4 : Option V), L = .fin d ∧ RW H' (trD L) tv ∧ σ' = [some tv, some v, some (.ref ra), v3, v4], ?_, ?_⟩
  · refine ⟨fun N σ' H' => Same H H' ∧ ∃ (T : Tr) (tv : V) (v3 v4 : Option V), RW H' (trD T) tv ∧ To w0 rs N T L ∧ σ' = [some tv, some v, some (.ref ra), v3, v4], ⟨N, Same.refl _, T, tv, _, _, ht, hTo, rfl⟩, ?_⟩
    rintro N σ' H1 ⟨hs1, T, tv, v3, v4, ht, hTo, rfl⟩
    cases hTo with
    | done N L =>
      have hE1 := hE.same hs1
      rcases hE with ⟨d, m, rfl, hF, hm, _⟩ | ⟨l, as, ts, e, rfl, hpl, hcase, _⟩
      · have ht' := ht
        rw [trD] at ht'
        obtain ⟨a, ys, rfl, ha, x0, _, rfl, h0, _⟩ := ht'
        obtain ⟨rfl, _⟩ := h0
        exact ⟨_, rfl, a, _, 0, _, rfl, rfl, SqT.of ha, atI_nat (j := 0) rfl, rfl, _, rfl, ifF (so (by decide)) ⟨hs1, d, _, _, _, rfl, ht, rfl⟩⟩
      · rcases hE1 with ⟨d, m, z, _⟩ | ⟨l', as', ts', e', z, _, hcase', hThr⟩
        · cases z
        cases z
        rw [trD] at ht
        obtain ⟨a, ys, rfl, ha, x0, _, rfl, h0, x1, _, rfl, hx1, x2, _, rfl, hx2, hnil⟩ := ht
        obtain rfl : _ = [] := hnil
        obtain ⟨rfl, _⟩ := h0
        obtain ⟨la, zs, rfl, hla, hzs⟩ := hx2
        refine ⟨_, rfl, a, _, 0, _, rfl, rfl, SqT.of ha, atI_nat (j := 0) rfl, rfl, _, rfl, ifT (decide_eq_true rfl) ?_⟩
        refine ⟨fun _ _ => False, fun _ _ h => h.elim, ?_⟩
        refine ⟨_, rfl, a, _, 1, _, rfl, rfl, SqT.of ha, atI_nat (j := 1) rfl, _, rfl, _, rfl, ra, x1, v, xs, l, w0, rs, rfl, hx1, hpl, hv.same hs1, hs1 _ _ hra, hrs.same hs1, fun an han H2 hs2 => ?_, fun e2 he2 => ?_⟩
        · rcases hcase' with h | ⟨a2, h, rfl, hlf, hni, hl, hsc⟩
          · rw [h] at han
            cases han
          rw [h] at han
          cases han
          refine ⟨_, rfl, a, _, 2, _, rfl, rfl, SqT.of (hs2 _ _ ha), atI_nat (j := 2) rfl, _, rfl, la, _, zs, as, ts, rfl, hs2 _ _ hla, hzs.same hs2, hl, hsc, fun i t hi => absurd (List.mem_of_getElem? hi) hni, fun _ => ?_⟩
          refine ⟨_, rfl, rfl, _, rfl, ifT (decide_eq_true rfl) ?_⟩
          exact ⟨_, rfl, by show 1 ≤ 1000; decide, raise_at (C := Cs 1) (C.oex 1 (by decide)) (C.val 1 (by decide)) hThr hs2 (G := []) (rep_leaf hlf) fun _ q => nomatch q⟩
        · rcases hcase' with h | ⟨a2, h, _⟩
          · rw [h] at he2
            cases he2
            exact hThr
          · rw [h] at he2
            cases he2
    | @step n l an as ts i t L h1 hp h3 h4 h5 h6 hl hsc hnn =>
      rw [trD] at ht
      obtain ⟨a, ys, rfl, ha, x0, _, rfl, h0, x1, _, rfl, hx1, x2, _, rfl, hx2, hnil⟩ := ht
      obtain rfl : _ = [] := hnil
      obtain ⟨rfl, _⟩ := h0
      obtain ⟨la, zs, rfl, hla, hzs⟩ := hx2
      refine ⟨_, rfl, a, _, 0, _, rfl, rfl, SqT.of ha, atI_nat (j := 0) rfl, rfl, _, rfl, ifT (decide_eq_true rfl) ?_⟩
      refine ⟨fun σ' H' => Same H H' ∧ ∃ (T : Tr) (tv : V) (v3 v4 : Option V), RW H' (trD T) tv ∧ To w0 rs n T L ∧ σ' = [some tv, some v, some (.ref ra), v3, v4], fun σ' H' hh => ⟨n, Nat.lt_succ_self n, hh⟩, ?_⟩
      refine ⟨_, rfl, a, _, 1, _, rfl, rfl, SqT.of ha, atI_nat (j := 1) rfl, _, rfl, _, rfl, ra, x1, v, xs, l, w0, rs, rfl, hx1, hp, hv.same hs1, hs1 _ _ hra, hrs.same hs1, fun an2 han H2 hs2 => ?_, fun e2 he2 => ?_⟩
      rotate_left
      · rw [h1] at he2
        cases he2
      rw [h1] at han
      cases han
      refine ⟨_, rfl, a, _, 2, _, rfl, rfl, SqT.of (hs2 _ _ ha), atI_nat (j := 2) rfl, _, rfl, la, _, zs, as, ts, rfl, hs2 _ _ hla, hzs.same hs2, hl, hsc, fun i' t' hi' hno' ht' x hx => ?_, fun hni => absurd (List.mem_of_getElem? h3) hni⟩
      have ei : i' = i := by
        rcases Nat.lt_trichotomy i' i with c | c | c
        · exact absurd hi' (h4 i' c)
        · exact c
        · exact absurd h3 (hno' i c)
      subst ei
      rw [h5] at ht'
      cases ht'
      refine ⟨_, rfl, rfl, _, rfl, ifF (decide_eq_false fun z => ?_) ⟨_, rfl, hs1.trans hs2, t, x, _, _, hx, h6, rfl⟩⟩
      subst z
      cases t with
      | fin d' =>
        rw [trD] at hx
        obtain ⟨_, _, z, _⟩ := hx
        cases z
      | look l' as' ts' =>
        rw [trD] at hx
        obtain ⟨_, _, z, _⟩ := hx
        cases z
  rintro _ H1 ⟨hs1, d, tv, v3, v4, rfl, ht, rfl⟩
  rcases hE with ⟨d', m, z, hF, hm, kk⟩ | ⟨l, as, ts, e, z, _⟩
  · cases z
    rw [trD] at ht
    obtain ⟨a, ys, rfl, ha, x0, _, rfl, h0, x1, _, rfl, hx1, hnil⟩ := ht
    obtain rfl : _ = [] := hnil
    exact ⟨_, rfl, a, _, 1, _, rfl, rfl, SqT.of ha, atI_nat (j := 1) rfl, x1, d, m, rfl, hm, hx1, hF, fun u H2 G hs2 hu hG => kk u H2 G (hs1.trans hs2) hu fun b hb => hs1.free (hG b hb)⟩
  · cases z
end
end K02
set_option Elab.async false
set_option linter.all false
set_option maxRecDepth 100000
set_option maxHeartbeats 2000000
/-! An object made in a try; what a suite asks of the own error that it holds. -/
namespace L2
open PySem PySem.Spec PyProof.Rows
/-- C(e, ..) in a try: a new instance, then __init__, which may raise -/
def tMakeS (C : Addr) (sp : Sp) (E : St → XK) (t : TA) : TE := fun σ H Q => t σ H fun vs H1 => ∀ y dy, H1 y = none → H1 dy = none → dy ≠ y → sp (.ref y :: vs) (upd (upd H1 dy (.own y)) y (.ins C dy [])) (fun v H2 => v = .non ∧ Q (.ref y) H2) (E σ)
def tMakeKS (C : Addr) (m : Nat) (sp : Sp) (gV : List V → List V → List V) (E : St → XK) (tk : TA) : TE := fun σ H Q => tk σ H fun zs H1 => zs.length = m ∧ ∀ y dy, H1 y = none → H1 dy = none → dy ≠ y → sp (gV [.ref y] zs) (upd (upd H1 dy (.own y)) y (.ins C dy [])) (fun v H2 => v = .non ∧ Q (.ref y) H2) (E σ)
section
variable {X : Cx} {CX : CXT} {k : Nat} {f C : Addr} {fd : FuncData} {ps ks : List Str} {sp : Sp} {x : Str} {p pos : Pos} {e : Expr} {es : List Expr} {kws : List Keyword} {t tk : TA} {E : St → XK}
variable {g : List Value → List Value → List Value} {gV : List V → List V → List V}
/-- the class is called with us and keywords, its __init__ bound to qs -/
theorem run_makeS {pins : List (Addr × Obj)} {σ : St} {H : Hp} {s : Shared} {Q : VK} {us ws qs : List Value} {vs : List V} (M : Mk X.K C f) (F : FnOk X.prog X.w X.K X.mg X.base CX k f fd ps sp) (hr : Room (k + 1) X.A) (hx : ∀ σ, PassesAt CX X σ (E σ)) (I : Inv X pins σ H s)
    (hb : ∀ z : Shared, X.K.In z.heap → BindsTo z fd ⟨.ref (s.heap.objs.size + 1) :: us, ks.zip ws⟩ (ps.zip qs)) (r : Vals vs qs)
    (h : sp vs (upd (upd H s.heap.objs.size (.own (s.heap.objs.size + 1))) (s.heap.objs.size + 1) (.ins C s.heap.objs.size [])) (fun v H2 => v = .non ∧ Q (.ref (s.heap.objs.size + 1)) H2) (E σ)) :
    wpAny (model X.prog X.w) X.A (call (.ref C) us (ks.zip ws)) (EP X pins σ Q) X.xe s := by
  have J := Inv.made (C := C) I
  have ran := F.run _ X.stack _ _ ⟨Value.ref (s.heap.objs.size + 1) :: us, ks.zip ws⟩ qs vs _ (E σ) (hr.make C us (ks.zip ws)) (J.env0.make C us (ks.zip ws)) (hb _ J.kIn) r h
  refine wpAny_call (make_map (f := f) I.kIn M.makes M.init (beq_iff_eq.mp M.fn) (codeAny_mono ran fun rr z hz => ?_))
  rcases rr with er | (u | _ | _ | _) <;> first | exact hx σ pins _ _ er z J hz | exact hz.elim | skip
  obtain ⟨v, H', J2, rv, ev, q3⟩ := J.after hz
  subst ev
  exact ⟨rv, V.ref (s.heap.objs.size + 1), H', J2, rfl, q3⟩
theorem pe_makeS (M : Mk X.K C f) (F : FnOk X.prog X.w X.K X.mg X.base CX k f fd ps sp) (hr : Room (k + 1) X.A) (hg : Gl X x) (hm : X.mg x = some (.ref C)) (hb : Binds X.K fd ps []) (hx : ∀ σ, PassesAt CX X σ (E σ)) (ha : PA X (e :: es) t)
    (hdb : (x == ("__debug__" : Str)) = false := by decide) (hs : starEach (e :: es) X.env = (false, eval e X.env) :: starEach es X.env := by rfl) (hpl : (backTo pos (starEach es X.env)).any (·.1) = false := by rfl) :
    PE X (.Call (.Name x p) (e :: es) [] pos) (tMakeS C sp E t) := by
  refine ⟨fun pins s σ H Q I h => wpAny_Call_Name_kw (ld_glob I hg hm ?_ hdb)⟩
  refine PySem.W.callWith_K (h₀ := X.base) I.ok.mod.kin M.kp (thn (ha.run pos pins s σ H _ I h) fun us z ⟨vs, H1, J, r, q⟩ => ⟨J.kIn, ?_⟩) hs hpl
  have hq := q (z.heap.objs.size + 1) z.heap.objs.size (J.hok.fresh (Nat.le_succ _)) (J.hok.fresh (Nat.le_refl _)) (Nat.ne_of_lt (Nat.lt_succ_self _))
  have r2 : Vals (V.ref (z.heap.objs.size + 1) :: vs) (Value.ref (z.heap.objs.size + 1) :: us) := .cons rfl r
  have hl : (Value.ref (z.heap.objs.size + 1) :: us).length = ps.length := by
    rw [← r2.length]
    exact F.len _ _ _ _ hq
  refine run_makeS (ks := []) (ws := []) M F hr hx J (fun y hy => ?_) r2 hq
  have b := hb y (Value.ref (z.heap.objs.size + 1) :: us) hy (by rw [List.append_nil]; exact hl)
  rw [List.append_nil] at b
  exact b
theorem pe_makeKS (M : Mk X.K C f) (F : FnOk X.prog X.w X.K X.mg X.base CX k f fd ps sp) (hr : Room (k + 1) X.A) (hg : Gl X x) (hm : X.mg x = some (.ref C)) (hb : KBn X.K fd ps 1 ks g gV) (hx : ∀ σ, PassesAt CX X σ (E σ)) (hkw : PK X kws tk)
    (hall : (backToKw pos (keywordEach kws X.env)).all (·.1.isSome) = true := by rfl) (hks : (backToKw pos (keywordEach kws X.env)).filterMap (·.1) = ks := by rfl) (hdb : (x == ("__debug__" : Str)) = false := by decide)
    (hpl : ((backTo pos (starEach [] X.env)).any (·.1) || (backToKw pos (keywordEach kws X.env)).any (·.1.isNone)) = false := by rfl) :
    PE X (.Call (.Name x p) [] kws pos) (tMakeKS C ks.length sp gV E tk) := by
  refine ⟨fun pins s σ H Q I h => wpAny_Call_Name_kw (ld_glob I hg hm ?_ hdb)⟩
  refine PySem.W.callWith_KW0 (h₀ := X.base) I.ok.mod.kin M.kp hall ?_ hpl
  refine thn (hkw.run pos pins s σ H _ I h) fun ws z ⟨zs, H1, J, rz, l2, q⟩ => ⟨J.kIn, ?_⟩
  rw [hks]
  have hq := q (z.heap.objs.size + 1) z.heap.objs.size (J.hok.fresh (Nat.le_succ _)) (J.hok.fresh (Nat.le_refl _)) (Nat.ne_of_lt (Nat.lt_succ_self _))
  have r1 : Vals [V.ref (z.heap.objs.size + 1)] [Value.ref (z.heap.objs.size + 1)] := .cons rfl .nil
  exact run_makeS (us := []) M F hr hx J (fun y hy => hb.to y [Value.ref (z.heap.objs.size + 1)] ws hy rfl (rz.length.symm.trans l2)) (hb.rel r1 rz) hq
end
/-! ### the error that a suite holds -/
/-- isinstance(e, c) -/
def rIsS (K : PySem.W.Frag) (a : Addr) (cls : Value) (d : Option Addr) : List V → Hp → VK → Prop := fun xs H Q => ∃ (D dd : Addr) (fs : List (Str × V)) (c : V) (u : Value) (b : Bool), cls = .ref D ∧ d = some dd ∧ ExcW K D ∧ xs = [.ref a, c] ∧ ClsV c u ∧ H dd = some (.xd fs) ∧ PySem.W.kitOne K (.ref D) u = some b ∧ Q (.bl b) H
/-- isinstance(e, (c, ..)) -/
def rIsST (K : PySem.W.Frag) (a : Addr) (cls : Value) (d : Option Addr) : List V → Hp → VK → Prop := fun xs H Q => ∃ (D dd : Addr) (fs : List (Str × V)) (tp : Addr) (cs : List V) (us : List Value) (b : Bool), cls = .ref D ∧ d = some dd ∧ ExcW K D ∧ xs = [.ref a, .ref tp] ∧ H tp = some (.tup cs) ∧ Paired ClsV cs us ∧ H dd = some (.xd fs) ∧ PySem.W.kitAny K (.ref D) us = some b ∧ Q (.bl b) H
/-- e.f -/
def tValS (K : PySem.W.Frag) (f : Str) (a : Addr) (cls : Value) (d : Option Addr) (te : TE) : TE := fun σ H Q => te σ H fun x H1 => ∃ (D dd : Addr) (fs : List (Str × V)) (v : V), x = .ref a ∧ cls = .ref D ∧ d = some dd ∧ ExcW K D ∧ PySem.W.findIn K (.ref D) f = some none ∧ H1 dd = some (.xd fs) ∧ fs.lookup f = some v ∧ Q v H1
section
variable {X : Cx} {a : Addr} {oe : Obj} {cls : Value} {d : Option Addr} {pn : List (Addr × Obj)}
theorem held_at {pins : List (Addr × Obj)} {σ : St} {H : Hp} {s : Shared} {D dd : Addr} {fs : List (Str × V)} (I : Inv (X.suite a ((a, oe) :: pn)) pins σ H s) (hz : Zc (.ref D) (some dd) oe) (hf : ∃ vs, oe.data = .fields vs) (hd : H dd = some (.xd fs)) :
    ∃ od : Obj, PySem.W.InstAt s.heap a oe D (some od) ∧ ∀ (f : Str) (v : V), fs.lookup f = some v → ∃ u, PySem.W.lookIn f od = some (some u) ∧ RelV v u := by
  obtain ⟨ha, _⟩ := I.pin (a, oe) (List.mem_append_left _ List.mem_cons_self)
  obtain ⟨vs, hdat⟩ := hf
  have hx : ObjOk X.prog X.w H s.heap dd (.xd fs) := I.hok dd _ hd
  obtain ⟨mA, hns, hr⟩ := hx
  obtain ⟨od, ho, hl⟩ := lookIn_ns hns
  refine ⟨od, ⟨ha, hz.1, by unfold PySem.W.notCls; rw [hdat] <;> rfl, by rw [hz.2]; exact ho⟩, fun f v e => ?_⟩
  obtain ⟨u, hu, ru⟩ := RelO.some_of (v := v) (o := mA f) (by rw [← e]; exact hr f)
  exact ⟨u, by rw [hl, hu], ru⟩
theorem call_isS (hz : Zc cls d oe) (hf : ∃ vs, oe.data = .fields vs) : CallR (X.suite a ((a, oe) :: pn)) (.builtin "isinstance") (rIsS X.K a cls d) := by
  intro pins s σ H xs us Q I r h
  obtain ⟨D, dd, fs, c, u, b, rfl, rfl, T, rfl, k, hd, e, q⟩ := h
  obtain ⟨u1, u2, rfl, r1, r2⟩ := vals2 r
  have e2 := k.eq r2
  subst e2
  obtain rfl : u1 = Value.ref a := r1
  obtain ⟨od, J, _⟩ := held_at I hz hf hd
  exact PySem.W.kia_one (PySem.W.kitx_exc T.is1 T.ga T.gg T.ex T.ca T.sg T.tk T.ob) I.kIn J e (fun z => nomatch z) fun tk' => ⟨.bl b, H, I.tok tk', rfl, q⟩
theorem call_isST (hz : Zc cls d oe) (hf : ∃ vs, oe.data = .fields vs) : CallR (X.suite a ((a, oe) :: pn)) (.builtin "isinstance") (rIsST X.K a cls d) := by
  intro pins s σ H xs us Q I r h
  obtain ⟨D, dd, fs, tp, cs, ws, b, rfl, rfl, T, rfl, hT, k, hd, e, q⟩ := h
  obtain ⟨u1, u2, rfl, r1, r2⟩ := vals2 r
  obtain rfl : u1 = Value.ref a := r1
  cases (show u2 = Value.ref tp from r2)
  obtain ⟨od, J, _⟩ := held_at I hz hf hd
  obtain ⟨_, its, rv, o, h1, h2, n, h3⟩ := (show ObjOk X.prog X.w H s.heap tp (.tup cs) from I.hok tp _ hT)
  have e3 := ClsV.all k rv
  subst e3
  obtain ⟨oc, od2, dt, sl⟩ := o
  simp only at h2 h3
  subst h2 h3
  exact PySem.W.kia_tup (PySem.W.kitx_exc T.is1 T.ga T.gg T.ex T.ca T.sg T.tk T.ob) I.kIn J h1 e (fun z => nomatch z) fun tk' => ⟨.bl b, H, I.tok tk', rfl, q⟩
theorem pe_valS {e : Expr} {te : TE} {f : Str} {pos : Pos} (hz : Zc cls d oe) (hf : ∃ vs, oe.data = .fields vs) (he : PE (X.suite a ((a, oe) :: pn)) e te) (hb : attributeBase e f X.env (eval e X.env) = eval e X.env := by rfl) :
    PE (X.suite a ((a, oe) :: pn)) (.Attribute e f pos) (tValS X.K f a cls d te) := by
  refine ⟨fun pins s σ H Q I h => attr_of hb (thn (he.run pins s σ H _ I h) fun u s1 hh => ?_)⟩
  obtain ⟨y, H1, J1, ry, D, dd, fs, v, rfl, rfl, rfl, T, hno, hd, hl, q⟩ := hh
  obtain rfl : u = Value.ref a := ry
  obtain ⟨od, J, hfs⟩ := held_at J1 hz hf hd
  obtain ⟨w', hu, ru⟩ := hfs f v hl
  exact HandSPX.exc_get J1.kIn J T.ga T.gg T.ex (PySem.W.findObj_own T.hd hno rfl hu) (handed_of ru) ⟨v, H1, J1.tok _, ru, q⟩
end
end L2
set_option Elab.async false
set_option linter.all false
set_option maxRecDepth 100000
set_option maxHeartbeats 2000000
/-! try: .. / except X as n: .. / except Y as m: .. : several clauses, each with a name of its own slot -/
namespace L2
open PySem PySem.Spec PyProof.Rows
abbrev ATS := Addr → Value → Option Addr → TS
/-- where a suite ends its name goes -/
def goneAt (i : Nat) (D : Ends) : Ends := { nx := fun σ' H' => D.nx (σ'.set i none) H', rt := D.rt, bk := fun σ' H' => D.bk (σ'.set i none) H', ct := fun σ' H' => D.ct (σ'.set i none) H' }
/-- what named clauses wish of the body's exception, one after the other -/
def wManyAs (K : PySem.W.Frag) (Wout : WX) (D : Ends) : List (Value × Nat × ATS) → WX
  | [] => Wout
  | (c, i, ts) :: r => fun cls d σ H => ∃ b, PySem.W.exmOne K cls c = some b ∧ (b = true → ∀ a, H a = none → ts a cls d (goneAt i D) (σ.set i (some (.ref a))) H) ∧ (b = false → wManyAs K Wout D r cls d σ H)
inductive HdsAs (X : Cx) : List ExceptHandler → List (Value × Nat × ATS) → Prop
  | nil : HdsAs X [] []
  | cons {x n : Str} {c : Value} {i : Nat} {ts : ATS} {b₀ : Stmt} {suite : List Stmt} {np pos' : Pos} {hds : List ExceptHandler} {l : List (Value × Nat × ATS)} (hc : Names X x c) (hi : X.N[i]? = some n) (hln : X.env.kindOf n = some .local)
      (hsu : ∀ (a : Addr) (oe : Obj) (cls : Value) (d : Option Addr) (pn : List (Addr × Obj)), Zc cls d oe → (∃ vs, oe.data = .fields vs) → PSs (X.suite a ((a, oe) :: pn)) (b₀ :: suite) (ts a cls d)) (r : HdsAs X hds l) :
      HdsAs X (.ExceptHandler (some (.Name x np)) (some n) (b₀ :: suite) pos' :: hds) ((c, i, ts) :: l)
section
variable {X : Cx} {body : List Stmt} {h₀ : ExceptHandler} {hds : List ExceptHandler} {l : List (Value × Nat × ATS)} {pos : Pos} {tb : WX → TS} {Wout : WX}
/-- the exception has landed in this frame: the clauses are looked at in turn -/
theorem hds_as_run (hs : X.stack = X.env :: X.outer) (hf : X.env.frame = some X.env.locals) (hN : X.N.Nodup) (tk : Takes X Wout) (ok : X.Ok)
    {a : Addr} {B h3 : Heap} {s' : Shared} {pins : List (Addr × Obj)} {σ' : St} {H' : Hp} {cls : Value} {d : Option Addr} {D : Ends}
    (fl3 : HandSPX.FlyingZ B (X.env :: X.outer) a (Zc cls d) h3) (land : ∀ h4, HandSPX.FlyingZ B (X.env :: X.outer) a (Zc cls d) h4 → h3.UpToSlots h4 → Inv X pins σ' H' { s' with heap := h4 })
    (away : ∀ h4, HandSPX.HeldZ B (X.env :: X.outer) a (Zc cls d) X.env.locals h4 → h3.UpToSlots h4 → Wout cls d σ' H' → X.xe (.ref a) { s' with heap := h4 })
    (na : H' a = none) (nL : a ≠ X.env.locals) (nF : a ∉ X.fs) : ∀ {hds : List ExceptHandler} {l : List (Value × Nat × ATS)}, HdsAs X hds l → wManyAs X.K Wout D l cls d σ' H' →
      wpAny (model X.prog X.w) X.A (handleBy (.ref a) X.env hds) (SP X pins D) X.xe { s' with heap := h3 } := by
  have J3 : Inv X pins σ' H' { s' with heap := h3 } := land h3 fl3 fun b o e _ => ⟨o.slots, e⟩
  obtain ⟨oe3, vs3, he3, hz3, hd3⟩ := fl3.there
  have S3 := J3.suite he3 hd3 na nL nF
  intro hds l hk
  induction hk with
  | nil =>
    intro w
    refine wpAny_handleBy_nil ?_
    obtain ⟨_, _, _, oe, vs, T, oT, ts', he, hz, hd, h1, hr⟩ := id fl3
    unfold PySem.passOn
    refine wpAny_bind (wpAny_field he hd h1 ?_)
    rw [if_neg (show ¬ ((Value.ref T == Value.none) = true) from by simp)]
    have fin : wpAny (model X.prog X.w) X.A (setFlight (.ref a) X.env.frame) (fun _ s4 => wpAny (model X.prog X.w) X.A (throw (.ref a) : Sem Flow) (SP X pins D) X.xe s4) X.xe { s' with heap := h3 } := by
      rw [hf]
      exact HandSPX.setFlight_upZ fl3 fun h4 hh4 up4 => wpAny_throw (away h4 hh4 up4 w)
    first
      | exact wpAny_bind (wpAny_pure (wpAny_bind fin))
      | exact wpAny_bind fin
  | @cons x n c i ts b₀ suite np pos' hds2 l2 hc hi hln hsu r ih =>
    intro w
    obtain ⟨b, hb1, hyes, hno⟩ := w
    refine wpAny_handleBy_cons (codeAny_handlers_test ?_) (by intro q; cases q)
    have LT : PySem.W.Looks (model X.prog X.w) h3 (typeOf (.ref a)) cls := fun A Q E s k q => wpAny_typeOf_ref (k _ _ he3) (by rw [hz3.1]; exact q)
    have LM := PySem.W.exm_one (M := model X.prog X.w) (J3.kIn) LT hb1
    have test : ∀ {Q : Value → Shared → Prop} {E : Value → Shared → Prop}, Q c { s' with heap := h3 } → wpAny (model X.prog X.w) (X.A.mark (some (.ref a))) (eval (.Name x np) X.env) Q E { s' with heap := h3 } := fun {Q E} q => by
      obtain ⟨hg, hdbg, hm | ⟨hm, hv, hnn⟩⟩ := hc
      · exact ld_glob (X := X.suite a ((a, oe3) :: (X.pn ++ pins))) S3 hg hm q hdbg
      · exact ld_blt (X := X.suite a ((a, oe3) :: (X.pn ++ pins))) S3 hg hm hv q hnn hdbg
    refine test (LM.here ?_)
    cases b with
    | false =>
      show wpAny _ X.A (handleBy (.ref a) X.env hds2) _ _ _
      exact ih (hno rfl)
    | true =>
      refine codeAny_handlers_suite_as ?_
      refine HandSPX.lands_againZ fl3 fun h4 fl4 up4 => ?_
      have J4 := land h4 fl4 up4
      obtain ⟨oe4, vs4, he4, hz4, hd4⟩ := fl4.there
      have S4 := J4.suite he4 hd4 na nL nF
      refine store_ok (X := X.suite a ((a, oe4) :: (X.pn ++ pins))) (v := .ref a) S4 hN hi (.inl hln) rfl (fun s5 S5 => ?_) (.inr hln)
      refine wpAny_mono ((hsu a oe4 cls d (X.pn ++ pins) hz4 ⟨_, hd4⟩).run [] s5 _ H' _ S5 (hyes rfl a na)) (fun f s6 hsp => ?_) (fun _ _ z => False.elim z)
      have end_ : ∀ {σ6 : St} {H6 : Hp} {Q : Shared → Prop}, Inv (X.suite a ((a, oe4) :: (X.pn ++ pins))) [] σ6 H6 s6 → (∀ s7, Inv X pins (σ6.set i none) H6 s7 → Q s7) →
          wpAny (model X.prog X.w) X.A (do bindName X.env n .none; unbindBehindTheSuite X.env n pos') (fun _ s7 => Q s7) X.xe s6 := fun {σ6 H6 Q} S6 hq => gone_ok (S6.unsuite ok) hN hi hln hq
      cases f with
      | ret u =>
        obtain ⟨v6, σ6, H6, S6, r6, q6⟩ := hsp
        exact end_ S6 fun s7 J7 => ⟨_, _, _, J7, r6, q6⟩
      | _ =>
        obtain ⟨σ6, H6, S6, q6⟩ := hsp
        exact end_ S6 fun s7 J7 => ⟨_, _, J7, q6⟩
theorem ps_try_manyAs (hs : X.stack = X.env :: X.outer) (hf : X.env.frame = some X.env.locals) (hN : X.N.Nodup) (tk : Takes X Wout)
    (hb : ∀ (W : WX) (pn : List (Addr × Obj)) (xe : Value → Shared → Prop), Takes (X.tr pn xe) W → PassesOwn (model X.prog X.w) X.A X.env xe → PSs (X.tr pn xe) body (tb W))
    (hh : HdsAs X (h₀ :: hds) l) : PS X (.Try body (h₀ :: hds) [] [] pos) (fun D σ H => tb (wManyAs X.K Wout D l) D σ H) := by
  refine ⟨fun pins s σ H D I h => ?_⟩
  have ok := I.ok
  have hfr : X.A.frames = some (X.env :: X.outer) := by rw [ok.frames, hs]
  refine wpAny_Try_except ?_
  refine wpAny_mono ((hb (wManyAs X.K Wout D l) (X.pn ++ pins) (fun e s₁ => wpAny (model X.prog X.w) X.A (noteFrame e X.env) (fun _ s₂ => wpAny (model X.prog X.w) X.A (setFlight e none) (fun _ s₃ =>
    wpAny (model X.prog X.w) X.A (handleBy e X.env (h₀ :: hds)) (SP X pins D) X.xe s₃) X.xe s₂) X.xe s₁) (fun u s' xx => ?_) PassesOwn.looking).run [] s σ H D (I.toTry _) h) (fun f s1 hsp => ?_) (fun e s1 he => he)
  · obtain ⟨a, B, sI, pins', σ', H', cls, d, rfl, J', nb, up, sky, na, os, ag, w⟩ := xx
    have J : Inv X pins σ' H' sI := J'.ofTry ok
    have sky' : Sky B (X.env :: X.outer) a (Zc cls d) X.env.locals s'.heap := by rw [← hs]; exact sky
    show wpAny (model X.prog X.w) X.A (noteFrame (.ref a) X.env) _ _ _
    refine Sky.land Zc.steady hfr hf sky' fun h3 fl3 up3 => ?_
    obtain ⟨oe3, vs3, he3, hz3, hd3⟩ := fl3.there
    have nfr : a ∉ frs (X.env :: X.outer) := fun hm => by
      obtain ⟨_, o', e', hnf⟩ := fl3.2.2.1.mem hm
      rw [he3] at e'
      cases e'
      exact hnf _ hd3
    have nL : a ≠ X.env.locals := fun z => nfr (List.mem_filterMap.mpr ⟨X.env, List.mem_cons_self, by rw [hf, z]⟩)
    have nF : a ∉ X.fs := fun hm => by
      obtain ⟨e, he, q⟩ := List.mem_filterMap.mp hm
      exact nfr (List.mem_filterMap.mpr ⟨e, List.mem_cons_of_mem _ he, q⟩)
    exact hds_as_run hs hf hN tk ok fl3 (fun h4 fl4 up4 => J.landed nb fl4.1 ((up.trans up3).trans up4) os ag)
      (fun h4 hh4 up4 wo => tk _ _ ⟨a, B, sI, pins, σ', H', cls, d, rfl, J, nb, (up.trans up3).trans up4, .inr (.inr (by rw [hs]; exact hh4)), na, os, ag, wo⟩) na nL nF hh w
  · cases f with
    | next =>
      obtain ⟨σ', H', J', q⟩ := hsp
      exact wpAny_execs_nil ⟨σ', H', J'.ofTry ok, q⟩
    | ret u =>
      obtain ⟨v, σ', H', J', r, q⟩ := hsp
      exact ⟨v, σ', H', J'.ofTry ok, r, q⟩
    | _ =>
      obtain ⟨σ', H', J', q⟩ := hsp
      exact ⟨σ', H', J'.ofTry ok, q⟩
end
end L2
set_option Elab.async false
set_option linter.all false
set_option maxRecDepth 100000
set_option maxHeartbeats 4000000
namespace K02
open PySem L2 PyProof.Rows
/-! ### the walk's error, told by the law -/
def errW : Nat → String
  | 1 => "answer"
  | 2 => "place"
  | _ => "ended"
/-- a tree that leads to an error -/
def Bad (w0 : Wv) (rs : List Wv) (T : Tr) (e : Nat × D) : Prop := ∃ (N : Nat) (l : Lk) (as : List V) (ts : List Tr), To w0 rs N T (.look l as ts) ∧ plN (lkP l) ≤ 20 ∧ (1 ≤ e.1 ∧ e.1 ≤ 3) ∧ (anF w0 rs l = .inr e ∨ ∃ a, anF w0 rs l = .inl a ∧ e = (1, .leaf a) ∧ Leaf a ∧ a ∉ as ∧ as.length = ts.length ∧ ∀ b ∈ as, scal b a = true)
def spNoWalk : Sp := fun vs H Q _ => ∃ (tv v : V) (ra : Addr) (xs : List V) (w0 : Wv) (rs : List Wv) (T : Tr) (e : Nat × D), vs = [tv, v, .ref ra] ∧ RW H (trD T) tv ∧ RV H w0 v ∧ H ra = some (.lst xs) ∧ RVs H rs xs ∧ Bad w0 rs T e ∧
  ∀ l u H' G, Same H H' → H l = none → H' l = some (.lst [.str (Str.ofString (errW e.1)), u, .bl false]) → Rep H' e.2 u G → l ∉ G → (∀ a ∈ G, H a = none) → Q (.ref l) H'
def spNoBase : Sp := fun vs H Q _ => ∃ (tv v : V) (ra : Addr) (xs : List V) (w0 : Wv) (rs : List Wv) (T : Tr) (e : Nat × D), vs = [tv, v, .ref ra] ∧ RW H (trD T) tv ∧ RV H w0 v ∧ H ra = some (.lst xs) ∧ RVs H rs xs ∧ Bad w0 rs T e ∧
  ∀ H', Same H H' → Q (.bl true) H'
def tb_w (K : PySem.W.Frag) (Cs : Nat → Addr) : WX → TS := fun W => tDrop (tCallS (spWalkX K Cs) (WE W) (tCons (tVar 0) (tCons (tVar 1) (tCons (tVar 2) tNil))))
def ts_w (K : PySem.W.Frag) (Cs : Nat → Addr) (s : String) (i j : Nat) : Addr → Value → Option Addr → TS := fun a cls d =>
  tAsg (tLst (tCons (tC (.str (Str.ofString s))) (tCons (tValS K "value" a cls d (tVar 4)) (tCons (tCB (rIsST K a cls d) (tCons (tVar 4) (tCons (tTup (tCons (tC (.ref (Cs i))) (tCons (tC (.ref (Cs j))) tNil))) tNil))) tNil)))) (gName 3)
section
variable {P : Program} {w : World} {K : PySem.W.Frag} {mg : Str → Option Value} {base : Heap} {Cs : Nat → Addr} {fI : Addr} {fdI : FuncData}
theorem scNw : FnScope ["told_here", "value_here", "results_here", "found", "error"] ["told_here", "value_here", "results_here"] (defScope sNoWalk) := ⟨rfl, rfl, rfl, by decide +kernel, rfl, by decide +kernel, by decide +kernel⟩
theorem scNb : FnScope ["told_here", "value_here", "results_here", "found", "error"] ["told_here", "value_here", "results_here"] (defScope sNoBase) := ⟨rfl, rfl, rfl, by decide +kernel, rfl, by decide +kernel, by decide +kernel⟩
/-- a suite's run -/
theorem ts_w_run {s : String} {i j c : Nat} (EC : ECls K mg Cs fI) (hi : i < 4) (hj : j < 4) (hc : c < 4) (ni : ¬ (i = 0 ∨ i = c)) (nj : ¬ (j = 0 ∨ j = c)) {a dd : Addr} {D : Ends} {H2 : Hp} {v0 v1 v2 v3 : Option V} {w1 : V} (hdd : H2 dd = some (.xd [(("value" : Str), w1)]))
    (k : ∀ l H', Same H2 H' → H2 l = none → H' l = some (.lst [.str (Str.ofString s), w1, .bl false]) → D.nx [v0, v1, v2, some (.ref l), some (.ref a)] H') : ts_w K Cs s i j a (.ref (Cs c)) (some dd) D [v0, v1, v2, v3, some (.ref a)] H2 := by
  have ew := EC.ew c hc
  refine ⟨_, rfl, Cs c, dd, _, w1, rfl, rfl, rfl, ew, EC.val c hc, hdd, rfl, _, rfl, by show 2 ≤ sizeLine; decide, fun tp htp => ?_⟩
  have s1 := same_new htp (.tup [V.ref (Cs i), V.ref (Cs j)])
  have no : ∀ m, m < 4 → ¬ (m = 0 ∨ m = c) → PySem.W.kitOne K (.ref (Cs c)) (.ref (Cs m)) = some false := fun m hm n => by
    rw [EC.kit c m hc hm, decide_eq_false n]
  refine ⟨Cs c, dd, _, tp, _, _, false, rfl, rfl, ew, rfl, upd_same, .cons (.own _) (.cons (.own _) .nil), s1 _ _ hdd, kitAny_cons (no i hi ni) (fun _ => kitAny_cons (no j hj nj) (fun _ => kitAny_nil) fun z => nomatch z) (fun z => nomatch z), ?_⟩
  refine ⟨by show 3 ≤ sizeLine; decide, fun l hl => ?_⟩
  exact k l _ (s1.trans (same_new hl _)) (s1.free hl) upd_same
theorem ok_nowalk {f fW : Addr} {fd fdW : FuncData} (F : Fun K "_law_no_walk" "_law_no_walk" sNoWalk f fd) (T : Txt K mg) (EC : ECls K mg Cs fI)
    (FW : Fun K "walk" "walk" sWalk fW fdW) (GW : FnOk P w K mg base (L2.CX P w) 43 fW fdW ["told", "value", "results"] (spWalkX K Cs)) (bW : Binds K fdW ["told", "value", "results"] []) (mW : mg "walk" = some (.ref fW)) : FnOk P w K mg base CX0 44 f fd ["told_here", "value_here", "results_here"] spNoWalk := by
  refine F.ok scNw (fun vs H Q E h => ?_) (fun cdv A outer s H vs Q E hr h => ?_)
  · obtain ⟨tv, v, ra, xs, w0, rs, T, e, rfl, _⟩ := h
    rfl
  obtain ⟨tv, v, ra, xs, w0, rs, Tt, e, rfl, ht, hv, hra, hrs, ⟨N, lk, as, ts, hTo, hpl, he13, hcase⟩, kk⟩ := h
  refine ⟨_, pss_cons (ps_set (i := 3) scNw.nd rfl (Or.inl rfl) (pe_lst pa_nil))
    (pss_cons (ps_try_manyAs (tb := tb_w K Cs) (l := [(.ref (Cs 1), 4, ts_w K Cs "answer" 2 3), (.ref (Cs 2), 4, ts_w K Cs "place" 1 3), (.ref (Cs 3), 4, ts_w K Cs "ended" 1 2)]) (Wout := fun _ _ _ _ => False) rfl rfl scNw.nd takes0
      (fun W pn xe tk _ => pss_one (ps_expr (pe_callS GW hr rfl mW FW.kp bW (fun σ => passAt tk σ) (pa_cons (pv 0) (pa_cons (pv 1) (pa_cons (pv 2) pa_nil))))))
      (.cons ⟨rfl, by decide, Or.inl (EC.mg 1 _ rfl)⟩ rfl rfl (fun a oe cls d pn hz hf => pss_one (ps_set (i := 3) scNw.nd rfl (Or.inl rfl) (by exact (pe_lst (pa_cons pe_str (pa_cons (pe_valS hz hf (pv 4)) (pa_cons (pe_callB (call_isST hz hf) (by rfl) T.isi boot_isinstance (pa_cons (pv 4) (pa_cons (pe_tup (pa_cons (pe_glob (v := .ref (Cs 2)) rfl (EC.mg 2 _ rfl) rfl) (pa_cons (pe_glob (v := .ref (Cs 3)) rfl (EC.mg 3 _ rfl) rfl) pa_nil))) pa_nil))) pa_nil)))))))
      (.cons ⟨rfl, by decide, Or.inl (EC.mg 2 _ rfl)⟩ rfl rfl (fun a oe cls d pn hz hf => pss_one (ps_set (i := 3) scNw.nd rfl (Or.inl rfl) (by exact (pe_lst (pa_cons pe_str (pa_cons (pe_valS hz hf (pv 4)) (pa_cons (pe_callB (call_isST hz hf) (by rfl) T.isi boot_isinstance (pa_cons (pv 4) (pa_cons (pe_tup (pa_cons (pe_glob (v := .ref (Cs 1)) rfl (EC.mg 1 _ rfl) rfl) (pa_cons (pe_glob (v := .ref (Cs 3)) rfl (EC.mg 3 _ rfl) rfl) pa_nil))) pa_nil))) pa_nil)))))))
      (.cons ⟨rfl, by decide, Or.inl (EC.mg 3 _ rfl)⟩ rfl rfl (fun a oe cls d pn hz hf => pss_one (ps_set (i := 3) scNw.nd rfl (Or.inl rfl) (by exact (pe_lst (pa_cons pe_str (pa_cons (pe_valS hz hf (pv 4)) (pa_cons (pe_callB (call_isST hz hf) (by rfl) T.isi boot_isinstance (pa_cons (pv 4) (pa_cons (pe_tup (pa_cons (pe_glob (v := .ref (Cs 1)) rfl (EC.mg 1 _ rfl) rfl) (pa_cons (pe_glob (v := .ref (Cs 2)) rfl (EC.mg 2 _ rfl) rfl) pa_nil))) pa_nil))) pa_nil))))))) .nil))))
    (pss_one (ps_ret (pv 3)))), ?_⟩
  refine ⟨by show 0 ≤ sizeLine; decide, fun l0 hl0 => ?_⟩
  have s0 := same_new hl0 (.lst [])
  show tSeq _ _ _ _ (upd H l0 (.lst []))
  generalize upd H l0 (.lst []) = H0 at s0 ⊢
  refine ⟨_, rfl, _, rfl, _, rfl, tv, v, ra, xs, w0, rs, Tt, .look lk as ts, N, rfl, ht.same s0, hv.same s0, s0 _ _ hra, hrs.same s0, hTo, .inr ⟨lk, as, ts, e, rfl, hpl, hcase, ?_⟩⟩
  intro dd H2 w1 G hs2 hdd0 hdd hr2 hG
  obtain ⟨c, dat⟩ := e
  have fin : ∀ l H', Same H2 H' → H2 l = none → H' l = some (.lst [.str (Str.ofString (errW c)), w1, .bl false]) → Q (.ref l) H' := fun l H' s3 hl e => by
    refine kk l w1 H' G ((s0.trans hs2).trans s3) ((s0.trans hs2).free hl) e (hr2.same s3) (fun z => ?_) fun a ha => s0.free (hG a ha)
    obtain ⟨zs, q⟩ := hr2.at_ _ z
    rw [hl] at q
    cases q
  have no : ∀ i j, i < 4 → j < 4 → ¬ (j = 0 ∨ j = i) → PySem.W.exmOne K (.ref (Cs i)) (.ref (Cs j)) = some false := fun i j hi hj n => by
    rw [EC.exm i j hi hj, decide_eq_false n]
  have yes : ∀ i, i < 4 → PySem.W.exmOne K (.ref (Cs i)) (.ref (Cs i)) = some true := fun i hi => by
    rw [EC.exm i i hi hi, decide_eq_true (.inr rfl)]
  have c3 : c = 1 ∨ c = 2 ∨ c = 3 := by
    have h1 : 1 ≤ c := he13.1
    have h2 : c ≤ 3 := he13.2
    omega
  rcases c3 with rfl | rfl | rfl
  · refine ⟨true, yes 1 (by decide), fun _ a _ => ?_, fun z => nomatch z⟩
    exact ts_w_run (c := 1) EC (by decide) (by decide) (by decide) (by decide) (by decide) hdd fun l H' s3 hl e => ⟨_, rfl, fin l H' s3 hl e⟩
  · refine ⟨false, no 2 1 (by decide) (by decide) (by decide), (fun z => nomatch z), fun _ => ⟨true, yes 2 (by decide), fun _ a _ => ?_, fun z => nomatch z⟩⟩
    exact ts_w_run (c := 2) EC (by decide) (by decide) (by decide) (by decide) (by decide) hdd fun l H' s3 hl e => ⟨_, rfl, fin l H' s3 hl e⟩
  · refine ⟨false, no 3 1 (by decide) (by decide) (by decide), (fun z => nomatch z), fun _ => ⟨false, no 3 2 (by decide) (by decide) (by decide), (fun z => nomatch z), fun _ => ⟨true, yes 3 (by decide), fun _ a _ => ?_, fun z => nomatch z⟩⟩⟩
    exact ts_w_run (c := 3) EC (by decide) (by decide) (by decide) (by decide) (by decide) hdd fun l H' s3 hl e => ⟨_, rfl, fin l H' s3 hl e⟩
def ts_b (K : PySem.W.Frag) : Addr → Value → Option Addr → TS := fun a cls d => tAsg (tCB (rIsS K a cls d) (tCons (tVar 4) (tCons (tC (.ty "ValueError")) tNil))) (gName 3)
theorem ok_nobase {f fW : Addr} {fd fdW : FuncData} (F : Fun K "_law_no_base" "_law_no_base" sNoBase f fd) (T : Txt K mg) (zV : mg "ValueError" = none) (EC : ECls K mg Cs fI)
    (FW : Fun K "walk" "walk" sWalk fW fdW) (GW : FnOk P w K mg base (L2.CX P w) 43 fW fdW ["told", "value", "results"] (spWalkX K Cs)) (bW : Binds K fdW ["told", "value", "results"] []) (mW : mg "walk" = some (.ref fW)) : FnOk P w K mg base CX0 44 f fd ["told_here", "value_here", "results_here"] spNoBase := by
  refine F.ok scNb (fun vs H Q E h => ?_) (fun cdv A outer s H vs Q E hr h => ?_)
  · obtain ⟨tv, v, ra, xs, w0, rs, T, e, rfl, _⟩ := h
    rfl
  obtain ⟨tv, v, ra, xs, w0, rs, Tt, e, rfl, ht, hv, hra, hrs, ⟨N, lk, as, ts, hTo, hpl, he13, hcase⟩, kk⟩ := h
  refine ⟨_, pss_cons (ps_set (i := 3) scNb.nd rfl (Or.inl rfl) pe_bl)
    (pss_cons (ps_try_as (i := 4) (tb := tb_w K Cs) (ts := ts_b K) (Wout := fun _ _ _ _ => False) rfl rfl scNb.nd rfl rfl ⟨rfl, by decide, Or.inl (EC.mg 0 _ rfl)⟩ takes0
      (fun W pn xe tk _ => pss_one (ps_expr (pe_callS GW hr rfl mW FW.kp bW (fun σ => passAt tk σ) (pa_cons (pv 0) (pa_cons (pv 1) (pa_cons (pv 2) pa_nil))))))
      (fun a oe cls d pn hz hf => pss_one (ps_set (i := 3) scNb.nd rfl (Or.inl rfl) (by exact (pe_callB (call_isS hz hf) (by rfl) T.isi boot_isinstance (pa_cons (pv 4) (pa_cons (pe_bltn (v := .ty "ValueError") (by rfl) zV (by decide +kernel) rfl) pa_nil)))))))
    (pss_one (ps_ret (pv 3)))), ?_⟩
  refine ⟨_, rfl, _, rfl, _, rfl, tv, v, ra, xs, w0, rs, Tt, .look lk as ts, N, rfl, ht, hv, hra, hrs, hTo, .inr ⟨lk, as, ts, e, rfl, hpl, hcase, ?_⟩⟩
  intro dd H2 w1 G hs2 hdd0 hdd hr2 hG
  have hc : e.1 < 4 := by have := he13.2; omega
  refine ⟨true, (EC.exm e.1 0 hc (by decide)).trans (by rw [decide_eq_true (.inl rfl)]), fun _ a _ => ?_, fun z => nomatch z⟩
  exact ⟨_, rfl, Cs e.1, dd, _, .ty "ValueError", .type "ValueError", _, rfl, rfl, EC.ew e.1 hc, rfl, .ty _, hdd, EC.kitV e.1 hc, _, rfl, kk H2 hs2⟩
end
end K02
set_option Elab.async false
set_option linter.all false
set_option maxRecDepth 100000
set_option maxHeartbeats 4000000
namespace K02
open PySem L2 PyProof.Rows
def nmOk (z : Str) : Prop := z.length ≤ 17 ∧ ls z
def spPick : Sp := fun vs H Q _ => ∃ (p : Addr) (n : Nat), vs = [.ref p, .str LT] ∧ Purse H p n ∧ n < 10 ^ 60 ∧ ∀ (d : Int) H', 0 ≤ d → d < 26 → But p H H' → Purse H' p (n + 1) → Q (.str ⟨#[97 + d.toNat]⟩) H'
abbrev nWd : List Str := ["sack", "many", "letters", "way", "size", "start", "found", "menu", "stem", "at", "first", "rank", "turned", "letter", "one", "turn"]
def spWords17 : Sp := fun vs H Q _ => ∃ (p : Addr) (m n : Nat), vs = [.ref p, .int (m : Int)] ∧ 1 ≤ m ∧ m ≤ 4 ∧ Purse H p n ∧ n + 400 < 10 ^ 60 ∧
  ∀ (r : Addr) (zs : List Str) H', Around1 H p (n + 400) H' → H r = none → H' r = some (.lst (zs.map V.str)) → zs.length = m → zs.Nodup → (∀ z ∈ zs, nmOk z) → Q (.ref r) H'
def menuR : List Str := ["soon", "late", "absent", "nothing", "name", "any", "row", "record", "a", "b", "f", "read", "known"].map Str.ofString
theorem menuR_inj : ∀ i, i < 13 → ∀ j, j < 13 → menuR.getD i Str.empty = menuR.getD j Str.empty → i = j := by decide +kernel
theorem menuR_small : ∀ z ∈ menuR, z.length ≤ 8 := by decide +kernel
theorem menuR_all : ∀ z ∈ menuR, z.cps.toList.all (fun c => decide (97 ≤ c ∧ c ≤ 122)) = true := by decide +kernel
theorem menuR_ls {z : Str} (h : z ∈ menuR) : ls z := fun c hc => of_decide_eq_true (List.all_eq_true.mp (menuR_all z h) c hc)
theorem menuR_at {d : Int} (h0 : 0 ≤ d) (h1 : d < 13) : atI (menuR.map V.str) d = some (.str (menuR.getD d.toNat Str.empty)) ∧ menuR.getD d.toNat Str.empty ∈ menuR := by
  have hl : menuR.length = 13 := rfl
  have hd : d.toNat < menuR.length := by omega
  have e : menuR.getD d.toNat Str.empty = menuR[d.toNat] := by
    rw [List.getD_eq_getElem?_getD, List.getElem?_eq_getElem hd]
    rfl
  refine ⟨at_ofN (show d = ((d.toNat : Nat) : Int) by omega) ?_, by rw [e]; exact List.getElem_mem hd⟩
  rw [List.getElem?_map, List.getElem?_eq_getElem hd, e]
  rfl
/-- the letter of a rank -/
def ltr (s : Int) (r : Nat) : Str := ⟨#[97 + ((s + (0 + (r : Int))) % 26).toNat]⟩
def wd4 (st : Str) (s at' size fi : Int) (r : Nat) : List Str :=
  [menuR.getD ((s + (0 + (r : Int))) % 13).toNat Str.empty, cutS st none (some (fi + (0 + (r : Int)))), cutS (ltr s r) none (some (0 + (r : Int))) ++ cutS st none (some 5),
    (cutS st none (some at') ++ ltr s r) ++ cutS st (some (at' + 1)) (some size)]
def wdf (st : Str) (s at' size fi : Int) (way : Nat) (r : Nat) : Str := (wd4 st s at' size fi r).getD way Str.empty
theorem len_ltr (s : Int) (r : Nat) : (ltr s r).length = 1 := rfl
theorem wd4_len {st : Str} {s at' size fi : Int} (hst : st.length = 8) (h0 : 0 ≤ at') (h1 : at' < size) (h2 : size ≤ 8) (hf0 : 1 ≤ fi) (hf : fi ≤ 4) {r : Nat} : ∀ z ∈ wd4 st s at' size fi r, z.length ≤ 17 := by
  intro z hz
  have hc : ∀ a b, (cutS st a b).length ≤ 8 := fun a b => by
    have := cutS_length st a b
    omega
  unfold wd4 at hz
  rcases List.mem_cons.mp hz with rfl | hz
  · have := menuR_small _ (menuR_at (d := (s + (0 + (r : Int))) % 13) (Int.emod_nonneg _ (by decide)) (Int.emod_lt_of_pos _ (by decide))).2
    omega
  rcases List.mem_cons.mp hz with rfl | hz
  · have := hc none (some (fi + (0 + (r : Int))))
    omega
  rcases List.mem_cons.mp hz with rfl | hz
  · rw [Str.length_append]
    have := hc none (some 5)
    have := cutS_length (ltr s r) none (some (0 + (r : Int)))
    rw [len_ltr] at this
    omega
  rcases List.mem_cons.mp hz with rfl | hz
  · rw [Str.length_append, Str.length_append, len_ltr]
    have := hc none (some at')
    have := hc (some (at' + 1)) (some size)
    omega
  · cases hz
theorem ltr_ls (s : Int) (r : Nat) : ls (ltr s r) := ls_one (by omega)
theorem wd4_ls {st : Str} {s at' size fi : Int} (hst : ls st) {r : Nat} : ∀ z ∈ wd4 st s at' size fi r, ls z := by
  intro z hz
  unfold wd4 at hz
  rcases List.mem_cons.mp hz with rfl | hz
  · exact menuR_ls (menuR_at (d := (s + (0 + (r : Int))) % 13) (Int.emod_nonneg _ (by decide)) (Int.emod_lt_of_pos _ (by decide))).2
  rcases List.mem_cons.mp hz with rfl | hz
  · exact ls_cut hst _ _
  rcases List.mem_cons.mp hz with rfl | hz
  · exact ls_app (ls_cut (ltr_ls _ _) _ _) (ls_cut hst _ _)
  rcases List.mem_cons.mp hz with rfl | hz
  · exact ls_app (ls_app (ls_cut hst _ _) (ltr_ls _ _)) (ls_cut hst _ _)
  · cases hz
theorem wdf_ok {st : Str} {s at' size fi : Int} (hst : st.length = 8) (hls : ls st) (h0 : 0 ≤ at') (h1 : at' < size) (h2 : size ≤ 8) (hf0 : 1 ≤ fi) (hf : fi ≤ 4) {way r : Nat} (hw : way < 4) : nmOk (wdf st s at' size fi way r) := by
  have e : wdf st s at' size fi way r = (wd4 st s at' size fi r)[way]'hw := by
    unfold wdf
    rw [List.getD_eq_getElem?_getD, List.getElem?_eq_getElem (h := hw)]
    rfl
  rw [e]
  exact ⟨wd4_len hst h0 h1 h2 hf0 hf _ (List.getElem_mem hw), wd4_ls hls _ (List.getElem_mem hw)⟩
theorem wdf_at {st : Str} {s at' size fi : Int} {way r : Nat} (hw : way < 4) : atI ((wd4 st s at' size fi r).map V.str) (way : Int) = some (.str (wdf st s at' size fi way r)) := by
  have e : wdf st s at' size fi way r = (wd4 st s at' size fi r)[way]'hw := by
    unfold wdf
    rw [List.getD_eq_getElem?_getD, List.getElem?_eq_getElem (h := hw)]
    rfl
  refine atI_nat ?_
  rw [List.getElem?_map, List.getElem?_eq_getElem (h := hw), e]
  rfl
theorem wdf_inj {st : Str} {s at' size fi : Int} (hst : st.length = 8) (h0 : 0 ≤ at') (h1 : at' < size) (h2 : size ≤ 8) (hf0 : 1 ≤ fi) (hf : fi ≤ 4) {way : Nat} (hw : way < 4) {i j : Nat} (hi : i < 4) (hj : j < 4) (e : wdf st s at' size fi way i = wdf st s at' size fi way j) : i = j := by
  have app : ∀ x y : Str, (x ++ y).cps.toList = x.cps.toList ++ y.cps.toList := fun x y => Array.toList_append
  match way, hw with
  | 0, _ =>
    have e' : menuR.getD ((s + (0 + (i : Int))) % 13).toNat Str.empty = menuR.getD ((s + (0 + (j : Int))) % 13).toNat Str.empty := e
    have z := menuR_inj _ (by omega) _ (by omega) e'
    omega
  | 1, _ =>
    have e' : cutS st none (some (fi + (0 + (i : Int)))) = cutS st none (some (fi + (0 + (j : Int)))) := e
    have z := congrArg Str.length e'
    rw [(cut_pre (n := (fi + i).toNat) (by omega)).1, (cut_pre (n := (fi + j).toNat) (by omega)).1, hst] at z
    omega
  | 2, _ =>
    have e' : cutS (ltr s i) none (some (0 + (i : Int))) ++ cutS st none (some 5) = cutS (ltr s j) none (some (0 + (j : Int))) ++ cutS st none (some 5) := e
    have e2 := congrArg (fun z : Str => z.cps.toList) e'
    simp only [app] at e2
    have e3 := List.append_cancel_right e2
    rw [(cut_pre (z := ltr s i) (n := i) (by omega)).2, (cut_pre (z := ltr s j) (n := j) (by omega)).2] at e3
    match i, j with
    | 0, 0 => rfl
    | 0, j + 1 => cases e3
    | i + 1, 0 => cases e3
    | i + 1, j + 1 =>
      have e4 : [97 + ((s + (0 + ((i + 1 : Nat) : Int))) % 26).toNat] = [97 + ((s + (0 + ((j + 1 : Nat) : Int))) % 26).toNat] := by
        have a : ∀ (c k : Nat), ([c] : List Nat).take (k + 1) = [c] := fun c k => by simp
        have b : ∀ k, (ltr s k).cps.toList = [97 + ((s + (0 + (k : Int))) % 26).toNat] := fun k => rfl
        rw [b, b, a, a] at e3
        exact e3
      have e5 := (List.cons.inj e4).1
      omega
  | 3, _ =>
    have e' : (cutS st none (some at') ++ ltr s i) ++ cutS st (some (at' + 1)) (some size) = (cutS st none (some at') ++ ltr s j) ++ cutS st (some (at' + 1)) (some size) := e
    have e2 := congrArg (fun z : Str => z.cps.toList) e'
    simp only [app] at e2
    have e3 := List.append_cancel_right e2
    have e4 := List.append_cancel_left e3
    have e5 : 97 + ((s + (0 + (i : Int))) % 26).toNat = 97 + ((s + (0 + (j : Int))) % 26).toNat := (List.cons.inj e4).1
    omega
section
variable {P : Program} {w : World} {K : PySem.W.Frag} {mg : Str → Option Value} {base : Heap}
theorem scPk : FnScope ["sack", "some"] ["sack", "some"] (defScope sPick) := ⟨rfl, rfl, rfl, by decide +kernel, rfl, by decide +kernel, by decide +kernel⟩
theorem ok_pick {f fC : Addr} {fd fdC : FuncData} (F : Fun K "_law_tr_pick" "_law_tr_pick" sPick f fd) (T : Txt K mg) (FC : Fun K "_law_coin" "_law_coin" sCoin fC fdC) (bC : Binds K fdC ["purse", "many"] []) (mC : mg "_law_coin" = some (.ref fC)) :
    FnOk P w K mg base CX0 2 f fd ["sack", "some"] spPick := by
  have GC : FnOk P w K mg base CX0 1 fC fdC ["purse", "many"] spCoin := ok_coin FC T
  refine F.ok scPk (fun vs H Q E h => ?_) (fun cdv A outer s H vs Q E hr h => ?_)
  · obtain ⟨p, n, rfl, _⟩ := h
    rfl
  obtain ⟨p, n, rfl, hp, hn, k⟩ := h
  refine ⟨_, pss_one (ps_ret (pe_ix ix_str (pv 1) (pe_call GC hr rfl mC FC.kp bC .nil pass0 (pa_cons (pv 0) (pa_cons (pe_callB call_len (by rfl) T.len PySem.boot_len (pa_cons (pv 1) pa_nil)) pa_nil))) (fun _ _ => rfl))), ?_⟩
  refine ⟨_, rfl, _, rfl, _, rfl, .str LT, 26, rfl, ⟨by decide +kernel, rfl⟩, p, 26, n, rfl, hp, hn, by decide, by decide, fun d H1 d0 d1 hb hp1 => ?_⟩
  exact ⟨LT, d, _, rfl, rfl, by decide +kernel, lt_at d0 d1, k d H1 d0 d1 hb hp1⟩
theorem scWd : FnScope nWd ["sack", "many"] (defScope sWords) := ⟨rfl, rfl, rfl, by decide +kernel, rfl, by decide +kernel, by decide +kernel⟩
theorem ok_words17 {f fC fP : Addr} {fd fdC fdP : FuncData} (F : Fun K "_law_tr_words" "_law_tr_words" sWords f fd) (T : Txt K mg) (FC : Fun K "_law_coin" "_law_coin" sCoin fC fdC) (bC : Binds K fdC ["purse", "many"] []) (mC : mg "_law_coin" = some (.ref fC))
    (FP : Fun K "_law_tr_pick" "_law_tr_pick" sPick fP fdP) (bP : Binds K fdP ["sack", "some"] []) (mP : mg "_law_tr_pick" = some (.ref fP)) :
    FnOk P w K mg base CX0 3 f fd ["sack", "many"] spWords17 := by
  have GC : FnOk P w K mg base CX0 2 fC fdC ["purse", "many"] spCoin := (ok_coin FC T).mono (by decide)
  have GP : FnOk P w K mg base CX0 2 fP fdP ["sack", "some"] spPick := ok_pick FP T FC bC mC
  refine F.ok scWd (fun vs H Q E h => ?_) (fun cdv A outer s H vs Q E hr h => ?_)
  · obtain ⟨p, m, n, rfl, _⟩ := h
    rfl
  obtain ⟨p, m, n, rfl, hm1, hm4, hp, hn, k⟩ := h
  refine ⟨_, Evl.pss_cut (ps_asg (pe_tup (pa_cons pe_str (pa_cons (pe_call GC hr rfl mC FC.kp bC .nil pass0 (pa_cons (pv 0) (pa_cons pe_int pa_nil))) pa_nil))) (pg_tup rfl (pgs_cons (pg_name (i := 2) scWd.nd rfl (.inr rfl)) (pgs_cons (pg_name (i := 3) scWd.nd rfl (.inl rfl)) pgs_nil))))
    (Evl.pss_cut (ps_par3 (i := 4) (j := 5) (l := 6) rfl scWd.nd rfl rfl rfl (by decide) (by decide) (by decide) rfl rfl rfl (pa_cons (pe_op op_add pe_int (pe_call GC hr rfl mC FC.kp bC .nil pass0 (pa_cons (pv 0) (pa_cons pe_int pa_nil)))) (pa_cons (pe_call GC hr rfl mC FC.kp bC .nil pass0 (pa_cons (pv 0) (pa_cons pe_int pa_nil))) (pa_cons (pe_lst pa_nil) pa_nil))) (by rfl))
    (Evl.pss_cut (ps_set (i := 7) scWd.nd rfl (Or.inl rfl) (pe_lst (pa_cons pe_str (pa_cons pe_str (pa_cons pe_str (pa_cons pe_str (pa_cons pe_str (pa_cons pe_str (pa_cons pe_str (pa_cons pe_str (pa_cons pe_str (pa_cons pe_str (pa_cons pe_str (pa_cons pe_str (pa_cons pe_str pa_nil)))))))))))))))
    (Evl.pss_cut (ps_set (i := 8) scWd.nd rfl (Or.inl rfl) (pe_bm PySem.F.plainAttrs_str PySem.F.slot_str_join PySem.F.type_str_join mt_join pe_str (pa_cons (pe_lc (own := [("turn", 15)]) (g := gName 15) (tt := tYes) rfl scWd.nd (pi_range1 rfl T.range (pa_cons pe_int pa_nil)) (blkOk_by (N := nWd) (sc := defScope sWords) (by decide +kernel)) (fun _ _ _ _ _ => pg_name (i := 15) scWd.nd rfl (Or.inl rfl)) (fun _ _ _ _ _ => pts_nil)
        (fun _ _ _ _ _ => pe_call GP hr rfl mP FP.kp bP .nil pass0 (pa_cons (pv 0) (pa_cons (pv 2) pa_nil)))) pa_nil)))
    (Evl.pss_cut (ps_par (i := 9) (j := 10) rfl scWd.nd rfl rfl (by decide) rfl rfl (pa_cons (pe_op op_mod (pe_callTy call_int1 (by rfl) T.int boot_int (pa_cons (pv 5) pa_nil)) (pv 4)) (pa_cons (pe_op op_add (pe_op op_mod (pe_callTy call_int1 (by rfl) T.int boot_int (pa_cons (pv 5) pa_nil)) pe_int) pe_int) pa_nil)) (by rfl))
    (Evl.pss_cut (ps_for PassesOwn.never rfl (pi_range1 rfl T.range (pa_cons (pv 1) pa_nil)) (pg_name (i := 11) scWd.nd rfl (Or.inl rfl))
        (pss_cons (ps_set (i := 12) scWd.nd rfl (Or.inl rfl) (pe_callTy call_int1 (by rfl) T.int boot_int (pa_cons (pe_op op_add (pv 5) (pv 11)) pa_nil)))
        (pss_cons (ps_set (i := 13) scWd.nd rfl (Or.inl rfl) (pe_ix ix_str (pv 2) (pe_op op_mod (pv 12) pe_int) (fun _ _ => rfl)))
        (pss_cons (ps_set (i := 14) scWd.nd rfl (Or.inl rfl) (pe_lst (pa_cons (pe_ix ix_list (pv 7) (pe_op op_mod (pv 12) pe_int) (fun _ _ => rfl)) (pa_cons (pe_slice sl_str (pv 8) po_none (po_some (pe_op op_add (pv 10) (pv 11)))) (pa_cons (pe_op op_add_str (pe_slice sl_str (pv 13) po_none (po_some (pv 11))) (pe_slice sl_str (pv 8) po_none (po_some pe_int))) pa_nil)))))
        (pss_one (ps_expr (pe_bm PySem.F.plainAttrs_list PySem.F.slot_list_append PySem.F.type_list_append mt_append (pv 6) (pa_cons
          (pe_ix ix_list (pe_op op_cat (pv 14) (pe_lst (pa_cons (pe_op op_add_str (pe_op op_add_str (pe_slice sl_str (pv 8) po_none (po_some (pv 9))) (pv 13)) (pe_slice sl_str (pv 8) (po_some (pe_op op_add (pv 9) pe_int)) (po_some (pv 4)))) pa_nil))) (pv 3) (fun _ _ => rfl)) pa_nil))))))))
    (pss_one (ps_ret (pv 6)))))))), ?_⟩
  -- letters, way
  refine ⟨fun σ' H' => Around1 H p (n + 1) H' ∧ ∃ way : Nat, way < 4 ∧ σ' = [some (.ref p), some (.int (m : Int)), some (.str LT), some (.int (way : Int)), none, none, none, none, none, none, none, none, none, none, none, none], ?_, ?_⟩
  · refine ⟨_, rfl, p, 4, n, rfl, hp, by omega, by decide, by decide, fun d H1 d0 d1 hb hp1 => ?_⟩
    refine ⟨by show 2 ≤ sizeLine; decide, fun t ht => ?_⟩
    refine ⟨t, _, rfl, SqT.of upd_same, rfl, _, _, rfl, _, _, rfl, rfl, ?_⟩
    exact ⟨Around1.same ⟨hb, hp1⟩ (same_new ht _), d.toNat, by omega, by rw [show ((d.toNat : Nat) : Int) = d by omega]; rfl⟩
  rintro _ H1 ⟨hA1, way, hway, rfl⟩
  -- size, start, found
  refine ⟨fun σ' H' => Around1 H p (n + 3) H' ∧ ∃ (size s0 : Int) (ff : Addr), 1 ≤ size ∧ size ≤ 8 ∧ 0 ≤ s0 ∧ s0 < 26 ∧ H ff = none ∧ H' ff = some (.lst []) ∧ σ' = [some (.ref p), some (.int (m : Int)), some (.str LT), some (.int (way : Int)), some (.int size), some (.int s0), some (.ref ff), none, none, none, none, none, none, none, none, none], ?_, ?_⟩
  · refine ⟨_, rfl, p, 8, n + 1, rfl, hA1.2, by omega, by decide, by decide, fun d H2 d0 d1 hb hp2 => ?_⟩
    have hA2 := hA1.draw hb hp2
    refine ⟨_, _, rfl, rfl, _, rfl, p, 26, n + 2, rfl, hA2.2, by omega, by decide, by decide, fun d2 H3 d20 d21 hb3 hp3 => ?_⟩
    have hA3 := hA2.draw hb3 hp3
    refine ⟨by show 0 ≤ sizeLine; decide, fun ff hff => ?_⟩
    have hA4 := hA3.new (o := .lst []) hff
    refine ⟨_, _, _, rfl, hA4, _, _, ff, ?_, ?_, d20, d21, hA3.free hp hff, upd_same, rfl⟩
    · omega
    · omega
  rintro _ H2 ⟨hA2, size, s0, ff, hs1, hs8, hs0, hs26, hff0, hff, rfl⟩
  have hfp := hp.ne hff0
  -- menu
  refine ⟨fun σ' H' => Around1 H p (n + 3) H' ∧ ∃ w : Addr, w ≠ p ∧ w ≠ ff ∧ H' ff = some (.lst []) ∧ H' w = some (.lst (menuR.map V.str)) ∧ σ' = [some (.ref p), some (.int (m : Int)), some (.str LT), some (.int (way : Int)), some (.int size), some (.int s0), some (.ref ff), some (.ref w), none, none, none, none, none, none, none, none], ?_, ?_⟩
  · refine ⟨by show 13 ≤ sizeLine; decide, fun w hw => ?_⟩
    exact ⟨hA2.new hw, w, hA2.2.ne hw, (ne_of_none hff hw).symm, same_new hw _ _ _ hff, upd_same, rfl⟩
  clear hff hA2
  rintro _ H3 ⟨hA3, w, hwp, hwf, hff, hw, rfl⟩
  -- stem
  refine ⟨fun σ' H' => Around1 H p (n + 11) H' ∧ H' ff = some (.lst []) ∧ H' w = some (.lst (menuR.map V.str)) ∧ ∃ st : Str, st.length = 8 ∧ ls st ∧ σ' = [some (.ref p), some (.int (m : Int)), some (.str LT), some (.int (way : Int)), some (.int size), some (.int s0), some (.ref ff), some (.ref w), some (.str st), none, none, none, none, none, none, none], ?_, ?_⟩
  · refine ⟨rfl, 8, rfl, by decide, by decide, fun D hD => ?_⟩
    have hDp : D ≠ p := hA3.2.ne hD
    refine lc_range (lo := 0) (n := 8) (fun i H' => ∃ ys : List Str, Around1 H3 p (n + 3 + i) H' ∧ H' D = some (.lst (ys.map V.str)) ∧ ys.length = i ∧ (∀ y ∈ ys, y.length = 1) ∧ ∀ y ∈ ys, ls y)
      ⟨[], ⟨.of (same_new hD _), hA3.2.same (same_new hD _)⟩, upd_same, rfl, (fun _ h => nomatch h), fun _ h => nomatch h⟩ ?_ ?_
    · rintro i H4 hi ⟨ys, hA4, hD4, hl, h1, hl1⟩
      refine ⟨rfl, ?_⟩
      show tCall spPick [] E0 (tCons (tVar 0) (tCons (tVar 2) tNil)) _ H4 _
      refine ⟨_, rfl, _, rfl, p, n + 3 + i, rfl, hA4.2, by omega, fun d H5 d0 d1 hb hp5 => ?_⟩
      refine ⟨_, hb _ _ hDp hD4, room_more (n := 8) (by omega) (by decide), ys ++ [⟨#[97 + d.toNat]⟩], (hA4.draw hb hp5).put hD hDp, more_str, len_more hl, fun y hy => ?_, fun y hy => ?_⟩
      · rcases List.mem_append.mp hy with hy | hy
        · exact h1 y hy
        · rw [List.mem_singleton.mp hy]
          rfl
      · rcases List.mem_append.mp hy with hy | hy
        · exact hl1 y hy
        · rw [List.mem_singleton.mp hy]
          exact ls_one (by omega)
    · rintro H4 ⟨ys, hA4, hD4, hl, h1, hl1⟩
      have hj : (Txt.join (Str.ofString "") ys).length = 8 := (PySem.W.KT.join_ones ys h1).trans hl
      refine ⟨_, D, ys, rfl, rfl, .inl (SqL.of hD4), join_room h1 (by omega), ?_⟩
      exact ⟨hA3.trans hA4, hA4.1 ff _ hfp hff, hA4.1 w _ hwp hw, _, hj, ls_joinT hl1, rfl⟩
  clear hff hA3 hw hA1
  rintro _ H4 ⟨hA4, hff, hw, st, hst, hls, rfl⟩
  -- at, first
  refine ⟨fun σ' H' => H' = H4 ∧ ∃ at' fi : Int, 0 ≤ at' ∧ at' < size ∧ 1 ≤ fi ∧ fi ≤ 4 ∧ σ' = [some (.ref p), some (.int (m : Int)), some (.str LT), some (.int (way : Int)), some (.int size), some (.int s0), some (.ref ff), some (.ref w), some (.str st), some (.int at'), some (.int fi), none, none, none, none, none], ?_, ?_⟩
  · refine ⟨_, rfl, .inl ⟨_, rfl, _, rfl, _, _, rfl, rfl, by omega, ?_⟩⟩
    refine ⟨_, rfl, .inl ⟨_, rfl, _, _, rfl, rfl, (by show (0 : Int) < 4; decide), ?_⟩⟩
    refine ⟨_, _, rfl, rfl, _, _, rfl, rfl, _, _, Int.emod_nonneg _ (by omega), Int.emod_lt_of_pos _ (by omega), ?_, ?_, rfl⟩
    · have := Int.emod_nonneg s0 (show (4 : Int) ≠ 0 by decide)
      omega
    · have := Int.emod_lt_of_pos s0 (show (0 : Int) < 4 by decide)
      omega
  rintro _ _ ⟨rfl, at', fi, ha0, ha1, hf1, hf4, rfl⟩
  refine ⟨fun σ' H' => Around1 H p (n + 11) H' ∧ ∃ v11 v12 v13 v14 : Option V, H' ff = some (.lst (((List.range m).map (wdf st s0 at' size fi way)).map V.str)) ∧ σ' = [some (.ref p), some (.int (m : Int)), some (.str LT), some (.int (way : Int)), some (.int size), some (.int s0), some (.ref ff), some (.ref w), some (.str st), some (.int at'), some (.int fi), v11, v12, v13, v14, none], ?_, ?_⟩
  · refine ⟨_, rfl, (m : Int), rfl, by omega, by omega, ?_⟩
    refine for_range (lo := 0) (fun i σ' H' => Around1 H p (n + 11) H' ∧ H' w = some (.lst (menuR.map V.str)) ∧ ∃ v11 v12 v13 v14 : Option V, H' ff = some (.lst (((List.range i).map (wdf st s0 at' size fi way)).map V.str)) ∧ σ' = [some (.ref p), some (.int (m : Int)), some (.str LT), some (.int (way : Int)), some (.int size), some (.int s0), some (.ref ff), some (.ref w), some (.str st), some (.int at'), some (.int fi), v11, v12, v13, v14, none])
      ⟨hA4, hw, none, none, none, none, hff, rfl⟩ ?_ ?_
    · rintro i σ' H5 hi ⟨hA5, hw5, v11, v12, v13, v14, hf5, rfl⟩
      refine ⟨_, rfl, _, rfl, _, _, rfl, rfl, .inl ⟨_, rfl, ?_⟩⟩
      refine ⟨_, rfl, _, rfl, _, _, rfl, rfl, (by show (0 : Int) < 26; decide), LT, _, _, rfl, rfl, by decide +kernel, lt_at (d := (s0 + (0 + (i : Int))) % 26) (Int.emod_nonneg _ (by decide)) (Int.emod_lt_of_pos _ (by decide)), ?_⟩
      refine ⟨_, rfl, _, rfl, _, _, rfl, rfl, (by show (0 : Int) < 13; decide), ?_⟩
      have z := menuR_at (d := (s0 + (0 + (i : Int))) % 13) (Int.emod_nonneg _ (by decide)) (Int.emod_lt_of_pos _ (by decide))
      refine ⟨w, _, _, _, rfl, rfl, SqL.of hw5, z.1, ?_⟩
      have b8 : ∀ a b, (cutS st a b).length ≤ 8 := fun a b => by
        have := cutS_length st a b
        omega
      have b1 : ∀ a b, (cutS (ltr s0 i) a b).length ≤ 1 := fun a b => cutS_length _ a b
      refine ⟨_, rfl, _, rfl, _, rfl, _, _, rfl, rfl, _, rfl, st, rfl, small100 (by omega), ?_⟩
      refine ⟨_, rfl, _, rfl, _, rfl, ltr s0 i, rfl, small100 (by rw [len_ltr]; decide), _, rfl, _, rfl, st, rfl, small100 (by omega), _, _, rfl, rfl, ?_, ?_⟩
      · have := b8 none (some 5)
        have := b1 none (some (0 + (i : Int)))
        exact small100 (by omega)
      refine ⟨by show 3 ≤ sizeLine; decide, fun o1 ho1 => ?_⟩
      have hA6 := hA5.new (o := .lst [V.str (menuR.getD ((s0 + (0 + (i : Int))) % 13).toNat Str.empty), V.str (cutS st none (some (fi + (0 + (i : Int))))), V.str (cutS (ltr s0 i) none (some (0 + (i : Int))) ++ cutS st none (some 5))]) ho1
      refine ⟨_, rfl, .inl ⟨rfl, _, SqL.of (same_new ho1 _ _ _ hf5)⟩, _, rfl, ?_⟩
      refine ⟨_, rfl, _, rfl, _, rfl, st, rfl, small100 (by omega), _, rfl, _, _, rfl, rfl, ?_, ?_⟩
      · have := b8 none (some at')
        have e1 := len_ltr s0 i
        unfold ltr at e1
        exact small100 (by omega)
      refine ⟨_, rfl, _, rfl, _, _, rfl, rfl, _, rfl, _, rfl, _, rfl, st, rfl, small100 (by omega), _, _, rfl, rfl, ?_, ?_⟩
      · have := b8 none (some at')
        have := b8 (some (at' + 1)) (some size)
        have e1 := len_ltr s0 i
        unfold ltr at e1
        rw [Str.length_append]
        exact small100 (by omega)
      refine ⟨by show 1 ≤ sizeLine; decide, fun o2 ho2 => ?_⟩
      refine ⟨o1, o2, _, _, rfl, rfl, same_new ho2 _ _ _ upd_same, upd_same, by show 3 + 1 ≤ sizeLine; decide, fun o3 ho3 => ?_⟩
      have hA7 := (hA6.new (o := .lst [V.str ((cutS st none (some at') ++ ltr s0 i) ++ cutS st (some (at' + 1)) (some size))]) ho2).new (o := .lst ((wd4 st s0 at' size fi i).map V.str)) ho3
      refine ⟨_, rfl, o3, _, _, .str (wdf st s0 at' size fi way i), rfl, rfl, SqL.of upd_same, wdf_at hway, ff, _, _, rfl, rfl, same_new ho3 _ _ _ (same_new ho2 _ _ _ (same_new ho1 _ _ _ hf5)), room_map (by omega), ?_⟩
      refine ⟨hA7.put hff0 hfp, ?_, _, _, _, _, more_map rfl, rfl⟩
      rw [upd_ne hwf]
      exact same_new ho3 _ _ _ (same_new ho2 _ _ _ (same_new ho1 _ _ _ hw5))
    · rintro σ' H6 ⟨hA6, hw6, v11, v12, v13, v14, hf6, rfl⟩
      rw [Int.toNat_natCast] at hf6
      exact ⟨hA6, v11, v12, v13, v14, hf6, rfl⟩
  clear hA4 hff hw
  rintro _ H5 ⟨hA5, v11, v12, v13, v14, hff, rfl⟩
  refine ⟨_, rfl, k ff _ H5 (hA5.mono (by omega)) hff0 hff (by rw [List.length_map, List.length_range]) (nodup_map fun i j hi hj e => wdf_inj hst ha0 ha1 hs8 hf1 hf4 hway (by omega) (by omega) e) (fun z hz => ?_)⟩
  obtain ⟨r, _, rfl⟩ := List.mem_map.mp hz
  exact wdf_ok hst hls ha0 ha1 hs8 hf1 hf4 hway
end
end K02
set_option Elab.async false
set_option linter.all false
set_option maxRecDepth 100000
set_option maxHeartbeats 4000000
namespace K02
open PySem L2 PyProof.Rows
/-! ### what may be handed on: a part M of the heap, and what is new -/
def gm (p : Addr) (H M H1 : Hp) : Hp := fun b => if (decide (b ≠ p) && ((H b).isNone || (M b).isSome)) = true then H1 b else none
def Hno : Hp := fun _ => none
section
variable {p b : Addr} {H M H1 H2 : Hp} {o : HO}
theorem gm_new (n : b ≠ p) (h : H b = none) (e : H1 b = some o) : gm p H M H1 b = some o := by
  unfold gm
  rw [if_pos (by rw [decide_eq_true n, h]; rfl)]
  exact e
theorem gm_old (n : b ≠ p) {o' : HO} (h : M b = some o') (e : H1 b = some o) : gm p H M H1 b = some o := by
  unfold gm
  rw [if_pos (by rw [decide_eq_true n, h]; simp)]
  exact e
theorem gm_le : Same (gm p H M H1) H1 := fun b o e => by
  unfold gm at e
  split at e
  · exact e
  · cases e
theorem gm_is (e : gm p H M H1 b = some o) : b ≠ p ∧ (H b = none ∨ ∃ o', M b = some o') ∧ H1 b = some o := by
  unfold gm at e
  split at e
  · rename_i c
    obtain ⟨c1, c2⟩ := Bool.and_eq_true_iff.mp c
    refine ⟨of_decide_eq_true c1, ?_, e⟩
    rcases Bool.or_eq_true_iff.mp c2 with c2 | c2
    · exact .inl (Option.isNone_iff_eq_none.mp c2)
    · exact .inr (Option.isSome_iff_exists.mp c2)
  · cases e
theorem gm_up (hp : M p = none) (s : Same M H1) : Same M (gm p H M H1) := fun b o e => gm_old (fun z => by
  rw [z, hp] at e
  cases e) e (s _ _ e)
theorem gm_p : gm p H M H1 p = none := by
  unfold gm
  rw [if_neg (by simp)]
/-- behind another step -/
theorem gm_next (s : ∀ b o, b ≠ p → H1 b = some o → H2 b = some o) : Same (gm p H M H1) (gm p H M H2) := fun b o e => by
  obtain ⟨n, c, e2⟩ := gm_is e
  rcases c with c | ⟨o', c⟩
  · exact gm_new n c (s _ _ n e2)
  · exact gm_old n c (s _ _ n e2)
/-- behind a step that changes a thing which is neither new nor of the part -/
theorem gm_skip {D : Addr} (hD : ∃ o, H D = some o) (hM : M D = none) (s : ∀ b o, b ≠ p → b ≠ D → H1 b = some o → H2 b = some o) : Same (gm p H M H1) (gm p H M H2) := fun b o e => by
  obtain ⟨n, c, e2⟩ := gm_is e
  have hb : b ≠ D := fun z => by
    subst z
    obtain ⟨_, hD⟩ := hD
    rcases c with c | ⟨o', c⟩
    · rw [hD] at c
      cases c
    · rw [hM] at c
      cases c
  rcases c with c | ⟨o', c⟩
  · exact gm_new n c (s _ _ n hb e2)
  · exact gm_old n c (s _ _ n hb e2)
/-- what a callee hands back -/
theorem gm_call {G : Hp} (fr : ∀ b, G b = none → H b = none) (s : ∀ b o, b ≠ p → gm p G M H1 b = some o → H2 b = some o) : Same (gm p G M H1) (gm p H M H2) := fun b o e => by
  obtain ⟨n, c, e2⟩ := gm_is e
  rcases c with c | ⟨o', c⟩
  · exact gm_new n (fr _ c) (s _ _ n e)
  · exact gm_old n c (s _ _ n e)
/-- a part may be larger -/
theorem gm_more {M' : Hp} (s : Same M M') : Same (gm p H M H1) (gm p H M' H1) := fun b o e => by
  obtain ⟨n, c, e2⟩ := gm_is e
  rcases c with c | ⟨o', c⟩
  · exact gm_new n c e2
  · exact gm_old n (s _ _ c) e2
theorem same_but (h : Same M H) (b : But p H H1) (hp : M p = none) : Same M H1 := fun a x e => b a x (fun z => by
  rw [z, hp] at e
  cases e) (h a x e)
end
theorem ne_but {p a : Addr} {H H1 : Hp} {n : Nat} (h : Purse H p n) (b : But p H H1) : ∀ c, H1 c = none → c ≠ p → H c = none := fun c e n => by
  cases q : H c with
  | none => rfl
  | some o =>
    rw [b c o n q] at e
    cases e
theorem Around1.dom {H H1 : Hp} {p : Addr} {c n : Nat} (h : Around1 H p c H1) (h0 : Purse H p n) : ∀ b, H1 b = none → H b = none := fun b e => h.free h0 e
theorem dom_upd {H : Hp} {a : Addr} {o : HO} : ∀ b, upd H a o b = none → H b = none := fun b e => by
  unfold upd at e
  split at e
  · cases e
  · exact e
theorem dom_new {H : Hp} {a : Addr} {o : HO} {b : Addr} (e : upd H a o b = none) : b ≠ a := fun z => by
  rw [z, upd_same] at e
  cases e
theorem RVs.take {H : Hp} : ∀ {ws : List Wv} {xs : List V} (i : Nat), RVs H ws xs → RVs H (ws.take i) (xs.take i)
  | [], xs, i, h => by
    have e : xs = [] := h
    rw [e, List.take_nil, List.take_nil]
    rfl
  | w :: ws, xs, 0, h => rfl
  | w :: ws, xs, i + 1, h => by
    obtain ⟨x, ys, rfl, h1, h2⟩ := h
    exact ⟨x, _, rfl, h1, h2.take i⟩
theorem kz_snoc {ns : List Str} {xs : List V} {i : Nat} {z : Str} {x : V} (h1 : ns[i]? = some z) (h2 : xs[i]? = some x) : kz (ns.take (i + 1)) (xs.take (i + 1)) = kz (ns.take i) (xs.take i) ++ [(Sum.inr z, x)] := by
  have hi := (List.getElem?_eq_some_iff.mp h1).1
  have hj := (List.getElem?_eq_some_iff.mp h2).1
  unfold kz
  rw [List.take_add_one, List.take_add_one, h1, h2, List.zip_append (by rw [List.length_take, List.length_take]; omega), List.map_append]
  rfl
theorem kz_keys : ∀ {ns : List Str} {xs : List V}, ns.length = xs.length → (kz ns xs).map (·.1) = ns.map Sum.inr
  | [], [], _ => rfl
  | n :: ns, x :: xs, h => by
    have ih := kz_keys (ns := ns) (xs := xs) (Nat.succ.inj h)
    show Sum.inr n :: (kz ns xs).map (·.1) = Sum.inr n :: ns.map Sum.inr
    rw [ih]
theorem valV_none {kvs : List (Key × V)} {k : Key} (h : k ∉ kvs.map (·.1)) : valV kvs k = none := by
  induction kvs with
  | nil => rfl
  | cons p r ih =>
    rw [List.map_cons, List.mem_cons, not_or] at h
    rw [valV_neg (fun e => h.1 e.symm)]
    exact ih h.2
theorem merge_new : ∀ {more kvs : List (Key × V)}, ((kvs ++ more).map (·.1)).Nodup → mergeK kvs more = kvs ++ more
  | [], kvs, _ => (List.append_nil kvs).symm
  | m :: more, kvs, h => by
    have hm : m.1 ∉ kvs.map (·.1) := by
      rw [List.map_append, List.map_cons] at h
      have := (List.nodup_append.mp h).2.2
      exact fun z => this _ z _ List.mem_cons_self rfl
    show mergeK (putK kvs m.1 m.2) more = kvs ++ m :: more
    rw [putK_new _ (valV_none hm)]
    have e : kvs ++ m :: more = (kvs ++ [(m.1, m.2)]) ++ more := by
      rw [List.append_assoc]
      rfl
    rw [e] at h ⊢
    exact merge_new h
theorem nodup_inr {ns : List Str} (h : ns.Nodup) : (ns.map (Sum.inr : Str → Key)).Nodup := by
  rw [List.nodup_iff_pairwise_ne, List.pairwise_map]
  exact (List.nodup_iff_pairwise_ne.mp h).imp fun hab e => hab (Sum.inr.inj e)
theorem paired_snoc {α β : Type} {F : α → β → Prop} : ∀ {l : List α} {m : List β} {a : α} {b : β}, Paired F l m → F a b → Paired F (l ++ [a]) (m ++ [b])
  | _, _, _, _, .nil, h => .cons h .nil
  | _, _, _, _, .cons r t, h => .cons r (paired_snoc t h)
theorem paired_len {α β : Type} {F : α → β → Prop} : ∀ {l : List α} {m : List β}, Paired F l m → l.length = m.length
  | _, _, .nil => rfl
  | _, _, .cons _ t => by rw [List.length_cons, List.length_cons, paired_len t]
/-- a test, and what is known behind it -/
def tCutT (t : TT) : TT := fun σ H Q => ∃ R : Bool → Hp → Prop, t σ H R ∧ ∀ b H', R b H' → Q b H'
theorem pt_cut {X : Cx} {e : Expr} {t : TT} (h : PT X e t) : PT X e (tCutT t) := ⟨fun pins s σ H Q I ⟨R, h1, h2⟩ => thn (h.run pins s σ H R I h1) fun b s1 ⟨H', I', q⟩ => ⟨H', I', h2 b H' q⟩⟩
/-- drawn values -/
def WOk : Nat → Wv → Prop
  | _, .non => True
  | _, .int i => i.natAbs ≤ 999
  | 0, .row _ => False
  | 0, .rcd _ _ => False
  | d + 1, .row ws => ws.length ≤ 3 ∧ ∀ u ∈ ws, WOk d u
  | d + 1, .rcd ns ws => ns.length = ws.length ∧ ws.length ≤ 3 ∧ ns.Nodup ∧ (∀ z ∈ ns, nmOk z) ∧ ∀ u ∈ ws, WOk d u
def cT : Nat → Nat
  | 0 => 5
  | d + 1 => 5 + 3 * cT d
theorem cT5 : ∀ d, 5 ≤ cT d
  | 0 => Nat.le_refl 5
  | d + 1 => Nat.le_add_right 5 _
def spThing (j : Nat) : Sp := fun vs H Q _ => ∃ (p fa : Addr) (zs : List Str) (deep n : Nat), vs = [.ref p, .ref fa, .int (deep : Int)] ∧ Purse H p n ∧ fa ≠ p ∧ H fa = some (.lst (zs.map V.str)) ∧ zs.Nodup ∧ zs.length ≤ 4 ∧ (∀ z ∈ zs, nmOk z) ∧ deep + 1 ≤ j ∧ n + cT deep < 10 ^ 60 ∧
  ∀ w v H', Around1 H p (n + cT deep) H' → WOk deep w → RV (gm p H Hno H') w v → Q v H'
abbrev nTh : List Str := ["sack", "fields", "deep", "way", "some", "turn", "at"]
section
variable {P : Program} {w : World} {K : PySem.W.Frag} {mg : Str → Option Value} {base : Heap}
theorem thing_none {f : Addr} {fd : FuncData} {ps : List Str} : FnOk P w K mg base CX0 0 f fd ps (spThing 0) := none_of fun vs H Q E h => by
  obtain ⟨_, _, _, deep, _, _, _, _, _, _, _, _, h1, _⟩ := h
  omega
theorem scTh : FnScope nTh ["sack", "fields", "deep"] (defScope sWkThing) := ⟨rfl, rfl, rfl, by decide +kernel, rfl, by decide +kernel, by decide +kernel⟩
theorem ok_thing {f fC : Addr} {fd fdC : FuncData} {k j : Nat} (F : Fun K "_law_wk_thing" "_law_wk_thing" sWkThing f fd) (T : Txt K mg) (zDict : mg "dict" = none) (FC : Fun K "_law_coin" "_law_coin" sCoin fC fdC) (bC : Binds K fdC ["purse", "many"] []) (mC : mg "_law_coin" = some (.ref fC)) (hk : 1 ≤ k)
    (G : FnOk P w K mg base CX0 k f fd ["sack", "fields", "deep"] (spThing j)) (b : Binds K fd ["sack", "fields", "deep"] []) (m : mg "_law_wk_thing" = some (.ref f)) : FnOk P w K mg base CX0 (k + 1) f fd ["sack", "fields", "deep"] (spThing (j + 1)) := by
  have GC : FnOk P w K mg base CX0 k fC fdC ["purse", "many"] spCoin := (ok_coin FC T).mono hk
  refine F.ok scTh (fun vs H Q E h => ?_) (fun cdv A outer s H vs Q E hr h => ?_)
  · obtain ⟨p, fa, zs, deep, n, rfl, _⟩ := h
    rfl
  obtain ⟨p, fa, zs, deep, n, rfl, hp, hfp, hfa, hnd, hz4, hzl, hdj, hn, kk⟩ := h
  have h5 := cT5 deep
  refine ⟨_, Evl.pss_cut (ps_set (i := 3) scTh.nd rfl (Or.inl rfl) (pe_call GC hr rfl mC FC.kp bC .nil pass0 (pa_cons (pv 0) (pa_cons pe_int pa_nil))))
    (Evl.pss_cut (ps_if (pt_cut (PW.pt (pw_or (pt_cmpR op_lt (pv 2) pe_int (nomark _)) (pw_or1 (pt_cmpR op_eq (pv 3) pe_int (nomark _))))))
      (pss_one (ps_ret (pe_ix ix_list (pe_lst (pa_cons pe_non (pa_cons (pe_op op_sub (pe_call GC hr rfl mC FC.kp bC .nil pass0 (pa_cons (pv 0) (pa_cons pe_int pa_nil))) pe_int) (pa_cons (pe_op op_sub (pe_call GC hr rfl mC FC.kp bC .nil pass0 (pa_cons (pv 0) (pa_cons pe_int pa_nil))) pe_int) pa_nil)))) (pe_call GC hr rfl mC FC.kp bC .nil pass0 (pa_cons (pv 0) (pa_cons pe_int pa_nil))) (fun _ _ => rfl)))) pss_nil)
    (Evl.pss_cut (ps_set (i := 4) scTh.nd rfl (Or.inr rfl) (pe_lc (own := [("turn", 5)]) (g := gName 5) (tt := tYes) rfl scTh.nd (pi_range1 rfl T.range (pa_cons (pe_call GC hr rfl mC FC.kp bC .nil pass0 (pa_cons (pv 0) (pa_cons pe_int pa_nil))) pa_nil)) (blkOk_by (N := nTh) (sc := defScope sWkThing) (by decide +kernel)) (fun _ _ _ _ _ => pg_name (i := 5) scTh.nd rfl (Or.inl rfl)) (fun _ _ _ _ _ => pts_nil)
        (fun _ _ _ _ _ => pe_call G hr rfl m F.kp b .nil pass0 (pa_cons (pv 0) (pa_cons (pv 1) (pa_cons (pe_op op_sub (pv 2) pe_int) pa_nil))))))
    (pss_cons (ps_if (pt_cmpR op_lt (pv 3) pe_int (nomark _)) (pss_one (ps_ret (pv 4))) pss_nil)
    (pss_one (ps_ret (pe_callTy (call_dictP rfl) (by rfl) zDict (by decide +kernel) (pa_cons (pe_lc (own := [("at", 6)]) (g := gName 6) (tt := tYes) rfl scTh.nd (pi_range1 rfl T.range (pa_cons (pe_callB (call_min2 rfl) (by rfl) T.min boot_min (pa_cons (pe_callB call_len_seq (by rfl) T.len PySem.boot_len (pa_cons (pv 4) pa_nil)) (pa_cons (pe_callB call_len_seq (by rfl) T.len PySem.boot_len (pa_cons (pv 1) pa_nil)) pa_nil))) pa_nil)) (blkOk_by (N := nTh) (sc := defScope sWkThing) (by decide +kernel)) (fun _ _ _ _ _ => pg_name (i := 6) scTh.nd rfl (Or.inl rfl)) (fun _ _ _ _ _ => pts_nil)
        (fun _ _ _ _ _ => pe_tup (pa_cons (pe_ix (show IxR _ (rIxL K) from ix_list) (pv 1) (pv 6) (fun _ _ => rfl)) (pa_cons (pe_ix (show IxR _ (rIxL K) from ix_list) (pv 4) (pv 6) (fun _ _ => rfl)) pa_nil)))) pa_nil))))))), ?_⟩
  -- way
  refine ⟨fun σ' H' => Around1 H p (n + 1) H' ∧ ∃ way : Int, σ' = [some (.ref p), some (.ref fa), some (.int (deep : Int)), some (.int way), none, none, none], ?_, ?_⟩
  · refine ⟨_, rfl, p, 6, n, rfl, hp, by omega, by decide, by decide, fun d H1 d0 d1 hb hp1 => ?_⟩
    exact ⟨⟨hb, hp1⟩, d, rfl⟩
  rintro _ H1 ⟨hA1, way, rfl⟩
  -- a leaf
  refine ⟨fun σ' H' => H' = H1 ∧ 1 ≤ deep ∧ σ' = [some (.ref p), some (.ref fa), some (.int (deep : Int)), some (.int way), none, none, none], ?_, ?_⟩
  · refine ⟨fun b H' => H' = H1 ∧ (b = false → 1 ≤ deep), ?_, ?_⟩
    · refine ⟨_, rfl, _, _, rfl, rfl, _, rfl, ?_⟩
      refine ite2 (fun c => ⟨rfl, fun z => nomatch z⟩) (fun c => ?_)
      have c' : ¬ ((deep : Int) < 1) := fun z => c (decide_eq_true z)
      exact ⟨_, rfl, rfl, _, rfl, rfl, fun _ => by omega⟩
    rintro b _ ⟨rfl, hb⟩
    cases b with
    | false => exact ⟨rfl, hb rfl, rfl⟩
    | true =>
      refine ⟨_, rfl, p, 9, n + 1, rfl, hA1.2, by omega, by decide, by decide, fun d1 H2 d10 d11 hb2 hp2 => ?_⟩
      have hA2 := hA1.draw hb2 hp2
      refine ⟨_, _, rfl, rfl, _, rfl, p, 1999, n + 2, rfl, hA2.2, by omega, by decide, by decide, fun d2 H3 d20 d21 hb3 hp3 => ?_⟩
      have hA3 := hA2.draw hb3 hp3
      refine ⟨_, _, rfl, rfl, by show 3 ≤ sizeLine; decide, fun o ho => ?_⟩
      have hA4 := hA3.new (o := .lst [V.non, .int (d1 - 4), .int (d2 - 999)]) ho
      refine ⟨_, rfl, p, 3, n + 3, rfl, hA4.2, by omega, by decide, by decide, fun d3 H5 d30 d31 hb5 hp5 => ?_⟩
      have hA5 := (hA4.draw hb5 hp5).mono (show n + 3 + 1 ≤ n + cT deep by omega)
      have ho5 : H5 o = some (.lst [V.non, .int (d1 - 4), .int (d2 - 999)]) := hb5 o _ (hA3.2.ne ho) upd_same
      have e : d3 = ((0 : Nat) : Int) ∨ d3 = ((1 : Nat) : Int) ∨ d3 = ((2 : Nat) : Int) := by omega
      rcases e with rfl | rfl | rfl
      · exact ⟨o, _, _, .non, rfl, rfl, SqL.of ho5, atI_nat (j := 0) rfl, kk .non .non _ hA5 (by unfold WOk; trivial) rfl⟩
      · exact ⟨o, _, _, .int (d1 - 4), rfl, rfl, SqL.of ho5, atI_nat (j := 1) rfl, kk (.int (d1 - 4)) (.int (d1 - 4)) _ hA5 (by unfold WOk; omega) rfl⟩
      · exact ⟨o, _, _, .int (d2 - 999), rfl, rfl, SqL.of ho5, atI_nat (j := 2) rfl, kk (.int (d2 - 999)) (.int (d2 - 999)) _ hA5 (by unfold WOk; omega) rfl⟩
  rintro _ H1 ⟨rfl, hd1, rfl⟩
  obtain ⟨dp, rfl⟩ : ∃ dp, deep = dp + 1 := ⟨deep - 1, by omega⟩
  have ecT : cT (dp + 1) = 5 + 3 * cT dp := rfl
  -- some
  refine ⟨fun σ' H' => Around1 H p (n + 2 + 3 * cT dp) H' ∧ ∃ (sa : Addr) (ws : List Wv) (xs : List V), sa ≠ p ∧ H sa = none ∧ H' sa = some (.lst xs) ∧ RVs (gm p H Hno H') ws xs ∧ ws.length ≤ 3 ∧ (∀ u ∈ ws, WOk dp u) ∧ σ' = [some (.ref p), some (.ref fa), some (.int ((dp + 1 : Nat) : Int)), some (.int way), some (.ref sa), none, none], ?_, ?_⟩
  · refine ⟨_, rfl, p, 4, n + 1, rfl, hA1.2, by omega, by decide, by decide, fun c H2 c0 c1 hb2 hp2 => ?_⟩
    have hA2 := hA1.draw hb2 hp2
    obtain ⟨c, rfl⟩ : ∃ c' : Nat, c = (c' : Int) := ⟨c.toNat, by omega⟩
    refine ⟨(c : Int), rfl, by omega, by omega, fun D hD => ?_⟩
    have hDp : D ≠ p := hA2.2.ne hD
    have hD0 : H D = none := hA2.free hp hD
    have hcm : c * cT dp ≤ 3 * cT dp := Nat.mul_le_mul_right _ (by omega)
    refine lc_range (lo := 0) (fun i H' => ∃ (ws : List Wv) (xs : List V), Around1 H2 p (n + 2 + i * cT dp) H' ∧ H' D = some (.lst xs) ∧ RVs (gm p (upd H2 D (.lst [])) Hno H') ws xs ∧ ws.length = i ∧ ∀ u ∈ ws, WOk dp u)
      ⟨[], [], ⟨.of (same_new hD _), (hA2.2.same (same_new hD _)).mono (by omega)⟩, upd_same, rfl, rfl, fun _ h => nomatch h⟩ ?_ ?_
    · rintro i H4 hi ⟨ws, xs, hA4, hD4, hr4, hl, hw⟩
      have hdom : ∀ b, H4 b = none → (upd H2 D (.lst [])) b = none := fun b e => by
        rw [upd_ne (fun z => by rw [z, hD4] at e; cases e)]
        exact hA4.free hA2.2 e
      have hic : i * cT dp + cT dp ≤ 3 * cT dp := by
        rw [← Nat.succ_mul]
        exact Nat.mul_le_mul_right _ (by omega)
      refine ⟨rfl, ?_⟩
      show tCall (spThing j) [] E0 (tCons (tVar 0) (tCons (tVar 1) (tCons (tOp (rI0 fun i j => V.int (i - j)) (tVar 2) (tC (V.int 1))) tNil))) _ H4 _
      refine ⟨_, rfl, _, rfl, _, rfl, _, _, rfl, rfl, p, fa, zs, dp, n + 2 + i * cT dp, ?_, hA4.2, hfp, hA4.1 fa _ hfp (hA2.1 fa _ hfp hfa), hnd, hz4, hzl, by omega, by omega, fun w v H5 hA5 hwo hrv => ?_⟩
      · show [V.ref p, V.ref fa, V.int (((dp + 1 : Nat) : Int) - 1)] = _
        rw [show ((dp + 1 : Nat) : Int) - 1 = (dp : Int) by omega]
      have hD5 := hA5.1 D _ hDp hD4
      have hxl : xs.length = i := hr4.len.trans hl
      refine ⟨_, hD5, Nat.lt_of_lt_of_le (show xs.length < 1000 by omega) (by decide), ws ++ [w], xs ++ [v], ?_, upd_same, RVs.snoc (hr4.same (gm_skip ⟨_, upd_same⟩ rfl fun b o n1 n2 e => ?_)) (hrv.same (gm_call hdom fun b o n1 e => ?_)), by rw [List.length_append, hl]; rfl, ?_⟩
      · refine ((hA4.trans hA5).put hD hDp).mono ?_
        rw [Nat.succ_mul]
        omega
      · rw [upd_ne n2]
        exact hA5.1 b o n1 e
      · rw [upd_ne fun z => ?_]
        · exact gm_le b o e
        · obtain ⟨_, z2, _⟩ := gm_is e
          rw [z, hD4] at z2
          rcases z2 with z2 | ⟨_, z2⟩ <;> cases z2
      · intro u hu
        rcases List.mem_append.mp hu with hu | hu
        · exact hw u hu
        · rw [List.mem_singleton.mp hu]
          exact hwo
    · rintro H4 ⟨ws, xs, hA4, hD4, hr4, hl, hw⟩
      rw [Int.toNat_natCast] at hl
      refine ⟨(hA2.trans hA4).mono (by rw [Int.toNat_natCast]; omega), D, ws, xs, hDp, hD0, hD4, hr4.same (gm_call (fun b e => hA2.free hp (dom_upd b e)) fun b o _ e => gm_le b o e), by omega, hw, rfl⟩
  clear hA1
  rintro _ H2 ⟨hA2, sa, ws, xs, hsp, hsa0, hsa, hws, hw3, hwo, rfl⟩
  have hA2' : Around1 H p (n + cT (dp + 1)) H2 := hA2.mono (by omega)
  refine ⟨_, rfl, _, _, rfl, rfl, _, rfl, ?_⟩
  refine ite2 (fun _ => ?_) (fun _ => ?_)
  · exact ⟨_, rfl, kk (.row ws) (.ref sa) H2 hA2' ⟨hw3, hwo⟩ ⟨sa, xs, rfl, gm_new hsp hsa0 hsa, hws⟩⟩
  have hxl : xs.length = ws.length := hws.len
  have hfa2 := hA2.1 fa _ hfp hfa
  refine ⟨_, rfl, sa, xs, rfl, .inl (SqL.of hsa), _, rfl, fa, _, rfl, .inl (SqL.of hfa2), _, _, rfl, ?_⟩
  rw [List.length_map]
  obtain ⟨mm, em, hm1, hm2⟩ : ∃ mm : Nat, (if ((zs.length : Nat) : Int) < ((xs.length : Nat) : Int) then ((zs.length : Nat) : Int) else ((xs.length : Nat) : Int)) = (mm : Int) ∧ mm ≤ zs.length ∧ mm ≤ xs.length := by
    split
    · exact ⟨zs.length, rfl, Nat.le_refl _, by omega⟩
    · exact ⟨xs.length, rfl, by omega, Nat.le_refl _⟩
  rw [em]
  refine ⟨(mm : Int), rfl, by omega, by omega, fun D hD => ?_⟩
  refine lc_range (lo := 0) (fun i H' => ∃ ps : List Addr, Same H2 H' ∧ H' D = some (.lst (ps.map V.ref)) ∧ Paired (fun q kv => H' q = some (.tup [kV kv.1, kv.2])) ps (kz (zs.take i) (xs.take i)))
    ⟨[], same_new hD _, upd_same, .nil⟩ ?_ ?_
  · rintro i H4 hi ⟨ps, hs4, hD4, hps⟩
    rw [Int.toNat_natCast] at hi
    refine ⟨rfl, ?_⟩
    show tOp (rIxL K) (tVar 1) (tVar 6) _ H4 _
    have hiz : i < zs.length := by omega
    have hix : i < xs.length := by omega
    have ez : zs[i]? = some zs[i] := List.getElem?_eq_getElem hiz
    have ex : xs[i]? = some xs[i] := List.getElem?_eq_getElem hix
    refine ⟨_, rfl, _, rfl, fa, _, _, .str zs[i], rfl, rfl, SqL.of (hs4 _ _ hfa2), at_ofN (j := i) (by omega) (by rw [List.getElem?_map, ez]; rfl), _, rfl, _, rfl, sa, xs, _, xs[i], rfl, rfl, SqL.of (hs4 _ _ hsa), at_ofN (j := i) (by omega) ex, by show 2 ≤ sizeLine; decide, fun q hq => ?_⟩
    have hqD : D ≠ q := ne_of_none hD4 hq
    have hlen : ps.length = i := by
      have e1 := congrArg List.length (kz_keys (ns := zs.take i) (xs := xs.take i) (by rw [List.length_take, List.length_take]; omega))
      rw [List.length_map, List.length_map, List.length_take] at e1
      have := paired_len hps
      omega
    refine ⟨_, by rw [upd_ne hqD]; exact hD4, by rw [List.length_map]; exact Nat.lt_of_lt_of_le (show ps.length < 1000 by omega) (by decide), ps ++ [q], same_put (hs4.trans (same_new hq _)) hD, by rw [upd_same, List.map_append]; rfl, ?_⟩
    rw [kz_snoc ez ex]
    refine paired_snoc (L2.Paired.mapP hps fun a b e => ?_) ?_
    · have hne : a ≠ D := fun z => by
        rw [z, hD4] at e
        cases e
      rw [upd_ne hne]
      exact same_new hq _ _ _ e
    · show (upd (upd H4 q _) D _) q = _
      rw [upd_ne hqD.symm, upd_same]
      rfl
  · rintro H4 ⟨ps, hs4, hD4, hps⟩
    rw [Int.toNat_natCast] at hps
    have hkeys : ((kz (zs.take mm) (xs.take mm)).map (·.1)).Nodup := by
      rw [kz_keys (by rw [List.length_take, List.length_take]; omega)]
      exact nodup_inr (hnd.sublist (List.take_sublist mm zs))
    refine ⟨D, ps, _, rfl, SqL.of hD4, L2.Paired.mapP hps (fun a b e => SqT.of e), fun q hq => ?_⟩
    have em2 : mergeK [] (kz (zs.take mm) (xs.take mm)) = kz (zs.take mm) (xs.take mm) := merge_new (kvs := []) hkeys
    rw [em2]
    have hA4 : Around1 H p (n + cT (dp + 1)) H4 := hA2'.same hs4
    have hq0 : H q = none := hA4.free hp hq
    refine kk (.rcd (zs.take mm) (ws.take mm)) (.ref q) _ (hA4.new hq) ⟨?_, ?_, hnd.sublist (List.take_sublist mm zs), fun z hz => hzl z (List.mem_of_mem_take hz), fun u hu => hwo u (List.mem_of_mem_take hu)⟩ ⟨q, xs.take mm, rfl, gm_new (hp.ne hq0) hq0 upd_same, ?_, ?_⟩
    · rw [List.length_take, List.length_take]
      omega
    · rw [List.length_take]
      omega
    · rw [List.length_take, List.length_take]
      omega
    · exact (hws.take mm).same (gm_next fun b o _ e => same_new hq _ _ _ (hs4 _ _ e))
end
end K02
set_option Elab.async false
set_option linter.all false
set_option maxRecDepth 100000
set_option maxHeartbeats 4000000
namespace K02
open PySem L2 PyProof.Rows
/-! ### the places of a value and its results -/
theorem lf_str {z : Str} : Leaf (.str z) := .inr (.inr (.inr ⟨_, rfl⟩))
theorem lf_int {i : Int} : Leaf (.int i) := .inr (.inr (.inl ⟨_, rfl⟩))
def cS : Nat → Nat
  | 0 => 1
  | d + 1 => 1 + 3 * cS d
theorem cS1 : ∀ d, 1 ≤ cS d
  | 0 => Nat.le_refl 1
  | d + 1 => Nat.le_add_right 1 _
abbrev G3 := Pl × Wv × Nat
def Ent (H : Hp) (w0 : Wv) (rs : List Wv) (g : G3) (e : V) : Prop := ∃ a x y, e = .ref a ∧ H a = some (.tup [x, y]) ∧ RW H (plD g.1) x ∧ RV H g.2.1 y ∧ wAt w0 rs g.1 = some g.2.1 ∧ WOk g.2.2 g.2.1 ∧ plN g.1 + g.2.2 ≤ 3
theorem Ent.same {H H1 : Hp} (s : Same H H1) {w0 : Wv} {rs : List Wv} {g : G3} {e : V} (h : Ent H w0 rs g e) : Ent H1 w0 rs g e := by
  obtain ⟨a, x, y, e1, ha, hx, hy, r⟩ := h
  exact ⟨a, x, y, e1, s _ _ ha, hx.same s, hy.same s, r⟩
def Ents (H : Hp) (w0 : Wv) (rs : List Wv) : List G3 → List V → Prop := Paired (Ent H w0 rs)
theorem Ents.same {H H1 : Hp} (s : Same H H1) {w0 : Wv} {rs : List Wv} {gs : List G3} {es : List V} (h : Ents H w0 rs gs es) : Ents H1 w0 rs gs es := L2.Paired.mapP h fun _ _ z => z.same s
theorem paired_app {α β : Type} {F : α → β → Prop} : ∀ {l l2 : List α} {m m2 : List β}, Paired F l m → Paired F l2 m2 → Paired F (l ++ l2) (m ++ m2)
  | _, _, _, _, .nil, h => h
  | _, _, _, _, .cons r t, h => .cons r (paired_app t h)
theorem paired_at {α β : Type} {F : α → β → Prop} : ∀ {l : List α} {m : List β} {i : Nat} {b : β}, Paired F l m → m[i]? = some b → ∃ a, l[i]? = some a ∧ F a b
  | _, _, i, _, .nil, e => by simp at e
  | _, _, 0, _, .cons r t, e => by
    have e' := Option.some.inj e
    exact ⟨_, rfl, e' ▸ r⟩
  | _, _, i + 1, _, .cons r t, e => paired_at t (i := i) e
def pot (gs : List G3) : Nat := (gs.map fun g => cS g.2.2).sum
theorem pot_app (a b : List G3) : pot (a ++ b) = pot a + pot b := by
  unfold pot
  rw [List.map_append, List.sum_append]
theorem pot_len : ∀ gs : List G3, gs.length ≤ pot gs
  | [] => Nat.le_refl 0
  | g :: gs => by
    have := pot_len gs
    have := cS1 g.2.2
    unfold pot at *
    rw [List.map_cons, List.sum_cons, List.length_cons]
    omega
theorem pot_few {d : Nat} : ∀ {gs : List G3}, (∀ g ∈ gs, g.2.2 = d) → pot gs = gs.length * cS d
  | [], _ => by
    show 0 = 0 * cS d
    omega
  | g :: gs, h => by
    have ih := pot_few (d := d) (gs := gs) fun x hx => h x (List.mem_cons_of_mem _ hx)
    have := h g List.mem_cons_self
    unfold pot at *
    rw [List.map_cons, List.sum_cons, List.length_cons, ih, this, Nat.succ_mul]
    omega
theorem WOk.down {d : Nat} {w : Wv} (h : WOk d w) (hr : w.isR = true ∨ w.isD = true) : ∃ d', d = d' + 1 := by
  cases d with
  | succ d => exact ⟨d, rfl⟩
  | zero =>
    cases w <;> first | exact h.elim | (rcases hr with z | z <;> cases z)
/-- an entry that was made: its place and its thing -/
def NewE (H1 H' : Hp) (nm : String) (x : V) (kv : V × V) (e : V) : Prop := ∃ q1 q2, e = .ref q1 ∧ H1 q1 = none ∧ H1 q2 = none ∧ H' q1 = some (.tup [.ref q2, kv.2]) ∧ H' q2 = some (.tup [.str (Str.ofString nm), x, kv.1])
theorem kz_kV : ∀ {ns : List Str} {xs : List V}, ns.length = xs.length → (kz ns xs).map (fun kv => kV kv.1) = ns.map V.str
  | [], [], _ => rfl
  | n :: ns, x :: xs, h => by
    have ih := kz_kV (ns := ns) (xs := xs) (Nat.succ.inj h)
    show V.str n :: (kz ns xs).map (fun kv => kV kv.1) = V.str n :: ns.map V.str
    rw [ih]
theorem wFd_mem : ∀ {ns : List Str} {ws : List Wv} {z : Str}, z ∈ ns → ns.length = ws.length → ∃ u, wFd ns ws z = some u ∧ u ∈ ws
  | n :: ns, w :: ws, z, h, hl => by
    unfold wFd
    by_cases e : n = z
    · rw [if_pos e]
      exact ⟨w, rfl, List.mem_cons_self⟩
    · rw [if_neg e]
      rcases List.mem_cons.mp h with h | h
      · exact absurd h.symm e
      · obtain ⟨u, h1, h2⟩ := wFd_mem h (Nat.succ.inj hl)
        exact ⟨u, h1, List.mem_cons_of_mem _ h2⟩
theorem paired_mem {α β : Type} {F G : α → β → Prop} : ∀ {l : List α} {m : List β}, Paired F l m → (∀ a b, a ∈ l → F a b → G a b) → Paired G l m
  | _, _, .nil, _ => .nil
  | _, _, .cons r t, f => .cons (f _ _ List.mem_cons_self r) (paired_mem t fun a b h => f a b (List.mem_cons_of_mem _ h))
def kyN : Ky → String
  | .ix _ => "item"
  | .fd _ => "field"
theorem plD_next (p : Pl) (k : Ky) : plD (pNext p k) = .tup [S (kyN k), plD p, .leaf k.v] := by cases k <;> rfl
theorem plN_next (p : Pl) (k : Ky) : plN (pNext p k) = plN p + 1 := by cases k <;> rfl
theorem wAt_next {w : Wv} {rs : List Wv} {p : Pl} {k : Ky} : wAt w rs (pNext p k) = (wAt w rs p).bind fun u => wIn u k := by
  cases k
  · exact wAt_item
  · exact wAt_field
theorem ent_new {H H2 H3 M : Hp} {fo : Addr} {w0 u w : Wv} {rs : List Wv} {pl : Pl} {ky : Ky} {d : Nat} {x y e : V} (hs2 : Same H H2) (hfo2 : ∃ o, H2 fo = some o) (hN : NewE H2 H3 (kyN ky) x (ky.v, y) e) (s : Same H2 H3)
    (hx : RW (gm fo H M H2) (plD pl) x) (hy : RV (gm fo H M H2) u y) (hat : wAt w0 rs pl = some w) (hin : wIn w ky = some u) (hw : WOk d u) (hd : plN pl + (d + 1) ≤ 3) : Ent (gm fo H M H3) w0 rs (pNext pl ky, u, d) e := by
  obtain ⟨q1, q2, rfl, f1, f2, h1, h2⟩ := hN
  obtain ⟨o, hfo2⟩ := hfo2
  have n : ∀ q, H2 q = none → q ≠ fo := fun q hq z => by
    rw [z, hfo2] at hq
    cases hq
  have hS : Same (gm fo H M H2) (gm fo H M H3) := gm_next fun b o _ e => s _ _ e
  refine ⟨q1, .ref q2, y, rfl, gm_new (n _ f1) (hs2.free f1) h1, ?_, hy.same hS, by rw [wAt_next, hat]; exact hin, hw, by rw [plN_next]; show plN pl + 1 + d ≤ 3; omega⟩
  show RW _ (plD (pNext pl ky)) _
  rw [plD_next]
  exact ⟨q2, _, rfl, gm_new (n _ f2) (hs2.free f2) h2, _, _, rfl, ⟨rfl, lf_str⟩, _, _, rfl, hx.same hS, _, [], rfl, ⟨rfl, ky_leaf ky⟩, rfl⟩
theorem paired_mapL {α β γ : Type} {G : γ → β → Prop} {f : α → γ} : ∀ {l : List α} {m : List β}, Paired (fun a b => G (f a) b) l m → Paired G (l.map f) m
  | _, _, .nil => .nil
  | _, _, .cons r t => .cons r (paired_mapL t)
theorem NewE.step {H1 H2 H3 : Hp} {D : Addr} {xs ys : List V} {nm : String} {x e : V} {kv : V × V} (h : NewE H1 H2 nm x kv e) (hD : H2 D = some (.lst xs)) (s : Same H2 H3) : NewE H1 (upd H3 D (.lst ys)) nm x kv e := by
  obtain ⟨q1, q2, rfl, f1, f2, h1, h2⟩ := h
  refine ⟨q1, q2, rfl, f1, f2, ?_, ?_⟩
  · rw [upd_ne (ne_of h1 hD (fun z => nomatch z))]
    exact s _ _ h1
  · rw [upd_ne (ne_of h2 hD (fun z => nomatch z))]
    exact s _ _ h2
def spPlaces : Sp := fun vs H Q _ => ∃ (M : Hp) (v : V) (ra : Addr) (xs : List V) (w0 : Wv) (rs : List Wv), vs = [v, .ref ra] ∧ Same M H ∧ RV M w0 v ∧ H ra = some (.lst xs) ∧ RVs M rs xs ∧ WOk 3 w0 ∧ rs.length ≤ 3 ∧ (∀ u ∈ rs, WOk 1 u) ∧
  ∀ fd es gs H', Same H H' → H fd = none → H' fd = some (.lst es) → 1 ≤ es.length → es.length ≤ 60 → Ents (gm fd H M H') w0 rs gs es → Q (.ref fd) H'
abbrev nPl : List Str := ["value_here", "results_here", "found", "number", "one", "at", "place", "thing", "spot", "name"]
section
variable {P : Program} {w : World} {K : PySem.W.Frag} {mg : Str → Option Value} {base : Heap}
theorem scPs : FnScope nPl ["value_here", "results_here"] (defScope sWkPlaces) := ⟨rfl, rfl, rfl, by decide +kernel, rfl, by decide +kernel, by decide +kernel⟩
theorem ok_places {f : Addr} {fd : FuncData} (F : Fun K "_law_wk_places" "_law_wk_places" sWkPlaces f fd) (T : Txt K mg) (zDict : mg "dict" = none) (zEnum : mg "enumerate" = none) (zSorted : mg "sorted" = none) : FnOk P w K mg base CX0 1 f fd ["value_here", "results_here"] spPlaces := by
  refine F.ok scPs (fun vs H Q E h => ?_) (fun cdv A outer s H vs Q E hr h => ?_)
  · obtain ⟨M, v, ra, xs, w0, rs, rfl, _⟩ := h
    rfl
  obtain ⟨M, v, ra, xs, w0, rs, rfl, hM, hv, hra, hrs, hw0, hr3, hro, kk⟩ := h
  have hu1 : (A.deeper (envOfC "_law_wk_places" (defScope sWkPlaces) s.heap.objs.size f cdv)).units + 1 < cLine := by
    have := hr.units
    omega
  refine ⟨_, Evl.pss_cut (ps_set (i := 2) scPs.nd rfl (Or.inl rfl) (pe_lst (pa_cons (pe_tup (pa_cons (pe_tup (pa_cons pe_str pa_nil)) (pa_cons (pv 0) pa_nil))) pa_nil)))
    (Evl.pss_cut (ps_for PassesOwn.never rfl (pi_enum rfl zEnum (pa_cons (pv 1) pa_nil)) (pg_tup rfl (pgs_cons (pg_name (i := 3) scPs.nd rfl (Or.inl rfl)) (pgs_cons (pg_name (i := 4) scPs.nd rfl (Or.inl rfl)) pgs_nil)))
      (pss_one (ps_expr (pe_bm PySem.F.plainAttrs_list PySem.F.slot_list_append PySem.F.type_list_append mt_append (pv 2) (pa_cons (pe_tup (pa_cons (pe_tup (pa_cons pe_str (pa_cons (pv 3) pa_nil))) (pa_cons (pv 4) pa_nil))) pa_nil)))))
    (pss_cons (ps_set (i := 5) scPs.nd rfl (Or.inl rfl) pe_int)
    (Evl.pss_cut (ps_while PassesOwn.never (pt_cmpR op_lt (pv 5) (pe_callB call_len_seq (by rfl) T.len PySem.boot_len (pa_cons (pv 2) pa_nil)) (nomark _))
      (pss_cons (ps_asg (pe_ix ix_list (pv 2) (pv 5) (fun _ _ => rfl)) (pg_tup rfl (pgs_cons (pg_name (i := 6) scPs.nd rfl (Or.inr rfl)) (pgs_cons (pg_name (i := 7) scPs.nd rfl (Or.inr rfl)) pgs_nil))))
      (Evl.pss_cut (ps_if (pt_val (pe_callB call_isi (by rfl) T.isi boot_isinstance (pa_cons (pv 7) (pa_cons (pe_bltn (v := .ty "list") (by rfl) T.list boot_list rfl) pa_nil))))
        (pss_one (ps_expr (pe_bm PySem.F.plainAttrs_list PySem.F.slot_list_extend PySem.F.type_list_extend mt_extend (pv 2) (pa_cons (pe_lc (own := [("spot", 8)]) (g := gName 8) (tt := tYes) rfl scPs.nd (pi_range1 rfl T.range (pa_cons (pe_callB call_len_seq (by rfl) T.len PySem.boot_len (pa_cons (pv 7) pa_nil)) pa_nil)) (blkOk_by (N := nPl) (sc := defScope sWkPlaces) (by decide +kernel)) (fun _ _ _ _ _ => pg_name (i := 8) scPs.nd rfl (Or.inl rfl)) (fun _ _ _ _ _ => pts_nil)
          (fun _ _ _ _ _ => pe_tup (pa_cons (pe_tup (pa_cons pe_str (pa_cons (pv 6) (pa_cons (pv 8) pa_nil)))) (pa_cons (pe_ix (show IxR _ (rIxL K) from ix_list) (pv 7) (pv 8) (fun _ _ => rfl)) pa_nil)))) pa_nil)))) pss_nil)
      (Evl.pss_cut (ps_if (pt_val (pe_callB call_isi (by rfl) T.isi boot_isinstance (pa_cons (pv 7) (pa_cons (pe_bltn (v := .ty "dict") (by rfl) zDict boot_dict rfl) pa_nil))))
        (pss_one (ps_expr (pe_bm PySem.F.plainAttrs_list PySem.F.slot_list_extend PySem.F.type_list_extend mt_extend (pv 2) (pa_cons (pe_lc (own := [("name", 9)]) (g := gName 9) (tt := tYes) rfl scPs.nd (pi_list (pe_callB cr_sortedS (by rfl) zSorted (by decide +kernel) (pa_cons (pe_callTy (call_list_dK rfl) (by rfl) T.list boot_list (pa_cons (pv 7) pa_nil)) pa_nil))) (blkOk_by (N := nPl) (sc := defScope sWkPlaces) (by decide +kernel)) (fun _ _ _ _ _ => pg_name (i := 9) scPs.nd rfl (Or.inl rfl)) (fun _ _ _ _ _ => pts_nil)
          (fun _ _ _ _ _ => pe_tup (pa_cons (pe_tup (pa_cons pe_str (pa_cons (pv 6) (pa_cons (pv 9) pa_nil)))) (pa_cons (pe_dget hu1 (pv 7) (pv 9) (fun _ _ => rfl)) pa_nil)))) pa_nil)))) pss_nil)
      (pss_one (ps_set (i := 5) scPs.nd rfl (Or.inl rfl) (pe_op op_add (pv 5) pe_int)))))))
    (pss_one (ps_ret (pv 2)))))), ?_⟩
  -- the value
  refine ⟨fun σ' H' => ∃ (fo : Addr) (es : List V), Same H H' ∧ H fo = none ∧ H' fo = some (.lst es) ∧ Ents (gm fo H M H') w0 rs [(.value, w0, 3)] es ∧ σ' = [some v, some (.ref ra), some (.ref fo), none, none, none, none, none, none, none], ?_, ?_⟩
  · refine ⟨by show 1 ≤ sizeLine; decide, fun q2 hq2 => ⟨_, rfl, by show 2 ≤ sizeLine; decide, fun q1 hq1 => ⟨by show 1 ≤ sizeLine; decide, fun fo hfo => ?_⟩⟩⟩
    have s2 := same_new hq2 (.tup [V.str (Str.ofString "value")])
    have s1 := same_new hq1 (.tup [V.ref q2, v])
    have s0 := same_new hfo (.lst [V.ref q1])
    have sA := (s2.trans s1).trans s0
    have hfo0 : H fo = none := (s2.trans s1).free hfo
    have hMf : M fo = none := hM.free hfo0
    have n2 : q2 ≠ fo := ne_of_none (s1 _ _ upd_same) hfo
    have n1 : q1 ≠ fo := ne_of_none upd_same hfo
    refine ⟨fo, [.ref q1], sA, hfo0, upd_same, .cons ⟨q1, .ref q2, v, rfl, gm_new n1 (s2.free hq1) (s0 _ _ upd_same), ⟨q2, _, rfl, gm_new n2 hq2 (s0 _ _ (s1 _ _ upd_same)), ⟨_, [], rfl, ⟨rfl, lf_str⟩, rfl⟩⟩, hv.same (gm_up hMf (hM.trans sA)), rfl, hw0, Nat.le_refl 3⟩ .nil, rfl⟩
  rintro _ H1 ⟨fo, es1, hs1, hfo0, hfo1, he1, rfl⟩
  have hMf : M fo = none := hM.free hfo0
  have hMp : ∀ {H' : Hp}, Same H H' → Same M (gm fo H M H') := fun s => gm_up hMf (hM.trans s)
  -- the results
  refine ⟨fun σ' H' => ∃ (es : List V) (v3 v4 : Option V) (gs : List G3), Same H H' ∧ H' fo = some (.lst es) ∧ Ents (gm fo H M H') w0 rs gs es ∧ 1 ≤ es.length ∧ pot gs ≤ 60 ∧ σ' = [some v, some (.ref ra), some (.ref fo), v3, v4, none, none, none, none, none], ?_, ?_⟩
  · have hxl := hrs.len
    refine ⟨_, rfl, ra, xs, rfl, SqL.of (hs1 _ _ hra), ?_⟩
    refine for_it walk_enum (fun i σ' H' => ∃ (es : List V) (v3 v4 : Option V) (gs : List G3), Same H H' ∧ H' fo = some (.lst es) ∧ Ents (gm fo H M H') w0 rs gs es ∧ 1 ≤ es.length ∧ pot gs ≤ 40 + 4 * i ∧ σ' = [some v, some (.ref ra), some (.ref fo), v3, v4, none, none, none, none, none])
      ⟨es1, none, none, _, hs1, hfo1, he1, by rw [← paired_len he1]; exact Nat.le_refl 1, by show 40 + 0 ≤ 40 + 4 * 0; decide, rfl⟩ (fun i σ' H' _ ⟨_, _, _, _, h, _⟩ => SqL.of (h _ _ hra)) ?_ ?_
    · rintro i x σ' H3 H4 hi ⟨es, v3, v4, gs, hs3, hfo3, he3, hl3, hp3, rfl⟩ ⟨Tt, x1, y1, rfl, hT, rfl, e1, e2⟩
      obtain rfl := Option.some.inj e1
      obtain ⟨u, hu, ru⟩ := hrs.item e2
      have sT := same_new hT (.tup [V.int ((i : Nat) : Int), y1])
      refine ⟨Tt, _, rfl, SqT.of upd_same, rfl, _, _, rfl, _, _, rfl, rfl, ?_⟩
      refine ⟨_, rfl, .inl ⟨rfl, _, SqL.of (sT _ _ hfo3)⟩, _, rfl, by show 2 ≤ sizeLine; decide, fun q2 hq2 => ⟨_, rfl, by show 2 ≤ sizeLine; decide, fun q1 hq1 => ?_⟩⟩
      have s2 := same_new hq2 (.tup [V.str (Str.ofString "result"), V.int ((i : Nat) : Int)])
      have s1 := same_new hq1 (.tup [V.ref q2, y1])
      have sA := (sT.trans s2).trans s1
      have hfo4 := sA _ _ hfo3
      have hel : es.length = gs.length := (paired_len he3).symm
      have hgl := pot_len gs
      have hq1f : q1 ≠ fo := (ne_of_none ((sT.trans s2) _ _ hfo3) hq1).symm
      have hq2f : q2 ≠ fo := (ne_of_none (sT _ _ hfo3) hq2).symm
      refine ⟨fo, _, _, rfl, rfl, hfo4, Nat.lt_of_lt_of_le (show es.length < 1000 by omega) (by decide), es ++ [.ref q1], _, _, gs ++ [(.res i, u, 1)], same_put (hs3.trans sA) hfo0, upd_same, ?_, ?_, ?_, rfl⟩
      · have hN : Same (gm fo H M H3) (gm fo H M (upd (upd (upd (upd H3 Tt (.tup [V.int ((i : Nat) : Int), y1])) q2 (.tup [V.str (Str.ofString "result"), V.int ((i : Nat) : Int)])) q1 (.tup [V.ref q2, y1])) fo (.lst (es ++ [.ref q1])))) := gm_next fun b o n e => by
          rw [upd_ne n]
          exact sA _ _ e
        refine paired_snoc (he3.same hN) ⟨q1, .ref q2, y1, rfl, gm_new hq1f (hs3.free ((sT.trans s2).free hq1)) (by rw [upd_ne hq1f]; exact upd_same), ⟨q2, _, rfl, gm_new hq2f (hs3.free (sT.free hq2)) (by rw [upd_ne hq2f]; exact s1 _ _ upd_same), ⟨_, _, rfl, ⟨rfl, lf_str⟩, _, [], rfl, ⟨rfl, lf_int⟩, rfl⟩⟩, ru.same ((hMp hs3).trans hN), ?_, hro u (List.mem_of_getElem? hu), Nat.le_add_left 1 2⟩
        show (rs[i]?).bind (fun u => some u) = some u
        rw [hu]
        rfl
      · rw [List.length_append]
        omega
      · rw [pot_app]
        show pot gs + (4 + 0) ≤ _
        omega
    · rintro σ' H3 ⟨es, v3, v4, gs, hs3, hfo3, he3, hl3, hp3, rfl⟩
      exact ⟨es, v3, v4, gs, hs3, hfo3, he3, hl3, by omega, rfl⟩
  clear hs1 hfo1 he1
  rintro _ H1 ⟨es1, v3, v4, gs1, hs1, hfo1, he1, hl1, hp1, rfl⟩
  refine ⟨fun σ' H' => ∃ (es : List V) (gs : List G3) (v3 v4 v5 v6 v7 v8 v9 : Option V), Same H H' ∧ H' fo = some (.lst es) ∧ Ents (gm fo H M H') w0 rs gs es ∧ 1 ≤ es.length ∧ es.length ≤ 60 ∧ σ' = [some v, some (.ref ra), some (.ref fo), v3, v4, v5, v6, v7, v8, v9], ?_, ?_⟩
  · refine ⟨fun n σ' H' => ∃ (i : Nat) (es : List V) (gs : List G3) (v3 v4 v6 v7 v8 v9 : Option V), Same H H' ∧ H' fo = some (.lst es) ∧ Ents (gm fo H M H') w0 rs gs es ∧ 1 ≤ es.length ∧ i ≤ es.length ∧ i + pot (gs.drop i) ≤ 60 ∧ n = pot (gs.drop i) ∧ σ' = [some v, some (.ref ra), some (.ref fo), v3, v4, some (.int (i : Int)), v6, v7, v8, v9],
      ⟨pot gs1, 0, es1, gs1, _, _, _, _, _, _, hs1, hfo1, he1, hl1, Nat.zero_le _, by rw [List.drop_zero]; omega, by rw [List.drop_zero], rfl⟩, ?_⟩
    rintro n σ' H2 ⟨i, es, gs, v3, v4, v6, v7, v8, v9, hs2, hfo2, he2, hl2, hi, hpt, rfl, rfl⟩
    have hel : gs.length = es.length := paired_len he2
    refine ⟨_, rfl, _, rfl, fo, es, rfl, .inl (SqL.of hfo2), _, _, rfl, rfl, _, rfl, ?_⟩
    refine ite2 (fun c => ?_) (fun c => ?_)
    · have hil : i < es.length := by
        have z := of_decide_eq_true c
        omega
      obtain ⟨⟨pl, wv, d⟩, hg, a, x, y, ee, ha, hx, hy, hat, hwo, hpd⟩ := paired_at he2 (List.getElem?_eq_getElem hil)
      have hdrop : gs.drop i = (pl, wv, d) :: gs.drop (i + 1) := by
        have hi' : i < gs.length := by omega
        rw [List.drop_eq_getElem_cons hi']
        have e2 : gs[i]? = some gs[i] := List.getElem?_eq_getElem hi'
        rw [hg] at e2
        rw [← Option.some.inj e2]
      have hpd2 : pot (gs.drop i) = cS d + pot (gs.drop (i + 1)) := by
        rw [hdrop]
        rfl
      refine ⟨fun σ' H' => ∃ m', m' < pot (gs.drop i) ∧ ∃ (i : Nat) (es : List V) (gs : List G3) (v3 v4 v6 v7 v8 v9 : Option V), Same H H' ∧ H' fo = some (.lst es) ∧ Ents (gm fo H M H') w0 rs gs es ∧ 1 ≤ es.length ∧ i ≤ es.length ∧ i + pot (gs.drop i) ≤ 60 ∧ m' = pot (gs.drop i) ∧ σ' = [some v, some (.ref ra), some (.ref fo), v3, v4, some (.int (i : Int)), v6, v7, v8, v9], fun σ' H' h => h, ?_⟩
      refine ⟨_, rfl, _, rfl, fo, es, _, _, rfl, rfl, SqL.of hfo2, atI_nat (List.getElem?_eq_getElem hil), a, _, ee, SqT.of (gm_le _ _ ha), rfl, _, _, rfl, _, _, rfl, rfl, ?_⟩
      obtain ⟨sT, hty, k1, k2⟩ := (hy.same gm_le).ty (K := K)
      refine ⟨fun σ' H' => ∃ (cs : List G3) (es' : List V) (v8 v9 : Option V), Same H H' ∧ Same (gm fo H M H2) (gm fo H M H') ∧ H' fo = some (.lst es') ∧ Ents (gm fo H M H') w0 rs (gs ++ cs) es' ∧ pot cs + 1 ≤ cS d ∧ (wv.isR = false → cs = []) ∧ σ' = [some v, some (.ref ra), some (.ref fo), v3, v4, some (.int (i : Int)), some x, some y, v8, v9], ?_, ?_⟩
      · refine ⟨_, rfl, _, _, _, _, _, rfl, .ty _, hty, kit_ty k1, _, rfl, ?_⟩
        have stay : wv.isR = false → ∃ (cs : List G3) (es' : List V) (v8' v9' : Option V), Same H H2 ∧ Same (gm fo H M H2) (gm fo H M H2) ∧ H2 fo = some (.lst es') ∧ Ents (gm fo H M H2) w0 rs (gs ++ cs) es' ∧ pot cs + 1 ≤ cS d ∧ (wv.isR = false → cs = []) ∧ [some v, some (.ref ra), some (.ref fo), v3, v4, some (.int (i : Int)), some x, some y, v8, v9] = [some v, some (.ref ra), some (.ref fo), v3, v4, some (.int (i : Int)), some x, some y, v8', v9'] :=
          fun _ => ⟨[], es, v8, v9, hs2, Same.refl _, hfo2, by rw [List.append_nil]; exact he2, cS1 d, fun _ => rfl, rfl⟩
        cases wv with
        | non => exact iteF (stay rfl)
        | int i => exact iteF (stay rfl)
        | rcd ns ws => exact iteF (stay rfl)
        | row ws =>
          clear stay
          obtain ⟨d, rfl⟩ := hwo.down (.inl rfl)
          obtain ⟨hw3, hwa⟩ := hwo
          obtain ⟨b, zs, rfl, hb, hzs⟩ := hy
          have hb2 := gm_le _ _ hb
          have hzl : zs.length = ws.length := hzs.len
          refine iteT ⟨_, rfl, .inl ⟨rfl, _, SqL.of hfo2⟩, _, rfl, b, zs, rfl, .inl (SqL.of hb2), _, rfl, by omega, by omega, fun D hD => ?_⟩
          refine lc_range (lo := 0) (fun j H' => ∃ ns, Same H2 H' ∧ H' D = some (.lst ns) ∧ Paired (fun (t : Nat) e => ∃ yv, zs[t]? = some yv ∧ NewE H2 H' "item" x (.int (t : Int), yv) e) (List.range j) ns)
            ⟨[], same_new hD _, upd_same, .nil⟩ ?_ ?_
          · rintro j H4 hj ⟨ns, hs4, hD4, hns⟩
            rw [Int.toNat_natCast] at hj
            have ez : zs[j]? = some zs[j] := List.getElem?_eq_getElem hj
            refine ⟨rfl, ?_⟩
            unfold tYes
            refine iteT ?_
            refine ⟨_, rfl, _, rfl, by show 3 ≤ sizeLine; decide, fun q2 hq2 => ?_⟩
            have s2 := same_new hq2 (.tup [V.str (Str.ofString "item"), x, V.int (0 + (j : Int))])
            refine ⟨_, rfl, _, rfl, b, zs, _, zs[j], rfl, rfl, SqL.of (s2 _ _ (hs4 _ _ hb2)), at_ofN (j := j) (by omega) ez, by show 2 ≤ sizeLine; decide, fun q1 hq1 => ?_⟩
            have s1 := same_new hq1 (.tup [V.ref q2, zs[j]])
            have hnl : ns.length = j := by
              rw [← paired_len hns, List.length_range]
            have hD5 := s1 _ _ (s2 _ _ hD4)
            refine ⟨ns, hD5, Nat.lt_of_lt_of_le (show ns.length < 1000 by omega) (by decide), ns ++ [.ref q1], same_put ((hs4.trans s2).trans s1) hD, upd_same, ?_⟩
            rw [List.range_succ]
            refine paired_snoc (L2.Paired.mapP hns fun t e ⟨yv, z1, z2⟩ => ⟨yv, z1, z2.step hD4 (s2.trans s1)⟩) ⟨zs[j], ez, q1, q2, rfl, (hs4.trans s2).free hq1, hs4.free hq2, ?_, ?_⟩
            · rw [upd_ne (ne_of_none (s2 _ _ hD4) hq1).symm]
              exact upd_same
            · rw [upd_ne (ne_of_none hD4 hq2).symm]
              have z : (0 : Int) + (j : Int) = (j : Int) := by omega
              have z2 := s1 _ _ (upd_same (a := q2) (H := H4) (o := HO.tup [V.str (Str.ofString "item"), x, V.int (0 + (j : Int))]))
              rw [z2, z]
          · rintro H4 ⟨ns, hs4, hD4, hns⟩
            rw [Int.toNat_natCast] at hns
            have hnl : ns.length = zs.length := by
              rw [← paired_len hns, List.length_range]
            have hfo4 := hs4 _ _ hfo2
            have hgl := pot_len gs
            have hE : Ents (gm fo H M H4) w0 rs ((List.range zs.length).map fun t => (pNext pl (.ix t), ws.getD t .non, d)) ns := by
              refine paired_mapL (L2.Paired.mapP hns fun t e ⟨yv, z1, z2⟩ => ?_)
              obtain ⟨u, hu, ru⟩ := hzs.item z1
              have eu : ws.getD t .non = u := by rw [List.getD_eq_getElem?_getD, hu]; rfl
              rw [eu]
              exact ent_new hs2 ⟨_, hfo2⟩ (ky := .ix t) z2 hs4 hx ru hat hu (hwa u (List.mem_of_getElem? hu)) hpd
            have hg4 : Same (gm fo H M H2) (gm fo H M H4) := gm_next fun b o _ e => hs4 _ _ e
            have hg5 : ∀ o, Same (gm fo H M H4) (gm fo H M (upd H4 fo o)) := fun o => gm_next fun b o n e => by
              rw [upd_ne n]
              exact e
            have hc1 := pot_len (gs.drop i)
            rw [List.length_drop] at hc1
            refine ⟨fo, D, es, ns, rfl, rfl, hfo4, hD4, Nat.le_trans (show es.length + ns.length ≤ 1000 by omega) (by decide), _, es ++ ns, v8, v9, same_put (hs2.trans hs4) hfo0, hg4.trans (hg5 _), upd_same, Ents.same (hg5 _) (paired_app (he2.same hg4) hE), ?_, (fun z => nomatch z), rfl⟩
            rw [pot_few (d := d) (fun g hg => by obtain ⟨t, _, rfl⟩ := List.mem_map.mp hg; rfl), List.length_map, List.length_range]
            have := Nat.mul_le_mul_right (cS d) (show zs.length ≤ 3 by omega)
            show _ ≤ 1 + 3 * cS d
            omega
      rintro _ H3 ⟨cs, es3, v8', v9', hs3, hg3, hfo3, he3, hcs, hcr, rfl⟩
      refine ⟨fun σ' H' => ∃ (cs : List G3) (es' : List V) (v8 v9 : Option V), Same H H' ∧ H' fo = some (.lst es') ∧ Ents (gm fo H M H') w0 rs (gs ++ cs) es' ∧ pot cs + 1 ≤ cS d ∧ σ' = [some v, some (.ref ra), some (.ref fo), v3, v4, some (.int (i : Int)), some x, some y, v8, v9], ?_, ?_⟩
      · obtain ⟨sT3, hty3, k13, k23⟩ := ((hy.same hg3).same gm_le).ty (K := K)
        refine ⟨_, rfl, _, _, _, _, _, rfl, .ty _, hty3, kit_ty k23, _, rfl, ?_⟩
        cases wv with
        | non => exact iteF ⟨cs, es3, v8', v9', hs3, hfo3, he3, hcs, rfl⟩
        | int i => exact iteF ⟨cs, es3, v8', v9', hs3, hfo3, he3, hcs, rfl⟩
        | row ws => exact iteF ⟨cs, es3, v8', v9', hs3, hfo3, he3, hcs, rfl⟩
        | rcd ns ws =>
          obtain rfl := hcr rfl
          rw [List.append_nil] at he3
          obtain ⟨d, rfl⟩ := hwo.down (.inr rfl)
          obtain ⟨hln, hw3, hnd, hzl, hwa⟩ := hwo
          have hy3 := hy.same hg3
          have hx3 := hx.same hg3
          obtain ⟨b, zs, rfl, hb, hln2, hzs⟩ := hy3
          have hb3 := gm_le _ _ hb
          have hzl2 : zs.length = ws.length := hzs.len
          refine iteT ⟨_, rfl, .inl ⟨rfl, _, SqL.of hfo3⟩, _, rfl, b, _, rfl, hb3, fun l1 hl1 => ?_⟩
          have t1 := same_new hl1 (.lst ((kz ns zs).map fun kv => kV kv.1))
          refine ⟨l1, ns, rfl, SqL.of (by rw [upd_same, kz_kV (by omega)]), by omega, fun ys l2 hperm _ hl2 => ?_⟩
          have t2 := same_new hl2 (.lst (ys.map V.str))
          have t12 := t1.trans t2
          have hl2' : (upd (upd H3 l1 (.lst ((kz ns zs).map fun kv => kV kv.1))) l2 (.lst (ys.map V.str))) l2 = some (.lst (ys.map V.str)) := upd_same
          generalize upd (upd H3 l1 (.lst ((kz ns zs).map fun kv => kV kv.1))) l2 (.lst (ys.map V.str)) = H4 at t12 hl2' ⊢
          refine ⟨l2, rfl, ⟨_, SqL.of hl2'⟩, fun D hD => ?_⟩
          have hyl : ys.length = ns.length := hperm.length_eq
          refine lc_list (K := K) (a := l2) (xs := ys.map V.str) (fun j H' => ∃ ms, Same H4 H' ∧ H' D = some (.lst ms) ∧ Paired (fun (z : Str) e => ∃ yv, valV (kz ns zs) (Sum.inr z) = some yv ∧ NewE H3 H' "field" x (.str z, yv) e) (ys.take j) ms)
            ⟨[], same_new hD _, upd_same, .nil⟩ (fun j H' _ ⟨_, h, _⟩ => SqL.of (h _ _ hl2')) ?_ ?_
          · rintro j xv H5 hj ⟨ms, hs5, hD5, hms⟩
            rw [List.getElem?_map] at hj
            obtain ⟨z, hz, rfl⟩ : ∃ z, ys[j]? = some z ∧ V.str z = xv := by
              cases e : ys[j]? with
              | none =>
                rw [e] at hj
                cases hj
              | some z =>
                rw [e] at hj
                exact ⟨z, rfl, Option.some.inj hj⟩
            have hzn : z ∈ ns := hperm.mem_iff.mp (List.mem_of_getElem? hz)
            obtain ⟨u, hu, _⟩ := wFd_mem hzn hln
            obtain ⟨yv, hyv, _⟩ := (kz_val (ns := ns) (z := z) hzs).1 u hu
            refine ⟨rfl, ?_⟩
            unfold tYes
            refine iteT ?_
            refine ⟨_, rfl, _, rfl, by show 3 ≤ sizeLine; decide, fun q2 hq2 => ?_⟩
            have s2 := same_new hq2 (.tup [V.str (Str.ofString "field"), x, V.str z])
            refine ⟨_, rfl, _, rfl, b, yv, rfl, ?_, by show 2 ≤ sizeLine; decide, fun q1 hq1 => ?_⟩
            · rw [← hyv]
              exact DGet.k (k := Sum.inr z) (s2 _ _ (hs5 _ _ (t12 _ _ hb3)))
            have s1 := same_new hq1 (.tup [V.ref q2, yv])
            have hjl : j < ys.length := (List.getElem?_eq_some_iff.mp hz).1
            have hnl : ms.length = j := by
              rw [← paired_len hms, List.length_take]
              omega
            have hD6 := s1 _ _ (s2 _ _ hD5)
            refine ⟨ms, hD6, Nat.lt_of_lt_of_le (show ms.length < 1000 by omega) (by decide), ms ++ [.ref q1], same_put ((hs5.trans s2).trans s1) hD, upd_same, ?_⟩
            rw [List.take_add_one, hz]
            refine paired_snoc (L2.Paired.mapP hms fun t e ⟨yv, z1, z2⟩ => ⟨yv, z1, z2.step hD5 (s2.trans s1)⟩) ⟨yv, hyv, q1, q2, rfl, t12.free ((hs5.trans s2).free hq1), t12.free (hs5.free hq2), ?_, ?_⟩
            · rw [upd_ne (ne_of_none (s2 _ _ hD5) hq1).symm]
              exact upd_same
            · rw [upd_ne (ne_of_none hD5 hq2).symm]
              exact s1 _ _ upd_same
          · rintro H5 ⟨ms, hs5, hD5, hms⟩
            rw [List.length_map, List.take_length] at hms
            have hnl : ms.length = ys.length := (paired_len hms).symm
            have hs35 := t12.trans hs5
            have hfo5 := hs35 _ _ hfo3
            have hgl : gs.length = es3.length := paired_len he3
            have hc1 := pot_len (gs.drop i)
            rw [List.length_drop] at hc1
            have hE : Ents (gm fo H M H5) w0 rs (ys.map fun z => (pNext pl (.fd z), (wFd ns ws z).getD .non, d)) ms := by
              refine paired_mapL (paired_mem hms fun z e hz ⟨yv, z1, z2⟩ => ?_)
              obtain ⟨u, hu, hum⟩ := wFd_mem (hperm.mem_iff.mp hz) hln
              obtain ⟨yv', hyv', ru⟩ := (kz_val (ns := ns) (z := z) hzs).1 u hu
              rw [z1] at hyv'
              obtain rfl := Option.some.inj hyv'
              rw [hu]
              exact ent_new hs3 ⟨_, hfo3⟩ (ky := .fd z) z2 hs35 hx3 ru hat hu (hwa u hum) hpd
            have hg4 : Same (gm fo H M H3) (gm fo H M H5) := gm_next fun b o _ e => hs35 _ _ e
            have hg5 : ∀ o, Same (gm fo H M H5) (gm fo H M (upd H5 fo o)) := fun o => gm_next fun b o n e => by
              rw [upd_ne n]
              exact e
            refine ⟨fo, D, es3, ms, rfl, rfl, hfo5, hD5, Nat.le_trans (show es3.length + ms.length ≤ 1000 by omega) (by decide), _, es3 ++ ms, v8', v9', same_put (hs3.trans hs35) hfo0, upd_same, Ents.same (hg5 _) (paired_app (he3.same hg4) hE), ?_, rfl⟩
            rw [pot_few (d := d) (fun g hg => by obtain ⟨t, _, rfl⟩ := List.mem_map.mp hg; rfl), List.length_map]
            have := Nat.mul_le_mul_right (cS d) (show ys.length ≤ 3 by omega)
            show _ ≤ 1 + 3 * cS d
            omega
      rintro _ H4 ⟨cs, es4, v8'', v9'', hs4, hfo4, he4, hcs4, rfl⟩
      have hdr : (gs ++ cs).drop (i + 1) = gs.drop (i + 1) ++ cs := List.drop_append_of_le_length (by omega)
      have hpp : pot ((gs ++ cs).drop (i + 1)) + 1 ≤ pot (gs.drop i) := by
        rw [hdr, pot_app, hpd2]
        omega
      have hel4 := paired_len he4
      rw [List.length_append] at hel4
      refine ⟨_, rfl, _, _, rfl, rfl, pot ((gs ++ cs).drop (i + 1)), by omega, i + 1, es4, gs ++ cs, _, _, _, _, _, _, hs4, hfo4, he4, by omega, by omega, by omega, rfl, rfl⟩
    · have hdl := pot_len (gs.drop i)
      rw [List.length_drop] at hdl
      exact ⟨es, gs, _, _, _, _, _, _, _, hs2, hfo2, he2, hl2, by omega, rfl⟩
  rintro _ H2 ⟨es, gs, v3, v4, v5, v6, v7, v8, v9, hs2, hfo2, he2, hl2, hl60, rfl⟩
  exact ⟨_, rfl, kk fo es gs H2 hs2 hfo0 hfo2 hl2 hl60 he2⟩
end
end K02
set_option Elab.async false
set_option linter.all false
set_option maxRecDepth 100000
set_option maxHeartbeats 4000000
namespace K02
open PySem L2 PyProof.Rows
/-- what all drawing of trees goes by: places at la, names at fa, within the part M -/
structure Ctx (p la fa : Addr) (M : Hp) (w0 : Wv) (rs : List Wv) (es : List V) (gs : List G3) (zs : List Str) : Prop where
  mp : M p = none
  la : M la = some (.lst es)
  en : Ents M w0 rs gs es
  e1 : 1 ≤ es.length
  e60 : es.length ≤ 60
  fa : M fa = some (.lst (zs.map V.str))
  z1 : 1 ≤ zs.length
  z4 : zs.length ≤ 4
  nd : zs.Nodup
  zl : ∀ z ∈ zs, nmOk z
  w0k : WOk 3 w0
  rl : rs.length ≤ 3
  rk : ∀ u ∈ rs, WOk 1 u
def KyOk : Ky → Prop
  | .ix i => i ≤ 1000
  | .fd z => nmOk z
def LkOk : Lk → Prop
  | .has _ k => KyOk k
  | _ => True
def spLook : Sp := fun vs H Q _ => ∃ (p la fa : Addr) (M : Hp) (w0 : Wv) (rs : List Wv) (es : List V) (gs : List G3) (zs : List Str) (n : Nat), vs = [.ref p, .ref la, .ref fa] ∧ Ctx p la fa M w0 rs es gs zs ∧ Same M H ∧ Purse H p n ∧ n + 3 < 10 ^ 60 ∧
  ∀ (r a : Addr) (l : Lk) (u : Wv) H', Around1 H p (n + 3) H' → H r = none → H' r = some (.lst [.ref a, ansW u l]) → RW (gm p H M H') (lkD l) (.ref a) → wAt w0 rs (lkP l) = some u → okLk u l → plN (lkP l) ≤ 3 → LkOk l → Q (.ref r) H'
section
variable {P : Program} {w : World} {K : PySem.W.Frag} {mg : Str → Option Value} {base : Heap}
theorem scLk : FnScope ["sack", "places", "fields", "place", "thing", "way", "key"] ["sack", "places", "fields"] (defScope sWkLook) := ⟨rfl, rfl, rfl, by decide +kernel, rfl, by decide +kernel, by decide +kernel⟩
theorem ok_look {f fC : Addr} {fd fdC : FuncData} (F : Fun K "_law_wk_look" "_law_wk_look" sWkLook f fd) (T : Txt K mg) (zDict : mg "dict" = none) (FC : Fun K "_law_coin" "_law_coin" sCoin fC fdC) (bC : Binds K fdC ["purse", "many"] []) (mC : mg "_law_coin" = some (.ref fC)) :
    FnOk P w K mg base CX0 2 f fd ["sack", "places", "fields"] spLook := by
  have GC : FnOk P w K mg base CX0 1 fC fdC ["purse", "many"] spCoin := ok_coin FC T
  refine F.ok scLk (fun vs H Q E h => ?_) (fun cdv A outer s H vs Q E hr h => ?_)
  · obtain ⟨p, la, fa, M, w0, rs, es, gs, zs, n, rfl, _⟩ := h
    rfl
  obtain ⟨p, la, fa, M, w0, rs, es, gs, zs, n, rfl, C, hM, hp, hn, kk⟩ := h
  have hu1 : (A.deeper (envOfC "_law_wk_look" (defScope sWkLook) s.heap.objs.size f cdv)).units + 1 < cLine := by
    have := hr.units
    omega
  refine ⟨_, Evl.pss_cut (ps_asg (pe_ix ix_list (pv 1) (pe_call GC hr rfl mC FC.kp bC .nil pass0 (pa_cons (pv 0) (pa_cons (pe_callB call_len_seq (by rfl) T.len PySem.boot_len (pa_cons (pv 1) pa_nil)) pa_nil))) (fun _ _ => rfl)) (pg_tup rfl (pgs_cons (pg_name (i := 3) scLk.nd rfl (Or.inl rfl)) (pgs_cons (pg_name (i := 4) scLk.nd rfl (Or.inl rfl)) pgs_nil))))
    (Evl.pss_cut (ps_set (i := 5) scLk.nd rfl (Or.inl rfl) (pe_call GC hr rfl mC FC.kp bC .nil pass0 (pa_cons (pv 0) (pa_cons pe_int pa_nil))))
    (pss_cons (ps_if (pt_cut (PW.pt (pw_and (pt_cmpR op_eq (pv 5) pe_int (nomark _)) (pw_and1 (pt_val (pe_callB call_isi (by rfl) T.isi boot_isinstance (pa_cons (pv 4) (pa_cons (pe_bltn (v := .ty "list") (by rfl) T.list boot_list rfl) pa_nil))))))))
        (pss_cons (ps_set (i := 6) scLk.nd rfl (Or.inl rfl) (pe_call GC hr rfl mC FC.kp bC .nil pass0 (pa_cons (pv 0) (pa_cons (pe_op op_add (pe_callB call_len_seq (by rfl) T.len PySem.boot_len (pa_cons (pv 4) pa_nil)) pe_int) pa_nil))))
        (pss_one (ps_ret (pe_lst (pa_cons (pe_tup (pa_cons pe_str (pa_cons (pv 3) (pa_cons (pv 6) pa_nil)))) (pa_cons (pe_cmpR op_lt (pv 6) (pe_callB call_len_seq (by rfl) T.len PySem.boot_len (pa_cons (pv 4) pa_nil)) (nomark _)) pa_nil)))))) pss_nil)
    (pss_cons (ps_if (pt_cut (PW.pt (pw_and (pt_cmpR op_eq (pv 5) pe_int (nomark _)) (pw_and1 (pt_val (pe_callB call_isi (by rfl) T.isi boot_isinstance (pa_cons (pv 4) (pa_cons (pe_bltn (v := .ty "dict") (by rfl) zDict boot_dict rfl) pa_nil))))))))
        (pss_cons (ps_set (i := 6) scLk.nd rfl (Or.inl rfl) (pe_ix ix_list (pv 2) (pe_call GC hr rfl mC FC.kp bC .nil pass0 (pa_cons (pv 0) (pa_cons (pe_callB call_len_seq (by rfl) T.len PySem.boot_len (pa_cons (pv 2) pa_nil)) pa_nil))) (fun _ _ => rfl)))
        (pss_one (ps_ret (pe_lst (pa_cons (pe_tup (pa_cons pe_str (pa_cons (pv 3) (pa_cons (pv 6) pa_nil)))) (pa_cons (pe_cmp (pc_din hu1 (pv 6) (pv 4))) pa_nil)))))) pss_nil)
    (pss_cons (ps_if (pt_cmpR op_eq (pv 5) pe_int (nomark _)) (pss_one (ps_ret (pe_lst (pa_cons (pe_tup (pa_cons pe_str (pa_cons (pv 3) pa_nil))) (pa_cons (pe_cmpR op_isN (pv 4) pe_non (nomark _)) pa_nil))))) pss_nil)
    (pss_cons (ps_if (pt_cmpR op_isN (pv 4) pe_non (nomark _)) (pss_one (ps_ret (pe_lst (pa_cons (pe_tup (pa_cons pe_str (pa_cons (pv 3) pa_nil))) (pa_cons pe_str pa_nil))))) pss_nil)
    (pss_cons (ps_if (pt_val (pe_callB call_isi (by rfl) T.isi boot_isinstance (pa_cons (pv 4) (pa_cons (pe_bltn (v := .ty "list") (by rfl) T.list boot_list rfl) pa_nil)))) (pss_one (ps_ret (pe_lst (pa_cons (pe_tup (pa_cons pe_str (pa_cons (pv 3) pa_nil))) (pa_cons pe_str pa_nil))))) pss_nil)
    (pss_one (ps_ret (pe_lst (pa_cons (pe_tup (pa_cons pe_str (pa_cons (pv 3) pa_nil))) (pa_cons (pe_ifExp (pt_val (pe_callB call_isi (by rfl) T.isi boot_isinstance (pa_cons (pv 4) (pa_cons (pe_bltn (v := .ty "dict") (by rfl) zDict boot_dict rfl) pa_nil)))) pe_str pe_str) pa_nil))))))))))), ?_⟩
  -- place, thing
  have hla := hM _ _ C.la
  refine ⟨fun σ' H' => Around1 H p (n + 1) H' ∧ ∃ (x y : V) (pl : Pl) (wv : Wv) (d : Nat), RW M (plD pl) x ∧ RV M wv y ∧ wAt w0 rs pl = some wv ∧ WOk d wv ∧ plN pl + d ≤ 3 ∧ σ' = [some (.ref p), some (.ref la), some (.ref fa), some x, some y, none, none], ?_, ?_⟩
  · refine ⟨_, rfl, _, rfl, _, rfl, la, es, rfl, .inl (SqL.of hla), p, _, n, rfl, hp, by omega, by have := C.e1; omega, by have := C.e60; omega, fun c H1 c0 c1 hb hp1 => ?_⟩
    obtain ⟨i, rfl⟩ : ∃ i : Nat, c = (i : Int) := ⟨c.toNat, by omega⟩
    have hi : i < es.length := by omega
    obtain ⟨⟨pl, wv, d⟩, hg, a, x, y, ee, ha, hx, hy, hat, hwo, hpd⟩ := paired_at C.en (List.getElem?_eq_getElem hi)
    have hM1 : Same M H1 := same_but hM hb C.mp
    refine ⟨la, es, _, es[i], rfl, rfl, SqL.of (hM1 _ _ C.la), atI_nat (List.getElem?_eq_getElem hi), a, _, ee, SqT.of (hM1 _ _ ha), rfl, _, _, rfl, _, _, rfl, rfl, ?_⟩
    exact ⟨⟨hb, hp1⟩, x, y, pl, wv, d, hx, hy, hat, hwo, hpd, rfl⟩
  rintro _ H1 ⟨hA1, x, y, pl, wv, d, hx, hy, hat, hwo, hpd, rfl⟩
  -- way
  refine ⟨fun σ' H' => Around1 H p (n + 2) H' ∧ ∃ way : Int, σ' = [some (.ref p), some (.ref la), some (.ref fa), some x, some y, some (.int way), none], ?_, ?_⟩
  · refine ⟨_, rfl, p, 3, n + 1, rfl, hA1.2, by omega, by decide, by decide, fun c H2 c0 c1 hb hp2 => ⟨hA1.draw hb hp2, c, rfl⟩⟩
  rintro _ H2 ⟨hA2, way, rfl⟩
  have hM2 : Same M H2 := same_but hM hA2.1 C.mp
  have hyH := hy.same hM2
  obtain ⟨sT, hty, k1, k2⟩ := hyH.ty (K := K)
  have fin : ∀ (H3 : Hp) (l : Lk) (q r : Addr) (ans : V), Around1 H p (n + 3) H3 → H3 q = none → (upd H3 q (.tup (.str (Str.ofString (lkW l)) :: x :: lkV l))) r = none → lkP l = pl → okLk wv l → LkOk l → ans = ansW wv l →
      Q (.ref r) (upd (upd H3 q (.tup (.str (Str.ofString (lkW l)) :: x :: lkV l))) r (.lst [.ref q, ans])) := by
    rintro H3 l q r _ hA3 hq hr3 el hok hlk rfl
    have hA4 := hA3.new (o := .tup (.str (Str.ofString (lkW l)) :: x :: lkV l)) hq
    have hA5 := hA4.new (o := .lst [.ref q, ansW wv l]) hr3
    have hq0 : H q = none := hA3.free hp hq
    have hr0 : H r = none := hA4.free hp hr3
    have sr := same_new hr3 (.lst [.ref q, ansW wv l])
    refine kk r q l wv _ hA5 hr0 upd_same ?_ (by rw [el]; exact hat) hok (by rw [el]; omega) hlk
    rw [lk_form]
    refine ⟨q, _, rfl, gm_new (hp.ne hq0) hq0 (sr _ _ upd_same), _, _, rfl, ⟨rfl, lf_str⟩, _, _, rfl, ?_, ?_⟩
    · rw [el]
      exact hx.same (gm_up C.mp (same_but hM hA5.1 C.mp))
    · cases l with
      | what q => exact rfl
      | none q => exact rfl
      | has q k => exact ⟨_, [], rfl, ⟨rfl, ky_leaf k⟩, rfl⟩
  -- a row's index
  refine ⟨fun b H' => H' = H2 ∧ (b = true → wv.isR = true), ?_, ?_⟩
  · refine ⟨_, rfl, rfl, _, rfl, ?_⟩
    exact ite2 (fun _ => ⟨_, rfl, _, _, _, _, _, rfl, .ty _, hty, kit_ty k1, _, rfl, rfl, fun z => z⟩) (fun _ => ⟨rfl, fun z => nomatch z⟩)
  rintro b H2 ⟨rfl, hb⟩
  cases b with
  | true =>
    cases wv with
    | non => exact nomatch hb rfl
    | int i => exact nomatch hb rfl
    | rcd ns ws => exact nomatch hb rfl
    | row ws =>
      obtain ⟨b, ys, rfl, hby, hys⟩ := id hyH
      have hyl := hys.len
      have hw3 : ws.length ≤ 3 := by
        obtain ⟨d', rfl⟩ := hwo.down (.inl rfl)
        exact hwo.1
      refine ⟨_, rfl, _, rfl, b, ys, rfl, .inl (SqL.of hby), _, _, rfl, rfl, p, _, n + 2, rfl, hA2.2, by omega, by omega, by omega, fun c H3 c0 c1 hb3 hp3 => ?_⟩
      obtain ⟨i, rfl⟩ : ∃ i : Nat, c = (i : Int) := ⟨c.toNat, by omega⟩
      have hA3 := hA2.draw hb3 hp3
      have hM3 := same_but hM hA3.1 C.mp
      refine ⟨_, rfl, _, rfl, by show 3 ≤ sizeLine; decide, fun q hq => ?_⟩
      have sq := same_new hq (.tup [V.str (Str.ofString "has"), x, V.int (i : Int)])
      have hby3 : H3 b = some (.lst ys) := by
        obtain ⟨b', ys', e, h1, _⟩ := hy
        cases e
        have z := hM2 _ _ h1
        rw [hby] at z
        rw [hM3 _ _ h1, Option.some.inj z]
      refine ⟨_, rfl, _, rfl, b, ys, rfl, .inl (SqL.of (sq _ _ hby3)), _, _, rfl, rfl, by show 2 ≤ sizeLine; decide, fun r hr => ?_⟩
      refine fin H3 (.has pl (.ix i)) q r _ hA3 hq hr rfl trivial (by show i ≤ 1000; omega) ?_
      show V.bl (decide ((i : Int) < ((ys.length : Nat) : Int))) = V.bl (ws[i]?).isSome
      rw [hyl]
      by_cases c : i < ws.length
      · rw [List.getElem?_eq_getElem c, decide_eq_true (by omega)]
        rfl
      · rw [List.getElem?_eq_none (by omega), decide_eq_false (by omega)]
        rfl
  | false =>
  clear hb
  -- a record's name
  refine ⟨fun b H' => H' = H2 ∧ (b = true → wv.isD = true), ?_, ?_⟩
  · refine ⟨_, rfl, rfl, _, rfl, ?_⟩
    exact ite2 (fun _ => ⟨_, rfl, _, _, _, _, _, rfl, .ty _, hty, kit_ty k2, _, rfl, rfl, fun z => z⟩) (fun _ => ⟨rfl, fun z => nomatch z⟩)
  rintro b H2 ⟨rfl, hb⟩
  cases b with
  | true =>
    cases wv with
    | non => exact nomatch hb rfl
    | int i => exact nomatch hb rfl
    | row ws => exact nomatch hb rfl
    | rcd ns ws =>
      have hfa2 := hM2 _ _ C.fa
      have hz1 := C.z1
      have hz4 := C.z4
      refine ⟨_, rfl, _, rfl, _, rfl, fa, _, rfl, .inl (SqL.of hfa2), p, _, n + 2, rfl, hA2.2, by omega, by rw [List.length_map]; omega, by rw [List.length_map]; omega, fun c H3 c0 c1 hb3 hp3 => ?_⟩
      rw [List.length_map] at c1
      obtain ⟨i, rfl⟩ : ∃ i : Nat, c = (i : Int) := ⟨c.toNat, by omega⟩
      have hi : i < zs.length := by omega
      have hA3 := hA2.draw hb3 hp3
      have hM3 := same_but hM hA3.1 C.mp
      refine ⟨fa, _, _, .str zs[i], rfl, rfl, SqL.of (hM3 _ _ C.fa), atI_nat (j := i) (by rw [List.getElem?_map, List.getElem?_eq_getElem hi]; rfl), ?_⟩
      refine ⟨_, rfl, _, rfl, by show 3 ≤ sizeLine; decide, fun q hq => ?_⟩
      have sq := same_new hq (.tup [V.str (Str.ofString "has"), x, V.str zs[i]])
      obtain ⟨b, ys, rfl, hby, hln, hys⟩ := (hy.same hM3).same sq
      refine ⟨_, rfl, _, rfl, b, _, rfl, DGet.k (k := Sum.inr zs[i]) hby, by show 2 ≤ sizeLine; decide, fun r hr => ?_⟩
      refine fin H3 (.has pl (.fd zs[i])) q r _ hA3 hq hr rfl trivial (C.zl _ (List.getElem_mem hi)) ?_
      have hz := kz_val (ns := ns) (z := zs[i]) hys
      show V.bl (valV (kz ns ys) (Sum.inr zs[i])).isSome = V.bl (wFd ns ws zs[i]).isSome
      cases q : wFd ns ws zs[i] with
      | none => rw [hz.2 q hln]; rfl
      | some u =>
        obtain ⟨x, e1, _⟩ := hz.1 u q
        rw [e1]; rfl
  | false =>
  clear hb
  have hA3 : Around1 H p (n + 3) H2 := hA2.mono (by omega)
  have en : decide (y = V.non) = wv.isN := by
    cases wv with
    | non =>
      obtain rfl : y = .non := hyH
      exact decide_eq_true rfl
    | int i =>
      obtain rfl : y = .int i := hyH
      exact decide_eq_false fun z => nomatch z
    | row ws =>
      obtain ⟨_, _, rfl, _⟩ := hyH
      exact decide_eq_false fun z => nomatch z
    | rcd ns ws =>
      obtain ⟨_, _, rfl, _⟩ := hyH
      exact decide_eq_false fun z => nomatch z
  refine ⟨_, rfl, rfl, _, rfl, ?_⟩
  refine ite2 (fun _ => ?_) (fun _ => ?_)
  · refine ⟨_, rfl, by show 2 ≤ sizeLine; decide, fun q hq => ⟨_, rfl, rfl, by show 2 ≤ sizeLine; decide, fun r hr => ?_⟩⟩
    exact fin H2 (.none pl) q r _ hA3 hq hr rfl trivial trivial (by rw [en]; rfl)
  refine ⟨_, rfl, rfl, _, rfl, ?_⟩
  cases wv with
  | non =>
    refine ifT en ?_
    refine ⟨_, rfl, by show 2 ≤ sizeLine; decide, fun q hq => ⟨by show 2 ≤ sizeLine; decide, fun r hr => ?_⟩⟩
    exact fin H2 (.what pl) q r _ hA3 hq hr rfl trivial trivial rfl
  | row ws =>
    refine ifF en ⟨_, rfl, _, _, _, _, _, rfl, .ty _, hty, kit_ty k1, _, rfl, iteT ?_⟩
    refine ⟨_, rfl, by show 2 ≤ sizeLine; decide, fun q hq => ⟨by show 2 ≤ sizeLine; decide, fun r hr => ?_⟩⟩
    exact fin H2 (.what pl) q r _ hA3 hq hr rfl trivial trivial rfl
  | int i =>
    refine ifF en ⟨_, rfl, _, _, _, _, _, rfl, .ty _, hty, kit_ty k1, _, rfl, iteF ?_⟩
    refine ⟨_, rfl, by show 2 ≤ sizeLine; decide, fun q hq => ?_⟩
    obtain ⟨sT2, hty2, k12, k22⟩ := (hyH.same (same_new hq (.tup [V.str (Str.ofString "what"), x]))).ty (K := K)
    refine ⟨_, rfl, _, _, _, _, _, rfl, .ty _, hty2, kit_ty k22, _, rfl, iteF ⟨by show 2 ≤ sizeLine; decide, fun r hr => ?_⟩⟩
    exact fin H2 (.what pl) q r _ hA3 hq hr rfl trivial trivial rfl
  | rcd ns ws =>
    refine ifF en ⟨_, rfl, _, _, _, _, _, rfl, .ty _, hty, kit_ty k1, _, rfl, iteF ?_⟩
    refine ⟨_, rfl, by show 2 ≤ sizeLine; decide, fun q hq => ?_⟩
    obtain ⟨sT2, hty2, k12, k22⟩ := (hyH.same (same_new hq (.tup [V.str (Str.ofString "what"), x]))).ty (K := K)
    refine ⟨_, rfl, _, _, _, _, _, rfl, .ty _, hty2, kit_ty k22, _, rfl, iteT ⟨by show 2 ≤ sizeLine; decide, fun r hr => ?_⟩⟩
    exact fin H2 (.what pl) q r _ hA3 hq hr rfl trivial trivial rfl
end
end K02
set_option Elab.async false
set_option linter.all false
set_option maxRecDepth 100000
set_option maxHeartbeats 4000000
/-! sorted of tuples of two, the first a text, all texts apart -/
namespace SrtT
open PySem PyProof.Rows Srt SrtO
def IsTP (h : Heap) (v : Value) (z : Str) : Prop := ∃ a o t u n, v = .ref a ∧ h.get? a = some o ∧ o.cls = .type "tuple" ∧ o.data = .seq #[.str z t, u] n
theorem IsTP.keeps {h h' : Heap} {v : Value} {z : Str} (p : IsTP h v z) (k : ∀ b o, h.get? b = some o → o.cls = .type "tuple" → h'.get? b = some o) : IsTP h' v z := by
  obtain ⟨a, o, t, u, n, e, ho, hc, hd⟩ := p
  exact ⟨a, o, t, u, n, e, k _ _ ho hc, hc, hd⟩
def ltS (x y : Str) : Bool := decide (x.cps.toList < y.cps.toList)
theorem swo_s (k : Value → Str) : Swo fun v u => ltS (k v) (k u) := by
  refine ⟨fun x y h => ?_, fun x y z h1 h2 => ?_⟩
  · exact decide_eq_false (List.lt_asymm (of_decide_eq_true h))
  · have a : ¬ (k y).cps.toList < (k x).cps.toList := of_decide_eq_false h1
    have b : ¬ (k z).cps.toList < (k y).cps.toList := of_decide_eq_false h2
    exact decide_eq_false (show ¬ (k z).cps.toList < (k x).cps.toList from List.le_trans (show (k x).cps.toList ≤ (k y).cps.toList from a) (show (k y).cps.toList ≤ (k z).cps.toList from b))
section
variable {prog : Program} {w : World} {A : Around} {s : Shared} {E : Value → Shared → Prop}
theorem tp_cmp {vs : List Value} {k : Value → Str} (hp : ∀ v ∈ vs, IsTP s.heap v (k v)) (hi : ∀ v ∈ vs, ∀ u ∈ vs, k v = k u → v = u) : Cmp prog w A s (tuples' true) (fun p => p.1 ∈ vs) (lt2 fun v u => ltS (k v) (k u)) := by
  intro p q hm hm'
  have h1 := hp _ hm
  have h2 := hp _ hm'
  have h3 := hi _ hm _ hm'
  show wpAny (model prog w) A (keyLt' (tuples' true) p.1 q.1) (fun r s' => s' = s ∧ r = ltS (k p.1) (k q.1)) (fun _ _ => False) s
  generalize k p.1 = x at h1 h3 ⊢
  generalize k q.1 = y at h2 h3 ⊢
  obtain ⟨a, o, t, u, n, e, ho, hc, hd⟩ := h1
  obtain ⟨a', o', t', u', n', e', ho', hc', hd'⟩ := h2
  rw [e, e'] at h3 ⊢
  refine PySem.W.kat_lt ho hd ho' hd' ?_
  by_cases c : x = y
  · have ea : a = a' := by
      have z := h3 c
      injection z
    subst ea
    rw [ho] at ho'
    cases ho'
    rw [hd] at hd'
    cases hd'
    show PySem.W.KatLex prog w A true (decide (2 < 2)) _ [(.str x t, .str x t), (u, u)] 0 s
    refine PySem.W.kat_cons (SeqAt.EqAt.same (.str x t) prog w _ _ ?_)
    refine PySem.W.kat_yes (PySem.W.kat_cons (SeqAt.EqAt.same u prog w _ _ ?_))
    refine PySem.W.kat_yes (PySem.W.kat_nil ⟨rfl, ?_⟩)
    exact (decide_eq_false (List.lt_irrefl _)).symm
  · show PySem.W.KatLex prog w A true (decide (2 < 2)) _ [(.str x t, .str y t'), (u, u')] 0 s
    refine PySem.W.kat_cons (SeqAt.EqAt.str_str x t y t' prog w _ _ ?_)
    refine PySem.W.kat_go (fun e1 => absurd (by simpa using e1) c) (fun _ => ?_)
    exact PySem.W.kat_no (oneLt_str ⟨rfl, rfl⟩)
theorem firsts_tp {h : Heap} {k : Value → Str} : ∀ {vs : List Value}, (∀ v ∈ vs, IsTP h v (k v)) → ∃ fs : List Value, PySem.W.KatTups h vs fs ∧ fs.length = vs.length ∧ ∀ f ∈ fs, ∃ x t, f = Value.str x t
  | [], _ => ⟨[], PySem.W.KatTups.nil, rfl, fun _ hm => nomatch hm⟩
  | v :: vs, hp => by
    obtain ⟨fs, h1, h2, h3⟩ := firsts_tp (vs := vs) fun v' hm => hp v' (List.mem_cons_of_mem _ hm)
    obtain ⟨a, o, t, u, n, e, ho, hc, hd⟩ := hp v List.mem_cons_self
    subst e
    refine ⟨_, PySem.W.KatTups.cons ho hc hd rfl h1, by rw [List.length_cons, List.length_cons, h2], fun f hm => ?_⟩
    rcases List.mem_cons.mp hm with rfl | hm
    · exact ⟨_, t, rfl⟩
    · exact h3 f hm
theorem tp_sortable {a : Addr} {vs : List Value} {k : Value → Str} (h0 : 0 < vs.length) (hp : ∀ v ∈ vs, IsTP s.heap v (k v)) (hi : ∀ v ∈ vs, ∀ u ∈ vs, k v = k u → v = u) (ha : ∀ o, s.heap.get? a = some o → o.cls ≠ .type "tuple") : SortableO prog w A s a vs fun v u => ltS (k v) (k u) := by
  intro h' keep
  have hp' : ∀ v ∈ vs, IsTP h' v (k v) := fun v hm => (hp v hm).keeps fun b o e c => keep b o (fun z => by subst z; exact ha o e c) e
  obtain ⟨fs, h1, h2, h3⟩ := firsts_tp hp'
  refine ⟨tuples' true, fun Q E hq => ?_, tp_cmp hp' hi⟩
  refine PySem.W.kat_kind (T := .type "str") h1 (by omega) (fun f hm => ?_) (by rfl) ?_
  · obtain ⟨x, t, rfl⟩ := h3 f hm
    exact PySem.W.Looks.now
  · have e : (Value.type "str" != Value.type "tuple") = true := by first | decide +kernel | rfl | decide
    rw [e]
    exact hq
theorem sorted_tp {l : Addr} {vs : List Value} {k : Value → Str} {Q : Value → Shared → Prop} (hl : s.heap.IsList l vs.toArray) (hz : vs.length ≤ sizeLine) (hp : ∀ v ∈ vs, IsTP s.heap v (k v)) (hi : ∀ v ∈ vs, ∀ u ∈ vs, k v = k u → v = u)
    (h : ∀ (h' : Heap) (d : Addr) (out : List Value), out.Perm vs → (∀ b o, s.heap.get? b = some o → h'.get? b = some o) → s.heap.objs.size ≤ d → (∃ n, h'.get? d = some (seqObj "list" out.toArray n)) → Q (.ref d) { s with heap := h' }) :
    wpAny (model prog w) A (call (.builtin "sorted") [.ref l]) Q E s := by
  refine sorted_ord (swo_s k) hl hz (fun h2 h₁ a ha kk => ?_) fun out hs hb => ?_
  · refine tp_sortable (s := { s with heap := h₁ }) (by omega) (fun v hm => (hp v hm).keeps fun b o e _ => (kk b o e).2) hi fun o e => ?_
    have e' : some o = some (seqObj "list" vs.toArray 0) := e.symm.trans ha
    cases e'
    intro c
    exact absurd (Value.type.inj c) (by decide)
  · exact h _ _ out hb.perm (fun b o e => sortedAll_old e) (Nat.le_succ _) (sortedAll_at s.heap vs out.toArray)
end
end SrtT
namespace L2
open PySem PySem.Spec PyProof.Rows
/-- sorted(xs), xs a list of tuples of a text and a thing, all texts apart: a new list of the same, in some order -/
def rSortedTP (K : PySem.W.Frag) : List V → Hp → VK → Prop := fun vs H Q => ∃ (a : Addr) (xs : List V) (k : V → Str), vs = [V.ref a] ∧ SqL K H a xs ∧ (∀ x ∈ xs, ∃ t u, x = V.ref t ∧ H t = some (.tup [.str (k x), u])) ∧ (∀ x ∈ xs, ∀ y ∈ xs, k x = k y → x = y) ∧
  ∀ ys p, ys.Perm xs → H p = none → Q (.ref p) (upd H p (.lst ys))
theorem cr_sortedTP {X : Cx} : CallR X (.builtin "sorted") (rSortedTP X.K) := by
  intro pins s σ H vs us Q I r h
  obtain ⟨a, xs, k, rfl, hs, hx, hi, q⟩ := h
  obtain ⟨its, rv, hl, hz⟩ := I.list hs
  obtain ⟨u, rfl, ru⟩ := vals1 r
  obtain rfl : u = Value.ref a := ru
  obtain ⟨e1, e2⟩ := refs_back rv fun x m => by
    obtain ⟨t, _, e, _⟩ := hx x m
    exact ⟨t, e⟩
  refine SrtT.sorted_tp (k := fun u => k (backV u)) hl.isList (by rw [← rv.length]; exact hz) (fun v hv => ?_) (fun v hv u hu e => ?_) fun h' d out hp kp hd hn => ?_
  · obtain ⟨t, rfl⟩ := e2 v hv
    have hm : V.ref t ∈ xs := by rw [e1]; exact List.mem_map.mpr ⟨_, hv, rfl⟩
    obtain ⟨t', u0, e, ht⟩ := hx _ hm
    cases e
    obtain ⟨_, its2, r2, o, ho, hc, n, hd⟩ := I.hok _ _ ht
    obtain ⟨u1, u2, rfl, ri, rj⟩ := vals2 r2
    obtain ⟨t1, rfl⟩ := ri
    exact ⟨t, o, t1, u2, n, rfl, ho, hc, hd⟩
  · obtain ⟨t, rfl⟩ := e2 v hv
    obtain ⟨t', rfl⟩ := e2 u hu
    have hm : V.ref t ∈ xs := by rw [e1]; exact List.mem_map.mpr ⟨_, hv, rfl⟩
    have hm' : V.ref t' ∈ xs := by rw [e1]; exact List.mem_map.mpr ⟨_, hu, rfl⟩
    have z := hi _ hm _ hm' e
    cases z
    rfl
  · have h3 : ∀ u ∈ out, ∃ a, u = Value.ref a := fun u hu => e2 u (hp.mem_iff.mp hu)
    obtain ⟨n, hn⟩ := hn
    refine ⟨.ref d, upd H d (.lst (out.map backV)), I.laid (t' := s.toks) kp hd ⟨?_, out, n, vals_back h3, hn⟩, rfl, q _ d ?_ (I.hok.fresh hd)⟩
    · rw [List.length_map, hp.length_eq, ← rv.length]; exact hz
    · rw [e1]; exact hp.map backV
end L2
set_option Elab.async false
set_option linter.all false
set_option maxRecDepth 100000
set_option maxHeartbeats 4000000
namespace K02
open PySem L2 PyProof.Rows
/-! ### plain data: its size, its leaves -/
mutual
def sz : D → Nat
  | .leaf (.str z) => 1 + z.length
  | .leaf _ => 1
  | .lst ds => 1 + szs ds
  | .tup ds => 1 + szs ds
def szs : List D → Nat
  | [] => 0
  | d :: ds => sz d + szs ds
end
def LfD (v : V) : Prop := v = .non ∨ (∃ b, v = .bl b) ∨ (∃ i : Int, v = .int i ∧ i.natAbs ≤ 1000000) ∨ ∃ z : Str, v = .str z ∧ ∀ c ∈ z.cps.toList, c < 128
theorem LfD.leaf {v : V} (h : LfD v) : Leaf v := by
  rcases h with rfl | ⟨b, rfl⟩ | ⟨i, rfl, _⟩ | ⟨z, rfl, _⟩
  · exact .inl rfl
  · exact .inr (.inl ⟨b, rfl⟩)
  · exact .inr (.inr (.inl ⟨i, rfl⟩))
  · exact .inr (.inr (.inr ⟨z, rfl⟩))
def DOk : Nat → D → Prop
  | _, .leaf v => LfD v
  | 0, .lst _ => False
  | 0, .tup _ => False
  | n + 1, .lst ds => ds.length ≤ 500 ∧ ∀ d ∈ ds, DOk n d
  | n + 1, .tup ds => ds.length ≤ 500 ∧ ∀ d ∈ ds, DOk n d
theorem dok_leaf {n : Nat} {v : V} (h : LfD v) : DOk n (.leaf v) := by cases n <;> exact h
theorem DOk.up : ∀ {m n : Nat} {d : D}, m ≤ n → DOk m d → DOk n d
  | m, n, .leaf v, _, h => dok_leaf (by cases m <;> exact h)
  | 0, n, .lst _, _, h => h.elim
  | 0, n, .tup _, _, h => h.elim
  | m + 1, 0, .lst ds, hm, h => absurd hm (by omega)
  | m + 1, 0, .tup ds, hm, h => absurd hm (by omega)
  | m + 1, n + 1, .lst ds, hm, h => ⟨h.1, fun d hd => DOk.up (Nat.le_of_succ_le_succ hm) (h.2 d hd)⟩
  | m + 1, n + 1, .tup ds, hm, h => ⟨h.1, fun d hd => DOk.up (Nat.le_of_succ_le_succ hm) (h.2 d hd)⟩
theorem DOk.fits : ∀ {n : Nat} {d : D}, DOk n d → Fits 1000 n d
  | n, .leaf v, _ => Fits.leaf
  | 0, .lst _, h => h.elim
  | 0, .tup _, h => h.elim
  | n + 1, .lst ds, h => ⟨Nat.le_trans h.1 (by decide), fun d hd => DOk.fits (h.2 d hd)⟩
  | n + 1, .tup ds, h => ⟨Nat.le_trans h.1 (by decide), fun d hd => DOk.fits (h.2 d hd)⟩
theorem szs_app : ∀ (a b : List D), szs (a ++ b) = szs a + szs b
  | [], b => by rw [List.nil_append, szs, Nat.zero_add]
  | d :: a, b => by
    rw [List.cons_append, szs, szs, szs_app a b]
    omega
theorem szs_le {k : Nat} : ∀ {ds : List D}, (∀ d ∈ ds, sz d ≤ k) → szs ds ≤ ds.length * k
  | [], _ => by
    rw [szs]
    exact Nat.zero_le _
  | d :: ds, h => by
    have a := h d List.mem_cons_self
    have b := szs_le (k := k) (ds := ds) fun x hx => h x (List.mem_cons_of_mem _ hx)
    rw [szs, List.length_cons, Nat.succ_mul]
    omega
theorem lf_ascii {s : String} (h : (Str.ofString s).cps.toList.all (fun c => decide (c < 128)) = true) : LfD (.str (Str.ofString s)) := .inr (.inr (.inr ⟨_, rfl, fun c hc => of_decide_eq_true (List.all_eq_true.mp h c hc)⟩))
theorem lf_name {z : Str} (h : nmOk z) : LfD (.str z) := .inr (.inr (.inr ⟨_, rfl, fun c hc => by
  have := h.2 c hc
  omega⟩))
theorem lf_nat {i : Nat} (h : i ≤ 1000000) : LfD (.int (i : Int)) := .inr (.inr (.inl ⟨_, rfl, by omega⟩))
theorem gm_nest {p : Addr} {H M H1 G H' : Hp} (fr : ∀ b, G b = none → H b = none) : Same (gm p G (gm p H M H1) H') (gm p H M H') := fun b o e => by
  obtain ⟨n, c, e2⟩ := gm_is e
  rcases c with c | ⟨o', c⟩
  · exact gm_new n (fr _ c) e2
  · obtain ⟨_, c2, _⟩ := gm_is c
    rcases c2 with c2 | ⟨o2, c2⟩
    · exact gm_new n c2 e2
    · exact gm_old n c2 e2
theorem cutV_take (xs : List V) (m : Nat) : cutV xs none (some (m : Int)) = xs.take m := by
  unfold cutV
  rw [HT.sIx_none, HT.sIx_nat, List.drop_zero, Nat.sub_zero]
  rcases Nat.le_total m xs.length with h | h
  · rw [Nat.min_eq_left h]
  · rw [Nat.min_eq_right h, List.take_of_length_le (Nat.le_refl _), List.take_of_length_le h]
theorem RWs.take {H : Hp} : ∀ {ds : List D} {xs : List V} (i : Nat), RWs H ds xs → RWs H (ds.take i) (xs.take i)
  | [], xs, i, h => by
    have e : xs = [] := h
    rw [e, List.take_nil, List.take_nil]
    rfl
  | d :: ds, xs, 0, h => rfl
  | d :: ds, xs, i + 1, h => by
    obtain ⟨x, ys, rfl, h1, h2⟩ := h
    exact ⟨x, _, rfl, h1, h2.take i⟩
theorem RWs.snoc {H : Hp} {d : D} {x : V} : ∀ {ds : List D} {xs : List V}, RWs H ds xs → RW H d x → RWs H (ds ++ [d]) (xs ++ [x])
  | [], xs, h, k => by
    have e : xs = [] := h
    rw [e]
    exact ⟨x, [], rfl, k, rfl⟩
  | e :: ds, xs, h, k => by
    obtain ⟨y, ys, rfl, h1, h2⟩ := h
    exact ⟨y, _, rfl, h1, RWs.snoc h2 k⟩
theorem RWs.put {H : Hp} {d : D} {x : V} (hx : RW H d x) : ∀ {ds : List D} {xs : List V} (i : Nat), RWs H ds xs → RWs H (ds.set i d) (xs.set i x)
  | [], xs, i, h => by
    have e : xs = [] := h
    rw [e]
    rfl
  | e :: ds, xs, 0, h => by
    obtain ⟨y, ys, rfl, h1, h2⟩ := h
    exact ⟨x, ys, rfl, hx, h2⟩
  | e :: ds, xs, i + 1, h => by
    obtain ⟨y, ys, rfl, h1, h2⟩ := h
    exact ⟨y, _, rfl, h1, RWs.put hx i h2⟩
theorem RWs.perm {H : Hp} : ∀ {xs ys : List V}, xs.Perm ys → ∀ {ds : List D}, RWs H ds xs → ∃ es, es.Perm ds ∧ RWs H es ys := by
  intro xs ys h
  induction h with
  | nil => exact fun {ds} h => ⟨ds, List.Perm.refl _, h⟩
  | cons x _ ih =>
    intro ds h
    cases ds with
    | nil => exact nomatch (show _ :: _ = [] from h)
    | cons d ds =>
      obtain ⟨y, ys, e, h1, h2⟩ := h
      cases e
      obtain ⟨es, p, r⟩ := ih h2
      exact ⟨d :: es, p.cons d, _, _, rfl, h1, r⟩
  | swap x y l =>
    intro ds h
    cases ds with
    | nil => exact nomatch (show _ :: _ = [] from h)
    | cons d ds =>
      obtain ⟨y', ys, e, h1, h2⟩ := h
      cases e
      cases ds with
      | nil => exact nomatch (show _ :: _ = [] from h2)
      | cons d2 ds =>
        obtain ⟨y2, ys2, e, h3, h4⟩ := h2
        cases e
        exact ⟨d2 :: d :: ds, List.Perm.swap d d2 ds, _, _, rfl, h3, _, _, rfl, h1, h4⟩
  | trans _ _ ih1 ih2 =>
    intro ds h
    obtain ⟨es, p, r⟩ := ih1 h
    obtain ⟨fs, p2, r2⟩ := ih2 r
    exact ⟨fs, p2.trans p, r2⟩
/-- places: of few signs -/
theorem wIn_name {w u : Wv} {d : Nat} {z : Str} (h : wIn w (.fd z) = some u) (hw : WOk d w) : nmOk z := by
  cases w with
  | rcd ns ws =>
    cases d with
    | zero => exact hw.elim
    | succ d =>
      obtain ⟨_, _, _, h4, _⟩ := hw
      have : ∀ {ns : List Str} {ws : List Wv}, wFd ns ws z = some u → z ∈ ns := by
        intro ns
        induction ns with
        | nil =>
          intro ws e
          unfold wFd at e
          cases e
        | cons n ns ih =>
          intro ws e
          cases ws with
          | nil =>
            unfold wFd at e
            cases e
          | cons w ws =>
            unfold wFd at e
            split at e
            · rename_i c
              rw [c]
              exact List.mem_cons_self
            · exact List.mem_cons_of_mem _ (ih e)
      exact h4 z (this h)
  | non => exact nomatch h
  | int i => exact nomatch h
  | row ws => exact nomatch h
def PlOk : Pl → Prop
  | .value => True
  | .res n => n ≤ 1000
  | .item p i => i ≤ 1000 ∧ PlOk p
  | .field p z => nmOk z ∧ PlOk p
theorem plok_of {w0 : Wv} {rs : List Wv} (h0 : WOk 3 w0) (hl : rs.length ≤ 3) (hr : ∀ u ∈ rs, WOk 1 u) : ∀ {p : Pl} {w : Wv}, wAt w0 rs p = some w → (∃ d, WOk d w) ∧ PlOk p
  | .value, w, h => by
    have e : w0 = w := Option.some.inj (show some w0 = some w from h)
    exact ⟨⟨3, e ▸ h0⟩, trivial⟩
  | .res n, w, h => by
    have h' : (rs[n]?).bind (fun u => some u) = some w := h
    cases e : rs[n]? with
    | none =>
      rw [e] at h'
      cases h'
    | some u =>
      rw [e] at h'
      have e2 : u = w := Option.some.inj h'
      refine ⟨⟨1, e2 ▸ hr u (List.mem_of_getElem? e)⟩, ?_⟩
      have := (List.getElem?_eq_some_iff.mp e).1
      show n ≤ 1000
      omega
  | .item p i, w, h => by
    rw [wAt_item] at h
    cases e : wAt w0 rs p with
    | none =>
      rw [e] at h
      cases h
    | some u =>
      rw [e] at h
      obtain ⟨⟨d, hd⟩, hp⟩ := plok_of h0 hl hr e
      have h' : wIn u (.ix i) = some w := h
      cases u with
      | row ws =>
        obtain ⟨d, rfl⟩ := hd.down (.inl rfl)
        have e2 : ws[i]? = some w := h'
        have := (List.getElem?_eq_some_iff.mp e2).1
        have := hd.1
        exact ⟨⟨d, hd.2 w (List.mem_of_getElem? e2)⟩, by omega, hp⟩
      | non => exact nomatch h'
      | int i => exact nomatch h'
      | rcd ns ws => exact nomatch h'
  | .field p z, w, h => by
    rw [wAt_field] at h
    cases e : wAt w0 rs p with
    | none =>
      rw [e] at h
      cases h
    | some u =>
      rw [e] at h
      obtain ⟨⟨d, hd⟩, hp⟩ := plok_of h0 hl hr e
      have h' : wIn u (.fd z) = some w := h
      refine ⟨?_, wIn_name h' hd, hp⟩
      cases u with
      | rcd ns ws =>
        obtain ⟨d, rfl⟩ := hd.down (.inr rfl)
        have : ∀ {ns : List Str} {ws : List Wv}, wFd ns ws z = some w → w ∈ ws := by
          intro ns
          induction ns with
          | nil =>
            intro ws e
            unfold wFd at e
            cases e
          | cons n ns ih =>
            intro ws e
            cases ws with
            | nil =>
              unfold wFd at e
              cases e
            | cons w ws =>
              unfold wFd at e
              split at e
              · rw [← Option.some.inj e]
                exact List.mem_cons_self
              · exact List.mem_cons_of_mem _ (ih e)
        exact ⟨d, hd.2.2.2.2 w (this h')⟩
      | non => exact nomatch h'
      | int i => exact nomatch h'
      | row ws => exact nomatch h'
theorem sz_S (s : String) : sz (S s) = 1 + (Str.ofString s).length := rfl
theorem pl_ok : ∀ {p : Pl}, PlOk p → DOk (plN p + 1) (plD p) ∧ sz (plD p) ≤ 9 + 25 * plN p
  | .value, _ => ⟨⟨by decide, fun d hd => by
      rw [List.mem_singleton.mp hd]
      exact dok_leaf (lf_ascii (by decide +kernel))⟩, by decide +kernel⟩
  | .res n, h => by
    refine ⟨⟨by show 2 ≤ 500; decide, fun d hd => ?_⟩, by show 1 + ((1 + (Str.ofString "result").length) + (1 + 0)) ≤ 9; decide +kernel⟩
    rcases List.mem_cons.mp hd with rfl | hd
    · exact dok_leaf (lf_ascii (by decide +kernel))
    · rw [List.mem_singleton.mp hd]
      exact dok_leaf (lf_nat (Nat.le_trans h (by decide)))
  | .item p i, h => by
    obtain ⟨a, b⟩ := pl_ok h.2
    refine ⟨⟨by show 3 ≤ 500; decide, fun d hd => ?_⟩, ?_⟩
    · rcases List.mem_cons.mp hd with rfl | hd
      · exact dok_leaf (lf_ascii (by decide +kernel))
      rcases List.mem_cons.mp hd with rfl | hd
      · exact a
      · rw [List.mem_singleton.mp hd]
        exact dok_leaf (lf_nat (Nat.le_trans h.1 (by decide)))
    · show 1 + ((1 + (Str.ofString "item").length) + (sz (plD p) + (1 + 0))) ≤ 9 + 25 * (plN p + 1)
      have : (Str.ofString "item").length = 4 := by decide +kernel
      omega
  | .field p z, h => by
    obtain ⟨a, b⟩ := pl_ok h.2
    refine ⟨⟨by show 3 ≤ 500; decide, fun d hd => ?_⟩, ?_⟩
    · rcases List.mem_cons.mp hd with rfl | hd
      · exact dok_leaf (lf_ascii (by decide +kernel))
      rcases List.mem_cons.mp hd with rfl | hd
      · exact a
      · rw [List.mem_singleton.mp hd]
        exact dok_leaf (lf_name h.1)
    · show 1 + ((1 + (Str.ofString "field").length) + (sz (plD p) + ((1 + z.length) + 0))) ≤ 9 + 25 * (plN p + 1)
      have e : (Str.ofString "field").length = 5 := by decide +kernel
      have := h.1.1
      omega
/-- small data: a place, or like one -/
def Pc (d : D) : Prop := DOk 5 d ∧ sz d ≤ 90
theorem pc_pl {w0 u : Wv} {rs : List Wv} {p : Pl} (h0 : WOk 3 w0) (hl : rs.length ≤ 3) (hr : ∀ u ∈ rs, WOk 1 u) (h : wAt w0 rs p = some u) (hn : plN p ≤ 3) : Pc (plD p) := by
  obtain ⟨a, b⟩ := pl_ok (plok_of h0 hl hr h).2
  exact ⟨a.up (by omega), by omega⟩
/-- what stands at an end -/
def DnOk (d : D) : Prop := DOk 9 d ∧ sz d ≤ 1200
end K02
set_option Elab.async false
set_option linter.all false
set_option maxRecDepth 100000
set_option maxHeartbeats 4000000
namespace K02
open PySem L2 PyProof.Rows
/-- a part of what may be handed on -/
structure Prt (p : Addr) (H M M2 H2 : Hp) : Prop where
  mp : M2 p = none
  le : Same M2 H2
  of : Same M2 (gm p H M H2)
  up : Same M M2
theorem Prt.same {p : Addr} {H M M2 H2 H3 : Hp} (h : Prt p H M M2 H2) (s : ∀ b o, b ≠ p → H2 b = some o → M2 b = some o → H3 b = some o) (s2 : ∀ b o, gm p H M H2 b = some o → M2 b = some o → gm p H M H3 b = some o) : Prt p H M M2 H3 :=
  ⟨h.mp, fun b o e => s b o (fun z => by rw [z, h.mp] at e; cases e) (h.le b o e) e, fun b o e => s2 b o (h.of b o e) e, h.up⟩
/-- behind a step that keeps what the part has -/
theorem Prt.step {p : Addr} {H M M2 H2 H3 : Hp} (h : Prt p H M M2 H2) (s : Same M2 H3) : Prt p H M M2 H3 :=
  ⟨h.mp, s, fun b o e => by
    obtain ⟨n, c, _⟩ := gm_is (h.of b o e)
    rcases c with c | ⟨o', c⟩
    · exact gm_new n c (s b o e)
    · exact gm_old n c (s b o e), h.up⟩
theorem Prt.next {p : Addr} {H M M2 H2 : Hp} (h : Prt p H M M2 H2) {G H3 : Hp} (fr : ∀ b, G b = none → H b = none) (s : Same M2 H3) : Prt p H M (gm p G M2 H3) H3 :=
  ⟨gm_p, gm_le, fun b o e => by
    obtain ⟨n, c, e2⟩ := gm_is e
    rcases c with c | ⟨o', c⟩
    · exact gm_new n (fr _ c) e2
    · obtain ⟨_, c2, _⟩ := gm_is (h.of _ _ c)
      rcases c2 with c2 | ⟨o2, c2⟩
      · exact gm_new n c2 e2
      · exact gm_old n c2 e2, h.up.trans (gm_up h.mp s)⟩
theorem Around1.mk' {H : Hp} {p a : Addr} {n : Nat} {o : HO} (h : Purse H p n) (ha : H a = none) : Around1 H p n (upd H a o) := ⟨.of (same_new ha o), h.same (same_new ha o)⟩
theorem dok_S {n : Nat} {s : String} (h : (Str.ofString s).cps.toList.all (fun c => decide (c < 128)) = true) : DOk n (S s) := dok_leaf (lf_ascii h)
theorem pc_S {s : String} (h : ((Str.ofString s).cps.toList.all (fun c => decide (c < 128)) && decide ((Str.ofString s).length ≤ 80)) = true) : Pc (S s) := by
  obtain ⟨a, b⟩ := Bool.and_eq_true_iff.mp h
  refine ⟨dok_S a, ?_⟩
  have := of_decide_eq_true b
  show 1 + (Str.ofString s).length ≤ 90
  omega
theorem pc_item : Pc (.tup [S "item", .leaf (.int 0)]) := by
  refine ⟨⟨by decide, fun d hd => ?_⟩, by decide +kernel⟩
  rcases List.mem_cons.mp hd with rfl | hd
  · exact dok_S (by decide +kernel)
  rw [List.mem_singleton.mp hd]
  exact dok_leaf (lf_nat (i := 0) (by decide))
theorem pc_unb : Pc (.tup [S "unbound", S "b"]) := by
  refine ⟨⟨by decide, fun d hd => ?_⟩, by decide +kernel⟩
  rcases List.mem_cons.mp hd with rfl | hd
  · exact dok_S (by decide +kernel)
  rw [List.mem_singleton.mp hd]
  exact dok_S (by decide +kernel)
abbrev DD := D
/-- the text that a tuple begins with -/
def kOf (H : Hp) : V → Str
  | .ref t => match H t with
    | some (.tup (.str z :: _)) => z
    | _ => Str.empty
  | _ => Str.empty
theorem kOf_at {H : Hp} {t : Addr} {z : Str} {u : V} (h : H t = some (.tup [.str z, u])) : kOf H (.ref t) = z := by
  show (match H t with
    | some (.tup (.str z :: _)) => z
    | _ => Str.empty) = z
  rw [h]
theorem pc_known : Pc (.tup [S "known", .lst [.leaf .non, .lst []]]) := by
  refine ⟨⟨by decide, fun d hd => ?_⟩, by decide +kernel⟩
  rcases List.mem_cons.mp hd with rfl | hd
  · exact dok_S (by decide +kernel)
  rw [List.mem_singleton.mp hd]
  refine ⟨by decide, fun d hd => ?_⟩
  rcases List.mem_cons.mp hd with rfl | hd
  · exact dok_leaf (.inl rfl)
  rw [List.mem_singleton.mp hd]
  exact ⟨by decide, fun _ h => nomatch h⟩
theorem pc_others : Pc (.tup [S "others", .tup [S "value"], .lst [S "a", S "b"]]) := by
  refine ⟨⟨by decide, fun d hd => ?_⟩, by decide +kernel⟩
  rcases List.mem_cons.mp hd with rfl | hd
  · exact dok_S (by decide +kernel)
  rcases List.mem_cons.mp hd with rfl | hd
  · refine ⟨by decide, fun d hd => ?_⟩
    rw [List.mem_singleton.mp hd]
    exact dok_S (by decide +kernel)
  rw [List.mem_singleton.mp hd]
  refine ⟨by decide, fun d hd => ?_⟩
  rcases List.mem_cons.mp hd with rfl | hd
  · exact dok_S (by decide +kernel)
  rw [List.mem_singleton.mp hd]
  exact dok_S (by decide +kernel)
def spDone : Sp := fun vs H Q _ => ∃ (p la fa : Addr) (M : Hp) (w0 : Wv) (rs : List Wv) (es : List V) (gs : List G3) (zs : List Str) (n : Nat), vs = [.ref p, .ref la, .ref fa] ∧ Ctx p la fa M w0 rs es gs zs ∧ Same M H ∧ Purse H p n ∧ n + 20 < 10 ^ 60 ∧
  ∀ v d H', Around1 H p (n + 20) H' → DnOk d → RW (gm p H M H') d v → Q v H'
abbrev nDn : List Str := ["sack", "places", "names_here", "some", "calls_here", "pairs", "turn", "at"]
section
variable {P : Program} {w : World} {K : PySem.W.Frag} {mg : Str → Option Value} {base : Heap}
theorem scDn : FnScope nDn ["sack", "places", "names_here"] (defScope sWkDone) := ⟨rfl, rfl, rfl, by decide +kernel, rfl, by decide +kernel, by decide +kernel⟩
theorem ok_done {f fC : Addr} {fd fdC : FuncData} (F : Fun K "_law_wk_done" "_law_wk_done" sWkDone f fd) (T : Txt K mg) (zSorted : mg "sorted" = none) (FC : Fun K "_law_coin" "_law_coin" sCoin fC fdC) (bC : Binds K fdC ["purse", "many"] []) (mC : mg "_law_coin" = some (.ref fC)) :
    FnOk P w K mg base CX0 2 f fd ["sack", "places", "names_here"] spDone := by
  have GC : FnOk P w K mg base CX0 1 fC fdC ["purse", "many"] spCoin := ok_coin FC T
  refine F.ok scDn (fun vs H Q E h => ?_) (fun cdv A outer s H vs Q E hr h => ?_)
  · obtain ⟨p, la, fa, M, w0, rs, es, gs, zs, n, rfl, _⟩ := h
    rfl
  obtain ⟨p, la, fa, M, w0, rs, es, gs, zs, n, rfl, C, hM, hp, hn, kk⟩ := h
  refine ⟨_, Evl.pss_cut (ps_set (i := 3) scDn.nd rfl (Or.inr rfl) (pe_lc (own := [("turn", 6)]) (g := gName 6) (tt := tYes) rfl scDn.nd (pi_range1 rfl T.range (pa_cons pe_int pa_nil)) (blkOk_by (N := nDn) (sc := defScope sWkDone) (by decide +kernel)) (fun _ _ _ _ _ => pg_name (i := 6) scDn.nd rfl (Or.inl rfl)) (fun _ _ _ _ _ => pts_nil)
      (fun _ _ _ _ _ => pe_ix (show IxR _ (rIxT K) from ix_tup) (pe_ix (show IxR _ (rIxL K) from ix_list) (pv 1) (pe_call GC hr rfl mC FC.kp bC .nil pass0 (pa_cons (pv 0) (pa_cons (pe_callB (show CallR _ (.builtin "len") (Evl.rLenS K) from call_len_seq) (by rfl) T.len PySem.boot_len (pa_cons (pv 1) pa_nil)) pa_nil))) (fun _ _ => rfl)) pe_int (fun _ _ => rfl))))
    (Evl.pss_cut (ps_asg (pe_ix ix_list (pe_lst (pa_cons (pe_ix ix_list (pv 3) pe_int (fun _ _ => rfl)) (pa_cons (pe_tup (pa_cons pe_str (pa_cons (pe_lst (pa_cons pe_non (pa_cons (pe_lst pa_nil) pa_nil))) pa_nil))) (pa_cons (pe_tup (pa_cons pe_str (pa_cons (pe_tup (pa_cons pe_str pa_nil)) (pa_cons (pe_lst (pa_cons pe_str (pa_cons pe_str pa_nil))) pa_nil)))) pa_nil)))) (pe_call GC hr rfl mC FC.kp bC .nil pass0 (pa_cons (pv 0) (pa_cons pe_int pa_nil))) (fun _ _ => rfl)) (pg_sub (pv 3) pe_int set_list))
    (pss_cons (ps_set (i := 4) scDn.nd rfl (Or.inl rfl) (pe_lst pa_nil))
    (Evl.pss_cut (ps_for PassesOwn.never rfl (pi_range1 rfl T.range (pa_cons (pe_call GC hr rfl mC FC.kp bC .nil pass0 (pa_cons (pv 0) (pa_cons pe_int pa_nil))) pa_nil)) (pg_name (i := 6) scDn.nd rfl (Or.inl rfl))
      (pss_one (ps_expr (pe_bm PySem.F.plainAttrs_list PySem.F.slot_list_append PySem.F.type_list_append mt_append (pv 4) (pa_cons
        (pe_tup (pa_cons (pe_ix ix_list (pv 2) (pe_op op_mod (pv 6) (pe_callB call_len_seq (by rfl) T.len PySem.boot_len (pa_cons (pv 2) pa_nil))) (fun _ _ => rfl)) (pa_cons (pe_slice sl_list (pv 3) po_none (po_some (pe_call GC hr rfl mC FC.kp bC .nil pass0 (pa_cons (pv 0) (pa_cons pe_int pa_nil))))) pa_nil))) pa_nil)))))
    (pss_cons (ps_if (pt_cmpR op_eq (pe_call GC hr rfl mC FC.kp bC .nil pass0 (pa_cons (pv 0) (pa_cons pe_int pa_nil))) pe_int (nomark _))
      (pss_one (ps_ret (pe_tup (pa_cons (pv 4) (pa_cons (pe_tup (pa_cons pe_str (pa_cons (pe_ix ix_list (pv 3) pe_int (fun _ _ => rfl)) (pa_cons (pe_ix ix_list (pe_lst (pa_cons pe_str (pa_cons pe_str (pa_cons (pe_tup (pa_cons pe_str (pa_cons pe_int pa_nil))) (pa_cons (pe_tup (pa_cons pe_str (pa_cons pe_str pa_nil))) pa_nil))))) (pe_call GC hr rfl mC FC.kp bC .nil pass0 (pa_cons (pv 0) (pa_cons pe_int pa_nil))) (fun _ _ => rfl)) pa_nil)))) pa_nil))))) pss_nil)
    (Evl.pss_cut (ps_setLc (i := 5) (own := [("at", 7)]) (g := gName 7) (tt := tYes) rfl scDn.nd rfl rfl (sw_true rfl rfl rfl (by decide +kernel)) (pi_range1 rfl T.range (pa_cons (pe_call GC hr rfl mC FC.kp bC .nil pass0 (pa_cons (pv 0) (pa_cons (pe_op op_add (pe_callB call_len_seq (by rfl) T.len PySem.boot_len (pa_cons (pv 2) pa_nil)) pe_int) pa_nil))) pa_nil)) (blkOk_by (N := nDn) (sc := defScope sWkDone) (by decide +kernel)) (fun _ _ _ _ _ => pg_name (i := 7) scDn.nd rfl (Or.inl rfl)) (fun _ _ _ _ _ => pts_nil)
      (fun _ _ _ _ _ => pe_tup (pa_cons (pe_ix (show IxR _ (rIxL K) from ix_list) (pv 2) (pv 7) (fun _ _ => rfl)) (pa_cons (pe_ix (show IxR _ (rIxL K) from ix_list) (pv 3) (pe_op op_mod (pv 7) pe_int) (fun _ _ => rfl)) pa_nil))))
    (pss_one (ps_ret (pe_tup (pa_cons (pv 4) (pa_cons (pe_tup (pa_cons pe_str (pa_cons (pe_callB cr_sortedTP (by rfl) zSorted (by decide +kernel) (pa_cons (pv 5) pa_nil)) pa_nil))) pa_nil)))))))))), ?_⟩
  have hla := hM _ _ C.la
  have he60 := C.e60
  have he1 := C.e1
  -- some
  refine ⟨fun σ' H' => Around1 H p (n + 3) H' ∧ ∃ (so : Addr) (ds : List D) (xs : List V), so ≠ p ∧ H so = none ∧ H' so = some (.lst xs) ∧ RWs M ds xs ∧ ds.length = 3 ∧ (∀ d ∈ ds, Pc d) ∧ σ' = [some (.ref p), some (.ref la), some (.ref fa), some (.ref so), none, none, none, none], ?_, ?_⟩
  · refine ⟨3, rfl, by decide, by decide, fun D hD => ?_⟩
    have hDp : D ≠ p := hp.ne hD
    refine lc_range (lo := 0) (n := 3) (fun i H' => ∃ (ds : List _) (xs : List V), Around1 H p (n + i) H' ∧ H' D = some (.lst xs) ∧ RWs M ds xs ∧ ds.length = i ∧ ∀ d ∈ ds, Pc d)
      ⟨[], [], ⟨.of (same_new hD _), hp.same (same_new hD _)⟩, upd_same, rfl, rfl, fun _ h => nomatch h⟩ ?_ ?_
    · rintro i H1 hi ⟨ds, xs, hA1, hD1, hr1, hl, hpc⟩
      have hM1 := same_but hM hA1.1 C.mp
      refine ⟨rfl, ?_⟩
      unfold tYes
      refine iteT ?_
      refine ⟨_, rfl, _, rfl, _, rfl, la, es, rfl, .inl (SqL.of (hM1 _ _ C.la)), p, _, n + i, rfl, hA1.2, by omega, by omega, by omega, fun c H2 c0 c1 hb hp2 => ?_⟩
      obtain ⟨j, rfl⟩ : ∃ j : Nat, c = (j : Int) := ⟨c.toNat, by omega⟩
      have hj : j < es.length := by omega
      obtain ⟨⟨pl, wv, d⟩, hg, a, x, y, ee, ha, hx, hy, hat, hwo, hpd⟩ := paired_at C.en (List.getElem?_eq_getElem hj)
      have hA2 := hA1.draw hb hp2
      have hM2 := same_but hM hA2.1 C.mp
      have hxl : xs.length = i := hr1.len.trans hl
      refine ⟨la, es, _, es[j], rfl, rfl, SqL.of (hM2 _ _ C.la), atI_nat (List.getElem?_eq_getElem hj), a, _, 0, x, ee, rfl, SqT.of (hM2 _ _ ha), atI_nat (j := 0) rfl, ?_⟩
      have hplN : plN pl + d ≤ 3 := hpd
      refine ⟨xs, hb _ _ hDp hD1, Nat.lt_of_lt_of_le (show xs.length < 1000 by omega) (by decide), ds ++ [plD pl], xs ++ [x], hA2.put hD hDp, upd_same, hr1.snoc hx, by rw [List.length_append, hl]; rfl, fun d hd => ?_⟩
      rcases List.mem_append.mp hd with hd | hd
      · exact hpc d hd
      · rw [List.mem_singleton.mp hd]
        exact pc_pl C.w0k C.rl C.rk hat (by omega)
    · rintro H1 ⟨ds, xs, hA1, hD1, hr1, hl, hpc⟩
      exact ⟨hA1, D, ds, xs, hDp, hD, hD1, hr1, hl, hpc, rfl⟩
  rintro _ H1 ⟨hA1, so, ds1, xs1, hsp, hso0, hso1, hr1, hl1, hpc1, rfl⟩
  have hMso : M so = none := hM.free hso0
  -- some[0]
  refine ⟨fun σ' H' => Around1 H p (n + 4) H' ∧ ∃ (M2 : Hp) (ds : List D) (xs : List V), Prt p H M M2 H' ∧ M2 so = none ∧ H' so = some (.lst xs) ∧ RWs M2 ds xs ∧ ds.length = 3 ∧ (∀ d ∈ ds, Pc d) ∧ σ' = [some (.ref p), some (.ref la), some (.ref fa), some (.ref so), none, none, none, none], ?_, ?_⟩
  · obtain ⟨x0, xr, rfl⟩ : ∃ x0 xr, xs1 = x0 :: xr := by
      cases xs1 with
      | nil =>
        have := hr1.len
        rw [hl1] at this
        cases this
      | cons x0 xr => exact ⟨x0, xr, rfl⟩
    refine ⟨_, rfl, so, _, 0, x0, rfl, rfl, SqL.of hso1, atI_nat (j := 0) rfl, ?_⟩
    refine ⟨by show 0 ≤ sizeLine; decide, fun l1 hl1' => ⟨by show 2 ≤ sizeLine; decide, fun l2 hl2' => ⟨by show 2 ≤ sizeLine; decide, fun t1 ht1 => ⟨by show 1 ≤ sizeLine; decide, fun t2 ht2 => ⟨by show 2 ≤ sizeLine; decide, fun l3 hl3' => ⟨by show 3 ≤ sizeLine; decide, fun t3 ht3 => ⟨by show 3 ≤ sizeLine; decide, fun L hL => ?_⟩⟩⟩⟩⟩⟩⟩
    have s1 := same_new hl1' (.lst [])
    have s2 := same_new hl2' (.lst [V.non, .ref l1])
    have s3 := same_new ht1 (.tup [V.str (Str.ofString "known"), .ref l2])
    have s4 := same_new ht2 (.tup [V.str (Str.ofString "value")])
    have s5 := same_new hl3' (.lst [V.str (Str.ofString "a"), V.str (Str.ofString "b")])
    have s6 := same_new ht3 (.tup [V.str (Str.ofString "others"), .ref t2, .ref l3])
    have s7 := same_new hL (.lst [x0, .ref t1, .ref t3])
    have a1 := s2.trans (s3.trans (s4.trans (s5.trans (s6.trans s7)))) _ _ (upd_same (a := l1))
    have a2 := s3.trans (s4.trans (s5.trans (s6.trans s7))) _ _ (upd_same (a := l2))
    have a3 := s4.trans (s5.trans (s6.trans s7)) _ _ (upd_same (a := t1))
    have a4 := s5.trans (s6.trans s7) _ _ (upd_same (a := t2))
    have a5 := s6.trans s7 _ _ (upd_same (a := l3))
    have a6 := s7 _ _ (upd_same (a := t3))
    have f1 : H1 l1 = none := hl1'
    have f2 : H1 l2 = none := s1.free hl2'
    have f3 : H1 t1 = none := (s1.trans s2).free ht1
    have f4 : H1 t2 = none := (s1.trans (s2.trans s3)).free ht2
    have f5 : H1 l3 = none := (s1.trans (s2.trans (s3.trans s4))).free hl3'
    have f6 : H1 t3 = none := (s1.trans (s2.trans (s3.trans (s4.trans s5)))).free ht3
    have f7 : H1 L = none := (s1.trans (s2.trans (s3.trans (s4.trans (s5.trans s6))))).free hL
    have sX := s1.trans (s2.trans (s3.trans (s4.trans (s5.trans (s6.trans s7)))))
    have aL := upd_same (a := L) (o := HO.lst [x0, .ref t1, .ref t3]) (H := (upd (upd (upd (upd (upd (upd H1 l1 (.lst [])) l2 (.lst [V.non, .ref l1])) t1 (.tup [V.str (Str.ofString "known"), .ref l2])) t2 (.tup [V.str (Str.ofString "value")])) l3 (.lst [V.str (Str.ofString "a"), V.str (Str.ofString "b")])) t3 (.tup [V.str (Str.ofString "others"), .ref t2, .ref l3])))
    clear s1 s2 s3 s4 s5 s6 s7
    generalize (upd (upd (upd (upd (upd (upd (upd H1 l1 (.lst [])) l2 (.lst [V.non, .ref l1])) t1 (.tup [V.str (Str.ofString "known"), .ref l2])) t2 (.tup [V.str (Str.ofString "value")])) l3 (.lst [V.str (Str.ofString "a"), V.str (Str.ofString "b")])) t3 (.tup [V.str (Str.ofString "others"), .ref t2, .ref l3])) L (.lst [x0, .ref t1, .ref t3])) = HX at a1 a2 a3 a4 a5 a6 aL sX ⊢
    have hAX := hA1.same sX
    refine ⟨_, rfl, p, 3, n + 3, rfl, hAX.2, by omega, by decide, by decide, fun c H3 c0 c1 hb hp3 => ?_⟩
    have hA3 := hAX.draw hb hp3
    have hso3 : H3 so = some (.lst (x0 :: xr)) := hb _ _ hsp (sX _ _ hso1)
    have aL3 := hb _ _ (hA1.2.ne f7) aL
    have fin : ∀ (x : V) (d : D), Pc d → (∀ Hz, (∀ b o, H1 b = none → HX b = some o → Hz b = some o) → Same M Hz → RW Hz d x) → Around1 H p (n + 4) (upd H3 so (.lst (x :: xr))) ∧ ∃ (M2 : Hp) (ds : List D) (xs : List V), Prt p H M M2 (upd H3 so (.lst (x :: xr))) ∧ M2 so = none ∧ (upd H3 so (.lst (x :: xr))) so = some (.lst xs) ∧ RWs M2 ds xs ∧ ds.length = 3 ∧ (∀ d ∈ ds, Pc d) ∧ [some (V.ref p), some (.ref la), some (.ref fa), some (.ref so), none, none, none, none] = [some (V.ref p), some (.ref la), some (.ref fa), some (.ref so), none, none, none, none] := by
      intro x d hd hx
      have hMs : Same M (upd H3 so (.lst (x :: xr))) := fun b o e => by
        rw [upd_ne (fun z => by rw [z, hMso] at e; cases e)]
        exact same_but hM hA3.1 C.mp b o e
      have hup : Same M (gm p H1 M (upd H3 so (.lst (x :: xr)))) := gm_up C.mp hMs
      refine ⟨hA3.put hso0 hsp, gm p H1 M (upd H3 so (.lst (x :: xr))), d :: ds1.drop 1, x :: xr, ⟨gm_p, gm_le, gm_call (fun b e => hA1.free hp e) (fun b o _ e => gm_le b o e), hup⟩, ?_, upd_same, ⟨_, _, rfl, hx _ (fun b o e1 e2 => ?_) hup, ?_⟩, ?_, fun d' hd' => ?_, rfl⟩
      · cases q : gm p H1 M (upd H3 so (.lst (x :: xr))) so with
        | none => rfl
        | some o =>
          obtain ⟨_, z, _⟩ := gm_is q
          rcases z with z | ⟨_, z⟩
          · rw [hso1] at z
            cases z
          · rw [hMso] at z
            cases z
      · have n1 := hA1.2.ne e1
        refine gm_new n1 e1 ?_
        rw [upd_ne (fun z => by rw [z, hso1] at e1; cases e1)]
        exact hb _ _ n1 e2
      · have z := (hr1.same hup)
        cases ds1 with
        | nil => cases hl1
        | cons d0 dr =>
          obtain ⟨_, _, e, _, z2⟩ := z
          cases e
          exact z2
      · rw [List.length_cons, List.length_drop, hl1]
      · rcases List.mem_cons.mp hd' with rfl | hd'
        · exact hd
        · exact hpc1 d' (List.mem_of_mem_drop hd')
    have hix0 : ixN (x0 :: xr).length 0 = some 0 := by
      unfold ixN
      rw [List.length_cons]
      simp
    have e : c = ((0 : Nat) : Int) ∨ c = ((1 : Nat) : Int) ∨ c = ((2 : Nat) : Int) := by omega
    rcases e with rfl | rfl | rfl
    · refine ⟨L, _, _, x0, rfl, rfl, SqL.of aL3, atI_nat (j := 0) rfl, _, rfl, so, _, _, 0, rfl, rfl, hso3, hix0, ?_⟩
      cases ds1 with
      | nil => cases hl1
      | cons d0 dr =>
        obtain ⟨_, _, e, z1, z2⟩ := id hr1
        cases e
        exact fin x0 d0 (hpc1 d0 List.mem_cons_self) fun Hz _ hz => z1.same hz
    · refine ⟨L, _, _, .ref t1, rfl, rfl, SqL.of aL3, atI_nat (j := 1) rfl, _, rfl, so, _, _, 0, rfl, rfl, hso3, hix0, ?_⟩
      refine fin (.ref t1) (.tup [S "known", .lst [.leaf .non, .lst []]]) pc_known fun Hz hz _ => ⟨t1, _, rfl, hz _ _ f3 a3, _, _, rfl, ⟨rfl, lf_str⟩, _, [], rfl, ⟨l2, _, rfl, hz _ _ f2 a2, _, _, rfl, ⟨rfl, .inl rfl⟩, _, [], rfl, ⟨l1, _, rfl, hz _ _ f1 a1, rfl⟩, rfl⟩, rfl⟩
    · refine ⟨L, _, _, .ref t3, rfl, rfl, SqL.of aL3, atI_nat (j := 2) rfl, _, rfl, so, _, _, 0, rfl, rfl, hso3, hix0, ?_⟩
      refine fin (.ref t3) (.tup [S "others", .tup [S "value"], .lst [S "a", S "b"]]) pc_others fun Hz hz _ => ⟨t3, _, rfl, hz _ _ f6 a6, _, _, rfl, ⟨rfl, lf_str⟩, _, _, rfl, ⟨t2, _, rfl, hz _ _ f4 a4, _, [], rfl, ⟨rfl, lf_str⟩, rfl⟩, _, [], rfl, ⟨l3, _, rfl, hz _ _ f5 a5, _, _, rfl, ⟨rfl, lf_str⟩, _, [], rfl, ⟨rfl, lf_str⟩, rfl⟩, rfl⟩
  clear hso1 hr1 hl1 hpc1 hA1
  rintro _ H1 ⟨hA1, M2, ds1, xs1, hP1, hMso, hso1, hr1, hl1, hpc1, rfl⟩
  have hz1 := C.z1
  have hz4 := C.z4
  have hxl1 : xs1.length = 3 := hr1.len.trans hl1
  -- calls_here
  refine ⟨by show 0 ≤ sizeLine; decide, fun ca hca => ?_⟩
  have hca0 : H ca = none := hA1.free hp hca
  have hcap : ca ≠ p := hp.ne hca0
  have hMca : M2 ca = none := hP1.le.free hca
  have hcaso : so ≠ ca := ne_of_none hso1 hca
  have hAc := hA1.new (o := .lst []) hca
  refine ⟨fun σ' H' => Around1 H1 p (n + 7) H' ∧ ∃ (M3 : Hp) (ds : List D) (vs : List V) (v6 : Option V), Prt p H M M3 H' ∧ Same M2 M3 ∧ H' ca = some (.lst vs) ∧ RWs M3 ds vs ∧ ds.length ≤ 2 ∧ (∀ d ∈ ds, DOk 7 d ∧ sz d ≤ 290) ∧ σ' = [some (.ref p), some (.ref la), some (.ref fa), some (.ref so), some (.ref ca), none, v6, none], ?_, ?_⟩
  · refine ⟨_, rfl, p, 3, n + 4, rfl, hAc.2, by omega, by decide, by decide, fun c H2 c0 c1 hb hp2 => ?_⟩
    obtain ⟨c, rfl⟩ : ∃ c' : Nat, c = (c' : Int) := ⟨c.toNat, by omega⟩
    have hAd : Around1 H1 p (n + 5) H2 := (Around1.mk' hA1.2 hca).draw hb hp2
    refine ⟨(c : Int), rfl, by omega, by omega, ?_⟩
    refine for_range (lo := 0) (fun i σ' H' => Around1 H1 p (n + 5 + i) H' ∧ ∃ (ds : List D) (vs : List V) (v6 : Option V), H' ca = some (.lst vs) ∧ RWs (gm p (upd H1 ca (.lst [])) M2 H') ds vs ∧ ds.length = i ∧ (∀ d ∈ ds, DOk 7 d ∧ sz d ≤ 290) ∧ σ' = [some (.ref p), some (.ref la), some (.ref fa), some (.ref so), some (.ref ca), none, v6, none])
      ⟨hAd, [], [], none, hb ca _ hcap upd_same, rfl, rfl, (fun _ h => nomatch h), rfl⟩ ?_ ?_
    · rintro i σ' H3 hi ⟨hA3, ds, vs, v6, hca3, hr3, hl3, hd3, rfl⟩
      have hM3 : Same M2 H3 := same_but hP1.le hA3.1 hP1.mp
      have hfa3 := hM3 _ _ (hP1.up _ _ C.fa)
      refine ⟨_, rfl, .inl ⟨rfl, _, SqL.of hca3⟩, _, rfl, _, rfl, _, rfl, fa, _, rfl, .inl (SqL.of hfa3), _, _, rfl, rfl, (by rw [List.length_map]; omega), ?_⟩
      obtain ⟨k, hk, hkz⟩ : ∃ k : Nat, ((0 : Int) + (i : Int)) % (((zs.map V.str).length : Nat) : Int) = (k : Int) ∧ k < zs.length := by
        rw [List.length_map]
        have h0 := Int.emod_nonneg ((0 : Int) + (i : Int)) (show ((zs.length : Nat) : Int) ≠ 0 by omega)
        have h1 := Int.emod_lt_of_pos ((0 : Int) + (i : Int)) (show (0 : Int) < ((zs.length : Nat) : Int) by omega)
        exact ⟨(((0 : Int) + (i : Int)) % ((zs.length : Nat) : Int)).toNat, by omega, by omega⟩
      refine ⟨fa, _, _, .str zs[k], rfl, rfl, SqL.of hfa3, at_ofN hk (by rw [List.getElem?_map, List.getElem?_eq_getElem hkz]; rfl), ?_⟩
      refine ⟨_, rfl, _, rfl, p, 3, n + 5 + i, rfl, hA3.2, by omega, by decide, by decide, fun m H4 m0 m1 hb4 hp4 => ?_⟩
      obtain ⟨m, rfl⟩ : ∃ m' : Nat, m = (m' : Int) := ⟨m.toNat, by omega⟩
      have hA4 := hA3.draw hb4 hp4
      have hso4 := hA4.1 _ _ hsp hso1
      refine ⟨_, rfl, so, _, rfl, SqL.of hso4, fun q hq => ⟨by show 2 ≤ sizeLine; decide, fun t ht => ?_⟩⟩
      rw [cutV_take] at ht ⊢
      have sq := same_new hq (.lst (xs1.take m))
      have st := same_new ht (.tup [V.str zs[k], .ref q])
      have hca4 := hb4 _ _ hcap hca3
      have hca5 := st _ _ (sq _ _ hca4)
      have hvl : vs.length = i := hr3.len.trans hl3
      have hA5 := (hA4.same (sq.trans st))
      have nq : q ≠ ca := (ne_of_none hca4 hq).symm
      have nt : t ≠ ca := (ne_of_none (sq _ _ hca4) ht).symm
      have fq : H1 q = none := hA4.free hA1.2 hq
      have ft : H1 t = none := hA4.free hA1.2 (sq.free ht)
      have hM6 : Same M2 (gm p (upd H1 ca (.lst [])) M2 (upd (upd (upd H4 q (.lst (xs1.take m))) t (.tup [V.str zs[k], .ref q])) ca (.lst (vs ++ [.ref t])))) := gm_up hP1.mp fun b o e => by
        rw [upd_ne (fun z => by rw [z, hMca] at e; cases e)]
        exact st _ _ (sq _ _ (same_but hP1.le hA4.1 hP1.mp b o e))
      have gq : ∀ {b o}, b ≠ ca → H1 b = none → (upd (upd H4 q (.lst (xs1.take m))) t (.tup [V.str zs[k], .ref q])) b = some o → gm p (upd H1 ca (.lst [])) M2 (upd (upd (upd H4 q (.lst (xs1.take m))) t (.tup [V.str zs[k], .ref q])) ca (.lst (vs ++ [.ref t]))) b = some o := fun {b o} n1 n2 e =>
        gm_new (hA1.2.ne n2) (by rw [upd_ne n1]; exact n2) (by rw [upd_ne n1]; exact e)
      refine ⟨ca, _, _, rfl, rfl, hca5, Nat.lt_of_lt_of_le (show vs.length < 1000 by omega) (by decide), ?_, ds ++ [.tup [.leaf (.str zs[k]), .lst (ds1.take m)]], vs ++ [.ref t], _, upd_same, ?_, by rw [List.length_append, hl3]; rfl, fun d hd => ?_, rfl⟩
      · exact hA5.put hca hcap
      · refine (hr3.same (gm_skip ⟨_, upd_same⟩ hMca fun b o n1 n2 e => ?_)).snoc ⟨t, _, rfl, gq nt ft upd_same, _, _, rfl, ⟨rfl, lf_str⟩, _, [], rfl, ⟨q, _, rfl, gq nq fq (st _ _ upd_same), (hr1.take m).same hM6⟩, rfl⟩
        rw [upd_ne n2]
        exact st _ _ (sq _ _ (hb4 _ _ n1 e))
      · rcases List.mem_append.mp hd with hd | hd
        · exact hd3 d hd
        · rw [List.mem_singleton.mp hd]
          have hnm := C.zl zs[k] (List.getElem_mem hkz)
          have hsl := szs_le (k := 90) (ds := ds1.take m) fun d hd => (hpc1 d (List.mem_of_mem_take hd)).2
          rw [List.length_take, hl1] at hsl
          refine ⟨⟨by show 2 ≤ 500; decide, fun d hd => ?_⟩, ?_⟩
          · rcases List.mem_cons.mp hd with rfl | hd
            · exact dok_leaf (lf_name hnm)
            · rw [List.mem_singleton.mp hd]
              exact ⟨by rw [List.length_take]; omega, fun d hd => (hpc1 d (List.mem_of_mem_take hd)).1⟩
          · have := hnm.1
            show 1 + ((1 + zs[k].length) + ((1 + szs (ds1.take m)) + 0)) ≤ 290
            have : min m 3 * 90 ≤ 270 := by omega
            omega
    · rintro σ' H3 ⟨hA3, ds, vs, v6, hca3, hr3, hl3, hd3, rfl⟩
      rw [Int.toNat_natCast] at hl3 hA3
      have hM3 : Same M2 H3 := same_but hP1.le hA3.1 hP1.mp
      exact ⟨hA3.mono (by omega), gm p (upd H1 ca (.lst [])) M2 H3, ds, vs, v6, hP1.next (fun b e => hA1.free hp (dom_upd b e)) hM3, gm_up hP1.mp hM3, hca3, hr3, by omega, hd3, rfl⟩
  rintro _ H2 ⟨hA2', M3, ds3, vs3, v6, hP3, hM23, hca3, hr3, hl3, hd3, rfl⟩
  have hA2 := hA1.trans hA2'
  have hso2 := hA2'.1 _ _ hsp hso1
  have hr2 := hr1.same hM23
  have hs3l := szs_le (k := 290) fun d hd => (hd3 d hd).2
  refine ⟨_, rfl, p, 3, n + 7, rfl, hA2.2, by omega, by decide, by decide, fun c H3 c0 c1 hb3 hp3 => ⟨rfl, _, rfl, ?_⟩⟩
  have hA3 := hA2.draw hb3 hp3
  have hP3' := hP3.step (same_but hP3.le hb3 hP3.mp)
  have hca4 := hb3 _ _ hcap hca3
  have hso4 := hb3 _ _ hsp hso2
  refine ite2 (fun _ => ?_) (fun _ => ?_)
  · -- failed
    obtain ⟨d1, hd1, rd1⟩ := hr2.item (show xs1[1]? = some xs1[1] from List.getElem?_eq_getElem (by omega))
    have hpd1 := hpc1 d1 (List.mem_of_getElem? hd1)
    refine ⟨_, rfl, _, rfl, so, _, 1, xs1[1], rfl, rfl, SqL.of hso4, atI_nat (j := 1) (List.getElem?_eq_getElem (by omega)), ?_⟩
    refine ⟨by show 2 ≤ sizeLine; decide, fun t1 ht1 => ⟨by show 2 ≤ sizeLine; decide, fun t2 ht2 => ⟨by show 4 ≤ sizeLine; decide, fun L hL => ?_⟩⟩⟩
    have s1 := same_new ht1 (.tup [V.str (Str.ofString "item"), .int 0])
    have s2 := same_new ht2 (.tup [V.str (Str.ofString "unbound"), .str (Str.ofString "b")])
    have s3 := same_new hL (.lst [V.str (Str.ofString "kind"), .str (Str.ofString "cases"), .ref t1, .ref t2])
    have a1 := s2.trans s3 _ _ (upd_same (a := t1))
    have a2 := s3 _ _ (upd_same (a := t2))
    have f1 : H t1 = none := hA3.free hp ht1
    have f2 : H t2 = none := hA3.free hp (s1.free ht2)
    have sX := s1.trans (s2.trans s3)
    have aL := upd_same (a := L) (o := HO.lst [V.str (Str.ofString "kind"), .str (Str.ofString "cases"), .ref t1, .ref t2]) (H := upd (upd H3 t1 (.tup [V.str (Str.ofString "item"), .int 0])) t2 (.tup [V.str (Str.ofString "unbound"), .str (Str.ofString "b")]))
    have fL := (s1.trans s2).free hL
    generalize upd (upd (upd H3 t1 (.tup [V.str (Str.ofString "item"), .int 0])) t2 (.tup [V.str (Str.ofString "unbound"), .str (Str.ofString "b")])) L (.lst [V.str (Str.ofString "kind"), .str (Str.ofString "cases"), .ref t1, .ref t2]) = HX at a1 a2 aL sX ⊢
    have hAX := hA3.same sX
    refine ⟨_, rfl, p, 4, n + 8, rfl, hAX.2, by omega, by decide, by decide, fun c H4 c0 c1 hb4 hp4 => ?_⟩
    have hA4 := hAX.draw hb4 hp4
    have aL4 := hb4 _ _ (hA3.2.ne fL) aL
    have fin : ∀ (x : V) (dx : D), Pc dx → (∀ Hz, (∀ b o, H b = none → HX b = some o → Hz b = some o) → RW Hz dx x) → ∀ q, H4 q = none → ∀ t, (upd H4 q (.tup [V.str (Str.ofString "failed"), xs1[1], x])) t = none →
        Q (.ref t) (upd (upd H4 q (.tup [V.str (Str.ofString "failed"), xs1[1], x])) t (.tup [V.ref ca, .ref q])) := by
      intro x dx hpd hx q hq t ht
      have sq := same_new hq (.tup [V.str (Str.ofString "failed"), xs1[1], x])
      have st := same_new ht (.tup [V.ref ca, .ref q])
      have hA5 := hA4.same (sq.trans st)
      have fq : H q = none := hA4.free hp hq
      have ft : H t = none := hA4.free hp (sq.free ht)
      have up3 : Same M3 (upd (upd H4 q (.tup [V.str (Str.ofString "failed"), xs1[1], x])) t (.tup [V.ref ca, .ref q])) := fun b o e => st _ _ (sq _ _ (same_but (fun b o e => sX _ _ (hP3'.le b o e)) hb4 hP3.mp b o e))
      have hP5 := hP3'.step up3
      refine kk (.ref t) (.tup [.lst ds3, .tup [S "failed", d1, dx]]) _ (hA5.mono (by omega)) ⟨⟨by show 2 ≤ 500; decide, fun d hd => ?_⟩, ?_⟩ ⟨t, _, rfl, gm_new (hp.ne ft) ft upd_same, _, _, rfl, ⟨ca, vs3, rfl, gm_new hcap hca0 (st _ _ (sq _ _ (hb4 _ _ hcap (sX _ _ hca4)))), hr3.same hP5.of⟩, _, [], rfl, ⟨q, _, rfl, gm_new (hp.ne fq) fq (st _ _ upd_same), _, _, rfl, ⟨rfl, lf_str⟩, _, _, rfl, rd1.same hP5.of, _, [], rfl, hx _ (fun b o e1 e2 => gm_new (hp.ne e1) e1 (st _ _ (sq _ _ (hb4 _ _ (hp.ne e1) e2)))), rfl⟩, rfl⟩
      · rcases List.mem_cons.mp hd with rfl | hd
        · exact ⟨by omega, fun d hd => (hd3 d hd).1.up (by decide)⟩
        rw [List.mem_singleton.mp hd]
        refine ⟨by show 3 ≤ 500; decide, fun d hd => ?_⟩
        rcases List.mem_cons.mp hd with rfl | hd
        · exact dok_S (by decide +kernel)
        rcases List.mem_cons.mp hd with rfl | hd
        · exact hpd1.1.up (by decide)
        rw [List.mem_singleton.mp hd]
        exact hpd.1.up (by decide)
      · show 1 + ((1 + szs ds3) + ((1 + ((1 + (Str.ofString "failed").length) + (sz d1 + (sz dx + 0)))) + 0)) ≤ 1200
        have e : (Str.ofString "failed").length = 6 := by decide +kernel
        have := hpd1.2
        have := hpd.2
        have : ds3.length * 290 ≤ 2 * 290 := Nat.mul_le_mul_right _ hl3
        omega
    have e : c = ((0 : Nat) : Int) ∨ c = ((1 : Nat) : Int) ∨ c = ((2 : Nat) : Int) ∨ c = ((3 : Nat) : Int) := by omega
    rcases e with rfl | rfl | rfl | rfl
    · exact ⟨L, _, _, _, rfl, rfl, SqL.of aL4, atI_nat (j := 0) rfl, by show 3 ≤ sizeLine; decide, fun q hq => ⟨by show 2 ≤ sizeLine; decide, fun t ht => fin _ (S "kind") (pc_S (by decide +kernel)) (fun _ _ => ⟨rfl, lf_str⟩) q hq t ht⟩⟩
    · exact ⟨L, _, _, _, rfl, rfl, SqL.of aL4, atI_nat (j := 1) rfl, by show 3 ≤ sizeLine; decide, fun q hq => ⟨by show 2 ≤ sizeLine; decide, fun t ht => fin _ (S "cases") (pc_S (by decide +kernel)) (fun _ _ => ⟨rfl, lf_str⟩) q hq t ht⟩⟩
    · exact ⟨L, _, _, _, rfl, rfl, SqL.of aL4, atI_nat (j := 2) rfl, by show 3 ≤ sizeLine; decide, fun q hq => ⟨by show 2 ≤ sizeLine; decide, fun t ht => fin _ (.tup [S "item", .leaf (.int 0)]) pc_item (fun Hz hz => ⟨t1, _, rfl, hz _ _ f1 a1, _, _, rfl, ⟨rfl, lf_str⟩, _, [], rfl, ⟨rfl, lf_int⟩, rfl⟩) q hq t ht⟩⟩
    · exact ⟨L, _, _, _, rfl, rfl, SqL.of aL4, atI_nat (j := 3) rfl, by show 3 ≤ sizeLine; decide, fun q hq => ⟨by show 2 ≤ sizeLine; decide, fun t ht => fin _ (.tup [S "unbound", S "b"]) pc_unb (fun Hz hz => ⟨t2, _, rfl, hz _ _ f2 a2, _, _, rfl, ⟨rfl, lf_str⟩, _, [], rfl, ⟨rfl, lf_str⟩, rfl⟩) q hq t ht⟩⟩
  -- pairs
  refine ⟨fun σ' H' => Around1 H p (n + 9) H' ∧ Same M3 H' ∧ H' ca = some (.lst vs3) ∧ ∃ (pa : Addr) (qs : List D) (vs : List V), H' pa = some (.lst vs) ∧ RWs (gm p H M H') qs vs ∧ vs.length ≤ 4 ∧ (∀ d ∈ qs, DOk 6 d ∧ sz d ≤ 110) ∧
      (∀ (j : Nat) (v : V), vs[j]? = some v → ∃ t u z, v = V.ref t ∧ zs[j]? = some z ∧ H' t = some (.tup [.str z, u])) ∧ σ' = [some (.ref p), some (.ref la), some (.ref fa), some (.ref so), some (.ref ca), some (.ref pa), v6, none], ?_, ?_⟩
  · have hfa3 := hP3'.le _ _ (hP3.up _ _ C.fa)
    refine ⟨_, rfl, _, rfl, fa, _, rfl, .inl (SqL.of hfa3), _, _, rfl, rfl, p, _, n + 8, rfl, hA3.2, by omega, by rw [List.length_map]; omega, by rw [List.length_map]; omega, fun c H4 c0 c1 hb4 hp4 => ?_⟩
    rw [List.length_map] at c1
    obtain ⟨c, rfl⟩ : ∃ c' : Nat, c = (c' : Int) := ⟨c.toNat, by omega⟩
    have hA4 := hA3.draw hb4 hp4
    have hM4 : Same M3 H4 := same_but hP3'.le hb4 hP3.mp
    have hca5 := hb4 _ _ hcap hca4
    have hso5 := hb4 _ _ hsp hso4
    refine ⟨(c : Int), rfl, by omega, by omega, fun D hD => ?_⟩
    have hDp : D ≠ p := hA4.2.ne hD
    have hD0 : H D = none := hA4.free hp hD
    have hMD : M3 D = none := hM4.free hD
    refine lc_range (lo := 0) (fun i H' => Same H4 H' ∧ ∃ (qs : List DD) (vs : List V), H' D = some (.lst vs) ∧ RWs (gm p (upd H4 D (.lst [])) M3 H') qs vs ∧ vs.length = i ∧ (∀ d ∈ qs, DOk 6 d ∧ sz d ≤ 110) ∧
      ∀ (j : Nat) (v : V), vs[j]? = some v → ∃ t u z, v = V.ref t ∧ zs[j]? = some z ∧ H' t = some (.tup [.str z, u]))
      ⟨same_new hD _, [], [], upd_same, rfl, rfl, (fun _ h => nomatch h), fun j v h => by simp at h⟩ ?_ ?_
    · rintro i H5 hi ⟨hs5, qs, vs, hD5, hq5, hl5, hqo, hvk⟩
      rw [Int.toNat_natCast] at hi
      have hiz : i < zs.length := by omega
      refine ⟨rfl, ?_⟩
      unfold tYes
      refine iteT ?_
      refine ⟨_, rfl, _, rfl, fa, _, _, .str zs[i], rfl, rfl, SqL.of (hs5 _ _ (hM4 _ _ (hP3.up _ _ C.fa))), at_ofN (j := i) (by omega) (by rw [List.getElem?_map, List.getElem?_eq_getElem hiz]; rfl), ?_⟩
      obtain ⟨k, hk, hk3⟩ : ∃ k : Nat, ((0 : Int) + (i : Int)) % 3 = (k : Int) ∧ k < 3 := by
        have h0 := Int.emod_nonneg ((0 : Int) + (i : Int)) (show (3 : Int) ≠ 0 by decide)
        have h1 := Int.emod_lt_of_pos ((0 : Int) + (i : Int)) (show (0 : Int) < 3 by decide)
        exact ⟨(((0 : Int) + (i : Int)) % 3).toNat, by omega, by omega⟩
      have hkx : xs1[k]? = some xs1[k] := List.getElem?_eq_getElem (by omega)
      obtain ⟨d1, hd1, rd1⟩ := hr2.item hkx
      have hpd1 := hpc1 d1 (List.mem_of_getElem? hd1)
      refine ⟨_, rfl, _, rfl, _, _, rfl, rfl, (by show (0 : Int) < 3; decide), so, _, _, xs1[k], rfl, rfl, SqL.of (hs5 _ _ hso5), at_ofN hk hkx, by show 2 ≤ sizeLine; decide, fun t ht => ?_⟩
      have st := same_new ht (.tup [V.str zs[i], xs1[k]])
      have hD6 := st _ _ hD5
      have nt : t ≠ D := (ne_of_none hD5 ht).symm
      have ft : H4 t = none := hs5.free ht
      refine ⟨vs, hD6, Nat.lt_of_lt_of_le (show vs.length < 1000 by omega) (by decide), same_put (hs5.trans st) hD, qs ++ [.tup [.leaf (.str zs[i]), d1]], vs ++ [.ref t], upd_same, ?_, by rw [List.length_append, hl5]; rfl, fun d hd => ?_, fun j v hj => ?_⟩
      · refine (hq5.same (gm_skip ⟨_, upd_same⟩ hMD fun b o n1 n2 e => ?_)).snoc ⟨t, _, rfl, gm_new (hA4.2.ne ft) (by rw [upd_ne nt]; exact ft) (by rw [upd_ne nt]; exact upd_same), _, _, rfl, ⟨rfl, lf_str⟩, _, [], rfl, rd1.same (gm_up hP3.mp fun b o e => ?_), rfl⟩
        · rw [upd_ne n2]
          exact st _ _ e
        · rw [upd_ne (fun z => by rw [z, hMD] at e; cases e)]
          exact st _ _ (hs5 _ _ (hM4 _ _ e))
      · rcases List.mem_append.mp hd with hd | hd
        · exact hqo d hd
        · rw [List.mem_singleton.mp hd]
          have hnm := C.zl zs[i] (List.getElem_mem hiz)
          refine ⟨⟨by show 2 ≤ 500; decide, fun d hd => ?_⟩, ?_⟩
          · rcases List.mem_cons.mp hd with rfl | hd
            · exact dok_leaf (lf_name hnm)
            · rw [List.mem_singleton.mp hd]
              exact hpd1.1
          · have := hnm.1
            have := hpd1.2
            show 1 + ((1 + zs[i].length) + (sz d1 + 0)) ≤ 110
            omega
      · rcases Nat.lt_or_ge j vs.length with c | c
        · rw [List.getElem?_append_left c] at hj
          obtain ⟨t', u, z, e1, e2, e3⟩ := hvk j v hj
          exact ⟨t', u, z, e1, e2, by rw [upd_ne (ne_of e3 hD5 (fun z => nomatch z))]; exact st _ _ e3⟩
        · rw [List.getElem?_append_right c] at hj
          have ej : j - vs.length = 0 := by
            have := (List.getElem?_eq_some_iff.mp hj).1
            rw [List.length_singleton] at this
            omega
          rw [ej] at hj
          have e0 : V.ref t = v := Option.some.inj hj
          have ji : j = i := by omega
          exact ⟨t, xs1[k], zs[i], e0.symm, by rw [ji]; exact List.getElem?_eq_getElem hiz, by rw [upd_ne nt]; exact upd_same⟩
    · rintro H5 ⟨hs5, qs, vs, hD5, hq5, hl5, hqo, hvk⟩
      rw [Int.toNat_natCast] at hl5
      have hA5 := hA4.same hs5
      have hM5 : Same M3 H5 := hM4.trans hs5
      have hP5 := hP3'.step hM5
      refine ⟨hA5, hM5, hs5 _ _ hca5, D, qs, vs, hD5, hq5.same ?_, by omega, hqo, hvk, rfl⟩
      exact (hP5.next (G := upd H4 D (.lst [])) (fun b e => hA4.free hp (dom_upd b e)) hM5).of
  rintro _ H4 ⟨hA4, hM4, hca5, pa, qs, vs, hpa, hqs, hvl, hqo, hvk, rfl⟩
  refine ⟨_, rfl, _, rfl, pa, vs, kOf H4, rfl, SqL.of hpa, fun x hx => ?_, fun x hx y hy e => ?_, fun ys L hperm hL => ?_⟩
  · obtain ⟨j, hj⟩ := List.getElem?_of_mem hx
    obtain ⟨t, u, z, e1, _, e3⟩ := hvk j x hj
    exact ⟨t, u, e1, by rw [e1, kOf_at e3]; exact e3⟩
  · obtain ⟨i, hi⟩ := List.getElem?_of_mem hx
    obtain ⟨j, hj⟩ := List.getElem?_of_mem hy
    obtain ⟨t, u, z, e1, e2, e3⟩ := hvk i x hi
    obtain ⟨t', u', z', e1', e2', e3'⟩ := hvk j y hj
    rw [e1, e1', kOf_at e3, kOf_at e3'] at e
    subst e
    have hij : i = j := by
      have hi' := (List.getElem?_eq_some_iff.mp e2).1
      exact (List.getElem?_inj hi' C.nd).mp (e2.trans e2'.symm)
    rw [hij, hj] at hi
    exact (Option.some.inj hi).symm
  have sL := same_new hL (.lst ys)
  refine ⟨by show 2 ≤ sizeLine; decide, fun q hq => ⟨by show 2 ≤ sizeLine; decide, fun t ht => ?_⟩⟩
  have sq := same_new hq (.tup [V.str (Str.ofString "bound"), V.ref L])
  have st := same_new ht (.tup [V.ref ca, .ref q])
  have sX := sL.trans (sq.trans st)
  have hA5 := hA4.same sX
  have fL : H L = none := hA4.free hp hL
  have fq : H q = none := hA4.free hp (sL.free hq)
  have ft : H t = none := hA4.free hp ((sL.trans sq).free ht)
  obtain ⟨es', hpe, hre⟩ := RWs.perm hperm.symm hqs
  have hgm : ∀ {H5 : Hp}, Same H4 H5 → Same (gm p H M H4) (gm p H M H5) := fun s => gm_next fun b o _ e => s _ _ e
  have hP5 := hP3'.step (hM4.trans sX)
  have hel : es'.length ≤ 4 := by
    have := hre.len
    have := hperm.length_eq
    omega
  have hsl := szs_le (k := 110) (ds := es') fun d hd => (hqo d (hpe.mem_iff.mp hd)).2
  refine kk (.ref t) (.tup [.lst ds3, .tup [S "bound", .lst es']]) _ (hA5.mono (by omega)) ⟨⟨by show 2 ≤ 500; decide, fun d hd => ?_⟩, ?_⟩ ⟨t, _, rfl, gm_new (hp.ne ft) ft upd_same, _, _, rfl, ⟨ca, vs3, rfl, gm_new hcap hca0 (sX _ _ hca5), hr3.same hP5.of⟩, _, [], rfl, ⟨q, _, rfl, gm_new (hp.ne fq) fq (st _ _ upd_same), _, _, rfl, ⟨rfl, lf_str⟩, _, [], rfl, ⟨L, ys, rfl, gm_new (hp.ne fL) fL (sq.trans st _ _ upd_same), hre.same (hgm sX)⟩, rfl⟩, rfl⟩
  · rcases List.mem_cons.mp hd with rfl | hd
    · exact ⟨by omega, fun d hd => (hd3 d hd).1.up (by decide)⟩
    rw [List.mem_singleton.mp hd]
    refine ⟨by show 2 ≤ 500; decide, fun d hd => ?_⟩
    rcases List.mem_cons.mp hd with rfl | hd
    · exact dok_S (by decide +kernel)
    rw [List.mem_singleton.mp hd]
    exact ⟨by omega, fun d hd => (hqo d (hpe.mem_iff.mp hd)).1⟩
  · show 1 + ((1 + szs ds3) + ((1 + ((1 + (Str.ofString "bound").length) + ((1 + szs es') + 0))) + 0)) ≤ 1200
    have e : (Str.ofString "bound").length = 5 := by decide +kernel
    have : ds3.length * 290 ≤ 2 * 290 := Nat.mul_le_mul_right _ hl3
    have : es'.length * 110 ≤ 4 * 110 := Nat.mul_le_mul_right _ hel
    omega
end
end K02
set_option Elab.async false
set_option linter.all false
set_option maxRecDepth 100000
set_option maxHeartbeats 4000000
namespace K02
open PySem L2 PyProof.Rows
/-! ### as the library's data -/
def toL : V → PyData
  | .int i => .int i
  | .str z => .str z
  | .bl b => .bool b
  | _ => .none
mutual
def toP : D → PyData
  | .leaf v => toL v
  | .lst ds => .list (toPs ds)
  | .tup ds => .tuple (toPs ds)
def toPs : List D → List PyData
  | [] => []
  | d :: ds => toP d :: toPs ds
end
theorem dp_leaf {K : PySem.W.Frag} {H : Hp} {v : V} (h : Leaf v) : Dp K H v (toL v) := by
  rcases h with rfl | ⟨b, rfl⟩ | ⟨i, rfl⟩ | ⟨z, rfl⟩
  · exact .non
  · exact .bl _
  · exact .int _
  · exact .str _
mutual
theorem RW.dp {K : PySem.W.Frag} {H : Hp} : ∀ {d : D} {v : V}, RW H d v → Dp K H v (toP d)
  | .leaf w, u, h => by
    obtain ⟨rfl, hl⟩ := h
    rw [toP]
    exact dp_leaf hl
  | .lst ds, u, h => by
    obtain ⟨a, xs, rfl, ha, hr⟩ := h
    rw [toP]
    exact .lst (SqL.of ha) (RWs.dp hr)
  | .tup ds, u, h => by
    obtain ⟨a, xs, rfl, ha, hr⟩ := h
    rw [toP]
    exact .tup (SqT.of ha) (RWs.dp hr)
theorem RWs.dp {K : PySem.W.Frag} {H : Hp} : ∀ {ds : List D} {xs : List V}, RWs H ds xs → DpAll K H xs (toPs ds)
  | [], xs, h => by
    have e : xs = [] := h
    rw [e, toPs]
    exact .nil
  | d :: ds, xs, h => by
    obtain ⟨x, ys, rfl, h1, h2⟩ := h
    rw [toPs]
    exact .cons (RW.dp h1) (RWs.dp h2)
end
theorem toPs_len : ∀ (ds : List D), (toPs ds).length = ds.length
  | [] => by rw [toPs]; rfl
  | d :: ds => by rw [toPs, List.length_cons, List.length_cons, toPs_len ds]
theorem ascii_all {z : Str} {n : Nat} (h : ∀ c ∈ z.cps.toList, c < 128) (hn : 128 ≤ n) : (z.cps.toList.all fun c => decide (c < n)) = true := List.all_eq_true.mpr fun c hc => decide_eq_true (Nat.lt_of_lt_of_le (h c hc) hn)
theorem strOk_of {z : Str} (h : ∀ c ∈ z.cps.toList, c < 128) : PyData.strOk z = true := by
  unfold PyData.strOk
  rw [← Array.all_toList]
  exact ascii_all h (by decide)
/-- what a leaf weighs -/
theorem leaf_lay {v : V} (h : LfD v) : (toL v).canLay0 = true ∧ (toL v).depth = 0 ∧ (toL v).showable = true ∧ (toL v).leavesShort 13 = true ∧ (toL v).weight + 1 ≤ 43 * sz (.leaf v) := by
  rcases h with rfl | ⟨b, rfl⟩ | ⟨i, rfl, hi⟩ | ⟨z, rfl, hz⟩
  · simp [toL, PyData.canLay0, PyData.depth, PyData.showable, PyData.leavesShort, PyData.weight, sz]
  · simp [toL, PyData.canLay0, PyData.depth, PyData.showable, PyData.leavesShort, PyData.weight, sz]
  · have hl : i.natAbs.log2 < 20 := by
      by_cases z : i.natAbs = 0
      · rw [z]
        decide
      · exact (Nat.log2_lt z).mpr (Nat.lt_of_le_of_lt hi (by decide))
    refine ⟨by simp [toL, PyData.canLay0], by simp [toL, PyData.depth], ?_, ?_, ?_⟩
    · rw [toL, PyData.showable]
      exact decide_eq_true (by omega)
    · rw [toL, PyData.leavesShort]
      exact decide_eq_true (PyData.shown_int_le (Nat.lt_of_le_of_lt hi (by decide)))
    · rw [toL, PyData.weight, show sz (.leaf (.int i)) = 1 from rfl]
      split <;> omega
  · refine ⟨?_, by simp [toL, PyData.depth], by simp [toL, PyData.showable], ?_, ?_⟩
    · rw [toL, PyData.canLay0]
      exact strOk_of hz
    · rw [toL, PyData.leavesShort]
      exact ascii_all hz (by decide)
    · rw [toL, PyData.weight]
      show z.length + 1 ≤ 43 * (1 + z.length)
      omega
/-- leaves and depth alone -/
def DLf : Nat → D → Prop
  | _, .leaf v => LfD v
  | 0, .lst _ => False
  | 0, .tup _ => False
  | n + 1, .lst ds => ∀ d ∈ ds, DLf n d
  | n + 1, .tup ds => ∀ d ∈ ds, DLf n d
theorem dlf_leaf {n : Nat} {v : V} (h : LfD v) : DLf n (.leaf v) := by cases n <;> exact h
theorem DOk.lf : ∀ {n : Nat} {d : D}, DOk n d → DLf n d
  | n, .leaf v, h => dlf_leaf (by cases n <;> exact h)
  | 0, .lst _, h => h.elim
  | 0, .tup _, h => h.elim
  | n + 1, .lst ds, h => fun d hd => DOk.lf (h.2 d hd)
  | n + 1, .tup ds, h => fun d hd => DOk.lf (h.2 d hd)
mutual
theorem lay_of : ∀ {n : Nat} (d : D), DLf n d → (toP d).canLay0 = true ∧ (toP d).depth ≤ n ∧ (toP d).showable = true ∧ (toP d).leavesShort 13 = true ∧ (toP d).weight + 1 ≤ 43 * sz d
  | n, .leaf v, h => by
    have a : LfD v := by cases n <;> exact h
    obtain ⟨b1, b2, b3, b4, b5⟩ := leaf_lay a
    rw [toP]
    exact ⟨b1, by omega, b3, b4, b5⟩
  | n + 1, .lst ds, h => by
    obtain ⟨a, b, c, d, e⟩ := lays_of ds h
    rw [toP, PyData.canLay0, PyData.depth, PyData.showable, PyData.leavesShort, PyData.weight, sz]
    exact ⟨a, by omega, c, d, by omega⟩
  | n + 1, .tup ds, h => by
    obtain ⟨a, b, c, d, e⟩ := lays_of ds h
    rw [toP, PyData.canLay0, PyData.depth, PyData.showable, PyData.leavesShort, PyData.weight, sz]
    exact ⟨a, by omega, c, d, by omega⟩
theorem lays_of : ∀ {n : Nat} (ds : List D), (∀ d ∈ ds, DLf n d) → PyData.canLayAll0 (toPs ds) = true ∧ PyData.depthAll (toPs ds) ≤ n ∧ PyData.showableAll (toPs ds) = true ∧ PyData.leavesShortAll 13 (toPs ds) = true ∧ PyData.weightAll (toPs ds) ≤ 43 * szs ds
  | n, [], _ => by
    rw [toPs]
    exact ⟨by simp [PyData.canLayAll0], by simp [PyData.depthAll], by simp [PyData.showableAll], by simp [PyData.leavesShortAll], by simp [PyData.weightAll]⟩
  | n, d :: ds, h => by
    obtain ⟨a1, b1, c1, d1, e1⟩ := lay_of d (h d List.mem_cons_self)
    obtain ⟨a2, b2, c2, d2, e2⟩ := lays_of ds fun x hx => h x (List.mem_cons_of_mem _ hx)
    rw [toPs, PyData.canLayAll0, PyData.depthAll, PyData.showableAll, PyData.leavesShortAll, PyData.weightAll, szs, a1, a2, c1, c2, d1, d2]
    exact ⟨rfl, Nat.max_le.mpr ⟨b1, b2⟩, rfl, rfl, by omega⟩
end
theorem shaped_of {n : Nat} {d : D} (h : DOk n d) (hn : n ≤ 64) : SeqAt.shaped (toP d) = true := by
  obtain ⟨a, b, _⟩ := lay_of d h.lf
  show ((toP d).canLay0 && decide ((toP d).depth ≤ 64)) = true
  rw [a, decide_eq_true (by omega)]
  rfl
theorem nd_of {n : Nat} {d : D} (h : DLf n d) : (toP d).hasDict = false := PyData.hasDict_of_canLay _ (lay_of d h).1
theorem shown_ok {n : Nat} {d : D} (h : DLf n d) (hs : sz d ≤ 24000) : (toP d).shown.length ≤ sizeLine := by
  obtain ⟨_, _, _, d1, e1⟩ := lay_of d h
  refine PyData.shown_fits (by decide) (by decide) d1 ?_
  have : (2 : Nat) ^ 20 = 1048576 := by decide
  omega
end K02
set_option Elab.async false
set_option linter.all false
set_option maxRecDepth 100000
set_option maxHeartbeats 4000000
namespace K02
open PySem L2 PyProof.Rows
theorem cutV_drop {xs : List V} {m : Nat} (h : m ≤ xs.length) : cutV xs (some (m : Int)) none = xs.drop m := by
  unfold cutV
  rw [HT.sIx_none, HT.sIx_nat, Nat.min_eq_left h]
  refine List.take_of_length_le ?_
  rw [List.length_drop]
  exact Nat.le_refl _
theorem Ctx.up {p la fa : Addr} {M M2 : Hp} {w0 : Wv} {rs : List Wv} {es : List V} {gs : List G3} {zs : List Str} (C : Ctx p la fa M w0 rs es gs zs) (h : M2 p = none) (s : Same M M2) : Ctx p la fa M2 w0 rs es gs zs :=
  ⟨h, s _ _ C.la, C.en.same s, C.e1, C.e60, s _ _ C.fa, C.z1, C.z4, C.nd, C.zl, C.w0k, C.rl, C.rk⟩
theorem lk_ok {l : Lk} (h : Pc (plD (lkP l))) (hk : LkOk l) : DOk 6 (lkD l) ∧ sz (lkD l) ≤ 120 := by
  have e1 : (Str.ofString "what").length = 4 := by decide +kernel
  have e2 : (Str.ofString "none").length = 4 := by decide +kernel
  have e3 : (Str.ofString "has").length = 3 := by decide +kernel
  cases l with
  | what q =>
    refine ⟨⟨by show 2 ≤ 500; decide, fun d hd => ?_⟩, ?_⟩
    · rcases List.mem_cons.mp hd with rfl | hd
      · exact dok_S (by decide +kernel)
      · rw [List.mem_singleton.mp hd]
        exact h.1
    · show 1 + ((1 + (Str.ofString "what").length) + (sz (plD q) + 0)) ≤ 120
      have := h.2
      have : sz (plD q) ≤ 90 := this
      omega
  | none q =>
    refine ⟨⟨by show 2 ≤ 500; decide, fun d hd => ?_⟩, ?_⟩
    · rcases List.mem_cons.mp hd with rfl | hd
      · exact dok_S (by decide +kernel)
      · rw [List.mem_singleton.mp hd]
        exact h.1
    · show 1 + ((1 + (Str.ofString "none").length) + (sz (plD q) + 0)) ≤ 120
      have : sz (plD q) ≤ 90 := h.2
      omega
  | has q k =>
    have hl : LfD k.v := by
      cases k with
      | ix i => exact lf_nat (Nat.le_trans hk (by decide))
      | fd z => exact lf_name hk
    have hs : sz (.leaf k.v) ≤ 18 := by
      cases k with
      | ix i => exact (by decide : 1 ≤ 18)
      | fd z =>
        have := (show nmOk z from hk).1
        show 1 + z.length ≤ 18
        omega
    refine ⟨⟨by show 3 ≤ 500; decide, fun d hd => ?_⟩, ?_⟩
    · rcases List.mem_cons.mp hd with rfl | hd
      · exact dok_S (by decide +kernel)
      rcases List.mem_cons.mp hd with rfl | hd
      · exact h.1
      · rw [List.mem_singleton.mp hd]
        exact dok_leaf hl
    · show 1 + ((1 + (Str.ofString "has").length) + (sz (plD q) + (sz (.leaf k.v) + 0))) ≤ 120
      have : sz (plD q) ≤ 90 := h.2
      omega
/-- whether the answer was come to -/
def fl (x : V) (xs : List V) : Nat := if x ∈ xs then 1 else 0
theorem fl_in {x : V} {xs : List V} (h : x ∈ xs) : fl x xs = 1 := if_pos h
theorem fl_out {x : V} {xs : List V} (h : x ∉ xs) : fl x xs = 0 := if_neg h
theorem fl_eq {x : V} {xs ys : List V} (h : x ∈ xs ↔ x ∈ ys) : fl x xs = fl x ys := by
  unfold fl
  by_cases c : x ∈ xs
  · rw [if_pos c, if_pos (h.mp c)]
  · rw [if_neg c, if_neg fun z => c (h.mpr z)]
/-- the answers that a look may have -/
structure AsOk (x : V) (As : List V) : Prop where
  nd : As.Nodup
  two : 2 ≤ As.length
  four : As.length ≤ 4
  mem : x ∈ As
  kind : ∀ a ∈ As, (∃ b, a = .bl b) ∧ (∃ b, x = .bl b) ∨ (∃ z, a = .str z) ∧ ∃ z, x = .str z
  lf : ∀ a ∈ As, LfD a ∧ sz (.leaf a) ≤ 8
theorem AsOk.perm {x : V} {As Bs : List V} (h : AsOk x As) (p : Bs.Perm As) : AsOk x Bs :=
  ⟨p.nodup_iff.mpr h.nd, by rw [p.length_eq]; exact h.two, by rw [p.length_eq]; exact h.four, p.mem_iff.mpr h.mem, fun a ha => h.kind a (p.mem_iff.mp ha), fun a ha => h.lf a (p.mem_iff.mp ha)⟩
theorem AsOk.turn {x : V} {As : List V} (h : AsOk x As) (t : Nat) : AsOk x (As.drop t ++ As.take t) :=
  h.perm ((List.perm_append_comm).trans (by rw [List.take_append_drop]))
theorem as_bool (b : Bool) : AsOk (.bl b) [.bl true, .bl false] := by
  refine ⟨by decide, by decide, by decide, by cases b <;> decide, fun a ha => ?_, fun a ha => ?_⟩
  · rcases List.mem_cons.mp ha with rfl | ha
    · exact .inl ⟨⟨_, rfl⟩, _, rfl⟩
    · rw [List.mem_singleton.mp ha]
      exact .inl ⟨⟨_, rfl⟩, _, rfl⟩
  · rcases List.mem_cons.mp ha with rfl | ha
    · exact ⟨.inr (.inl ⟨_, rfl⟩), by show 1 ≤ 8; decide⟩
    · rw [List.mem_singleton.mp ha]
      exact ⟨.inr (.inl ⟨_, rfl⟩), by show 1 ≤ 8; decide⟩
theorem as_what (u : Wv) (q : Pl) : AsOk (ansW u (.what q)) [.str (Str.ofString "integer"), .str (Str.ofString "none"), .str (Str.ofString "record"), .str (Str.ofString "row")] := by
  refine ⟨by decide +kernel, by show 2 ≤ 4; decide, by show 4 ≤ 4; decide, ?_, fun a ha => .inr ⟨?_, _, rfl⟩, fun a ha => ?_⟩
  · cases u
    · exact List.mem_cons_of_mem _ List.mem_cons_self
    · exact List.mem_cons_self
    · exact List.mem_cons_of_mem _ (List.mem_cons_of_mem _ (List.mem_cons_of_mem _ List.mem_cons_self))
    · exact List.mem_cons_of_mem _ (List.mem_cons_of_mem _ List.mem_cons_self)
  · rcases List.mem_cons.mp ha with rfl | ha
    · exact ⟨_, rfl⟩
    rcases List.mem_cons.mp ha with rfl | ha
    · exact ⟨_, rfl⟩
    rcases List.mem_cons.mp ha with rfl | ha
    · exact ⟨_, rfl⟩
    exact ⟨_, List.mem_singleton.mp ha⟩
  · rcases List.mem_cons.mp ha with rfl | ha
    · exact ⟨lf_ascii (by decide +kernel), by decide +kernel⟩
    rcases List.mem_cons.mp ha with rfl | ha
    · exact ⟨lf_ascii (by decide +kernel), by decide +kernel⟩
    rcases List.mem_cons.mp ha with rfl | ha
    · exact ⟨lf_ascii (by decide +kernel), by decide +kernel⟩
    rw [List.mem_singleton.mp ha]
    exact ⟨lf_ascii (by decide +kernel), by decide +kernel⟩
theorem foF_of {w u : Wv} {rs : List Wv} {p : Pl} (h : wAt w rs p = some u) : foF w rs p = .inl u := by
  unfold wAt at h
  cases q : wB w rs (plB p) with
  | none =>
    rw [q] at h
    cases h
  | some u0 =>
    rw [q] at h
    have h' : wKs u0 (plK p) = some u := h
    unfold foF
    rw [q]
    cases plB p <;> (show (match wKs u0 (plK p) with | some u => Sum.inl u | none => .inr (2, plD p)) = Sum.inl u; rw [h'])
theorem anF_of {w u : Wv} {rs : List Wv} {l : Lk} (h : wAt w rs (lkP l) = some u) (ok : okLk u l) : anF w rs l = .inl (ansW u l) := by
  unfold anF
  rw [foF_of h]
  cases l with
  | what p => rfl
  | none p => rfl
  | has p k =>
    have e : kindS u = kyS k := by
      have h : okKy u k := ok
      cases u <;> cases k <;> first | rfl | exact h.elim
    exact if_pos e
/-- a drawn tree: the value leads to L -/
structure TrP (w0 : Wv) (rs : List Wv) (r : Nat) (L T : Tr) : Prop where
  ld : To w0 rs r T L
def spTree (j : Nat) : Sp := fun vs H Q _ => ∃ (p la fa ua : Addr) (lv : V) (M : Hp) (w0 : Wv) (rs : List Wv) (es : List V) (gs : List G3) (zs : List Str) (n r : Nat) (ds : List D) (xs : List V) (L : Tr), vs = [.ref p, .ref la, .ref fa, .ref ua, lv] ∧ Ctx p la fa M w0 rs es gs zs ∧ Same M H ∧ Purse H p n ∧
  ua ≠ p ∧ H ua = some (.lst xs) ∧ RWs M ds xs ∧ (∀ d ∈ ds, DOk 9 d) ∧ ds.length + r = 5 ∧ r + 1 ≤ j ∧ RW M (trD L) lv ∧ n + 100 * (r + 1) < 10 ^ 60 ∧
  ∀ v T H', Around1 H p (n + 100 * (r + 1)) H' → TrP w0 rs r L T → RW (gm p H M H') (trD T) v → Q v H'
abbrev nTr : List Str := ["sack", "places", "names_here", "used", "last", "found", "answers", "turned", "ways", "answer"]
section
variable {P : Program} {w : World} {K : PySem.W.Frag} {mg : Str → Option Value} {base : Heap}
theorem tree_none {f : Addr} {fd : FuncData} {ps : List Str} : FnOk P w K mg base CX0 0 f fd ps (spTree 0) := none_of fun vs H Q E h => by
  obtain ⟨_, _, _, _, _, _, _, _, _, _, _, _, r, _, _, _, _, _, _, _, _, _, _, _, _, h1, _⟩ := h
  omega
theorem scTr : FnScope nTr ["sack", "places", "names_here", "used", "last"] (defScope sWkTree) := ⟨rfl, rfl, rfl, by decide +kernel, rfl, by decide +kernel, by decide +kernel⟩
theorem ok_tree {f fC fL fD : Addr} {fd fdC fdL fdD : FuncData} {k j : Nat} (F : Fun K "_law_wk_tree" "_law_wk_tree" sWkTree f fd) (T : Txt K mg) (FC : Fun K "_law_coin" "_law_coin" sCoin fC fdC) (bC : Binds K fdC ["purse", "many"] []) (mC : mg "_law_coin" = some (.ref fC)) (hk : 2 ≤ k)
    (FL : Fun K "_law_wk_look" "_law_wk_look" sWkLook fL fdL) (GL : FnOk P w K mg base CX0 2 fL fdL ["sack", "places", "fields"] spLook) (bL : Binds K fdL ["sack", "places", "fields"] []) (mL : mg "_law_wk_look" = some (.ref fL))
    (FD : Fun K "_law_wk_done" "_law_wk_done" sWkDone fD fdD) (GD : FnOk P w K mg base CX0 2 fD fdD ["sack", "places", "names_here"] spDone) (bD : Binds K fdD ["sack", "places", "names_here"] []) (mD : mg "_law_wk_done" = some (.ref fD))
    (G : FnOk P w K mg base CX0 k f fd ["sack", "places", "names_here", "used", "last"] (spTree j)) (b : Binds K fd ["sack", "places", "names_here", "used", "last"] []) (m : mg "_law_wk_tree" = some (.ref f)) : FnOk P w K mg base CX0 (k + 1) f fd ["sack", "places", "names_here", "used", "last"] (spTree (j + 1)) := by
  have GC : FnOk P w K mg base CX0 k fC fdC ["purse", "many"] spCoin := (ok_coin FC T).mono (by omega)
  have GL' := GL.mono hk
  have GD' := GD.mono hk
  refine F.ok scTr (fun vs H Q E h => ?_) (fun cdv A outer s H vs Q E hr h => ?_)
  · obtain ⟨p, la, fa, ua, lv, M, w0, rs, es, gs, zs, n, r, ds, xs, Lt, rfl, _⟩ := h
    rfl
  obtain ⟨p, la, fa, ua, lv, M, w0, rs, es, gs, zs, n, r, ds, xs, Lt, rfl, C, hM, hp, hup, hua, hrs, hdo, hdr, hrj, hlv, hn, kk⟩ := h
  have hu65 : (A.deeper (envOfC "_law_wk_tree" (defScope sWkTree) s.heap.objs.size f cdv)).units + 65 < cLine := by
    have := hr.un
    omega
  refine ⟨_, Evl.pss_cut (ps_set (i := 5) scTr.nd rfl (Or.inl rfl) (pe_call GL' hr rfl mL FL.kp bL .nil pass0 (pa_cons (pv 0) (pa_cons (pv 1) (pa_cons (pv 2) pa_nil)))))
    (pss_cons (ps_if (pt_cut (PW.pt (pw_or (pt_cmpR op_gt (pe_callB call_len_seq (by rfl) T.len PySem.boot_len (pa_cons (pv 3) pa_nil)) pe_int (nomark _)) (pw_or1 (pt_cmpR (op_inD hu65) (pe_ix ix_list (pv 5) pe_int (fun _ _ => rfl)) (pv 3) rfl))))) (pss_one (ps_ret (pv 4))) pss_nil)
    (Evl.pss_cut (ps_set (i := 6) scTr.nd rfl (Or.inl rfl) (pe_ifExp (pt_cmpR op_eq (pe_ix ix_tup (pe_ix ix_list (pv 5) pe_int (fun _ _ => rfl)) pe_int (fun _ _ => rfl)) pe_str (nomark _)) (pe_lst (pa_cons pe_str (pa_cons pe_str (pa_cons pe_str (pa_cons pe_str pa_nil))))) (pe_lst (pa_cons pe_bl (pa_cons pe_bl pa_nil)))))
    (Evl.pss_cut (ps_par (i := 7) (j := 8) rfl scTr.nd rfl rfl (by decide) rfl rfl (pa_cons (pe_call GC hr rfl mC FC.kp bC .nil pass0 (pa_cons (pv 0) (pa_cons (pe_callB call_len_seq (by rfl) T.len PySem.boot_len (pa_cons (pv 6) pa_nil)) pa_nil))) (pa_cons (pe_lst pa_nil) pa_nil)) (by rfl))
    (Evl.pss_cut (ps_for PassesOwn.never rfl (pi_list (pe_op op_cat (pe_slice sl_list (pv 6) (po_some (pv 7)) po_none) (pe_slice sl_list (pv 6) po_none (po_some (pv 7))))) (pg_name (i := 9) scTr.nd rfl (Or.inl rfl))
      (pss_one (ps_if (pt_cmpR op_eq (pv 9) (pe_ix ix_list (pv 5) pe_int (fun _ _ => rfl)) (nomark _))
        (pss_one (ps_expr (pe_bm PySem.F.plainAttrs_list PySem.F.slot_list_append PySem.F.type_list_append mt_append (pv 8) (pa_cons (pe_tup (pa_cons (pv 9) (pa_cons (pe_call G hr rfl m F.kp b .nil pass0 (pa_cons (pv 0) (pa_cons (pv 1) (pa_cons (pv 2) (pa_cons (pe_op op_cat (pv 3) (pe_lst (pa_cons (pe_ix ix_list (pv 5) pe_int (fun _ _ => rfl)) pa_nil))) (pa_cons (pv 4) pa_nil)))))) pa_nil))) pa_nil))))
        (pss_one (ps_if (pt_cmpR op_gt (pe_call GC hr rfl mC FC.kp bC .nil pass0 (pa_cons (pv 0) (pa_cons pe_int pa_nil))) pe_int (nomark _))
          (pss_one (ps_expr (pe_bm PySem.F.plainAttrs_list PySem.F.slot_list_append PySem.F.type_list_append mt_append (pv 8) (pa_cons (pe_tup (pa_cons (pv 9) (pa_cons (pe_tup (pa_cons pe_str (pa_cons (pe_call GD' hr rfl mD FD.kp bD .nil pass0 (pa_cons (pv 0) (pa_cons (pv 1) (pa_cons (pv 2) pa_nil)))) pa_nil))) pa_nil))) pa_nil))))
          pss_nil)))))
    (pss_one (ps_ret (pe_tup (pa_cons pe_str (pa_cons (pe_ix ix_list (pv 5) pe_int (fun _ _ => rfl)) (pa_cons (pv 8) pa_nil)))))))))), ?_⟩
  -- found
  refine ⟨fun σ' H' => Around1 H p (n + 3) H' ∧ ∃ (ro a : Addr) (l : Lk) (u : Wv) (M1 : Hp), Prt p H M M1 H' ∧ H ro = none ∧ H' ro = some (.lst [.ref a, ansW u l]) ∧ RW M1 (lkD l) (.ref a) ∧ wAt w0 rs (lkP l) = some u ∧ okLk u l ∧ plN (lkP l) ≤ 3 ∧ LkOk l ∧ σ' = [some (.ref p), some (.ref la), some (.ref fa), some (.ref ua), some lv, some (.ref ro), none, none, none, none], ?_, ?_⟩
  · refine ⟨_, rfl, _, rfl, _, rfl, p, la, fa, M, w0, rs, es, gs, zs, n, rfl, C, hM, hp, by omega, fun ro a l u H1 hA1 hro0 hro hl hat hok hpl hlk => ?_⟩
    exact ⟨hA1, ro, a, l, u, gm p H M H1, ⟨gm_p, gm_le, Same.refl _, gm_up C.mp (same_but hM hA1.1 C.mp)⟩, hro0, hro, hl, hat, hok, hpl, hlk, rfl⟩
  rintro _ H1 ⟨hA1, ro, a, l, u, M1, hP1, hro0, hro1, hl, hat, hok, hpl, hlk, rfl⟩
  have hrop := hp.ne hro0
  have hlD := lk_ok (pc_pl C.w0k C.rl C.rk hat hpl) hlk
  have hua1 := hA1.1 _ _ hup hua
  have hrs1 := hrs.same hP1.up
  have hxl := hrs.len
  -- enough, or asked before
  refine ⟨fun b H' => H' = H1 ∧ (b = false → ds.length ≤ 4), ?_, ?_⟩
  · refine ⟨_, rfl, ua, xs, rfl, .inl (SqL.of hua1), _, _, rfl, rfl, _, rfl, ?_⟩
    refine ite2 (fun c => ⟨rfl, fun z => nomatch z⟩) (fun c => ?_)
    have c' : ¬ (((xs.length : Nat) : Int) > 4) := fun z => c (decide_eq_true z)
    refine ⟨_, rfl, ro, _, 0, .ref a, rfl, rfl, SqL.of hro1, atI_nat (j := 0) rfl, _, rfl, toP (lkD l), toPs ds, (hl.same hP1.le).dp, .lst (SqL.of hua1) ((hrs1.same hP1.le).dp), shaped_of hlD.1 (by decide), ?_, _, rfl, rfl, fun _ => by omega⟩
    have z := shaped_of (d := .lst ds) (n := 10) ⟨by omega, hdo⟩ (by decide)
    rw [toP] at z
    exact z
  rintro bb H1 ⟨rfl, hb⟩
  cases bb with
  | true => exact ⟨_, rfl, kk lv Lt H1 (hA1.mono (by omega)) ⟨.done _ _⟩ (hlv.same (gm_up C.mp (same_but hM hA1.1 C.mp)))⟩
  | false =>
  have hd4 := hb rfl
  clear hb
  obtain ⟨r, rfl⟩ : ∃ r', r = r' + 1 := ⟨r - 1, by omega⟩
  have hP1le := hP1.le
  obtain ⟨a0, x0, ea, ha1, _⟩ := lk_rw (hl.same hP1.le)
  cases ea
  have ro0 : atI [V.ref a, ansW u l] 0 = some (.ref a) := atI_nat (j := 0) rfl
  have ro1 : atI [V.ref a, ansW u l] 1 = some (ansW u l) := atI_nat (j := 1) rfl
  -- answers
  refine ⟨fun σ' H' => Same H1 H' ∧ ∃ (aa : Addr) (As : List V), aa ≠ p ∧ H' aa = some (.lst As) ∧ AsOk (ansW u l) As ∧ σ' = [some (.ref p), some (.ref la), some (.ref fa), some (.ref ua), some lv, some (.ref ro), some (.ref aa), none, none, none], ?_, ?_⟩
  · refine ⟨_, rfl, ro, _, 0, _, rfl, rfl, SqL.of hro1, ro0, a, _, 0, _, rfl, rfl, SqT.of ha1, atI_nat (j := 0) rfl, rfl, _, rfl, ?_⟩
    cases l with
    | what q =>
      refine ifT (decide_eq_true rfl) ⟨by show 4 ≤ sizeLine; decide, fun aa haa => ⟨same_new haa _, aa, _, hA1.2.ne haa, upd_same, ?_, rfl⟩⟩
      exact as_what u q
    | none q =>
      refine ifF (decide_eq_false (by show ¬ V.str (Str.ofString "none") = V.str (Str.ofString "what"); decide)) ⟨by show 2 ≤ sizeLine; decide, fun aa haa => ⟨same_new haa _, aa, _, hA1.2.ne haa, upd_same, as_bool _, rfl⟩⟩
    | has q k =>
      refine ifF (decide_eq_false (by show ¬ V.str (Str.ofString "has") = V.str (Str.ofString "what"); decide)) ⟨by show 2 ≤ sizeLine; decide, fun aa haa => ⟨same_new haa _, aa, _, hA1.2.ne haa, upd_same, as_bool _, rfl⟩⟩
  rintro _ H2 ⟨hs2, aa, As, hap, haa, hAs, rfl⟩
  have hA2 := hA1.same hs2
  -- turned, ways
  refine ⟨fun σ' H' => Around1 H2 p (n + 4) H' ∧ ∃ (wa : Addr) (t : Nat), t ≤ As.length ∧ H2 wa = none ∧ H' wa = some (.lst []) ∧ σ' = [some (.ref p), some (.ref la), some (.ref fa), some (.ref ua), some lv, some (.ref ro), some (.ref aa), some (.int (t : Int)), some (.ref wa), none], ?_, ?_⟩
  · have h2 := hAs.two
    have h4 := hAs.four
    refine ⟨_, rfl, _, rfl, aa, As, rfl, .inl (SqL.of haa), p, _, n + 3, rfl, hA2.2, by omega, by omega, by omega, fun c H3 c0 c1 hb3 hp3 => ?_⟩
    obtain ⟨t, rfl⟩ : ∃ t : Nat, c = (t : Int) := ⟨c.toNat, by omega⟩
    have hA3 : Around1 H2 p (n + 4) H3 := ⟨hb3, hp3⟩
    refine ⟨by show 0 ≤ sizeLine; decide, fun wa hwa => ⟨_, _, rfl, hA3.new hwa, wa, t, by omega, hA3.free hA2.2 hwa, upd_same, rfl⟩⟩
  rintro _ H3 ⟨hA3, wa, t, htl, hwa0, hwa, rfl⟩
  have hwp : wa ≠ p := hA2.2.ne hwa0
  have hM1wa : M1 wa = none := hP1.le.free (hs2.free hwa0)
  have haa3 := hA3.1 _ _ hap haa
  have hwaL : ∀ {b : Addr} {o : HO}, H2 b = some o → b ≠ wa := fun e z => by
    rw [z, hwa0] at e
    cases e
  have hBs := hAs.turn t
  generalize hB : As.drop t ++ As.take t = Bs at hBs
  have b2 := hBs.two
  have b4 := hBs.four
  -- the ways
  refine ⟨fun σ' H' => ∃ (as : List V) (ts : List Tr) (vs : List V) (v9 : Option V) (k : Nat) (T0 : Tr), Around1 H2 p (n + 100 * (r + 2)) H' ∧ H' wa = some (.lst vs) ∧ RWs (gm p H3 M1 H') (List.zipWith wayD as (trDs ts)) vs ∧ as.length = ts.length ∧ as.Sublist Bs ∧ True ∧ True ∧
      as[k]? = some (ansW u l) ∧ ts[k]? = some T0 ∧ To w0 rs r T0 Lt ∧ σ' = [some (.ref p), some (.ref la), some (.ref fa), some (.ref ua), some lv, some (.ref ro), some (.ref aa), some (.int (t : Int)), some (.ref wa), v9], ?_, ?_⟩
  · refine ⟨_, rfl, _, rfl, _, rfl, aa, As, rfl, SqL.of haa3, fun s1 hs1 => ?_⟩
    have k1 := same_new hs1 (.lst (cutV As (some (t : Int)) none))
    refine ⟨_, rfl, _, rfl, _, rfl, aa, As, rfl, SqL.of (k1 _ _ haa3), fun s2 hs2' => ?_⟩
    have k2 := same_new hs2' (.lst (cutV As none (some (t : Int))))
    refine ⟨s1, s2, _, _, rfl, rfl, k2 _ _ upd_same, upd_same, ?_, fun L hL => ?_⟩
    · have e1 := cutV_drop htl
      have e2 := cutV_take As t
      rw [e1, e2, List.length_drop, List.length_take]
      exact Nat.le_trans (show As.length - t + min t As.length ≤ 1000 by have := hAs.four; omega) (by decide)
    rw [cutV_drop htl, cutV_take] at hL ⊢
    rw [hB]
    have k3 := same_new hL (.lst Bs)
    have kX := k1.trans (k2.trans (by rw [cutV_drop htl, cutV_take]; exact k3))
    have hLX : (upd (upd (upd H3 s1 (.lst (As.drop t))) s2 (.lst (As.take t))) L (.lst Bs)) L = some (.lst Bs) := upd_same
    generalize (upd (upd (upd H3 s1 (.lst (As.drop t))) s2 (.lst (As.take t))) L (.lst Bs)) = H4 at kX hLX ⊢
    have hA4 := hA3.same kX
    have hwa4 := kX _ _ hwa
    have hLwa : L ≠ wa := (ne_of_none hwa (k1.free (k2.free (by rw [cutV_drop htl, cutV_take]; exact hL)))).symm
    have hLp : L ≠ p := hA3.2.ne (k1.free (k2.free (by rw [cutV_drop htl, cutV_take]; exact hL)))
    refine ⟨L, rfl, ⟨_, SqL.of hLX⟩, ?_⟩
    refine for_list (K := K) (a := L) (xs := Bs) (fun i σ' H' => Around1 H2 p (n + 4 + 21 * i + 100 * (r + 1) * fl (ansW u l) (Bs.take i)) H' ∧ H' L = some (.lst Bs) ∧ (∀ b, H' b = none → H3 b = none) ∧ ∃ (as : List V) (ts : List Tr) (vs : List V) (v9 : Option V), H' wa = some (.lst vs) ∧ RWs (gm p H3 M1 H') (List.zipWith wayD as (trDs ts)) vs ∧ as.length = ts.length ∧ as.Sublist (Bs.take i) ∧
        True ∧ True ∧ (ansW u l ∈ Bs.take i → ∃ (k : Nat) (T0 : Tr), as[k]? = some (ansW u l) ∧ ts[k]? = some T0 ∧ To w0 rs r T0 Lt) ∧
        σ' = [some (.ref p), some (.ref la), some (.ref fa), some (.ref ua), some lv, some (.ref ro), some (.ref aa), some (.int (t : Int)), some (.ref wa), v9])
      ⟨hA4.mono (by omega), hLX, fun b e => kX.free e, [], [], [], none, hwa4, rfl, rfl, List.Sublist.refl _, trivial, trivial, (fun h => nomatch h), rfl⟩ (fun i σ' H' _ h => SqL.of h.2.1) ?_ ?_
    · rintro i x σ' H5 hi ⟨hA5, hL5, hdm5, as, ts, vs, v9, hwa5, hw5, hal, hsub, hto, hsz, hfd, rfl⟩
      have hil := (List.getElem?_eq_some_iff.mp hi).1
      have htk : Bs.take (i + 1) = Bs.take i ++ [x] := by
        rw [List.take_add_one, hi]
        rfl
      have hxB : x ∈ Bs := List.mem_of_getElem? hi
      have hxk := hBs.kind x hxB
      have hxl := hBs.lf x hxB
      have hro5 := hA5.1 _ _ hrop (hs2 _ _ hro1)
      have hua5 := hA5.1 _ _ hup (hs2 _ _ hua1)
      have hM15 : Same M1 H5 := fun b o e => hA5.1 _ _ (fun z => by rw [z, hP1.mp] at e; cases e) (hs2 _ _ (hP1.le _ _ e))
      have hvl : vs.length ≤ i := by
        have z := hw5.len
        rw [List.length_zipWith, trDs_map, List.length_map] at z
        have := hsub.length_le
        rw [List.length_take] at this
        omega
      have hwz : ∀ {t : Tr}, List.zipWith wayD (as ++ [x]) (trDs (ts ++ [t])) = List.zipWith wayD as (trDs ts) ++ [wayD x (trD t)] := fun {t} => by
        rw [trDs_map, trDs_map, List.map_append, List.zipWith_append (by rw [List.length_map]; exact hal)]
        rfl
      -- a way behind
      have push : ∀ (H6 H7 : Hp) (c : Nat) (tv : V) (t0 : Tr) (q : Addr), Around1 H5 p c H6 → H7 = upd H6 q (.tup [x, tv]) → H6 q = none → RW (gm p H5 M1 H6) (trD t0) tv → True → True →
          H6 wa = some (.lst vs) ∧ H7 wa = some (.lst vs) ∧ vs.length < sizeLine ∧ Around1 H2 p c (upd H7 wa (.lst (vs ++ [.ref q]))) ∧ (upd H7 wa (.lst (vs ++ [.ref q]))) L = some (.lst Bs) ∧ (∀ b, (upd H7 wa (.lst (vs ++ [.ref q]))) b = none → H3 b = none) ∧ (upd H7 wa (.lst (vs ++ [.ref q]))) wa = some (.lst (vs ++ [.ref q])) ∧
          RWs (gm p H3 M1 (upd H7 wa (.lst (vs ++ [.ref q])))) (List.zipWith wayD (as ++ [x]) (trDs (ts ++ [t0]))) (vs ++ [.ref q]) ∧ (as ++ [x]).length = (ts ++ [t0]).length ∧ (as ++ [x]).Sublist (Bs.take (i + 1)) ∧ True ∧
          szs (List.zipWith wayD (as ++ [x]) (trDs (ts ++ [t0]))) ≤ szs (List.zipWith wayD as (trDs ts)) + (9 + sz (trD t0)) := by
        rintro H6 _ c tv t0 q hA6 rfl hq hrt _ _
        have sq := same_new hq (.tup [x, tv])
        have hwa6 := hA6.1 _ _ hwp hwa5
        have hwa7 := sq _ _ hwa6
        have nq : q ≠ wa := (ne_of_none hwa6 hq).symm
        have fq : H5 q = none := hA6.free hA5.2 hq
        refine ⟨hwa6, hwa7, Nat.lt_of_le_of_lt (show vs.length ≤ 1000 by omega) (by decide), ?_, ?_, fun b e => hdm5 b (hA6.free hA5.2 (dom_upd b (dom_upd b e))), upd_same, ?_, ?_, ?_, ?_, ?_⟩
        · exact ((Around1.trans hA5 hA6).same sq).put hwa0 hwp
        · rw [upd_ne hLwa]
          exact sq _ _ (hA6.1 _ _ hLp hL5)
        · rw [hwz]
          refine (hw5.same (gm_skip ⟨_, hwa⟩ hM1wa fun b o n1 n2 e => ?_)).snoc ⟨q, _, rfl, gm_new (hA5.2.ne fq) (hdm5 q fq) (by rw [upd_ne nq]; exact upd_same), _, _, rfl, ⟨rfl, hxl.1.leaf⟩, _, [], rfl, hrt.same (gm_call hdm5 fun b o n e => ?_), rfl⟩
          · rw [upd_ne n2]
            exact sq _ _ (hA6.1 _ _ n1 e)
          · rw [upd_ne (fun z => ?_)]
            · exact sq _ _ (gm_le _ _ e)
            · obtain ⟨_, c, _⟩ := gm_is e
              rw [z, hwa5, hM1wa] at c
              rcases c with c | ⟨_, c⟩ <;> cases c
        · rw [List.length_append, List.length_append, hal]
          rfl
        · rw [htk]
          exact hsub.append (List.Sublist.refl _)
        · trivial
        · rw [hwz, szs_app]
          show _ + ((1 + (sz (.leaf x) + (sz (trD t0) + 0))) + 0) ≤ _
          have := hxl.2
          omega
      refine ⟨_, rfl, _, rfl, ro, _, 1, _, rfl, rfl, SqL.of hro5, ro1, scal_ans hxk, _, rfl, ?_⟩
      by_cases hx : x = ansW u l
      · refine ifT (decide_eq_true hx) ?_
        have hnd : (Bs.take i ++ [x]).Nodup := by
          rw [← htk]
          exact hBs.nd.sublist (List.take_sublist _ _)
        have hni : ansW u l ∉ Bs.take i := fun z => (List.nodup_append.mp hnd).2.2 _ z x List.mem_cons_self hx.symm
        have hf0 := fl_out hni
        have hf1 : fl (ansW u l) (Bs.take (i + 1)) = 1 := fl_in (by rw [htk, hx]; exact List.mem_append_right _ List.mem_cons_self)
        rw [hf0] at hA5
        refine ⟨_, rfl, .inl ⟨rfl, _, SqL.of hwa5⟩, _, rfl, _, rfl, _, rfl, _, rfl, _, rfl, _, rfl, ro, _, 0, _, rfl, rfl, SqL.of hro5, ro0, by show 1 ≤ sizeLine; decide, fun l1 hl1 => ?_⟩
        have q1 := same_new hl1 (.lst [V.ref a])
        refine ⟨ua, l1, xs, [.ref a], rfl, rfl, q1 _ _ hua5, upd_same, Nat.le_trans (show xs.length + 1 ≤ 1000 by omega) (by decide), fun u2 hu2 => ?_⟩
        have q2 := same_new hu2 (.lst (xs ++ [V.ref a]))
        have q12 := q1.trans q2
        have hA5' := hA5.same q12
        have hup2 : u2 ≠ p := (hA5.same q1).2.ne hu2
        refine ⟨_, rfl, p, la, fa, u2, lv, M1, w0, rs, es, gs, zs, _, r, ds ++ [lkD l], xs ++ [V.ref a], Lt, rfl, C.up hP1.mp hP1.up, hM15.trans q12, hA5'.2, hup2, upd_same, ?_, fun d hd => ?_, by rw [List.length_append]; show ds.length + 1 + r = 5; omega, by omega, hlv.same hP1.up, ?_, fun tv T0 H6 hA6 hT hrt => ?_⟩
        · exact RWs.snoc hrs1 hl
        · rcases List.mem_append.mp hd with hd | hd
          · exact hdo d hd
          · rw [List.mem_singleton.mp hd]
            exact hlD.1.up (by decide)
        · omega
        refine ⟨by show 2 ≤ sizeLine; decide, fun q hq => ?_⟩
        obtain ⟨p1, p2, p3, p4, p5, p6, p7, p8, p9, p10, p11, p12⟩ := push H6 _ _ tv T0 q (Around1.trans ⟨.of q12, hA5'.2⟩ hA6) rfl hq (hrt.same (gm_call (fun b e => q12.free e) fun b o _ e => gm_le b o e)) trivial trivial
        refine ⟨wa, vs, .ref q, rfl, rfl, p2, p3, p4.mono ?_, p5, p6, as ++ [x], ts ++ [T0], vs ++ [.ref q], _, p7, p8, p9, p10, p11, ?_, fun _ => ⟨as.length, T0, ?_, ?_, hT.ld⟩, rfl⟩
        · rw [hf1]
          omega
        · trivial
        · rw [List.getElem?_append_right (Nat.le_refl _), Nat.sub_self, hx]
          rfl
        · rw [hal, List.getElem?_append_right (Nat.le_refl _), Nat.sub_self]
          rfl
      · refine ifF (decide_eq_false hx) ?_
        have hiff : ansW u l ∈ Bs.take (i + 1) ↔ ansW u l ∈ Bs.take i := by
          rw [htk]
          refine ⟨fun z => ?_, fun z => List.mem_append_left _ z⟩
          rcases List.mem_append.mp z with z | z
          · exact z
          · exact absurd (List.mem_singleton.mp z).symm hx
        have hff := fl_eq hiff
        have hb : fl (ansW u l) (Bs.take i) ≤ 1 := by
          unfold fl
          split <;> omega
        have hfm : 100 * (r + 1) * fl (ansW u l) (Bs.take i) ≤ 100 * (r + 1) := by
          have := Nat.mul_le_mul_left (100 * (r + 1)) hb
          omega
        refine ⟨_, rfl, p, 3, _, rfl, hA5.2, by omega, by decide, by decide, fun c H6 c0 c1 hb6 hp6 => ⟨_, _, rfl, rfl, _, rfl, ?_⟩⟩
        have hA6 : Around1 H5 p _ H6 := ⟨hb6, hp6⟩
        have hnext : ∀ {as' : List V} {ts' : List Tr}, (∃ a2, as' = as ++ a2) → (∃ t2, ts' = ts ++ t2) → (ansW u l ∈ Bs.take (i + 1) → ∃ (k : Nat) (T0 : Tr), as'[k]? = some (ansW u l) ∧ ts'[k]? = some T0 ∧ To w0 rs r T0 Lt) := by
          rintro _ _ ⟨a2, rfl⟩ ⟨t2, rfl⟩ z
          obtain ⟨k, T0, e1, e2, e3⟩ := hfd (hiff.mp z)
          exact ⟨k, T0, by rw [List.getElem?_append_left (List.getElem?_eq_some_iff.mp e1).1]; exact e1, by rw [List.getElem?_append_left (List.getElem?_eq_some_iff.mp e2).1]; exact e2, e3⟩
        refine ite2 (fun _ => ?_) (fun _ => ?_)
        · have hwa6 := hb6 _ _ hwp hwa5
          have hM16 : Same M1 H6 := same_but hM15 hb6 hP1.mp
          refine ⟨_, rfl, .inl ⟨rfl, _, SqL.of hwa6⟩, _, rfl, _, rfl, _, rfl, _, rfl, p, la, fa, M1, w0, rs, es, gs, zs, _, rfl, C.up hP1.mp hP1.up, hM16, hA6.2, by omega, fun dv d H7 hA7 hd hrd => ?_⟩
          refine ⟨by show 2 ≤ sizeLine; decide, fun q1 hq1 => ⟨by show 2 ≤ sizeLine; decide, fun q hq => ?_⟩⟩
          have k1 := same_new hq1 (.tup [V.str (Str.ofString "end"), dv])
          have hA57 := Around1.trans hA6 hA7
          have fq1 : H5 q1 = none := hA57.free hA5.2 hq1
          obtain ⟨p1, p2, p3, p4, p5, p6, p7, p8, p9, p10, p11, p12⟩ := push _ _ _ (.ref q1) (.fin d) q (hA57.same k1) rfl hq (by
            rw [trD]
            exact ⟨q1, _, rfl, gm_new (hA5.2.ne fq1) fq1 upd_same, _, _, rfl, ⟨rfl, lf_str⟩, _, [], rfl, hrd.same (gm_call (fun b e => hA6.free hA5.2 e) fun b o _ e => k1 _ _ (gm_le b o e)), rfl⟩) trivial trivial
          refine ⟨wa, vs, .ref q, rfl, rfl, p2, p3, p4.mono ?_, p5, p6, as ++ [x], ts ++ [.fin d], vs ++ [.ref q], _, p7, p8, p9, p10, p11, ?_, hnext ⟨_, rfl⟩ ⟨_, rfl⟩, rfl⟩
          · rw [hff]
            omega
          · trivial
        · refine ⟨(Around1.trans hA5 hA6).mono ?_, hb6 _ _ hLp hL5, fun b e => hdm5 b (hA6.free hA5.2 e), as, ts, vs, _, hb6 _ _ hwp hwa5, hw5.same (gm_next fun b o n e => hb6 b o n e), hal, ?_, hto, ?_, hnext ⟨[], by rw [List.append_nil]⟩ ⟨[], by rw [List.append_nil]⟩, rfl⟩
          · rw [hff]
            omega
          · rw [htk]
            exact hsub.trans (List.sublist_append_left _ _)
          · trivial
    · rintro σ' H5 ⟨hA5, hL5, hdm5, as, ts, vs, v9, hwa5, hw5, hal, hsub, hto, hsz, hfd, rfl⟩
      rw [List.take_length] at hsub hfd hA5
      obtain ⟨k, T0, e1, e2, e3⟩ := hfd hBs.mem
      have hf1 : fl (ansW u l) Bs = 1 := fl_in hBs.mem
      rw [hf1] at hA5
      refine ⟨as, ts, vs, v9, k, T0, hA5.mono (by omega), hwa5, hw5, hal, hsub, hto, trivial, e1, e2, e3, rfl⟩
  rintro _ H4 ⟨as, ts, vs, v9, k, T0, hA4, hwa4, hw4, hal, hsub, hto, hsz, e1, e2, hld, rfl⟩
  have hro4 := hA4.1 _ _ hrop (hs2 _ _ hro1)
  have hnd : as.Nodup := hBs.nd.sublist hsub
  have hM14 : Same M1 H4 := fun b o e => hA4.1 _ _ (fun z => by rw [z, hP1.mp] at e; cases e) (hs2 _ _ (hP1.le _ _ e))
  refine ⟨_, rfl, ro, _, 0, _, rfl, rfl, SqL.of hro4, ro0, _, rfl, by show 3 ≤ sizeLine; decide, fun q hq => ?_⟩
  have kq := same_new hq (.tup [V.str (Str.ofString "look"), .ref a, .ref wa])
  have hA04 : Around1 H p (n + 100 * (r + 1 + 1)) H4 := Around1.trans hA2 hA4
  have hA5 := hA04.same kq
  have fq : H q = none := hA04.free hp hq
  have hwa00 : H wa = none := hA2.free hp hwa0
  have hP5 := hP1.next (G := H3) (H3 := (upd H4 q (.tup [V.str (Str.ofString "look"), .ref a, .ref wa]))) (fun b e => hA2.free hp (hA3.free hA2.2 e)) (hM14.trans kq)
  refine kk (.ref q) (.look l as ts) _ hA5 ⟨?_⟩ ?_
  · refine .step (anF_of hat hok) (by omega) e1 (fun j' hj' z => ?_) e2 hld hal (fun a' ha' => scal_ans (hBs.kind a' (hsub.subset ha'))) ansW_ne
    have := (List.getElem?_inj (List.getElem?_eq_some_iff.mp z).1 hnd).mp (z.trans e1.symm)
    omega
  · rw [trD]
    exact ⟨q, _, rfl, gm_new (hp.ne fq) fq upd_same, _, _, rfl, ⟨rfl, lf_str⟩, _, _, rfl, hl.same ((gm_up hP1.mp (hM14.trans kq)).trans hP5.of), _, [], rfl, ⟨wa, vs, rfl, gm_new (hp.ne hwa00) hwa00 (kq _ _ hwa4), hw4.same ((gm_next fun b o _ e => kq _ _ e).trans hP5.of)⟩, rfl⟩
end
end K02
set_option Elab.async false
set_option linter.all false
set_option maxRecDepth 100000
set_option maxHeartbeats 4000000
namespace K02
open PySem L2 PyProof.Rows
/-! ### places where nothing is -/
/-- what the place begins at is there, what it names within is not -/
def Gone (w : Wv) (rs : List Wv) (p : Pl) : Prop := ∃ u0, wB w rs (plB p) = some u0 ∧ wKs u0 (plK p) = none
/-- the place begins at a result that is not there -/
def Over (rs : List Wv) (p : Pl) (n : Nat) : Prop := plB p = some n ∧ rs.length ≤ n
theorem Gone.item {w : Wv} {rs : List Wv} {p : Pl} {i : Nat} (h : Gone w rs p) : Gone w rs (.item p i) := by
  obtain ⟨u0, h1, h2⟩ := h
  refine ⟨u0, h1, ?_⟩
  show wKs u0 (plK p ++ [.ix i]) = none
  rw [wKs_snoc, h2]
  rfl
theorem Gone.field {w : Wv} {rs : List Wv} {p : Pl} {z : Str} (h : Gone w rs p) : Gone w rs (.field p z) := by
  obtain ⟨u0, h1, h2⟩ := h
  refine ⟨u0, h1, ?_⟩
  show wKs u0 (plK p ++ [.fd z]) = none
  rw [wKs_snoc, h2]
  rfl
theorem at_is {w u : Wv} {rs : List Wv} {p : Pl} (h : wAt w rs p = some u) : ∃ u0, wB w rs (plB p) = some u0 ∧ wKs u0 (plK p) = some u := by
  unfold wAt at h
  cases q : wB w rs (plB p) with
  | none =>
    rw [q] at h
    cases h
  | some u0 =>
    rw [q] at h
    exact ⟨u0, rfl, h⟩
theorem gone_item {w u : Wv} {rs : List Wv} {p : Pl} {i : Nat} (h : wAt w rs p = some u) (n : wIn u (.ix i) = none) : Gone w rs (.item p i) := by
  obtain ⟨u0, h1, h2⟩ := at_is h
  refine ⟨u0, h1, ?_⟩
  show wKs u0 (plK p ++ [.ix i]) = none
  rw [wKs_snoc, h2]
  exact n
theorem gone_field {w u : Wv} {rs : List Wv} {p : Pl} {z : Str} (h : wAt w rs p = some u) (n : wIn u (.fd z) = none) : Gone w rs (.field p z) := by
  obtain ⟨u0, h1, h2⟩ := at_is h
  refine ⟨u0, h1, ?_⟩
  show wKs u0 (plK p ++ [.fd z]) = none
  rw [wKs_snoc, h2]
  exact n
theorem Gone.fo {w : Wv} {rs : List Wv} {p : Pl} (h : Gone w rs p) : foF w rs p = .inr (2, plD p) := by
  obtain ⟨u0, h1, h2⟩ := h
  unfold foF
  rw [h1]
  cases plB p <;> (show (match wKs u0 (plK p) with | some u => Sum.inl u | none => .inr (2, plD p)) = Sum.inr (2, plD p); rw [h2])
theorem Over.fo {w : Wv} {rs : List Wv} {p : Pl} {n : Nat} (h : Over rs p n) : foF w rs p = .inr (3, .leaf (.int (n : Int))) := by
  have hn : wB w rs (some n) = none := List.getElem?_eq_none h.2
  unfold foF
  rw [h.1, hn]
theorem Over.item {rs : List Wv} {p : Pl} {n i : Nat} (h : Over rs p n) : Over rs (.item p i) n := h
theorem Over.field {rs : List Wv} {p : Pl} {n : Nat} {z : Str} (h : Over rs p n) : Over rs (.field p z) n := h
theorem an_inr {w : Wv} {rs : List Wv} {l : Lk} {e : Nat × D} (h : foF w rs (lkP l) = .inr e) : anF w rs l = .inr e := by
  unfold anF
  rw [h]
theorem an_kind {w u : Wv} {rs : List Wv} {p : Pl} {k : Ky} (h : wAt w rs p = some u) (n : ¬ kindS u = kyS k) : anF w rs (.has p k) = .inr (2, plD p) := by
  unfold anF
  rw [show foF w rs (lkP (.has p k)) = .inl u from foF_of h]
  exact if_neg n
/-- what a bad look is told as -/
def Owe (w0 : Wv) (rs : List Wv) (l : Lk) (as : List V) (e : Nat × D) : Prop := (1 ≤ e.1 ∧ e.1 ≤ 3) ∧ (anF w0 rs l = .inr e ∨ ∃ a, anF w0 rs l = .inl a ∧ e = (1, .leaf a) ∧ Leaf a ∧ a ∉ as ∧ ∀ b ∈ as, scal b a = true)
/-- an answer of a way -/
def AnV (a : V) : Prop := LfD a ∧ sz (.leaf a) ≤ 8
/-- the look's own data is small -/
def LkS (l : Lk) : Prop := plN (lkP l) ≤ 5 ∧ DOk 8 (lkD l) ∧ sz (lkD l) ≤ 200
def spNoLook : Sp := fun vs H Q _ => ∃ (p la fa : Addr) (M : Hp) (w0 : Wv) (rs : List Wv) (es : List V) (gs : List G3) (zs : List Str) (n : Nat), vs = [.ref p, .ref la, .ref fa, .int (rs.length : Int)] ∧ Ctx p la fa M w0 rs es gs zs ∧ Same M H ∧ Purse H p n ∧ n + 10 < 10 ^ 60 ∧
  ∀ (r ow aw : Addr) (lv u : V) (l : Lk) (as : List V) (e : Nat × D) H', Around1 H p (n + 10) H' → H r = none → H' r = some (.lst [lv, .ref ow, .ref aw]) → RW (gm p H M H') (lkD l) lv → (gm p H M H') ow = some (.lst [.str (Str.ofString (errW e.1)), u, .bl false]) → RW (gm p H M H') e.2 u → (gm p H M H') aw = some (.lst as) →
    LkS l → as.length ≤ 4 → (∀ a ∈ as, AnV a) → DOk 8 e.2 → sz e.2 ≤ 200 → Owe w0 rs l as e → Q (.ref r) H'
/-- a record has three fields at most, and six names are asked -/
theorem strange {ns : List Str} (h : ns.length ≤ 5) : (["q", "u", "v", "w", "x", "y"].map Str.ofString).filter (fun z => decide (z ∉ ns)) ≠ [] := fun e => by
  have sub : (["q", "u", "v", "w", "x", "y"].map Str.ofString) ⊆ ns := fun z hz => by
    by_cases c : z ∈ ns
    · exact c
    · have : z ∈ (["q", "u", "v", "w", "x", "y"].map Str.ofString).filter (fun z => decide (z ∉ ns)) := List.mem_filter.mpr ⟨hz, decide_eq_true c⟩
      rw [e] at this
      cases this
  have nd : (["q", "u", "v", "w", "x", "y"].map Str.ofString).Nodup := by decide +kernel
  have := List.Nodup.length_le_of_subset nd sub
  have h6 : (["q", "u", "v", "w", "x", "y"].map Str.ofString).length = 6 := rfl
  omega
end K02
set_option Elab.async false
set_option linter.all false
set_option maxRecDepth 100000
set_option maxHeartbeats 4000000
namespace K02
open PySem L2 PyProof.Rows
abbrev nNl : List Str := ["sack", "places", "names_here", "many", "way", "found", "answers", "others", "place", "thing", "key", "strange", "number", "look", "owed", "one", "name"]
abbrev nl (p la fa : Addr) (m : Nat) (v4 v5 v6 v7 v8 v9 v10 v11 v12 v13 v14 : Option V) : L2.St := [some (.ref p), some (.ref la), some (.ref fa), some (.int (m : Int)), v4, v5, v6, v7, v8, v9, v10, v11, v12, v13, v14, none, none]
theorem rw_tup3 {H : Hp} {t : Addr} {s : Str} {x k : V} {d : D} (ht : H t = some (.tup [.str s, x, k])) (hx : RW H d x) (hk : Leaf k) : RW H (.tup [.leaf (.str s), d, .leaf k]) (.ref t) :=
  ⟨t, _, rfl, ht, _, _, rfl, ⟨rfl, lf_str⟩, _, _, rfl, hx, _, [], rfl, ⟨rfl, hk⟩, rfl⟩
theorem rw_tup2 {H : Hp} {t : Addr} {s : Str} {x : V} {d : D} (ht : H t = some (.tup [.str s, x])) (hx : RW H d x) : RW H (.tup [.leaf (.str s), d]) (.ref t) :=
  ⟨t, _, rfl, ht, _, _, rfl, ⟨rfl, lf_str⟩, _, [], rfl, hx, rfl⟩
theorem wFd_none {z : Str} : ∀ {ns : List Str} {ws : List Wv}, ns.length = ws.length → (wFd ns ws z = none ↔ z ∉ ns)
  | [], ws, _ => ⟨fun _ h => (nomatch h), fun _ => by unfold wFd; rfl⟩
  | n :: ns, [], h => nomatch h
  | n :: ns, w :: ws, h => by
    have ih := wFd_none (z := z) (ns := ns) (ws := ws) (Nat.succ.inj h)
    unfold wFd
    by_cases c : n = z
    · rw [if_pos c]
      exact ⟨fun e => (nomatch e), fun e => absurd (by rw [c]; exact List.mem_cons_self) e⟩
    · rw [if_neg c, ih]
      exact ⟨fun a b => (List.mem_cons.mp b).elim (fun e => c e.symm) a, fun a b => a (List.mem_cons_of_mem _ b)⟩
theorem nm1 {z : Str} (h : (decide (z.length ≤ 17) && z.cps.toList.all fun c => decide (97 ≤ c) && decide (c ≤ 122)) = true) : nmOk z := by
  obtain ⟨a, b⟩ := Bool.and_eq_true_iff.mp h
  refine ⟨of_decide_eq_true a, fun c hc => ?_⟩
  obtain ⟨x, y⟩ := Bool.and_eq_true_iff.mp (List.all_eq_true.mp b c hc)
  exact ⟨of_decide_eq_true x, of_decide_eq_true y⟩
theorem lk_ok8 {l : Lk} (h : DOk 6 (plD (lkP l)) ∧ sz (plD (lkP l)) ≤ 134) (hk : LkOk l) : DOk 8 (lkD l) ∧ sz (lkD l) ≤ 200 := by
  have e1 : (Str.ofString "what").length = 4 := by decide +kernel
  have e2 : (Str.ofString "none").length = 4 := by decide +kernel
  have e3 : (Str.ofString "has").length = 3 := by decide +kernel
  have h7 : DOk 7 (plD (lkP l)) := h.1.up (by decide)
  cases l with
  | what q =>
    refine ⟨⟨by show 2 ≤ 500; decide, fun d hd => ?_⟩, ?_⟩
    · rcases List.mem_cons.mp hd with rfl | hd
      · exact dok_S (by decide +kernel)
      · rw [List.mem_singleton.mp hd]
        exact h7
    · show 1 + ((1 + (Str.ofString "what").length) + (sz (plD q) + 0)) ≤ 200
      have : sz (plD q) ≤ 134 := h.2
      omega
  | none q =>
    refine ⟨⟨by show 2 ≤ 500; decide, fun d hd => ?_⟩, ?_⟩
    · rcases List.mem_cons.mp hd with rfl | hd
      · exact dok_S (by decide +kernel)
      · rw [List.mem_singleton.mp hd]
        exact h7
    · show 1 + ((1 + (Str.ofString "none").length) + (sz (plD q) + 0)) ≤ 200
      have : sz (plD q) ≤ 134 := h.2
      omega
  | has q k =>
    have hl : LfD k.v := by
      cases k with
      | ix i => exact lf_nat (Nat.le_trans hk (by decide))
      | fd z => exact lf_name hk
    have hs : sz (.leaf k.v) ≤ 18 := by
      cases k with
      | ix i => exact (by decide : 1 ≤ 18)
      | fd z =>
        have := (show nmOk z from hk).1
        show 1 + z.length ≤ 18
        omega
    refine ⟨⟨by show 3 ≤ 500; decide, fun d hd => ?_⟩, ?_⟩
    · rcases List.mem_cons.mp hd with rfl | hd
      · exact dok_S (by decide +kernel)
      rcases List.mem_cons.mp hd with rfl | hd
      · exact h7
      · rw [List.mem_singleton.mp hd]
        exact dok_leaf hl
    · show 1 + ((1 + (Str.ofString "has").length) + (sz (plD q) + (sz (.leaf k.v) + 0))) ≤ 200
      have : sz (plD q) ≤ 134 := h.2
      omega
abbrev C6 : List Str := ["q", "u", "v", "w", "x", "y"].map Str.ofString
section
variable {P : Program} {w : World} {K : PySem.W.Frag} {mg : Str → Option Value} {base : Heap}
theorem scNl : FnScope nNl ["sack", "places", "names_here", "many"] (defScope sNoLook) := ⟨rfl, rfl, rfl, by decide +kernel, rfl, by decide +kernel, by decide +kernel⟩
theorem ok_nolook {f fC fL : Addr} {fd fdC fdL : FuncData} (F : Fun K "_law_no_look" "_law_no_look" sNoLook f fd) (T : Txt K mg) (zDict : mg "dict" = none) (FC : Fun K "_law_coin" "_law_coin" sCoin fC fdC) (bC : Binds K fdC ["purse", "many"] []) (mC : mg "_law_coin" = some (.ref fC))
    (FL : Fun K "_law_wk_look" "_law_wk_look" sWkLook fL fdL) (GL : FnOk P w K mg base CX0 2 fL fdL ["sack", "places", "fields"] spLook) (bL : Binds K fdL ["sack", "places", "fields"] []) (mL : mg "_law_wk_look" = some (.ref fL)) :
    FnOk P w K mg base CX0 3 f fd ["sack", "places", "names_here", "many"] spNoLook := by
  have GC : FnOk P w K mg base CX0 2 fC fdC ["purse", "many"] spCoin := (ok_coin FC T).mono (by decide)
  refine F.ok scNl (fun vs H Q E h => ?_) (fun cdv A outer s H vs Q E hr h => ?_)
  · obtain ⟨p, la, fa, M, w0, rs, es, gs, zs, n, rfl, _⟩ := h
    rfl
  obtain ⟨p, la, fa, M, w0, rs, es, gs, zs, n, rfl, C, hM, hp, hn, kk⟩ := h
  have hu1 : (A.deeper (envOfC "_law_no_look" (defScope sNoLook) s.heap.objs.size f cdv)).units + 1 < cLine := by
    have := hr.units
    omega
  refine ⟨_, Evl.pss_cut (ps_set (i := 4) scNl.nd rfl (Or.inl rfl) (pe_call GC hr rfl mC FC.kp bC .nil pass0 (pa_cons (pv 0) (pa_cons pe_int pa_nil))))
    (pss_cons (ps_if (pt_cmpR op_eq (pv 4) pe_int (nomark _))
      (Evl.pss_cut (ps_set (i := 5) scNl.nd rfl (Or.inr rfl) (pe_call GL hr rfl mL FL.kp bL .nil pass0 (pa_cons (pv 0) (pa_cons (pv 1) (pa_cons (pv 2) pa_nil)))))
      (Evl.pss_cut (ps_set (i := 6) scNl.nd rfl (Or.inl rfl) (pe_ifExp (pt_cmpR op_eq (pe_ix ix_tup (pe_ix ix_list (pv 5) pe_int (fun _ _ => rfl)) pe_int (fun _ _ => rfl)) pe_str (nomark _)) (pe_lst (pa_cons pe_str (pa_cons pe_str (pa_cons pe_str (pa_cons pe_str pa_nil))))) (pe_lst (pa_cons pe_bl (pa_cons pe_bl pa_nil)))))
      (Evl.pss_cut (ps_setLc (i := 7) (own := [("one", 15)]) (g := gName 15) (by rfl) scNl.nd rfl rfl (sw_true rfl rfl rfl (by decide +kernel)) (pi_list (pv 6)) (blkOk_by (N := nNl) (sc := defScope sNoLook) (by decide +kernel)) (fun _ _ _ _ _ => pg_name (i := 15) scNl.nd rfl (Or.inl rfl))
          (fun _ _ _ _ _ => pts_one (PW.pt (pw_and (pt_cmpR op_ne (pv 15) (pe_ix (show IxR _ (rIxL K) from ix_list) (pv 5) pe_int (fun _ _ => rfl)) (nomark _)) (pw_and1 (pt_cmpR op_gt (pe_call GC hr rfl mC FC.kp bC .nil pass0 (pa_cons (pv 0) (pa_cons pe_int pa_nil))) pe_int (nomark _)))))) (fun _ _ _ _ _ => pv 15))
      (pss_one (ps_ret (pe_lst (pa_cons (pe_ix ix_list (pv 5) pe_int (fun _ _ => rfl)) (pa_cons (pe_lst (pa_cons pe_str (pa_cons (pe_ix ix_list (pv 5) pe_int (fun _ _ => rfl)) (pa_cons pe_bl pa_nil)))) (pa_cons (pv 7) pa_nil)))))))))  pss_nil)
    (Evl.pss_cut (ps_asg (pe_ix ix_list (pv 1) (pe_call GC hr rfl mC FC.kp bC .nil pass0 (pa_cons (pv 0) (pa_cons (pe_callB call_len_seq (by rfl) T.len PySem.boot_len (pa_cons (pv 1) pa_nil)) pa_nil))) (fun _ _ => rfl)) (pg_tup rfl (pgs_cons (pg_name (i := 8) scNl.nd rfl (Or.inl rfl)) (pgs_cons (pg_name (i := 9) scNl.nd rfl (Or.inr rfl)) pgs_nil))))
    (pss_cons (ps_if (pt_cmpR op_eq (pv 4) pe_int (nomark _))
      (Evl.pss_cut (ps_set (i := 10) scNl.nd rfl (Or.inl rfl) (pe_ix ix_list (pv 2) pe_int (fun _ _ => rfl)))
      (Evl.pss_cut (ps_if (PW.pt (pw_or (pt_val (pe_callB call_isi (by rfl) T.isi boot_isinstance (pa_cons (pv 9) (pa_cons (pe_bltn (v := .ty "dict") (by rfl) zDict boot_dict rfl) pa_nil)))) (pw_or1 (PW.pt (pw_and (pt_not (pt_val (pe_callB call_isi (by rfl) T.isi boot_isinstance (pa_cons (pv 9) (pa_cons (pe_bltn (v := .ty "list") (by rfl) T.list boot_list rfl) pa_nil))))) (pw_and1 (pt_cmpR op_eq (pe_call GC hr rfl mC FC.kp bC .nil pass0 (pa_cons (pv 0) (pa_cons pe_int pa_nil))) pe_int (nomark _))))))))
        (pss_one (ps_set (i := 10) scNl.nd rfl (Or.inl rfl) (pe_call GC hr rfl mC FC.kp bC .nil pass0 (pa_cons (pv 0) (pa_cons pe_int pa_nil))))) pss_nil)
      (pss_one (ps_ret (pe_lst (pa_cons (pe_tup (pa_cons pe_str (pa_cons (pv 8) (pa_cons (pv 10) pa_nil)))) (pa_cons (pe_lst (pa_cons pe_str (pa_cons (pv 8) (pa_cons pe_bl pa_nil)))) (pa_cons (pe_lst (pa_cons pe_bl (pa_cons pe_bl pa_nil))) pa_nil)))))))) pss_nil)
    (Evl.pss_cut (ps_if (pt_cut (PW.pt (pw_and (pt_cmpR op_eq (pv 4) pe_int (nomark _)) (pw_and1 (pt_val (pe_callB call_isi (by rfl) T.isi boot_isinstance (pa_cons (pv 9) (pa_cons (pe_bltn (v := .ty "dict") (by rfl) zDict boot_dict rfl) pa_nil))))))))
        (Evl.pss_cut (ps_setLc (i := 11) (own := [("name", 16)]) (g := gName 16) (by rfl) scNl.nd rfl rfl (sw_true rfl rfl rfl (by decide +kernel)) (pi_list (pe_lst (pa_cons pe_str (pa_cons pe_str (pa_cons pe_str (pa_cons pe_str (pa_cons pe_str (pa_cons pe_str pa_nil)))))))) (blkOk_by (N := nNl) (sc := defScope sNoLook) (by decide +kernel)) (fun _ _ _ _ _ => pg_name (i := 16) scNl.nd rfl (Or.inl rfl))
            (fun _ _ _ _ _ => pts_one (pt_cmp (pc_dnotin hu1 (pv 16) (pv 9)))) (fun _ _ _ _ _ => pv 16))
        (pss_one (ps_set (i := 8) scNl.nd rfl (Or.inl rfl) (pe_tup (pa_cons pe_str (pa_cons (pv 8) (pa_cons (pe_ix ix_list (pv 11) pe_int (fun _ _ => rfl)) pa_nil)))))))
        (pss_one (ps_if (pt_cmpR op_eq (pv 4) pe_int (nomark _))
          (pss_one (ps_set (i := 8) scNl.nd rfl (Or.inl rfl) (pe_tup (pa_cons pe_str (pa_cons (pv 8) (pa_cons (pe_ifExp (pt_val (pe_callB call_isi (by rfl) T.isi boot_isinstance (pa_cons (pv 9) (pa_cons (pe_bltn (v := .ty "list") (by rfl) T.list boot_list rfl) pa_nil)))) (pe_op op_add (pe_callB call_len_seq (by rfl) T.len PySem.boot_len (pa_cons (pv 9) pa_nil)) (pe_call GC hr rfl mC FC.kp bC .nil pass0 (pa_cons (pv 0) (pa_cons pe_int pa_nil)))) (pe_call GC hr rfl mC FC.kp bC .nil pass0 (pa_cons (pv 0) (pa_cons pe_int pa_nil)))) pa_nil)))))) pss_nil)))
    (Evl.pss_cut (ps_set (i := 12) scNl.nd rfl (Or.inl rfl) (pe_op op_add (pv 3) (pe_call GC hr rfl mC FC.kp bC .nil pass0 (pa_cons (pv 0) (pa_cons pe_int pa_nil)))))
    (Evl.pss_cut (ps_if (pt_cmpR op_eq (pv 4) pe_int (nomark _)) (pss_one (ps_set (i := 8) scNl.nd rfl (Or.inl rfl) (pe_tup (pa_cons pe_str (pa_cons (pv 12) pa_nil))))) pss_nil)
    (Evl.pss_cut (ps_if (pt_cmpR op_eq (pe_call GC hr rfl mC FC.kp bC .nil pass0 (pa_cons (pv 0) (pa_cons pe_int pa_nil))) pe_int (nomark _))
        (pss_one (ps_set (i := 8) scNl.nd rfl (Or.inl rfl) (pe_ix ix_list (pe_lst (pa_cons (pe_tup (pa_cons pe_str (pa_cons (pv 8) (pa_cons (pe_call GC hr rfl mC FC.kp bC .nil pass0 (pa_cons (pv 0) (pa_cons pe_int pa_nil))) pa_nil)))) (pa_cons (pe_tup (pa_cons pe_str (pa_cons (pv 8) (pa_cons (pe_ix ix_list (pv 2) (pe_un un_neg pe_int) (fun _ _ => rfl)) pa_nil)))) pa_nil))) (pe_call GC hr rfl mC FC.kp bC .nil pass0 (pa_cons (pv 0) (pa_cons pe_int pa_nil))) (fun _ _ => rfl)))) pss_nil)
    (Evl.pss_cut (ps_if (pt_cut (PW.pt (pw_or (PW.pt (pw_and (pt_cmpR op_eq (pv 4) pe_int (nomark _)) (pw_and1 (pt_cmpR op_eq (pe_call GC hr rfl mC FC.kp bC .nil pass0 (pa_cons (pv 0) (pa_cons pe_int pa_nil))) pe_int (nomark _))))) (pw_or1 (pt_cmpR op_eq (pv 4) pe_int (nomark _))))))
        (pss_one (ps_set (i := 13) scNl.nd rfl (Or.inl rfl) (pe_ix ix_list (pe_lst (pa_cons (pe_tup (pa_cons pe_str (pa_cons (pv 8) pa_nil))) (pa_cons (pe_tup (pa_cons pe_str (pa_cons (pv 8) pa_nil))) (pa_cons (pe_tup (pa_cons pe_str (pa_cons (pv 8) (pa_cons pe_int pa_nil)))) (pa_cons (pe_tup (pa_cons pe_str (pa_cons (pv 8) (pa_cons pe_str pa_nil)))) pa_nil))))) (pe_call GC hr rfl mC FC.kp bC .nil pass0 (pa_cons (pv 0) (pa_cons pe_int pa_nil))) (fun _ _ => rfl))))
        (pss_one (ps_set (i := 13) scNl.nd rfl (Or.inl rfl) (pe_tup (pa_cons pe_str (pa_cons (pv 8) pa_nil))))))
    (Evl.pss_cut (ps_set (i := 14) scNl.nd rfl (Or.inl rfl) (pe_ifExp (pt_cmpR op_eq (pv 4) pe_int (nomark _)) (pe_lst (pa_cons pe_str (pa_cons (pv 12) (pa_cons pe_bl pa_nil)))) (pe_lst (pa_cons pe_str (pa_cons (pv 8) (pa_cons pe_bl pa_nil))))))
    (pss_one (ps_ret (pe_lst (pa_cons (pv 13) (pa_cons (pv 14) (pa_cons (pe_ifExp (pt_cmpR op_eq (pe_ix ix_tup (pv 13) pe_int (fun _ _ => rfl)) pe_str (nomark _)) (pe_lst (pa_cons pe_str (pa_cons pe_str (pa_cons pe_str (pa_cons pe_str pa_nil))))) (pe_lst (pa_cons pe_bl (pa_cons pe_bl pa_nil)))) pa_nil))))))))))))))), ?_⟩
  -- way
  refine ⟨fun σ' H' => Around1 H p (n + 1) H' ∧ ∃ way : Int, 0 ≤ way ∧ way < 4 ∧ σ' = nl p la fa rs.length (some (.int way)) none none none none none none none none none none, ?_, ?_⟩
  · refine ⟨_, rfl, p, 4, n, rfl, hp, by omega, by decide, by decide, fun c H1 c0 c1 hb hp1 => ⟨⟨hb, hp1⟩, c, c0, c1, rfl⟩⟩
  rintro _ H1 ⟨hA1, way, hw0, hw4, rfl⟩
  have hM1 := same_but hM hA1.1 C.mp
  refine ⟨_, rfl, rfl, _, rfl, ite2 (fun cw => ?_) (fun cw => ?_)⟩
  · -- a look that has no way
    refine ⟨fun σ' H' => Around1 H p (n + 4) H' ∧ ∃ (ro a : Addr) (l : Lk) (u : Wv) (M1 : Hp), Prt p H M M1 H' ∧ H ro = none ∧ H' ro = some (.lst [.ref a, ansW u l]) ∧ RW M1 (lkD l) (.ref a) ∧ wAt w0 rs (lkP l) = some u ∧ okLk u l ∧ plN (lkP l) ≤ 3 ∧ LkOk l ∧ σ' = nl p la fa rs.length (some (.int way)) (some (.ref ro)) none none none none none none none none none, ?_, ?_⟩
    · refine ⟨_, rfl, _, rfl, _, rfl, p, la, fa, M, w0, rs, es, gs, zs, n + 1, rfl, C, hM1, hA1.2, by omega, fun ro a l u H2 hA2 hro0 hro hl hat hok hpl hlk => ?_⟩
      exact ⟨(hA1.trans hA2).mono (by omega), ro, a, l, u, gm p H1 M H2, ⟨gm_p, gm_le, gm_call (hA1.dom hp) fun b o _ e => gm_le b o e, gm_up C.mp (same_but hM1 hA2.1 C.mp)⟩, hA1.free hp hro0, hro, hl, hat, hok, hpl, hlk, rfl⟩
    rintro _ H2 ⟨hA2, ro, a, l, u, M1, hP2, hro0, hro2, hl, hat, hok, hpl, hlk, rfl⟩
    have hrop := hp.ne hro0
    have hlD := lk_ok (pc_pl C.w0k C.rl C.rk hat hpl) hlk
    obtain ⟨a0, x0, ea, ha2, _⟩ := lk_rw (hl.same hP2.le)
    cases ea
    have ro0 : atI [V.ref a, ansW u l] 0 = some (.ref a) := atI_nat (j := 0) rfl
    have ro1 : atI [V.ref a, ansW u l] 1 = some (ansW u l) := atI_nat (j := 1) rfl
    refine ⟨fun σ' H' => Same H2 H' ∧ ∃ (aa : Addr) (As : List V), H2 aa = none ∧ H' aa = some (.lst As) ∧ AsOk (ansW u l) As ∧ σ' = nl p la fa rs.length (some (.int way)) (some (.ref ro)) (some (.ref aa)) none none none none none none none none, ?_, ?_⟩
    · refine ⟨_, rfl, ro, _, 0, _, rfl, rfl, SqL.of hro2, ro0, a, _, 0, _, rfl, rfl, SqT.of ha2, atI_nat (j := 0) rfl, rfl, _, rfl, ?_⟩
      cases l with
      | what q =>
        refine ifT (decide_eq_true rfl) ⟨by show 4 ≤ sizeLine; decide, fun aa haa => ⟨same_new haa _, aa, _, haa, upd_same, ?_, rfl⟩⟩
        exact as_what u q
      | none q =>
        refine ifF (decide_eq_false (by show ¬ V.str (Str.ofString "none") = V.str (Str.ofString "what"); decide)) ⟨by show 2 ≤ sizeLine; decide, fun aa haa => ⟨same_new haa _, aa, _, haa, upd_same, as_bool _, rfl⟩⟩
      | has q k =>
        refine ifF (decide_eq_false (by show ¬ V.str (Str.ofString "has") = V.str (Str.ofString "what"); decide)) ⟨by show 2 ≤ sizeLine; decide, fun aa haa => ⟨same_new haa _, aa, _, haa, upd_same, as_bool _, rfl⟩⟩
    rintro _ H3 ⟨hs3, aa, As, haa0, haa, hAs, rfl⟩
    have hA3 := hA2.same hs3
    have haap := hA2.2.ne haa0
    have h4 := hAs.four
    have hro3 := hs3 _ _ hro2
    -- the others
    refine ⟨fun σ' H' => Around1 H3 p (n + 8) H' ∧ ∃ (oa : Addr) (bs : List V), H3 oa = none ∧ H' oa = some (.lst bs) ∧ bs.length ≤ 4 ∧ (∀ b ∈ bs, b ∈ As ∧ b ≠ ansW u l) ∧ σ' = nl p la fa rs.length (some (.int way)) (some (.ref ro)) (some (.ref aa)) (some (.ref oa)) none none none none none none none, ?_, ?_⟩
    · refine ⟨_, rfl, aa, rfl, ⟨_, SqL.of haa⟩, fun D hD => ?_⟩
      have hDp := hA3.2.ne hD
      refine lc_list (K := K) (a := aa) (xs := As) (fun i H' => ∃ bs : List V, Around1 H3 p (n + 4 + i) H' ∧ H' D = some (.lst bs) ∧ bs.length ≤ i ∧ ∀ b ∈ bs, b ∈ As ∧ b ≠ ansW u l)
        ⟨[], ⟨.of (same_new hD _), hA3.2.same (same_new hD _)⟩, upd_same, Nat.le_refl _, fun _ h => nomatch h⟩ (fun i H' _ ⟨_, h, _⟩ => SqL.of (h.1 _ _ haap haa)) ?_ ?_
      · rintro i x H4 hi ⟨bs, hA4, hD4, hbl, hbs⟩
        have hxm := List.mem_of_getElem? hi
        have hil := (List.getElem?_eq_some_iff.mp hi).1
        have hro4 := hA4.1 _ _ hrop hro3
        refine ⟨rfl, ?_⟩
        refine ⟨_, rfl, _, rfl, ro, _, 1, _, rfl, rfl, SqL.of hro4, ro1, ?_⟩
        have hsc : scal x (ansW u l) = true := by
          rcases hAs.kind x hxm with ⟨⟨_, rfl⟩, _, e⟩ | ⟨⟨_, rfl⟩, _, e⟩ <;> (rw [e]; rfl)
        refine ⟨hsc, _, rfl, ?_⟩
        by_cases c : x = ansW u l
        · refine ifF (by rw [decide_eq_true c]; rfl) ?_
          exact iteF ⟨bs, hA4.mono (by omega), hD4, by omega, hbs⟩
        · refine ifT (by rw [decide_eq_false c]; rfl) ?_
          refine ⟨_, rfl, p, 3, n + 4 + i, rfl, hA4.2, by omega, by decide, by decide, fun c' H5 c0 c1 hb5 hp5 => ?_⟩
          have hA5 := hA4.draw hb5 hp5
          have hD5 := hb5 _ _ hDp hD4
          refine ⟨_, _, rfl, rfl, _, rfl, ?_⟩
          refine ite2 (fun _ => ?_) (fun _ => ⟨bs, hA5.mono (by omega), hD5, by omega, hbs⟩)
          refine ⟨_, rfl, _, hD5, Nat.lt_of_lt_of_le (show bs.length < 1000 by omega) (by decide), bs ++ [x], (hA5.put hD hDp).mono (by omega), upd_same, by rw [List.length_append]; show bs.length + 1 ≤ i + 1; omega, fun b hb => ?_⟩
          rcases List.mem_append.mp hb with hb | hb
          · exact hbs b hb
          · rw [List.mem_singleton.mp hb]
            exact ⟨hxm, c⟩
      · rintro H4 ⟨bs, hA4, hD4, hbl, hbs⟩
        exact ⟨hA4.mono (by omega), D, bs, hD, hD4, by omega, hbs, rfl⟩
    rintro _ H4 ⟨hA4, oa, bs, hoa0, hoa4, hbl, hbs, rfl⟩
    have hA4' := hA3.trans hA4
    have hro4 := hA4.1 _ _ hrop hro3
    refine ⟨_, rfl, ro, _, 0, _, rfl, rfl, SqL.of hro4, ro0, _, rfl, ro, _, 1, _, rfl, rfl, SqL.of hro4, ro1, by show 3 ≤ sizeLine; decide, fun ow how => ?_⟩
    have s5 := same_new how (.lst [V.str (Str.ofString "answer"), ansW u l, V.bl false])
    refine ⟨_, rfl, by show 3 ≤ sizeLine; decide, fun r hr => ?_⟩
    have s6 := same_new hr (.lst [V.ref a, V.ref ow, V.ref oa])
    have hA5 := (hA4'.same s5).same s6
    have hlf := hAs.lf _ hAs.mem
    refine kk r ow oa (.ref a) (ansW u l) l bs (1, .leaf (ansW u l)) _ (hA5.mono (by omega)) ((hA4'.same s5).free hp hr) upd_same (hl.same ?_) (gm_new ?_ ?_ (s6 _ _ upd_same)) ⟨rfl, hlf.1.leaf⟩ (gm_new ?_ ?_ (s6 _ _ (s5 _ _ hoa4))) ⟨by omega, hlD.1.up (by decide), by omega⟩ hbl (fun b hb => hAs.lf b (hbs b hb).1) (dok_leaf hlf.1) (Nat.le_trans hlf.2 (by decide)) ⟨⟨Nat.le_refl 1, by show 1 ≤ 3; decide⟩, .inr ⟨_, anF_of hat hok, rfl, hlf.1.leaf, fun z => (hbs _ z).2 rfl, fun b hb => ?_⟩⟩
    · exact (hP2.step (H3 := upd (upd H4 ow (.lst [V.str (Str.ofString "answer"), ansW u l, V.bl false])) r (.lst [V.ref a, V.ref ow, V.ref oa])) fun b o e => s6 _ _ (s5 _ _ (hA4.1 _ _ (fun z => by rw [z, hP2.mp] at e; cases e) (hs3 _ _ (hP2.le _ _ e))))).of
    · exact hA4'.2.ne how
    · exact hA4'.free hp how
    · exact hA3.2.ne hoa0
    · exact hA3.free hp hoa0
    · rcases hAs.kind b (hbs b hb).1 with ⟨⟨_, rfl⟩, _, e⟩ | ⟨⟨_, rfl⟩, _, e⟩ <;> (rw [e]; rfl)
  have nw0 : way ≠ 0 := fun e => cw (by rw [e]; exact decide_eq_true rfl)
  have fin : ∀ (Hq : Hp) (ow aw r : Addr) (lv u : V) (l : Lk) (e : Nat × D) (as : List V), Around1 H p (n + 10) Hq → Hq r = none → RW (gm p H M Hq) (lkD l) lv → Hq ow = some (.lst [.str (Str.ofString (errW e.1)), u, .bl false]) → H ow = none → RW (gm p H M Hq) e.2 u → Hq aw = some (.lst as) → H aw = none →
      LkS l → as.length ≤ 4 → (∀ a ∈ as, AnV a) → DOk 8 e.2 → sz e.2 ≤ 200 → Owe w0 rs l as e → Q (.ref r) (upd Hq r (.lst [lv, .ref ow, .ref aw])) := fun Hq ow aw r lv u l e as hA hr h1 how how0 h2 haw haw0 k1 k2 k3 k4 k5 k6 => by
    have sr := same_new hr (.lst [lv, .ref ow, .ref aw])
    have g : Same (gm p H M Hq) (gm p H M (upd Hq r (.lst [lv, .ref ow, .ref aw]))) := gm_next fun b o _ e => sr b o e
    exact kk r ow aw lv u l as e _ (hA.same sr) (hA.free hp hr) upd_same (h1.same g) (gm_new (hp.ne how0) how0 (sr _ _ how)) (h2.same g) (gm_new (hp.ne haw0) haw0 (sr _ _ haw)) k1 k2 k3 k4 k5 k6
  have hbl : ∀ b, AnV (.bl b) := fun b => ⟨.inr (.inl ⟨_, rfl⟩), by show 1 ≤ 8; decide⟩
  have hbls : ∀ a ∈ [V.bl true, V.bl false], AnV a := fun a ha => by
    rcases List.mem_cons.mp ha with rfl | ha
    · exact hbl _
    · rw [List.mem_singleton.mp ha]
      exact hbl _
  -- place, thing
  refine ⟨fun σ' H' => Around1 H p (n + 2) H' ∧ ∃ (x y : V) (pl : Pl) (wv : Wv) (d : Nat), RW M (plD pl) x ∧ RV M wv y ∧ wAt w0 rs pl = some wv ∧ WOk d wv ∧ plN pl + d ≤ 3 ∧ σ' = nl p la fa rs.length (some (.int way)) none none none (some x) (some y) none none none none none, ?_, ?_⟩
  · refine ⟨_, rfl, _, rfl, _, rfl, la, es, rfl, .inl (SqL.of (hM1 _ _ C.la)), p, _, n + 1, rfl, hA1.2, by omega, by have := C.e1; omega, by have := C.e60; omega, fun c H2 c0 c1 hb hp1 => ?_⟩
    obtain ⟨i, rfl⟩ : ∃ i : Nat, c = (i : Int) := ⟨c.toNat, by omega⟩
    have hi : i < es.length := by omega
    obtain ⟨⟨pl, wv, d⟩, hg, a, x, y, ee, ha, hx, hy, hat, hwo, hpd⟩ := paired_at C.en (List.getElem?_eq_getElem hi)
    have hM2 : Same M H2 := same_but hM1 hb C.mp
    refine ⟨la, es, _, es[i], rfl, rfl, SqL.of (hM2 _ _ C.la), atI_nat (List.getElem?_eq_getElem hi), a, _, ee, SqT.of (hM2 _ _ ha), rfl, _, _, rfl, _, _, rfl, rfl, ?_⟩
    exact ⟨hA1.draw hb hp1, x, y, pl, wv, d, hx, hy, hat, hwo, hpd, rfl⟩
  rintro _ H2 ⟨hA2, x, y, pl, wv, d, hx, hy, hat, hwo, hpd, rfl⟩
  have hM2 := same_but hM hA2.1 C.mp
  have hyH := hy.same hM2
  obtain ⟨sT, hty, k1, k2⟩ := hyH.ty (K := K)
  have hpc := pc_pl C.w0k C.rl C.rk hat (by omega)
  have hplo := (plok_of C.w0k C.rl C.rk hat).2
  have hz1 := C.z1
  have hz4 := C.z4
  refine ⟨_, rfl, rfl, _, rfl, ite2 (fun cw1 => ?_) (fun cw1 => ?_)⟩
  · -- has with a key of the other kind
    refine ⟨fun σ' H' => H' = H2 ∧ ∃ z : Str, nmOk z ∧ σ' = nl p la fa rs.length (some (.int way)) none none none (some x) (some y) (some (.str z)) none none none none, ?_, ?_⟩
    · have h0 : 0 < zs.length := by omega
      exact ⟨_, rfl, fa, _, 0, .str zs[0], rfl, rfl, SqL.of (hM2 _ _ C.fa), atI_nat (j := 0) (by rw [List.getElem?_map, List.getElem?_eq_getElem h0]; rfl), rfl, zs[0], C.zl _ (List.getElem_mem h0), rfl⟩
    rintro _ H2 ⟨rfl, z, hz, rfl⟩
    refine ⟨fun σ' H' => Around1 H p (n + 4) H' ∧ ∃ k : Ky, ¬ kindS wv = kyS k ∧ KyOk k ∧ σ' = nl p la fa rs.length (some (.int way)) none none none (some x) (some y) (some k.v) none none none none, ?_, ?_⟩
    · have hix : ∀ {m : Nat} {H3 H4 : Hp} {c : Int}, Around1 H p m H3 → m ≤ n + 3 → 0 ≤ c → c < 3 → But p H3 H4 → Purse H4 p (m + 1) → (¬ kindS wv = "row") → Around1 H p (n + 4) H4 ∧ ∃ k : Ky, ¬ kindS wv = kyS k ∧ KyOk k ∧ nl p la fa rs.length (some (.int way)) none none none (some x) (some y) (some (.int c)) none none none none = nl p la fa rs.length (some (.int way)) none none none (some x) (some y) (some k.v) none none none none := fun {m H3 H4 c} hA3 hm c0 c1 hb hp4 hk => by
        obtain ⟨i, rfl⟩ : ∃ i : Nat, c = (i : Int) := ⟨c.toNat, by omega⟩
        exact ⟨(hA3.draw hb hp4).mono (by omega), .ix i, hk, by show i ≤ 1000; omega, rfl⟩
      have keep : ∀ {m : Nat} {H3 : Hp}, Around1 H p m H3 → m ≤ n + 4 → (¬ kindS wv = "record") → Around1 H p (n + 4) H3 ∧ ∃ k : Ky, ¬ kindS wv = kyS k ∧ KyOk k ∧ nl p la fa rs.length (some (.int way)) none none none (some x) (some y) (some (.str z)) none none none none = nl p la fa rs.length (some (.int way)) none none none (some x) (some y) (some k.v) none none none none := fun {m H3} hA3 hm hk => ⟨hA3.mono hm, .fd z, hk, hz, rfl⟩
      refine ⟨_, rfl, _, _, _, _, _, rfl, .ty _, hty, kit_ty k2, _, rfl, ?_⟩
      cases wv with
      | rcd ns ws => exact iteT (iteT ⟨_, rfl, p, 3, n + 2, rfl, hA2.2, by omega, by decide, by decide, fun c H3 c0 c1 hb hp3 => hix hA2 (by omega) c0 c1 hb hp3 (show ¬ ("record" : String) = "row" by decide)⟩)
      | row ws => exact iteF ⟨_, rfl, _, _, _, _, _, rfl, .ty _, hty, kit_ty k1, _, rfl, iteF (iteF (keep hA2 (by omega) (show ¬ ("row" : String) = "record" by decide)))⟩
      | non =>
        refine iteF ⟨_, rfl, _, _, _, _, _, rfl, .ty _, hty, kit_ty k1, _, rfl, iteT ⟨_, rfl, p, 2, n + 2, rfl, hA2.2, by omega, by decide, by decide, fun c H3 c0 c1 hb hp3 => ⟨rfl, _, rfl, ite2 (fun _ => ?_) (fun _ => keep (hA2.draw hb hp3) (by omega) (by decide))⟩⟩⟩
        exact ⟨_, rfl, p, 3, n + 3, rfl, hp3, by omega, by decide, by decide, fun c H4 c0 c1 hb4 hp4 => hix (hA2.draw hb hp3) (by omega) c0 c1 hb4 hp4 (by decide)⟩
      | int i =>
        refine iteF ⟨_, rfl, _, _, _, _, _, rfl, .ty _, hty, kit_ty k1, _, rfl, iteT ⟨_, rfl, p, 2, n + 2, rfl, hA2.2, by omega, by decide, by decide, fun c H3 c0 c1 hb hp3 => ⟨rfl, _, rfl, ite2 (fun _ => ?_) (fun _ => keep (hA2.draw hb hp3) (by omega) (show ¬ ("integer" : String) = "record" by decide))⟩⟩⟩
        exact ⟨_, rfl, p, 3, n + 3, rfl, hp3, by omega, by decide, by decide, fun c H4 c0 c1 hb4 hp4 => hix (hA2.draw hb hp3) (by omega) c0 c1 hb4 hp4 (show ¬ ("integer" : String) = "row" by decide)⟩
    rintro _ H3 ⟨hA3, k, hk, hko, rfl⟩
    have hM3 := same_but hM hA3.1 C.mp
    refine ⟨_, rfl, _, rfl, by show 3 ≤ sizeLine; decide, fun q hq => ⟨_, rfl, by show 3 ≤ sizeLine; decide, fun ow how => ⟨by show 2 ≤ sizeLine; decide, fun aw haw => ⟨by show 3 ≤ sizeLine; decide, fun r hr => ?_⟩⟩⟩⟩
    have sq := same_new hq (.tup [V.str (Str.ofString "has"), x, k.v])
    have sow := same_new how (.lst [V.str (Str.ofString "place"), x, V.bl false])
    have saw := same_new haw (.lst [V.bl true, V.bl false])
    have hA4 := hA3.same sq
    have hA5 := hA4.same sow
    have hA6 := hA5.same saw
    have hxg := hx.same (gm_up (p := p) (H := H) C.mp (same_but hM hA6.1 C.mp))
    have hlk := lk_ok (l := .has pl k) hpc hko
    exact fin _ ow aw r (.ref q) x (.has pl k) (2, plD pl) [.bl true, .bl false] (hA6.mono (by omega)) hr (rw_tup3 (gm_new (hA3.2.ne hq) (hA3.free hp hq) (saw _ _ (sow _ _ upd_same))) hxg (ky_leaf k)) (saw _ _ upd_same) (hA4.free hp how) hxg upd_same (hA5.free hp haw)
      ⟨by show plN pl ≤ 5; omega, hlk.1.up (by decide), by omega⟩ (by decide) hbls (hpc.1.up (by decide)) (Nat.le_trans hpc.2 (by decide)) ⟨⟨by show 1 ≤ 2; decide, by show 2 ≤ 3; decide⟩, .inl (an_kind hat hk)⟩
  have nw1 : way ≠ 1 := fun e => cw1 (by rw [e]; exact decide_eq_true rfl)
  have w23 : way = 2 ∨ way = 3 := by omega
  -- a place where nothing is
  refine ⟨fun σ' H' => Around1 H p (n + 3) H' ∧ ∃ (pl' : Pl) (x' : V) (v11 : Option V), RW (gm p H M H') (plD pl') x' ∧ PlOk pl' ∧ plN pl' ≤ 4 ∧ (way = 2 → Gone w0 rs pl') ∧ σ' = nl p la fa rs.length (some (.int way)) none none none (some x') (some y) none v11 none none none, ?_, ?_⟩
  · refine ⟨fun b H' => H' = H2 ∧ (b = true → way = 2 ∧ wv.isD = true) ∧ (b = false → way = 2 → wv.isD = false), ?_, ?_⟩
    · refine ⟨_, rfl, rfl, _, rfl, ?_⟩
      refine ite2 (fun c2 => ⟨_, rfl, _, _, _, _, _, rfl, .ty _, hty, kit_ty k2, _, rfl, rfl, fun z => ⟨V.int.inj (of_decide_eq_true c2), z⟩, fun z _ => z⟩) (fun c2 => ⟨rfl, (fun z => nomatch z), fun _ z => absurd (by rw [z]; exact decide_eq_true rfl) c2⟩)
    rintro b H2 ⟨rfl, hb1, hb2⟩
    cases b with
    | true =>
      obtain ⟨e2, hD⟩ := hb1 rfl
      cases wv with
      | non => exact nomatch hD
      | int i => exact nomatch hD
      | row ws => exact nomatch hD
      | rcd ns ws =>
        have hnw : ns.length = ws.length ∧ ns.length ≤ 5 := by
          obtain ⟨d', rfl⟩ := hwo.down (.inr rfl)
          have := hwo.1
          have := hwo.2.1
          omega
        obtain ⟨db, ys, rfl, hdb, hdl, hys⟩ := hyH
        refine ⟨fun σ' H' => Same H2 H' ∧ ∃ (sa : Addr) (zz : List Str), H' sa = some (.lst (zz.map V.str)) ∧ zz = C6.filter (fun z => decide (z ∉ ns)) ∧ σ' = nl p la fa rs.length (some (.int way)) none none none (some x) (some (.ref db)) none (some (.ref sa)) none none none, ?_, ?_⟩
        · refine ⟨by show 6 ≤ sizeLine; decide, fun sl hsl => ⟨sl, rfl, ⟨_, SqL.of upd_same⟩, fun D hD0 => ?_⟩⟩
          have s1 := same_new hsl (.lst (C6.map V.str))
          have esl : (upd H2 sl (.lst (C6.map V.str))) sl = some (.lst (C6.map V.str)) := upd_same
          have hD1 : (upd H2 sl (.lst (C6.map V.str))) D = none := hD0
          show ∃ W : Nat → Nat → Hp → Prop, (∃ m, W 0 m (upd (upd H2 sl (.lst (C6.map V.str))) D (.lst []))) ∧ _
          refine lc_list (K := K) (a := sl) (xs := C6.map V.str) (fun i H' => Same (upd H2 sl (.lst (C6.map V.str))) H' ∧ H' D = some (.lst (((C6.take i).filter (fun z => decide (z ∉ ns))).map V.str))) ⟨same_new hD1 _, upd_same⟩ (fun i H' _ h => SqL.of (h.1 _ _ esl)) ?_ ?_
          · rintro i v H3 hi ⟨hs3, hD3⟩
            rw [List.getElem?_map] at hi
            obtain ⟨z, hz, rfl⟩ := Option.map_eq_some_iff.mp hi
            have hkz := kz_val (ns := ns) (z := z) (hys.same (s1.trans hs3))
            have hdb3 := hs3 _ _ (s1 _ _ hdb)
            refine ⟨rfl, ?_⟩
            refine ⟨_, rfl, _, rfl, db, _, rfl, DGet.k (k := Sum.inr z) hdb3, ?_⟩
            have tk : (C6.take (i + 1)).filter (fun z => decide (z ∉ ns)) = (C6.take i).filter (fun z => decide (z ∉ ns)) ++ [z].filter (fun z => decide (z ∉ ns)) := by
              rw [List.take_add_one, hz, List.filter_append]
              rfl
            by_cases c : z ∉ ns
            · rw [hkz.2 ((wFd_none hnw.1).mpr c) hnw.1]
              rw [List.filter_cons_of_pos (by rw [decide_eq_true c])] at tk
              refine ⟨_, rfl, iteT ⟨_, rfl, _, hD3, ?_, same_put hs3 hD1, ?_⟩⟩
              · rw [List.length_map]
                refine Nat.lt_of_le_of_lt (List.length_filter_le _ _) ?_
                rw [List.length_take]
                exact Nat.lt_of_le_of_lt (show _ ≤ 6 from Nat.min_le_right _ _) (by decide)
              · rw [upd_same, tk, List.map_append]
                rfl
            · cases q : wFd ns ws z with
              | none => exact absurd ((wFd_none hnw.1).mp q) c
              | some u =>
                obtain ⟨xv, e1, _⟩ := hkz.1 u q
                rw [e1]
                rw [List.filter_cons_of_neg (by rw [decide_eq_false c]; exact Bool.false_ne_true)] at tk
                refine ⟨_, rfl, iteF ⟨hs3, ?_⟩⟩
                rw [tk, List.filter_nil, List.append_nil]
                exact hD3
          · rintro H3 ⟨hs3, hD3⟩
            exact ⟨s1.trans hs3, D, _, hD3, by rw [show (C6.map V.str).length = 6 from rfl, show C6.take 6 = C6 from rfl], rfl⟩
        rintro _ H3 ⟨hs3, sa, zz, hsa, ezz, rfl⟩
        have hA3 := hA2.same hs3
        have hne := strange (ns := ns) hnw.2
        rw [← ezz] at hne
        cases zz with
        | nil => exact absurd rfl hne
        | cons z zz =>
        have hzm : z ∈ C6.filter (fun z => decide (z ∉ ns)) := by
          rw [← ezz]
          exact List.mem_cons_self
        obtain ⟨hz6, hzn⟩ := List.mem_filter.mp hzm
        have hzo : nmOk z := (show ∀ z ∈ C6, nmOk z from by
          intro z hz
          rcases List.mem_cons.mp hz with rfl | hz
          · exact nm1 (by decide +kernel)
          rcases List.mem_cons.mp hz with rfl | hz
          · exact nm1 (by decide +kernel)
          rcases List.mem_cons.mp hz with rfl | hz
          · exact nm1 (by decide +kernel)
          rcases List.mem_cons.mp hz with rfl | hz
          · exact nm1 (by decide +kernel)
          rcases List.mem_cons.mp hz with rfl | hz
          · exact nm1 (by decide +kernel)
          rw [List.mem_singleton.mp hz]
          exact nm1 (by decide +kernel)) z hz6
        refine ⟨_, rfl, _, rfl, sa, _, 0, .str z, rfl, rfl, SqL.of hsa, atI_nat (j := 0) rfl, by show 3 ≤ sizeLine; decide, fun t ht => ?_⟩
        have hA4 := hA3.new (o := .tup [.str (Str.ofString "field"), x, .str z]) ht
        exact ⟨hA4.mono (by omega), .field pl z, _, _, rw_tup3 (gm_new (hA3.2.ne ht) (hA3.free hp ht) upd_same) (hx.same (gm_up C.mp (same_but hM hA4.1 C.mp))) lf_str, ⟨hzo, hplo⟩, by show plN pl + 1 ≤ 4; omega, fun _ => gone_field hat ((wFd_none hnw.1).mpr (of_decide_eq_true hzn)), rfl⟩
    | false =>
      refine ⟨_, rfl, rfl, _, rfl, ite2 (fun c2 => ?_) (fun c2 => ?_)⟩
      · have e2 : way = 2 := V.int.inj (of_decide_eq_true c2)
        have hnD := hb2 rfl e2
        have put : ∀ {m : Nat} {H3 : Hp} {i : Nat}, Around1 H p m H3 → m ≤ n + 3 → i ≤ 1000 → wIn wv (.ix i) = none → ∀ t, H3 t = none → Around1 H p (n + 3) (upd H3 t (.tup [.str (Str.ofString "item"), x, .int (i : Int)])) ∧ ∃ (pl' : Pl) (x' : V) (v11 : Option V), RW (gm p H M (upd H3 t (.tup [.str (Str.ofString "item"), x, .int (i : Int)]))) (plD pl') x' ∧ PlOk pl' ∧ plN pl' ≤ 4 ∧ (way = 2 → Gone w0 rs pl') ∧ nl p la fa rs.length (some (.int way)) none none none (some (.ref t)) (some y) none none none none none = nl p la fa rs.length (some (.int way)) none none none (some x') (some y) none v11 none none none := fun {m H3 i} hA3 hm hi hw t ht => by
          have hA4 := hA3.new (o := .tup [.str (Str.ofString "item"), x, .int (i : Int)]) ht
          exact ⟨hA4.mono hm, .item pl i, _, _, rw_tup3 (gm_new (hA3.2.ne ht) (hA3.free hp ht) upd_same) (hx.same (gm_up C.mp (same_but hM hA4.1 C.mp))) lf_int', ⟨hi, hplo⟩, by show plN pl + 1 ≤ 4; omega, fun _ => gone_item hat hw, rfl⟩
        cases wv with
        | rcd ns ws => exact nomatch hnD
        | row ws =>
          obtain ⟨b, ys, rfl, hby, hys⟩ := id hyH
          have hyl := hys.len
          have hw3 : ws.length ≤ 3 := by
            obtain ⟨d', rfl⟩ := hwo.down (.inl rfl)
            exact hwo.1
          refine ⟨_, rfl, _, rfl, _, _, _, _, _, rfl, .ty _, hty, kit_ty k1, _, rfl, iteT ?_⟩
          refine ⟨_, rfl, b, ys, rfl, .inl (SqL.of hby), _, rfl, p, 3, n + 2, rfl, hA2.2, by omega, by decide, by decide, fun c H3 c0 c1 hb3 hp3 => ?_⟩
          obtain ⟨i, rfl⟩ : ∃ i : Nat, c = (i : Int) := ⟨c.toNat, by omega⟩
          refine ⟨_, _, rfl, rfl, by show 3 ≤ sizeLine; decide, fun t ht => ?_⟩
          have ei : ((ys.length : Nat) : Int) + (i : Int) = ((ws.length + i : Nat) : Int) := by omega
          have z := put (i := ws.length + i) (hA2.draw hb3 hp3) (Nat.le_refl _) (by omega) (List.getElem?_eq_none (by omega)) t ht
          rw [← ei] at z
          exact z
        | non =>
          refine ⟨_, rfl, _, rfl, _, _, _, _, _, rfl, .ty _, hty, kit_ty k1, _, rfl, iteF ?_⟩
          refine ⟨_, rfl, p, 3, n + 2, rfl, hA2.2, by omega, by decide, by decide, fun c H3 c0 c1 hb3 hp3 => ?_⟩
          obtain ⟨i, rfl⟩ : ∃ i : Nat, c = (i : Int) := ⟨c.toNat, by omega⟩
          exact ⟨by show 3 ≤ sizeLine; decide, fun t ht => put (hA2.draw hb3 hp3) (Nat.le_refl _) (by omega) rfl t ht⟩
        | int j =>
          refine ⟨_, rfl, _, rfl, _, _, _, _, _, rfl, .ty _, hty, kit_ty k1, _, rfl, iteF ?_⟩
          refine ⟨_, rfl, p, 3, n + 2, rfl, hA2.2, by omega, by decide, by decide, fun c H3 c0 c1 hb3 hp3 => ?_⟩
          obtain ⟨i, rfl⟩ : ∃ i : Nat, c = (i : Int) := ⟨c.toNat, by omega⟩
          exact ⟨by show 3 ≤ sizeLine; decide, fun t ht => put (hA2.draw hb3 hp3) (Nat.le_refl _) (by omega) rfl t ht⟩
      · exact ⟨hA2.mono (by omega), pl, x, none, hx.same (gm_up C.mp hM2), hplo, by omega, fun e => absurd (by rw [e]; exact decide_eq_true rfl) c2, rfl⟩
  rintro _ H3 ⟨hA3, pl1, x1, v11, hx1, hpo1, hpn1, hg1, rfl⟩
  have hr3 := C.rl
  -- number
  refine ⟨fun σ' H' => Around1 H p (n + 4) H' ∧ RW (gm p H M H') (plD pl1) x1 ∧ ∃ m : Nat, rs.length ≤ m ∧ m ≤ 1000 ∧ σ' = nl p la fa rs.length (some (.int way)) none none none (some x1) (some y) none v11 (some (.int (m : Int))) none none, ?_, ?_⟩
  · refine ⟨_, rfl, _, rfl, p, 3, n + 3, rfl, hA3.2, by omega, by decide, by decide, fun c H4 c0 c1 hb4 hp4 => ?_⟩
    obtain ⟨i, rfl⟩ : ∃ i : Nat, c = (i : Int) := ⟨c.toNat, by omega⟩
    refine ⟨_, _, rfl, rfl, hA3.draw hb4 hp4, hx1.same (gm_next hb4), rs.length + i, by omega, by omega, ?_⟩
    rw [Int.natCast_add]
    rfl
  rintro _ H4 ⟨hA4, hx4, m, hm, hm1000, rfl⟩
  clear hx1 hA3
  -- a result that is not there
  refine ⟨fun σ' H' => Around1 H p (n + 4) H' ∧ ∃ (pl2 : Pl) (x2 : V), RW (gm p H M H') (plD pl2) x2 ∧ PlOk pl2 ∧ plN pl2 ≤ 4 ∧ (way = 2 ∧ Gone w0 rs pl2 ∨ way = 3 ∧ Over rs pl2 m) ∧ σ' = nl p la fa rs.length (some (.int way)) none none none (some x2) (some y) none v11 (some (.int (m : Int))) none none, ?_, ?_⟩
  · refine ⟨_, rfl, rfl, _, rfl, ite2 (fun c3 => ?_) (fun c3 => ?_)⟩
    · refine ⟨_, rfl, by show 2 ≤ sizeLine; decide, fun t ht => ?_⟩
      exact ⟨hA4.new ht, .res m, _, rw_tup2 (d := .leaf (.int (m : Int))) (gm_new (hA4.2.ne ht) (hA4.free hp ht) upd_same) ⟨rfl, lf_int'⟩, hm1000, Nat.zero_le _, .inr ⟨V.int.inj (of_decide_eq_true c3), rfl, hm⟩, rfl⟩
    · have e2 : way = 2 := w23.resolve_right fun e => c3 (by rw [e]; exact decide_eq_true rfl)
      exact ⟨hA4, pl1, x1, hx4, hpo1, hpn1, .inl ⟨e2, hg1 e2⟩, rfl⟩
  rintro _ H5 ⟨hA5, pl2, x2, hx2, hpo2, hpn2, hf2, rfl⟩
  have hne : zs ≠ [] := fun e => by rw [e] at hz1; exact absurd hz1 (by decide)
  obtain ⟨zi, zl, hzz⟩ : ∃ zi zl, zs = zi ++ [zl] := ⟨_, _, (List.dropLast_concat_getLast hne).symm⟩
  have hzl : nmOk zl := C.zl _ (by rw [hzz]; exact List.mem_append_right _ List.mem_cons_self)
  have hat1 : atI (zs.map V.str) (-1) = some (.str zl) := by
    rw [hzz, List.map_append]
    exact atI_last _ _
  -- a place within it
  refine ⟨fun σ' H' => Around1 H p (n + 7) H' ∧ ∃ (pl3 : Pl) (x3 : V), RW (gm p H M H') (plD pl3) x3 ∧ PlOk pl3 ∧ plN pl3 ≤ 5 ∧ (way = 2 ∧ Gone w0 rs pl3 ∨ way = 3 ∧ Over rs pl3 m) ∧ σ' = nl p la fa rs.length (some (.int way)) none none none (some x3) (some y) none v11 (some (.int (m : Int))) none none, ?_, ?_⟩
  · refine ⟨_, rfl, p, 3, n + 4, rfl, hA5.2, by omega, by decide, by decide, fun c H6 c0 c1 hb6 hp6 => ⟨rfl, _, rfl, ite2 (fun _ => ?_) (fun _ => ⟨(hA5.draw hb6 hp6).mono (by omega), pl2, x2, hx2.same (gm_next hb6), hpo2, by omega, hf2, rfl⟩)⟩⟩
    have hA6 := hA5.draw hb6 hp6
    have hx6 := hx2.same (gm_next (p := p) (H := H) (M := M) hb6)
    refine ⟨_, rfl, _, rfl, p, 2, n + 5, rfl, hp6, by omega, by decide, by decide, fun c2 H7 c20 c21 hb7 hp7 => ?_⟩
    obtain ⟨i, rfl⟩ : ∃ i : Nat, c2 = (i : Int) := ⟨c2.toNat, by omega⟩
    have hA7 := hA6.draw hb7 hp7
    have hx7 := hx6.same (gm_next (p := p) (H := H) (M := M) hb7)
    refine ⟨by show 3 ≤ sizeLine; decide, fun t1 ht1 => ?_⟩
    have s8 := same_new ht1 (.tup [V.str (Str.ofString "item"), x2, V.int (i : Int)])
    have e81 : (upd H7 t1 (.tup [V.str (Str.ofString "item"), x2, V.int (i : Int)])) t1 = some (.tup [V.str (Str.ofString "item"), x2, V.int (i : Int)]) := upd_same
    have hA8 := hA7.same s8
    refine ⟨_, rfl, _, rfl, _, rfl, fa, _, _, .str zl, rfl, rfl, SqL.of (same_but hM hA8.1 C.mp _ _ C.fa), hat1, ?_⟩
    refine ⟨by show 3 ≤ sizeLine; decide, fun t2 ht2 => ?_⟩
    have s9 := same_new ht2 (.tup [V.str (Str.ofString "field"), x2, V.str zl])
    have hA9 := hA8.same s9
    refine ⟨by show 2 ≤ sizeLine; decide, fun sl hsl => ?_⟩
    have s10 := same_new hsl (.lst [V.ref t1, V.ref t2])
    have hA10 := hA9.same s10
    refine ⟨_, rfl, p, 2, n + 6, rfl, hA10.2, by omega, by decide, by decide, fun c3 H11 c30 c31 hb11 hp11 => ?_⟩
    have hA11 := hA10.draw hb11 hp11
    have s89 := (s8.trans s9).trans s10
    have up : ∀ b o, b ≠ p → H7 b = some o → H11 b = some o := fun b o nb e => hb11 b o nb (s89 b o e)
    have hx11 := hx7.same (gm_next (p := p) (H := H) (M := M) up)
    have ht1p := hA7.2.ne ht1
    have ht2p := hA8.2.ne ht2
    have hslp := hA9.2.ne hsl
    have et1 := hb11 _ _ ht1p (s10 _ _ (s9 _ _ e81))
    have et2 := hb11 _ _ ht2p (s10 _ _ (upd_same (H := upd H7 t1 (.tup [V.str (Str.ofString "item"), x2, V.int (i : Int)])) (a := t2) (o := .tup [V.str (Str.ofString "field"), x2, V.str zl])))
    have esl := hb11 sl (.lst [V.ref t1, V.ref t2]) hslp upd_same
    have c3c : c3 = 0 ∨ c3 = 1 := by omega
    rcases c3c with rfl | rfl
    · refine ⟨sl, _, 0, .ref t1, rfl, rfl, SqL.of esl, atI_nat (j := 0) rfl, ?_⟩
      exact ⟨hA11.mono (by omega), .item pl2 i, _, rw_tup3 (gm_new ht1p (hA7.free hp ht1) et1) hx11 lf_int', ⟨by omega, hpo2⟩, by show plN pl2 + 1 ≤ 5; omega, hf2.imp (fun h => ⟨h.1, h.2.item⟩) (fun h => ⟨h.1, h.2.item⟩), rfl⟩
    · refine ⟨sl, _, 1, .ref t2, rfl, rfl, SqL.of esl, atI_nat (j := 1) rfl, ?_⟩
      exact ⟨hA11.mono (by omega), .field pl2 zl, _, rw_tup3 (gm_new ht2p (hA8.free hp ht2) et2) hx11 lf_str, ⟨hzl, hpo2⟩, by show plN pl2 + 1 ≤ 5; omega, hf2.imp (fun h => ⟨h.1, h.2.field⟩) (fun h => ⟨h.1, h.2.field⟩), rfl⟩
  clear hx2 hx4 hA4 hA5 hf2 hpo2 hpn2
  rintro _ H6 ⟨hA6, pl3, x3, hx3, hpo3, hpn3, hf3, rfl⟩
  -- the look
  refine ⟨fun σ' H' => Around1 H p (n + 9) H' ∧ RW (gm p H M H') (plD pl3) x3 ∧ ∃ (l : Lk) (lv : V), lkP l = pl3 ∧ LkOk l ∧ RW (gm p H M H') (lkD l) lv ∧ σ' = nl p la fa rs.length (some (.int way)) none none none (some x3) (some y) none v11 (some (.int (m : Int))) (some lv) none, ?_, ?_⟩
  · refine ⟨fun b H' => Around1 H p (n + 8) H' ∧ RW (gm p H M H') (plD pl3) x3, ?_, ?_⟩
    · refine ⟨_, rfl, rfl, _, rfl, ite2 (fun c2 => ⟨_, rfl, p, 2, n + 7, rfl, hA6.2, by omega, by decide, by decide, fun c H7 c0 c1 hb7 hp7 => ⟨rfl, _, rfl, ?_⟩⟩) (fun c2 => iteF ⟨_, rfl, rfl, _, rfl, ⟨hA6.mono (by omega), hx3⟩⟩)⟩
      have hx7 := hx3.same (gm_next (p := p) (H := H) (M := M) hb7)
      exact ite2 (fun _ => ⟨hA6.draw hb7 hp7, hx7⟩) (fun _ => ⟨_, rfl, rfl, _, rfl, ⟨hA6.draw hb7 hp7, hx7⟩⟩)
    rintro b H7 ⟨hA7, hx7⟩
    cases b with
    | false =>
      refine ⟨_, rfl, by show 2 ≤ sizeLine; decide, fun t ht => ?_⟩
      have hA8 := hA7.new (o := .tup [.str (Str.ofString "none"), x3]) ht
      have hx8 := hx7.same (gm_next (p := p) (H := H) (M := M) fun b o _ e => same_new ht (.tup [V.str (Str.ofString "none"), x3]) b o e)
      exact ⟨hA8.mono (by omega), hx8, .none pl3, _, rfl, trivial, rw_tup2 (gm_new (hA7.2.ne ht) (hA7.free hp ht) upd_same) hx8, rfl⟩
    | true =>
      refine ⟨_, rfl, by show 2 ≤ sizeLine; decide, fun t1 h1 => ⟨_, rfl, by show 2 ≤ sizeLine; decide, fun t2 h2 => ⟨_, rfl, by show 3 ≤ sizeLine; decide, fun t3 h3 => ⟨_, rfl, by show 3 ≤ sizeLine; decide, fun t4 h4 => ⟨by show 4 ≤ sizeLine; decide, fun sl hsl => ?_⟩⟩⟩⟩⟩
      have s1 := same_new h1 (.tup [V.str (Str.ofString "what"), x3])
      have hA1 := hA7.same s1
      have s2 := same_new h2 (.tup [V.str (Str.ofString "none"), x3])
      have hA2 := hA1.same s2
      have s3 := same_new h3 (.tup [V.str (Str.ofString "has"), x3, V.int 0])
      have hA3 := hA2.same s3
      have s4 := same_new h4 (.tup [V.str (Str.ofString "has"), x3, V.str (Str.ofString "a")])
      have hA4 := hA3.same s4
      have s5 := same_new hsl (.lst [V.ref t1, V.ref t2, V.ref t3, V.ref t4])
      have hA5 := hA4.same s5
      refine ⟨_, rfl, p, 4, n + 8, rfl, hA5.2, by omega, by decide, by decide, fun c H8 c0 c1 hb8 hp8 => ?_⟩
      have hA8 := hA5.draw hb8 hp8
      have hx8 := hx7.same (gm_next (p := p) (H := H) (M := M) fun b o nb e => hb8 b o nb (s5 _ _ (s4 _ _ (s3 _ _ (s2 _ _ (s1 _ _ e))))))
      have p1 := hA7.2.ne h1
      have p2 := hA1.2.ne h2
      have p3 := hA2.2.ne h3
      have p4 := hA3.2.ne h4
      have e1 := hb8 t1 (.tup [V.str (Str.ofString "what"), x3]) p1 (s5 _ _ (s4 _ _ (s3 _ _ (s2 _ _ upd_same))))
      have e2 := hb8 t2 (.tup [V.str (Str.ofString "none"), x3]) p2 (s5 _ _ (s4 _ _ (s3 _ _ upd_same)))
      have e3 := hb8 t3 (.tup [V.str (Str.ofString "has"), x3, V.int 0]) p3 (s5 _ _ (s4 _ _ upd_same))
      have e4 := hb8 t4 (.tup [V.str (Str.ofString "has"), x3, V.str (Str.ofString "a")]) p4 (s5 _ _ upd_same)
      have esl := hb8 sl (.lst [V.ref t1, V.ref t2, V.ref t3, V.ref t4]) (hA4.2.ne hsl) upd_same
      have c4 : c = 0 ∨ c = 1 ∨ c = 2 ∨ c = 3 := by omega
      rcases c4 with rfl | rfl | rfl | rfl
      · exact ⟨sl, _, 0, .ref t1, rfl, rfl, SqL.of esl, atI_nat (j := 0) rfl, hA8, hx8, .what pl3, _, rfl, trivial, rw_tup2 (gm_new p1 (hA7.free hp h1) e1) hx8, rfl⟩
      · exact ⟨sl, _, 1, .ref t2, rfl, rfl, SqL.of esl, atI_nat (j := 1) rfl, hA8, hx8, .none pl3, _, rfl, trivial, rw_tup2 (gm_new p2 (hA1.free hp h2) e2) hx8, rfl⟩
      · exact ⟨sl, _, 2, .ref t3, rfl, rfl, SqL.of esl, atI_nat (j := 2) rfl, hA8, hx8, .has pl3 (.ix 0), _, rfl, (by show 0 ≤ 1000; decide), rw_tup3 (gm_new p3 (hA2.free hp h3) e3) hx8 lf_int', rfl⟩
      · exact ⟨sl, _, 3, .ref t4, rfl, rfl, SqL.of esl, atI_nat (j := 3) rfl, hA8, hx8, .has pl3 (.fd (Str.ofString "a")), _, rfl, nm1 (z := Str.ofString "a") (by decide +kernel), rw_tup3 (gm_new p4 (hA3.free hp h4) e4) hx8 lf_str, rfl⟩
  clear hx3 hA6
  rintro _ H7 ⟨hA7, hx7, l, lv, hlp, hlk, hl7, rfl⟩
  have hpk := pl_ok hpo3
  have hls : LkS l := by
    have z := lk_ok8 (l := l) (by rw [hlp]; exact ⟨hpk.1.up (by omega), by have := hpk.2; omega⟩) hlk
    exact ⟨by rw [hlp]; exact hpn3, z.1, z.2⟩
  -- what is owed
  refine ⟨fun σ' H' => Around1 H p (n + 9) H' ∧ RW (gm p H M H') (lkD l) lv ∧ ∃ (ow : Addr) (u : V) (e : Nat × D), H ow = none ∧ H' ow = some (.lst [.str (Str.ofString (errW e.1)), u, .bl false]) ∧ RW (gm p H M H') e.2 u ∧ DOk 8 e.2 ∧ sz e.2 ≤ 200 ∧ (1 ≤ e.1 ∧ e.1 ≤ 3) ∧ anF w0 rs l = .inr e ∧ σ' = nl p la fa rs.length (some (.int way)) none none none (some x3) (some y) none v11 (some (.int (m : Int))) (some lv) (some (.ref ow)), ?_, ?_⟩
  · refine ⟨_, rfl, rfl, _, rfl, ite2 (fun c3 => ?_) (fun c3 => ?_)⟩
    · have e3 : way = 3 := V.int.inj (of_decide_eq_true c3)
      have ho : Over rs pl3 m := by
        rcases hf3 with ⟨e, _⟩ | ⟨_, h⟩
        · omega
        · exact h
      refine ⟨_, rfl, by show 3 ≤ sizeLine; decide, fun ow how => ?_⟩
      have s8 := same_new how (.lst [V.str (Str.ofString "ended"), V.int (m : Int), V.bl false])
      exact ⟨hA7.same s8, hl7.same (gm_next fun b o _ e => s8 b o e), ow, _, (3, .leaf (.int (m : Int))), hA7.free hp how, upd_same, ⟨rfl, lf_int'⟩, dok_leaf (lf_nat (Nat.le_trans hm1000 (by decide))), (by show 1 ≤ 200; decide), ⟨by show 1 ≤ 3; decide, Nat.le_refl 3⟩, an_inr (by rw [hlp]; exact ho.fo), rfl⟩
    · have hg : Gone w0 rs pl3 := by
        rcases hf3 with ⟨_, h⟩ | ⟨e, _⟩
        · exact h
        · exact absurd (by rw [e]; exact decide_eq_true rfl) c3
      refine ⟨_, rfl, by show 3 ≤ sizeLine; decide, fun ow how => ?_⟩
      have s8 := same_new how (.lst [V.str (Str.ofString "place"), x3, V.bl false])
      have g8 : Same (gm p H M H7) (gm p H M (upd H7 ow (.lst [V.str (Str.ofString "place"), x3, V.bl false]))) := gm_next fun b o _ e => s8 b o e
      exact ⟨hA7.same s8, hl7.same g8, ow, _, (2, plD pl3), hA7.free hp how, upd_same, hx7.same g8, hpk.1.up (by omega), by have := hpk.2; show sz (plD pl3) ≤ 200; omega, ⟨by show 1 ≤ 2; decide, by show 2 ≤ 3; decide⟩, an_inr (by rw [hlp]; exact hg.fo), rfl⟩
  rintro _ H8 ⟨hA8, hl8, ow, u, e, how0, how, hu, hd1, hd2, he, han, rfl⟩
  obtain ⟨a, x0, rfl, ha8, _⟩ := lk_rw (hl8.same gm_le)
  have last : ∀ (aw r : Addr) (as : List V), H8 aw = none → (upd H8 aw (.lst as)) r = none → as.length ≤ 4 → (∀ b ∈ as, AnV b) → Q (.ref r) (upd (upd H8 aw (.lst as)) r (.lst [.ref a, .ref ow, .ref aw])) := fun aw r as haw hr h4 hv => by
    have s9 := same_new haw (.lst as)
    have g9 : Same (gm p H M H8) (gm p H M (upd H8 aw (.lst as))) := gm_next fun b o _ e => s9 b o e
    exact fin _ ow aw r (.ref a) u l e as ((hA8.same s9).mono (by omega)) hr (hl8.same g9) (s9 _ _ how) how0 (hu.same g9) upd_same (hA8.free hp haw) hls h4 hv hd1 hd2 ⟨he, .inl han⟩
  have hwd : ∀ b ∈ [V.str (Str.ofString "integer"), V.str (Str.ofString "none"), V.str (Str.ofString "record"), V.str (Str.ofString "row")], AnV b := (as_what .non pl3).lf
  refine ⟨_, rfl, _, rfl, _, rfl, a, _, 0, _, rfl, rfl, SqT.of ha8, atI_nat (j := 0) rfl, rfl, _, rfl, ?_⟩
  cases l with
  | what q => exact ifT (decide_eq_true rfl) ⟨by show 4 ≤ sizeLine; decide, fun aw haw => ⟨by show 3 ≤ sizeLine; decide, fun r hr => last aw r _ haw hr (by decide) hwd⟩⟩
  | none q => exact ifF (decide_eq_false (by show ¬ V.str (Str.ofString "none") = V.str (Str.ofString "what"); decide)) ⟨by show 2 ≤ sizeLine; decide, fun aw haw => ⟨by show 3 ≤ sizeLine; decide, fun r hr => last aw r _ haw hr (by decide) hbls⟩⟩
  | has q k => exact ifF (decide_eq_false (by show ¬ V.str (Str.ofString "has") = V.str (Str.ofString "what"); decide)) ⟨by show 2 ≤ sizeLine; decide, fun aw haw => ⟨by show 3 ≤ sizeLine; decide, fun r hr => last aw r _ haw hr (by decide) hbls⟩⟩
end
end K02
set_option Elab.async false
set_option linter.all false
set_option maxRecDepth 100000
set_option maxHeartbeats 2000000
/-! Promises of functions that run where no guarded builtin runs around them: so repr of nested data may be told. -/
namespace L2
open PySem PySem.Spec PyProof.Rows
def Free (A : Around) : Prop := A.guards = some []
theorem Free.deeper {A : Around} (h : Free A) (e : Env) : Free (A.deeper e) := h
theorem Free.caller : Free callerA := rfl
/-- as FnOk, where nothing guarded runs around -/
structure FnG (P : Program) (w : World) (K : PySem.W.Frag) (mg : Str → Option Value) (base : Heap) (CX : CXT) (k : Nat) (f : Addr) (fd : FuncData) (ps : List Str) (sp : Sp) : Prop where
  len : ∀ vs H Q E, sp vs H Q E → vs.length = ps.length
  run : ∀ (A : Around) (outer : List Env) (s : Shared) (H : Hp) (args : Args) (us : List Value) (vs : List V) (Q : VK) (E : XK), Free A → Room k A → Env0 P w K mg base A outer s H →
    BindsTo s fd args (ps.zip us) → Vals vs us → sp vs H Q E → codeAny (model P w) A (.call (.ref f) args) (CR CX outer P w H s Q E) s
section
variable {P : Program} {w : World} {K : PySem.W.Frag} {mg : Str → Option Value} {base : Heap} {CX : CXT} {f : Addr} {fd : FuncData} {ps : List Str} {sp : Sp}
theorem FnOk.g {k : Nat} (F : FnOk P w K mg base CX k f fd ps sp) : FnG P w K mg base CX k f fd ps sp := ⟨F.len, fun A outer s H args us vs Q E _ => F.run A outer s H args us vs Q E⟩
theorem FnG.mono {j k : Nat} (F : FnG P w K mg base CX j f fd ps sp) (h : j ≤ k) : FnG P w K mg base CX k f fd ps sp := ⟨F.len, fun A outer s H args us vs Q E hg hr => F.run A outer s H args us vs Q E hg (hr.mono h)⟩
end
section
variable {X : Cx} {CX : CXT} {k : Nat} {f : Addr} {fd : FuncData} {ps : List Str} {sp : Sp} {E : XK} {x : Str} {p pos : Pos} {e : Expr} {es : List Expr} {t : TA}
/-- f(..) by place, no defaults -/
theorem pe_callG (F : FnG X.prog X.w X.K X.mg X.base CX k f fd ps sp) (fr : Free X.A) (hr : Room k X.A) (hg : Gl X x) (hm : X.mg x = some (.ref f)) (hk : PySem.W.keepIn X.K (.ref f) = true) (hb : Binds X.K fd ps []) (hx : Passes CX X E)
    (ha : PA X (e :: es) t) (hdb : (x == ("__debug__" : Str)) = false := by decide) (he : starEach (e :: es) X.env = (false, eval e X.env) :: starEach es X.env := by rfl) (hpl : (backTo pos (starEach es X.env)).any (·.1) = false := by rfl) :
    PE X (.Call (.Name x p) (e :: es) [] pos) (tCall sp [] E t) := by
  refine ⟨fun pins s σ H Q I h => wpAny_Call_Name_kw (ld_glob I hg hm ?_ hdb)⟩
  refine PySem.W.callWith_K (h₀ := X.base) I.ok.mod.kin hk (thn (ha.run pos pins s σ H _ I h) fun us s1 ⟨vs, H1, J, r, q⟩ => ⟨J.kIn, ?_⟩) he hpl
  replace q : sp (vs ++ []) H1 Q E := q
  rw [List.append_nil] at q
  have hl : (us ++ []).length = ps.length := by
    rw [List.append_nil, ← r.length]
    exact F.len _ _ _ _ q
  have bd := hb s1 us J.kIn hl
  rw [List.append_nil] at bd
  refine wpAny_call (codeAny_mono (F.run X.A X.stack s1 H1 ⟨us, []⟩ us vs Q E fr hr J.env0 bd r q) fun rr z hz => ?_)
  rcases rr with er | (u | _ | _ | _) <;> first | exact hx pins σ H1 s1 er z J hz | exact hz.elim | exact J.after hz
end
section
variable {P : Program} {w : World} {K : PySem.W.Frag} {mg : Str → Option Value} {base : Heap}
/-- from the body of a def -/
theorem Fun.okG {x qual : Str} {st : Stmt} {f : Addr} {fd : FuncData} {N ps : List Str} {k : Nat} {sp : Sp} (F : Fun K x qual st f fd) (S : FnScope N ps (defScope st)) (len : ∀ vs H Q E, sp vs H Q E → vs.length = ps.length)
    (hbody : ∀ (cdv : Value) (A : Around) (outer : List Env) (s : Shared) (H : Hp) (vs : List V) (Q : VK) (E : XK), Free A → Room k (A.deeper (envOfC qual (defScope st) s.heap.objs.size f cdv)) → sp vs H Q E →
      ∃ t, PSs (cxOf CX0 P w K mg base N qual (defScope st) f cdv A outer s H E).nox (defBody st) t ∧ t { nx := fun _ H' => Q .non H', rt := Q } (start N vs) H) : FnG P w K mg base CX0 (k + 1) f fd ps sp := by
  obtain ⟨oc, od, kV, doc, pm, an, cdv, ct, osl, rfl, lk, hcd⟩ := F.ex
  refine ⟨len, fun A outer s H args us vs Q E hg hr e0 hb r hsp => ?_⟩
  have hl := len _ _ _ _ hsp
  have inK : K.In s.heap := e0.mod.kin.keeps fun b o e => (e0.bs b o e).1
  have noL : s.heap.NoLimit := e0.mod.nolimit.keeps fun b o e => (e0.bs b o e).1
  refine codeAny_call_function hr.depth (inK _ _ lk) rfl S.co S.gen rfl (PySem.W.codeRec_of inK hcd) (hb _ _ _ _ ?_)
  refine wpAny_newFunctionEnv_cells S.kind (fun ⟨n, v⟩ hy => ?_) fun env he z1 ex => ?_
  · exact (S.par n (List.of_mem_zip hy).1).imp id fun q => ⟨q, PySem.W.cellsFrom_some _ _ _ (.inl q)⟩
  subst he
  refine ⟨noL.keeps ex.toInCall.keep, codeAny_func ?_⟩
  obtain ⟨t, ht, hq⟩ := hbody cdv A outer s H vs Q E hg (hr.deeper _) hsp
  have J : Inv (cxOf CX0 P w K mg base N qual (defScope st) f cdv A outer s H E) [] (start N vs) H z1 := inv_start S hr.hd e0 hl r ex
  refine wpAny_mono (ht.nox.run [] z1 (start N vs) H _ J hq) (fun fl z hs => ?_) fun _ _ hs => hs
  cases fl with
  | ret u =>
    obtain ⟨v, σ', H', J2, rv, q⟩ := hs
    exact ⟨v, H', J2.os, J2.bare, J2.base, J2.hok, rv, q⟩
  | next =>
    obtain ⟨σ', H', J2, q⟩ := hs
    exact ⟨V.non, H', J2.os, J2.bare, J2.base, J2.hok, rfl, q⟩
  | brk =>
    obtain ⟨_, _, _, q⟩ := hs
    exact q.elim
  | cont =>
    obtain ⟨_, _, _, q⟩ := hs
    exact q.elim
end
end L2
set_option Elab.async false
set_option linter.all false
set_option maxRecDepth 100000
set_option maxHeartbeats 2000000
/-! repr of lists and tuples of texts, whole numbers and None, nested. -/
namespace L2
open PySem PySem.Spec PyProof.Rows
def rReprD (K : PySem.W.Frag) : List V → Hp → VK → Prop := fun xs H Q => ∃ (v : V) (d : PyData), xs = [v] ∧ Dp K H v d ∧ d.showable = true ∧ d.hasDict = false ∧ d.depth ≤ 60 ∧ d.shown.length ≤ sizeLine ∧ Q (.str d.shown) H
theorem call_reprD {X : Cx} (fr : Free X.A) (hu : X.A.units + 64 < cLine) : CallR X (.builtin "repr") (rReprD X.K) := by
  intro pins s σ H xs us Q I r h
  obtain ⟨v, d, rfl, hd, sh, nd, dp, sz, q⟩ := h
  obtain ⟨u, rfl, r1⟩ := vals1 r
  have big : ∀ {a : Addr}, u = Value.ref a → wpAny (model X.prog X.w) X.A (call (.builtin "repr") [u]) (EP X pins σ Q) X.xe s := fun {a} e => by
    obtain ⟨as, rd⟩ := Dp.reads I d v u hd r1
    subst e
    refine repr_of_reads' rd sh (fun z => ?_) fr (by omega) (fun _ _ e => e) (fun h' t tk k => ⟨.str _, H, I.kept k, ⟨_, rfl⟩, q⟩) sz
    rw [nd] at z
    cases z
  cases hd with
  | non =>
    obtain rfl : u = Value.none := r1
    exact PySem.P.repr_of_none ⟨.str _, H, I.tok _, ⟨_, rfl⟩, q⟩
  | bl b =>
    obtain rfl : u = Value.bool b := r1
    refine PySem.P.repr_of_bool ⟨.str _, H, I.tok _, ⟨_, rfl⟩, ?_⟩
    rw [PyData.shown_bool] at q
    cases b <;> exact q
  | int i =>
    obtain ⟨t, rfl⟩ := r1
    refine PySem.P.repr_of_int (by simpa [PyData.showable] using sh) ⟨.str _, H, I.tok _, ⟨_, rfl⟩, ?_⟩
    rw [PyData.shown_int] at q
    exact q
  | str x =>
    obtain ⟨t, rfl⟩ := r1
    rw [PyData.shown_str] at q sz
    exact PySem.P.repr_of_str ⟨.str _, H, I.tok _, ⟨_, rfl⟩, q⟩ sz
  | @lst a xs ds h1 h2 => exact big (a := a) r1
  | @tup a xs ds h1 h2 => exact big (a := a) r1
end L2
set_option Elab.async false
set_option linter.all false
set_option maxRecDepth 100000
set_option maxHeartbeats 4000000
namespace K02
open PySem L2 PyProof.Rows
theorem passN {X : Cx} : Passes (L2.CX X.prog X.w) X E0 := fun _ _ _ _ _ _ _ h => by
  obtain ⟨_, _, _, _, _, _, _, _, _, _, _, _, z⟩ := h
  exact z.elim
/-! ### the heap without the purse -/
def wo (p : Addr) (H : Hp) : Hp := fun b => if b = p then none else H b
section
variable {p b : Addr} {H H1 H2 M : Hp} {o : HO}
theorem wo_p : wo p H p = none := if_pos rfl
theorem wo_ne (n : b ≠ p) : wo p H b = H b := if_neg n
theorem wo_at (n : b ≠ p) (e : H b = some o) : wo p H b = some o := by rw [wo_ne n]; exact e
theorem wo_le : Same (wo p H) H := fun b o e => by
  by_cases n : b = p
  · rw [n, wo_p] at e
    cases e
  · rw [wo_ne n] at e
    exact e
theorem wo_but (h : But p H H1) : Same (wo p H) (wo p H1) := fun b o e => by
  by_cases n : b = p
  · rw [n, wo_p] at e
    cases e
  · rw [wo_ne n] at e
    exact wo_at n (h b o n e)
theorem wo_same (h : Same H H1) : Same (wo p H) (wo p H1) := wo_but (.of h)
theorem wo_gm : Same (gm p H M H1) (wo p H1) := fun b o e => by
  obtain ⟨n, _, e2⟩ := gm_is e
  exact wo_at n e2
end
theorem reprOk {n : Nat} {d : D} (h : DLf n d) (hn : n ≤ 60) (hs : sz d ≤ 24000) : (toP d).showable = true ∧ (toP d).hasDict = false ∧ (toP d).depth ≤ 60 ∧ (toP d).shown.length ≤ sizeLine := by
  obtain ⟨_, b, c, _⟩ := lay_of d h
  exact ⟨c, nd_of h, by omega, shown_ok h hs⟩
theorem lf_ok_tup {H : Hp} {t : Addr} {s : Str} {x : V} {d : D} (ht : H t = some (.tup [.str s, x])) (hx : RW H d x) : RW H (.tup [.leaf (.str s), d]) (.ref t) := rw_tup2 ht hx
theorem zw_fin {dl : D} : ∀ as : List V, List.zipWith wayD as (trDs (as.map fun _ => Tr.fin dl)) = as.map fun a => wayD a (trD (.fin dl))
  | [] => rfl
  | a :: as => by
    rw [List.map_cons, trDs, List.zipWith_cons_cons, zw_fin as, List.map_cons]
/-- a part of p's draw lies in what is neither p nor c -/
theorem gm_wo2 {p c : Addr} {G M H1 : Hp} (hc : ∃ o, G c = some o) (hm : M c = none) : Same (gm p G M H1) (wo c (wo p H1)) := fun b o e => by
  obtain ⟨n, k, e2⟩ := gm_is e
  have nc : b ≠ c := fun z => by
    rw [z] at k
    rcases k with k | ⟨_, k⟩
    · obtain ⟨_, h⟩ := hc
      rw [h] at k
      cases k
    · rw [hm] at k
      cases k
  exact wo_at nc (wo_at n e2)
def spNoRight : Sp := fun vs H Q _ => ∃ (p : Addr) (n : Nat), vs = [.ref p] ∧ Purse H p n ∧ n + 4000 < 10 ^ 60 ∧ ∀ H', But p H H' → Q (.bl true) H'
abbrev nNr : List Str := ["sack", "names_here", "value_here", "results_here", "places", "last", "look", "owed", "answers", "bad", "coins", "wrong", "good", "turn", "answer"]
abbrev nr (p : Addr) (v1 v2 v3 v4 v5 v6 v7 v8 v9 v10 v11 v12 v13 : Option V) : L2.St := [some (.ref p), v1, v2, v3, v4, v5, v6, v7, v8, v9, v10, v11, v12, v13, none]
section
variable {P : Program} {w : World} {K : PySem.W.Frag} {mg : Str → Option Value} {base : Heap} {Cs : Nat → Addr}
theorem scNr : FnScope nNr ["sack"] (defScope sNoRight) := ⟨rfl, rfl, rfl, by decide +kernel, rfl, by decide +kernel, by decide +kernel⟩
theorem ok_noright {f fC fW fT fP fD fL fR fK fX fB : Addr} {fd fdC fdW fdT fdP fdD fdL fdR fdK fdX fdB : FuncData} (F : Fun K "_law_no_right" "_law_no_right" sNoRight f fd) (T : Txt K mg)
    (FC : Fun K "_law_coin" "_law_coin" sCoin fC fdC) (bC : Binds K fdC ["purse", "many"] []) (mC : mg "_law_coin" = some (.ref fC))
    (FW : Fun K "_law_tr_words" "_law_tr_words" sWords fW fdW) (GW : FnOk P w K mg base CX0 3 fW fdW ["sack", "many"] spWords17) (bW : Binds K fdW ["sack", "many"] []) (mW : mg "_law_tr_words" = some (.ref fW))
    (FT : Fun K "_law_wk_thing" "_law_wk_thing" sWkThing fT fdT) (GT : FnOk P w K mg base CX0 5 fT fdT ["sack", "fields", "deep"] (spThing 4)) (bT : Binds K fdT ["sack", "fields", "deep"] []) (mT : mg "_law_wk_thing" = some (.ref fT))
    (FP : Fun K "_law_wk_places" "_law_wk_places" sWkPlaces fP fdP) (GP : FnOk P w K mg base CX0 1 fP fdP ["value_here", "results_here"] spPlaces) (bP : Binds K fdP ["value_here", "results_here"] []) (mP : mg "_law_wk_places" = some (.ref fP))
    (FD : Fun K "_law_wk_done" "_law_wk_done" sWkDone fD fdD) (GD : FnOk P w K mg base CX0 2 fD fdD ["sack", "places", "names_here"] spDone) (bD : Binds K fdD ["sack", "places", "names_here"] []) (mD : mg "_law_wk_done" = some (.ref fD))
    (FL : Fun K "_law_no_look" "_law_no_look" sNoLook fL fdL) (GL : FnOk P w K mg base CX0 3 fL fdL ["sack", "places", "names_here", "many"] spNoLook) (bL : Binds K fdL ["sack", "places", "names_here", "many"] []) (mL : mg "_law_no_look" = some (.ref fL))
    (FR : Fun K "_law_wk_tree" "_law_wk_tree" sWkTree fR fdR) (GR : FnOk P w K mg base CX0 8 fR fdR ["sack", "places", "names_here", "used", "last"] (spTree 6)) (bR : Binds K fdR ["sack", "places", "names_here", "used", "last"] []) (mR : mg "_law_wk_tree" = some (.ref fR))
    (FK : Fun K "walk" "walk" sWalk fK fdK) (GK : FnOk P w K mg base (L2.CX P w) 43 fK fdK ["told", "value", "results"] (spWalkX K Cs)) (bK : Binds K fdK ["told", "value", "results"] []) (mK : mg "walk" = some (.ref fK))
    (FX : Fun K "_law_no_walk" "_law_no_walk" sNoWalk fX fdX) (GX : FnOk P w K mg base CX0 44 fX fdX ["told_here", "value_here", "results_here"] spNoWalk) (bX : Binds K fdX ["told_here", "value_here", "results_here"] []) (mX : mg "_law_no_walk" = some (.ref fX))
    (FB : Fun K "_law_no_base" "_law_no_base" sNoBase fB fdB) (GB : FnOk P w K mg base CX0 44 fB fdB ["told_here", "value_here", "results_here"] spNoBase) (bB : Binds K fdB ["told_here", "value_here", "results_here"] []) (mB : mg "_law_no_base" = some (.ref fB)) :
    FnG P w K mg base CX0 45 f fd ["sack"] spNoRight := by
  have GC : FnOk P w K mg base CX0 1 fC fdC ["purse", "many"] spCoin := ok_coin FC T
  refine F.okG scNr (fun vs H Q E h => ?_) (fun cdv A outer s H vs Q E fr hr h => ?_)
  · obtain ⟨p, n, rfl, _⟩ := h
    rfl
  obtain ⟨p, n, rfl, hp, hn, kk⟩ := h
  have hr1 := hr.mono (show 1 ≤ 44 by decide)
  have hr2 := hr.mono (show 2 ≤ 44 by decide)
  have hr3 := hr.mono (show 3 ≤ 44 by decide)
  have hr5 := hr.mono (show 5 ≤ 44 by decide)
  have hr8 := hr.mono (show 8 ≤ 44 by decide)
  have hr43 := hr.mono (show 43 ≤ 44 by decide)
  refine ⟨_, Evl.pss_cut (ps_set (i := 1) scNr.nd rfl (Or.inr rfl) (pe_call GW hr3 rfl mW FW.kp bW .nil pass0 (pa_cons (pv 0) (pa_cons (pe_op op_add pe_int (pe_call GC hr1 rfl mC FC.kp bC .nil pass0 (pa_cons (pv 0) (pa_cons pe_int pa_nil)))) pa_nil))))
    (Evl.pss_cut (ps_set (i := 2) scNr.nd rfl (Or.inl rfl) (pe_call GT hr5 rfl mT FT.kp bT .nil pass0 (pa_cons (pv 0) (pa_cons (pv 1) (pa_cons pe_int pa_nil)))))
    (Evl.pss_cut (ps_setLc (i := 3) (own := [("turn", 13)]) (g := gName 13) (tt := tYes) rfl scNr.nd rfl rfl (sw_true rfl rfl rfl (by decide +kernel)) (pi_range1 rfl T.range (pa_cons (pe_call GC hr1 rfl mC FC.kp bC .nil pass0 (pa_cons (pv 0) (pa_cons pe_int pa_nil))) pa_nil)) (blkOk_by (N := nNr) (sc := defScope sNoRight) (by decide +kernel)) (fun _ _ _ _ _ => pg_name (i := 13) scNr.nd rfl (Or.inl rfl)) (fun _ _ _ _ _ => pts_nil)
        (fun _ _ _ _ _ => pe_call GT hr5 rfl mT FT.kp bT .nil pass0 (pa_cons (pv 0) (pa_cons (pv 1) (pa_cons pe_int pa_nil)))))
    (Evl.pss_cut (ps_set (i := 4) scNr.nd rfl (Or.inl rfl) (pe_call GP hr1 rfl mP FP.kp bP .nil pass0 (pa_cons (pv 2) (pa_cons (pv 3) pa_nil))))
    (Evl.pss_cut (ps_set (i := 5) scNr.nd rfl (Or.inr rfl) (pe_call GD hr2 rfl mD FD.kp bD .nil pass0 (pa_cons (pv 0) (pa_cons (pv 4) (pa_cons (pv 1) pa_nil)))))
    (Evl.pss_cut (ps_asg (pe_call GL hr3 rfl mL FL.kp bL .nil pass0 (pa_cons (pv 0) (pa_cons (pv 4) (pa_cons (pv 1) (pa_cons (pe_callB call_len_seq (by rfl) T.len PySem.boot_len (pa_cons (pv 3) pa_nil)) pa_nil))))) (pg_lst (n := 3) rfl (pgs_cons (pg_name (i := 6) scNr.nd rfl (Or.inl rfl)) (pgs_cons (pg_name (i := 7) scNr.nd rfl (Or.inl rfl)) (pgs_cons (pg_name (i := 8) scNr.nd rfl (Or.inl rfl)) pgs_nil)))))
    (Evl.pss_cut (ps_set (i := 9) scNr.nd rfl (Or.inl rfl) (pe_tup (pa_cons pe_str (pa_cons (pv 6) (pa_cons (pe_lc (own := [("answer", 14)]) (g := gName 14) (tt := tYes) rfl scNr.nd (pi_list (pv 8)) (blkOk_by (N := nNr) (sc := defScope sNoRight) (by decide +kernel)) (fun _ _ _ _ _ => pg_name (i := 14) scNr.nd rfl (Or.inl rfl)) (fun _ _ _ _ _ => pts_nil)
        (fun _ _ _ _ _ => pe_tup (pa_cons (pv 14) (pa_cons (pe_tup (pa_cons pe_str (pa_cons (pv 5) pa_nil))) pa_nil)))) pa_nil)))))
    (Evl.pss_cut (ps_set (i := 10) scNr.nd rfl (Or.inl rfl) (pe_callTy call_list_of (by rfl) T.list boot_list (pa_cons (pv 0) pa_nil)))
    (Evl.pss_cut (ps_set (i := 11) scNr.nd rfl (Or.inl rfl) (pe_call GR hr8 rfl mR FR.kp bR .nil pass0 (pa_cons (pv 0) (pa_cons (pv 4) (pa_cons (pv 1) (pa_cons (pe_lst (pa_cons (pv 6) pa_nil)) (pa_cons (pv 9) pa_nil)))))))
    (Evl.pss_cut (ps_set (i := 12) scNr.nd rfl (Or.inl rfl) (pe_call GR hr8 rfl mR FR.kp bR .nil pass0 (pa_cons (pv 10) (pa_cons (pv 4) (pa_cons (pv 1) (pa_cons (pe_lst (pa_cons (pv 6) pa_nil)) (pa_cons (pe_tup (pa_cons pe_str (pa_cons (pv 5) pa_nil))) pa_nil)))))))
    (Evl.pss_cut (ps_if (pt_cmpR op_ne (pe_callB (call_reprD fr hr.units) (by rfl) T.repr boot_repr (pa_cons (pe_call GK hr43 rfl mK FK.kp bK .nil passN (pa_cons (pv 12) (pa_cons (pv 2) (pa_cons (pv 3) pa_nil)))) pa_nil)) (pe_callB (call_reprD fr hr.units) (by rfl) T.repr boot_repr (pa_cons (pv 5) pa_nil)) (nomark _)) pss_never pss_nil)
    (Evl.pss_cut (ps_for PassesOwn.never rfl (pi_range1 rfl T.range (pa_cons pe_int pa_nil)) (pg_name (i := 13) scNr.nd rfl (Or.inl rfl))
        (pss_one (ps_if (pt_cmpR op_ne (pe_callB (call_reprD fr hr.units) (by rfl) T.repr boot_repr (pa_cons (pe_call GX hr rfl mX FX.kp bX .nil pass0 (pa_cons (pv 11) (pa_cons (pv 2) (pa_cons (pv 3) pa_nil)))) pa_nil)) (pe_callB (call_reprD fr hr.units) (by rfl) T.repr boot_repr (pa_cons (pv 7) pa_nil)) (nomark _)) pss_never pss_nil)))
    (Evl.pss_cut (ps_if (pt_not (pt_val (pe_call GB hr rfl mB FB.kp bB .nil pass0 (pa_cons (pv 11) (pa_cons (pv 2) (pa_cons (pv 3) pa_nil)))))) pss_never pss_nil)
    (pss_one (ps_ret (pe_cmpR op_eq (pe_callB (call_reprD fr hr.units) (by rfl) T.repr boot_repr (pa_cons (pe_call GK hr43 rfl mK FK.kp bK .nil passN (pa_cons (pv 12) (pa_cons (pv 2) (pa_cons (pv 3) pa_nil)))) pa_nil)) (pe_callB (call_reprD fr hr.units) (by rfl) T.repr boot_repr (pa_cons (pv 5) pa_nil)) (nomark _)))))))))))))))), ?_⟩
  have c1 : cT 1 = 20 := rfl
  have c3 : cT 3 = 200 := rfl
  -- names
  refine ⟨fun σ' H' => Around1 H p (n + 401) H' ∧ ∃ (na : Addr) (zs : List Str), na ≠ p ∧ H' na = some (.lst (zs.map V.str)) ∧ 1 ≤ zs.length ∧ zs.length ≤ 4 ∧ zs.Nodup ∧ (∀ z ∈ zs, nmOk z) ∧ σ' = nr p (some (.ref na)) none none none none none none none none none none none none, ?_, ?_⟩
  · refine ⟨_, rfl, _, rfl, p, 4, n, rfl, hp, by omega, by decide, by decide, fun c H1 c0 c1 hb hp1 => ?_⟩
    obtain ⟨c, rfl⟩ : ∃ c' : Nat, c = (c' : Int) := ⟨c.toNat, by omega⟩
    refine ⟨_, _, rfl, rfl, p, 1 + c, n + 1, ?_, by omega, by omega, hp1, by omega, fun na zs H2 hA2 hna0 hna hzl hnd hzo => ?_⟩
    · show [V.ref p, V.int (1 + (c : Int))] = _
      rw [show ((1 + c : Nat) : Int) = 1 + (c : Int) by omega]
    · exact ⟨(Around1.trans ⟨hb, hp1⟩ hA2).mono (by omega), na, zs, hp1.ne hna0, hna, by omega, by omega, hnd, hzo, rfl⟩
  rintro _ H1 ⟨hA1, na, zs, hnap, hna1, hz1, hz4, hnd, hzo, rfl⟩
  -- value
  refine ⟨fun σ' H' => Around1 H p (n + 601) H' ∧ H' na = some (.lst (zs.map V.str)) ∧ ∃ (v : V) (w0 : Wv), RV (wo p H') w0 v ∧ WOk 3 w0 ∧ σ' = nr p (some (.ref na)) (some v) none none none none none none none none none none none, ?_, ?_⟩
  · refine ⟨_, rfl, _, rfl, p, na, zs, 3, n + 401, rfl, hA1.2, hnap, hna1, hnd, hz4, hzo, by decide, by omega, fun w0 v H2 hA2 hwo hrv => ?_⟩
    exact ⟨(hA1.trans hA2).mono (by omega), hA2.1 _ _ hnap hna1, v, w0, hrv.same wo_gm, hwo, rfl⟩
  clear hA1 hna1
  rintro _ H1 ⟨hA1, hna1, v, w0, hv1, hw0, rfl⟩
  -- results
  refine ⟨fun σ' H' => Around1 H p (n + 700) H' ∧ H' na = some (.lst (zs.map V.str)) ∧ RV (wo p H') w0 v ∧ ∃ (ra : Addr) (xs : List V) (rs : List Wv), ra ≠ p ∧ H' ra = some (.lst xs) ∧ RVs (wo p H') rs xs ∧ rs.length ≤ 3 ∧ (∀ u ∈ rs, WOk 1 u) ∧ σ' = nr p (some (.ref na)) (some v) (some (.ref ra)) none none none none none none none none none none, ?_, ?_⟩
  · refine ⟨_, rfl, p, 4, n + 601, rfl, hA1.2, by omega, by decide, by decide, fun c H2 c0 c1' hb2 hp2 => ?_⟩
    obtain ⟨c, rfl⟩ : ∃ c' : Nat, c = (c' : Int) := ⟨c.toNat, by omega⟩
    have hA2 := hA1.draw hb2 hp2
    refine ⟨(c : Int), rfl, by omega, by omega, fun D hD => ?_⟩
    have hDp : D ≠ p := hA2.2.ne hD
    refine lc_range (lo := 0) (fun i H' => ∃ (ws : List Wv) (xs : List V), Around1 H2 p (n + 602 + 20 * i) H' ∧ H' D = some (.lst xs) ∧ RVs (gm p (upd H2 D (.lst [])) Hno H') ws xs ∧ ws.length = i ∧ ∀ u ∈ ws, WOk 1 u)
      ⟨[], [], ⟨.of (same_new hD _), (hA2.2.same (same_new hD _)).mono (by omega)⟩, upd_same, rfl, rfl, fun _ h => nomatch h⟩ ?_ ?_
    · rintro i H4 hi ⟨ws, xs, hA4, hD4, hr4, hl, hw⟩
      rw [Int.toNat_natCast] at hi
      have hdom : ∀ b, H4 b = none → (upd H2 D (.lst [])) b = none := fun b e => by
        rw [upd_ne (fun z => by rw [z, hD4] at e; cases e)]
        exact hA4.free hA2.2 e
      have hna4 := hA4.1 _ _ hnap (hb2 _ _ hnap hna1)
      refine ⟨rfl, ?_⟩
      unfold tYes
      refine iteT ?_
      refine ⟨_, rfl, _, rfl, p, na, zs, 1, n + 602 + 20 * i, rfl, hA4.2, hnap, hna4, hnd, hz4, hzo, by decide, by omega, fun w v H5 hA5 hwo hrv => ?_⟩
      have hD5 := hA5.1 D _ hDp hD4
      have hxl : xs.length = i := hr4.len.trans hl
      refine ⟨_, hD5, Nat.lt_of_lt_of_le (show xs.length < 1000 by omega) (by decide), ws ++ [w], xs ++ [v], ?_, upd_same, RVs.snoc (hr4.same (gm_skip ⟨_, upd_same⟩ rfl fun b o n1 n2 e => ?_)) (hrv.same (gm_call hdom fun b o n1 e => ?_)), by rw [List.length_append, hl]; rfl, ?_⟩
      · exact ((hA4.trans hA5).put hD hDp).mono (by omega)
      · rw [upd_ne n2]
        exact hA5.1 b o n1 e
      · rw [upd_ne fun z => ?_]
        · exact gm_le b o e
        · obtain ⟨_, z2, _⟩ := gm_is e
          rw [z, hD4] at z2
          rcases z2 with z2 | ⟨_, z2⟩ <;> cases z2
      · intro u hu
        rcases List.mem_append.mp hu with hu | hu
        · exact hw u hu
        · rw [List.mem_singleton.mp hu]
          exact hwo
    · rintro H4 ⟨ws, xs, hA4, hD4, hr4, hl, hw⟩
      rw [Int.toNat_natCast] at hl hA4
      exact ⟨(hA2.trans hA4).mono (by omega), hA4.1 _ _ hnap (hb2 _ _ hnap hna1), hv1.same (wo_but (hb2.trans hA4.1)), D, xs, ws, hDp, hD4, hr4.same wo_gm, by omega, hw, rfl⟩
  clear hA1 hna1 hv1
  rintro _ H1 ⟨hA1, hna1, hv1, ra, xs, rs, hrap, hra1, hrs1, hrl, hro, rfl⟩
  -- places
  refine ⟨fun σ' H' => Around1 H p (n + 700) H' ∧ RV (wo p H') w0 v ∧ H' ra = some (.lst xs) ∧ RVs (wo p H') rs xs ∧ ∃ (la : Addr) (es : List V) (gs : List G3), Ctx p la na (wo p H') w0 rs es gs zs ∧ σ' = nr p (some (.ref na)) (some v) (some (.ref ra)) (some (.ref la)) none none none none none none none none none, ?_, ?_⟩
  · refine ⟨_, rfl, _, rfl, wo p H1, v, ra, xs, w0, rs, rfl, wo_le, hv1, hra1, hrs1, hw0, hrl, hro, fun la es gs H2 hs2 hla0 hla he1 he60 hen => ?_⟩
    have hlap := hA1.2.ne hla0
    have hS := wo_same (p := p) hs2
    refine ⟨hA1.same hs2, hv1.same hS, hs2 _ _ hra1, hrs1.same hS, la, es, gs, ⟨wo_p, wo_at hlap hla, hen.same fun b o e => ?_, he1, he60, wo_at hnap (hs2 _ _ hna1), hz1, hz4, hnd, hzo, hw0, hrl, hro⟩, rfl⟩
    obtain ⟨_, c, e2⟩ := gm_is e
    refine wo_at (fun z => ?_) e2
    rcases c with c | ⟨o', c⟩
    · exact hA1.2.ne c z
    · rw [z, wo_p] at c
      cases c
  clear hA1 hna1 hv1 hra1 hrs1
  rintro _ H1 ⟨hA1, hv1, hra1, hrs1, la, es, gs, C1, rfl⟩
  -- last
  refine ⟨fun σ' H' => Around1 H p (n + 720) H' ∧ Same (wo p H1) (wo p H') ∧ ∃ (lv : V) (dl : D), RW (wo p H') dl lv ∧ DnOk dl ∧ σ' = nr p (some (.ref na)) (some v) (some (.ref ra)) (some (.ref la)) (some lv) none none none none none none none none, ?_, ?_⟩
  · refine ⟨_, rfl, _, rfl, _, rfl, p, la, na, wo p H1, w0, rs, es, gs, zs, n + 700, rfl, C1, wo_le, hA1.2, by omega, fun lv dl H2 hA2 hdo hrd => ?_⟩
    exact ⟨(hA1.trans hA2).mono (by omega), wo_but hA2.1, lv, dl, hrd.same wo_gm, hdo, rfl⟩
  rintro _ H2 ⟨hA2, hS2, lv, dl, hlv2, hdo, rfl⟩
  obtain ⟨q1, q2, q3, q4⟩ := reprOk hdo.1.lf (by decide) (Nat.le_trans hdo.2 (by decide))
  have C2 := C1.up wo_p hS2
  have hv2 := hv1.same hS2
  have hra2 : wo p H2 ra = some (.lst xs) := hS2 _ _ (wo_at hrap hra1)
  have hrs2 := hrs1.same hS2
  have hxl := hrs2.len
  clear hv1 hra1 hrs1 C1 hA1 hS2
  -- look, owed, answers
  refine ⟨fun σ' H' => Around1 H p (n + 730) H' ∧ Same (wo p H2) (wo p H') ∧ ∃ (kv : V) (l : Lk) (ow aw : Addr) (u : V) (e : Nat × D) (as : List V), RW (wo p H') (lkD l) kv ∧ wo p H' ow = some (.lst [.str (Str.ofString (errW e.1)), u, .bl false]) ∧ RW (wo p H') e.2 u ∧ wo p H' aw = some (.lst as) ∧ LkS l ∧ as.length ≤ 4 ∧ (∀ a ∈ as, AnV a) ∧ DOk 8 e.2 ∧ sz e.2 ≤ 200 ∧ Owe w0 rs l as e ∧
      σ' = nr p (some (.ref na)) (some v) (some (.ref ra)) (some (.ref la)) (some lv) (some kv) (some (.ref ow)) (some (.ref aw)) none none none none none, ?_, ?_⟩
  · refine ⟨_, rfl, _, rfl, _, rfl, _, rfl, ra, xs, rfl, .inl (SqL.of (wo_le _ _ hra2)), p, la, na, wo p H2, w0, rs, es, gs, zs, n + 720, by rw [hxl]; rfl, C2, wo_le, hA2.2, by omega, fun r ow aw kv u l as e H3 hA3 hr0 hr hkv how hu haw k1 k2 k3 k4 k5 k6 => ?_⟩
    refine ⟨r, _, rfl, SqL.of hr, rfl, _, _, rfl, _, _, rfl, _, _, rfl, rfl, ?_⟩
    exact ⟨(hA2.trans hA3).mono (by omega), wo_but hA3.1, kv, l, ow, aw, u, e, as, hkv.same wo_gm, wo_gm _ _ how, hu.same wo_gm, wo_gm _ _ haw, k1, k2, k3, k4, k5, k6, rfl⟩
  rintro _ H3 ⟨hA3, hS3, kv, l, ow, aw, u, e, as, hkv3, how3, hu3, haw3, hls, has4, hans, hd1, hd2, howe, rfl⟩
  have C3 := C2.up wo_p hS3
  have hv3 := hv2.same hS3
  have hra3 := hS3 _ _ hra2
  have hrs3 := hrs2.same hS3
  have hlv3 := hlv2.same hS3
  have hawp : aw ≠ p := (fun z => by rw [z, wo_p] at haw3; cases haw3)
  clear C2 hv2 hra2 hrs2 hlv2 hA2 hS3
  -- bad
  generalize hts : (as.map fun _ => Tr.fin dl) = ts
  have htl : as.length = ts.length := by rw [← hts, List.length_map]
  refine ⟨fun σ' H' => Around1 H p (n + 730) H' ∧ Same (wo p H3) (wo p H') ∧ ∃ bv : V, RW (wo p H') (trD (.look l as ts)) bv ∧ σ' = nr p (some (.ref na)) (some v) (some (.ref ra)) (some (.ref la)) (some lv) (some kv) (some (.ref ow)) (some (.ref aw)) (some bv) none none none none, ?_, ?_⟩
  · refine ⟨_, rfl, _, rfl, aw, rfl, ⟨_, SqL.of (wo_le _ _ haw3)⟩, fun D hD => ?_⟩
    have hDp := hA3.2.ne hD
    refine lc_list (K := K) (a := aw) (xs := as) (fun i H' => Same H3 H' ∧ ∃ vs : List V, H' D = some (.lst vs) ∧ RWs (wo D (wo p H')) ((as.take i).map fun a => wayD a (trD (.fin dl))) vs)
      ⟨same_new hD _, [], upd_same, rfl⟩ (fun i H' _ h => SqL.of (h.1 _ _ (wo_le _ _ haw3))) ?_ ?_
    · rintro i x H4 hi ⟨hs4, vs, hD4, hvs⟩
      have hxm := List.mem_of_getElem? hi
      have hil := (List.getElem?_eq_some_iff.mp hi).1
      refine ⟨rfl, ?_⟩
      unfold tYes
      refine iteT ?_
      refine ⟨_, rfl, _, rfl, by show 2 ≤ sizeLine; decide, fun q1 hq1 => ⟨by show 2 ≤ sizeLine; decide, fun q2 hq2 => ?_⟩⟩
      have s5 := same_new hq1 (.tup [V.str (Str.ofString "end"), lv])
      have s6 := same_new hq2 (.tup [x, V.ref q1])
      have s56 := s5.trans s6
      have hA4 := hA3.same hs4
      have hA5 := hA4.same s5
      have hvl := hvs.len
      rw [List.length_map, List.length_take] at hvl
      have nD : ∀ {b : Addr}, H4 b = none → b ≠ D := fun e z => by
        rw [z, hD4] at e
        cases e
      have hlv4 : RW (wo D (wo p H4)) dl lv := hlv3.same fun b o e => by
        have nb : b ≠ D := fun z => by
          rw [z] at e
          have := wo_le _ _ e
          rw [hD] at this
          cases this
        exact wo_at nb (wo_same hs4 _ _ e)
      have up : Same (wo D (wo p H4)) (wo D (wo p (upd (upd (upd H4 q1 (.tup [V.str (Str.ofString "end"), lv])) q2 (.tup [x, V.ref q1])) D (.lst (vs ++ [V.ref q2]))))) := fun b o e => by
        have e1 := wo_le _ _ e
        have nb : b ≠ D := fun z => by
          rw [z, wo_p] at e
          cases e
        have np : b ≠ p := fun z => by
          rw [z, wo_p] at e1
          cases e1
        refine wo_at nb (wo_at np ?_)
        rw [upd_ne nb]
        exact s56 _ _ (wo_le _ _ e1)
      refine ⟨vs, s56 _ _ hD4, Nat.lt_of_le_of_lt (show vs.length ≤ 1000 by omega) (by decide), same_put (hs4.trans s56) hD, _, upd_same, ?_⟩
      rw [List.take_add_one, hi, List.map_append]
      refine RWs.snoc (hvs.same up) ?_
      have n1 := nD hq1
      have n2 : q2 ≠ D := fun z => by
        rw [z, s5 _ _ hD4] at hq2
        cases hq2
      have g1 : (wo D (wo p (upd (upd (upd H4 q1 (.tup [V.str (Str.ofString "end"), lv])) q2 (.tup [x, V.ref q1])) D (.lst (vs ++ [V.ref q2]))))) q1 = some (.tup [V.str (Str.ofString "end"), lv]) := wo_at n1 (wo_at (hA4.2.ne hq1) (by rw [upd_ne n1]; exact s6 _ _ upd_same))
      have g2 : (wo D (wo p (upd (upd (upd H4 q1 (.tup [V.str (Str.ofString "end"), lv])) q2 (.tup [x, V.ref q1])) D (.lst (vs ++ [V.ref q2]))))) q2 = some (.tup [x, V.ref q1]) := wo_at n2 (wo_at (hA5.2.ne hq2) (by rw [upd_ne n2]; exact upd_same))
      exact ⟨q2, _, rfl, g2, _, _, rfl, ⟨rfl, (hans x hxm).1.leaf⟩, _, [], rfl, rw_tup2 g1 (hlv4.same up), rfl⟩
    · rintro H4 ⟨hs4, vs, hD4, hvs⟩
      rw [List.take_length] at hvs
      refine ⟨by show 3 ≤ sizeLine; decide, fun t ht => ?_⟩
      have s5 := same_new ht (.tup [V.str (Str.ofString "look"), kv, V.ref D])
      have sX := hs4.trans s5
      have g5 := wo_same (p := p) s5
      refine ⟨hA3.same sX, wo_same sX, _, ?_, rfl⟩
      rw [trD]
      refine ⟨t, _, rfl, wo_at ((hA3.same hs4).2.ne ht) upd_same, _, _, rfl, ⟨rfl, lf_str⟩, _, _, rfl, hkv3.same (wo_same sX), _, [], rfl, ⟨D, vs, rfl, wo_at hDp (s5 _ _ hD4), ?_⟩, rfl⟩
      rw [← hts, zw_fin]
      exact hvs.same (wo_le.trans g5)
  rintro _ H4 ⟨hA4, hS4, bv, hbv, rfl⟩
  have C4 := C3.up wo_p hS4
  have hv4 := hv3.same hS4
  have hra4 := hS4 _ _ hra3
  have hrs4 := hrs3.same hS4
  have hlv4 := hlv3.same hS4
  have hkv4 := hkv3.same hS4
  have how4 := hS4 _ _ how3
  have hu4 := hu3.same hS4
  clear C3 hv3 hra3 hrs3 hlv3 hkv3 how3 hu3 haw3 hA3 hS4
  have hMH : Same (wo p H4) H4 := wo_le
  have hMp : wo p H4 p = none := wo_p
  generalize wo p H4 = M at C4 hv4 hra4 hrs4 hlv4 hkv4 how4 hu4 hbv hMH hMp
  have hdl9 : DOk 9 (lkD l) := hls.2.1.up (by decide)
  -- coins
  refine ⟨fun σ' H' => Same H4 H' ∧ ∃ ca : Addr, H4 ca = none ∧ Purse H' ca (n + 730) ∧ σ' = nr p (some (.ref na)) (some v) (some (.ref ra)) (some (.ref la)) (some lv) (some kv) (some (.ref ow)) (some (.ref aw)) (some bv) (some (.ref ca)) none none none, ?_, ?_⟩
  · obtain ⟨pa, pb, pc, hpe, b0, b1, c0, c1⟩ := hA4.2
    exact ⟨_, rfl, p, _, rfl, .inl (SqL.of hpe), fun ca hca => ⟨same_new hca _, ca, hca, ⟨pa, pb, pc, upd_same, b0, b1, c0, c1⟩, rfl⟩⟩
  rintro _ H5 ⟨hs5, ca, hca, hpc5, rfl⟩
  have hcap : ca ≠ p := hA4.2.ne hca
  have hMca : M ca = none := hMH.free hca
  have hca0 : H ca = none := hA4.free hp hca
  have hA5 := hA4.same hs5
  have hM5 := hMH.trans hs5
  clear hA4 hs5
  -- wrong
  refine ⟨fun σ' H' => Around1 H p (n + 1230) H' ∧ Purse H' ca (n + 730) ∧ Same M H' ∧ ∃ (wv : V) (T1 : Tr), TrP w0 rs 4 (.look l as ts) T1 ∧ RW (wo ca (wo p H')) (trD T1) wv ∧ σ' = nr p (some (.ref na)) (some v) (some (.ref ra)) (some (.ref la)) (some lv) (some kv) (some (.ref ow)) (some (.ref aw)) (some bv) (some (.ref ca)) (some wv) none none, ?_, ?_⟩
  · refine ⟨_, rfl, _, rfl, _, rfl, _, rfl, by show 1 ≤ sizeLine; decide, fun ua hua => ⟨_, rfl, ?_⟩⟩
    have k1 := same_new hua (.lst [kv])
    have hA6 := hA5.same k1
    refine ⟨p, la, na, ua, bv, M, w0, rs, es, gs, zs, n + 730, 4, [lkD l], [kv], .look l as ts, rfl, C4, hM5.trans k1, hA6.2, hA5.2.ne hua, upd_same, ⟨_, [], rfl, hkv4, rfl⟩, (fun d hd => by rw [List.mem_singleton.mp hd]; exact hdl9), rfl, by decide, hbv, by omega, fun tv T1 H7 hA7 hT hrt => ?_⟩
    obtain ⟨co, hco⟩ := hpc5.some
    have hpc7 : Purse H7 ca (n + 730) := by
      obtain ⟨x1, x2, x3, e, r⟩ := hpc5
      exact ⟨x1, x2, x3, hA7.1 _ _ hcap (k1 _ _ e), r⟩
    exact ⟨(hA6.trans hA7).mono (by omega), hpc7, same_but (hM5.trans k1) hA7.1 hMp, tv, T1, hT, hrt.same (gm_wo2 ⟨co, k1 _ _ hco⟩ hMca), rfl⟩
  clear hA5 hM5 hpc5
  rintro _ H6 ⟨hA6, hpc6, hM6, wv, T1, hT1, hwv6, rfl⟩
  -- good
  refine ⟨fun σ' H' => But p H H' ∧ Same M H' ∧ RW H' (trD T1) wv ∧ ∃ (gv : V) (T2 : Tr), TrP w0 rs 4 (.fin dl) T2 ∧ RW H' (trD T2) gv ∧ σ' = nr p (some (.ref na)) (some v) (some (.ref ra)) (some (.ref la)) (some lv) (some kv) (some (.ref ow)) (some (.ref aw)) (some bv) (some (.ref ca)) (some wv) (some gv) none, ?_, ?_⟩
  · refine ⟨_, rfl, _, rfl, _, rfl, _, rfl, by show 1 ≤ sizeLine; decide, fun ua hua => ⟨_, rfl, by show 2 ≤ sizeLine; decide, fun q hq => ?_⟩⟩
    have k1 := same_new hua (.lst [kv])
    have k2 := same_new hq (.tup [V.str (Str.ofString "end"), lv])
    have k12 := k1.trans k2
    have hpc7 := hpc6.same k12
    have huca := hpc6.ne hua
    have hqca := (hpc6.same k1).ne hq
    have hMM : Same M (wo ca (upd (upd H6 ua (.lst [kv])) q (.tup [V.str (Str.ofString "end"), lv]))) := fun b o e => wo_at (fun z => by rw [z, hMca] at e; cases e) (k12 _ _ (hM6 _ _ e))
    have C7 : Ctx ca la na (wo ca (upd (upd H6 ua (.lst [kv])) q (.tup [V.str (Str.ofString "end"), lv]))) w0 rs es gs zs := ⟨wo_p, hMM _ _ C4.la, C4.en.same hMM, C4.e1, C4.e60, hMM _ _ C4.fa, C4.z1, C4.z4, C4.nd, C4.zl, C4.w0k, C4.rl, C4.rk⟩
    refine ⟨ca, la, na, ua, .ref q, _, w0, rs, es, gs, zs, n + 730, 4, [lkD l], [kv], .fin dl, rfl, C7, wo_le, hpc7, huca, k2 _ _ upd_same, ⟨_, [], rfl, hkv4.same hMM, rfl⟩, (fun d hd => by rw [List.mem_singleton.mp hd]; exact hdl9), rfl, by decide, ?_, by omega, fun tv T2 H8 hA8 hT hrt => ?_⟩
    · rw [trD]
      exact rw_tup2 (wo_at hqca upd_same) (hlv4.same hMM)
    · have hup : ∀ b o, b ≠ ca → H6 b = some o → H8 b = some o := fun b o nb e => hA8.1 _ _ nb (k12 _ _ e)
      refine ⟨fun b o nb e => ?_, fun b o e => ?_, hwv6.same fun b o e => ?_, tv, T2, hT, hrt.same gm_le, rfl⟩
      · exact hup b o (fun z => by rw [z, hca0] at e; cases e) (hA6.1 _ _ nb e)
      · exact hup b o (fun z => by rw [z, hMca] at e; cases e) (hM6 _ _ e)
      · have nb : b ≠ ca := fun z => by
          rw [z, wo_p] at e
          cases e
        exact hup b o nb (wo_le _ _ (wo_le _ _ e))
  clear hA6 hM6 hwv6 hpc6
  rintro _ H8 ⟨hb8, hM8, hwv8, gv, T2, hT2, hgv8, rfl⟩
  -- what the good tree tells
  have hfits := hdo.1.fits
  have good : ∀ {H9 : Hp} {Q' : VK}, Same H8 H9 → (∀ u H' G, Same H9 H' → Rep H' dl u G → Q' u H') → spWalkX K Cs [gv, v, .ref ra] H9 Q' E0 := fun {H9 Q'} hs k =>
    ⟨gv, v, ra, xs, w0, rs, T2, .fin dl, 4, rfl, hgv8.same hs, hv4.same (hM8.trans hs), hs _ _ (hM8 _ _ hra4), hrs4.same (hM8.trans hs), hT2.ld, .inl ⟨dl, 9, rfl, hfits, by decide, fun u H' G s2 hr _ => k u H' G s2 hr⟩⟩
  have bad : Bad w0 rs T1 e := by
    refine ⟨4, l, as, ts, hT1.ld, Nat.le_trans hls.1 (by decide), howe.1, ?_⟩
    rcases howe.2 with h | ⟨a, h1, h2, h3, h4, h5⟩
    · exact .inl h
    · exact .inr ⟨a, h1, h2, h3, h4, htl, h5⟩
  have b3 : (Str.ofString (errW e.1)).length ≤ 6 ∧ (Str.ofString (errW e.1)).cps.toList.all (fun c => decide (c < 128)) = true := by
    have h1 := howe.1.1
    have h3 := howe.1.2
    have c3 : e.1 = 1 ∨ e.1 = 2 ∨ e.1 = 3 := by omega
    rcases c3 with q | q | q <;> (rw [q]; exact ⟨by decide +kernel, by decide +kernel⟩)
  have dOw : DOk 9 (.lst [S (errW e.1), e.2, .leaf (.bl false)]) := by
    refine ⟨by show 3 ≤ 500; decide, fun d hd => ?_⟩
    rcases List.mem_cons.mp hd with rfl | hd
    · exact dok_S b3.2
    rcases List.mem_cons.mp hd with rfl | hd
    · exact hd1
    · rw [List.mem_singleton.mp hd]
      exact dok_leaf (.inr (.inl ⟨_, rfl⟩))
  have sOw : sz (.lst [S (errW e.1), e.2, .leaf (.bl false)]) ≤ 24000 := by
    show 1 + ((1 + (Str.ofString (errW e.1)).length) + (sz e.2 + (1 + 0))) ≤ 24000
    have := b3.1
    omega
  obtain ⟨o1, o2, o3, o4⟩ := reprOk dOw.lf (by decide) sOw
  have rOw : ∀ {H' : Hp} {r : Addr} {u' : V}, H' r = some (.lst [.str (Str.ofString (errW e.1)), u', .bl false]) → RW H' e.2 u' → RW H' (.lst [S (errW e.1), e.2, .leaf (.bl false)]) (.ref r) := fun h1 h2 =>
    ⟨_, _, rfl, h1, _, _, rfl, ⟨rfl, lf_str⟩, _, _, rfl, h2, _, [], rfl, ⟨rfl, .inr (.inl ⟨_, rfl⟩)⟩, rfl⟩
  -- the good tree, once
  refine ⟨fun σ' H' => Same H8 H' ∧ σ' = nr p (some (.ref na)) (some v) (some (.ref ra)) (some (.ref la)) (some lv) (some kv) (some (.ref ow)) (some (.ref aw)) (some bv) (some (.ref ca)) (some wv) (some gv) none, ?_, ?_⟩
  · refine ⟨_, rfl, _, rfl, _, rfl, good (Same.refl _) fun u' H9 G s9 hu' => ?_⟩
    exact ⟨u', toP dl, rfl, hu'.rw.dp, q1, q2, q3, q4, _, rfl, lv, toP dl, rfl, (hlv4.same (hM8.trans s9)).dp, q1, q2, q3, q4, rfl, _, rfl, ifF (by rw [decide_eq_true rfl]; rfl) ⟨s9, rfl⟩⟩
  rintro _ H9 ⟨hs9, rfl⟩
  -- the bad one, twice
  refine ⟨fun σ' H' => Same H8 H' ∧ ∃ v13 : Option V, σ' = nr p (some (.ref na)) (some v) (some (.ref ra)) (some (.ref la)) (some lv) (some kv) (some (.ref ow)) (some (.ref aw)) (some bv) (some (.ref ca)) (some wv) (some gv) v13, ?_, ?_⟩
  · refine ⟨2, rfl, by decide, by decide, ?_⟩
    refine for_range (lo := 0) (fun i σ' H' => Same H8 H' ∧ ∃ v13 : Option V, σ' = nr p (some (.ref na)) (some v) (some (.ref ra)) (some (.ref la)) (some lv) (some kv) (some (.ref ow)) (some (.ref aw)) (some bv) (some (.ref ca)) (some wv) (some gv) v13) ⟨hs9, _, rfl⟩ ?_ (fun σ' H' h => h)
    rintro i _ H10 hi ⟨hs10, v13, rfl⟩
    have hM10 := hM8.trans hs10
    refine ⟨_, rfl, _, rfl, _, rfl, wv, v, ra, xs, w0, rs, T1, e, rfl, hwv8.same hs10, hv4.same hM10, hM10 _ _ hra4, hrs4.same hM10, bad, fun l' u' H11 G s11 hl0 hl' hr' hlG hG => ?_⟩
    have hM11 := hM10.trans s11
    exact ⟨.ref l', _, rfl, (rOw hl' hr'.rw).dp, o1, o2, o3, o4, _, rfl, .ref ow, _, rfl, (rOw (hM11 _ _ how4) (hu4.same hM11)).dp, o1, o2, o3, o4, rfl, _, rfl, ifF (by rw [decide_eq_true rfl]; rfl) ⟨hs10.trans s11, _, rfl⟩⟩
  clear hs9
  rintro _ H12 ⟨hs12, v13, rfl⟩
  -- of the base's kind
  refine ⟨fun σ' H' => Same H8 H' ∧ σ' = nr p (some (.ref na)) (some v) (some (.ref ra)) (some (.ref la)) (some lv) (some kv) (some (.ref ow)) (some (.ref aw)) (some bv) (some (.ref ca)) (some wv) (some gv) v13, ?_, ?_⟩
  · have hM12 := hM8.trans hs12
    exact ⟨_, rfl, _, rfl, _, rfl, wv, v, ra, xs, w0, rs, T1, e, rfl, hwv8.same hs12, hv4.same hM12, hM12 _ _ hra4, hrs4.same hM12, bad, fun H13 s13 => ⟨true, rfl, hs12.trans s13, rfl⟩⟩
  clear hs12
  rintro _ H13 ⟨hs13, rfl⟩
  refine ⟨_, rfl, _, rfl, _, rfl, good hs13 fun u' H14 G s14 hu' => ?_⟩
  have s8 := hs13.trans s14
  refine ⟨u', toP dl, rfl, hu'.rw.dp, q1, q2, q3, q4, _, rfl, lv, toP dl, rfl, (hlv4.same (hM8.trans s8)).dp, q1, q2, q3, q4, rfl, ?_⟩
  rw [decide_eq_true rfl]
  exact kk H14 (hb8.trans (.of s8))
end
end K02
set_option Elab.async false
set_option linter.all false
set_option maxRecDepth 100000
set_option maxHeartbeats 2000000
/-! A law whose promise is one of FnG. -/
namespace L2
open PySem PySem.Spec PyProof.Rows
section
variable {P : Program} {w : World} {K : PySem.W.Frag} {mg mb : Str → Option Value} {k : Nat} {fa a : Addr} {fd : FuncData} {x : Str} {sp : Sp} {z : Shared} {vs : List Value} {ns : List Int}
/-- from a heap in which nothing but the script may be told of -/
theorem law_coreG (inK : K.In z.heap) (hns : z.heap.Ns mainGlobals mg) (hb : z.heap.Ns builtinsNs mb) (hbb : ∀ y : Str, y ≠ "__name__" → mb y = bootBuiltins y) (noL : z.heap.NoLimit) (ng : z.gens = #[])
    (ha : z.heap.get? a = some { cls := .type "list", data := .seq vs.toArray }) (hr : Room k callerA)
    (F : ∀ base : Heap, K.In base → base.Ns mainGlobals mg → FnG P w K mg base CX0 k fa fd [x] sp) (bd : ∀ (s : Shared) (u : Value), BindsTo s fd ⟨[u], []⟩ [(x, u)])
    (H : Hp) (only : Only H) (q0 : sp [.ref a] H (fun v _ => v = .bl true) fun _ _ _ => False) (ok : HOk P w H z.heap) (hA : ∀ b, H b ≠ none → b = a) (hK : H a ≠ none → K.lookup a = none) :
    codeAny (model P w) callerA (.call (.ref fa) ⟨[.ref a], []⟩) (fun r z2 => r = .ok (.ret (.bool true)) ∧ OldK z.heap z2.heap ∧ z2.os = z.os ∧ AllBare z2.gens) z := by
  have at0 : ∀ {b : Addr}, H b = none ∨ b = a := fun {b} => by
    cases q : H b with
    | none => exact .inl rfl
    | some u => exact .inr (hA b (by rw [q]; exact fun e => nomatch e))
  have stays : ∀ {b : Addr} {o : Obj}, z.heap.get? b = some o → H b = none → (hidT z.heap H).get? b = some o := fun e n => hidT_get e n
  have noDict : ∀ {b : Addr} {o : Obj} {es : Array DictEntry} {m : Nat}, z.heap.get? b = some o → o.data = .dict es m → H b = none := fun {b o es m} e d => by
    rcases at0 (b := b) with q | rfl
    · exact q
    · have e2 := Option.some.inj (ha.symm.trans e)
      subst e2
      exact nomatch (show Data.seq vs.toArray _ = Data.dict es m from d)
  have nsT : ∀ {b : Addr} {m : Str → Option Value}, z.heap.Ns b m → (hidT z.heap H).Ns b m := fun {b m} ⟨o, es, n, e, d, r⟩ => ⟨o, es, n, stays e (noDict e d), d, r⟩
  have inT : K.In (hidT z.heap H) := fun b o e => by
    refine stays (inK b o e) ?_
    rcases at0 (b := b) with q | rfl
    · exact q
    · cases q : H b with
      | none => rfl
      | some u =>
        rw [hK (by rw [q]; exact fun e => nomatch e)] at e
        exact nomatch e
  have md : Mod K mg (hidT z.heap H) := ⟨inT, nsT hns, ⟨mb, nsT hb, hbb⟩, noL.elim fun mc h => ⟨mc, nsT h.1, h.2⟩⟩
  have e0 : Env0 P w K mg (hidT z.heap H) callerA [] z H := ⟨rfl, md, fun _ _ e => of_hidT e, Nat.le_of_eq (hidT_size _ _), trivial, (fun b m => nomatch (show b ∈ ([] : List Addr) from m)), ok, .of_eq ng⟩
  refine codeAny_mono ((F _ inT (nsT hns)).run callerA [] z H ⟨[.ref a], []⟩ [.ref a] [.ref a] _ _ Free.caller hr e0 (bd z (.ref a)) (.cons rfl .nil) q0) fun r z2 h => ?_
  cases r with
  | error e =>
    obtain ⟨_, _, _, _, _, _, _, _, _, _, _, _, no⟩ := h
  | ok fl =>
    cases fl with
    | next => exact False.elim h
    | brk => exact False.elim h
    | cont => exact False.elim h
    | ret u =>
      obtain ⟨v, H2, os, bare, un, ok2, rr, hv⟩ := h
      have hv' : v = .bl true := hv
      subst hv'
      obtain rfl : u = Value.bool true := rr
      refine ⟨rfl, OldK.of_keep fun b o e => ?_, os, bare⟩
      cases q : H b with
      | none => exact un.keep b o e q (fun m => nomatch (show b ∈ ([] : List Addr) from m)) (by simp)
      | some u =>
        rcases only b with n | ⟨ob, xs, n⟩
        · rw [q] at n
          exact nomatch n
        · have e1 := (ok b _ n).1
          have e2 := (ok2 b _ (un.frzs b ob _ n)).1
          rw [e] at e1
          rw [Option.some.inj e1]
          exact e2
theorem law_callG (inK : K.In z.heap) (hns : z.heap.Ns mainGlobals mg) (hb : z.heap.Ns builtinsNs mb) (hbb : ∀ y : Str, y ≠ "__name__" → mb y = bootBuiltins y) (noL : z.heap.NoLimit) (ng : z.gens = #[])
    (ha : z.heap.get? a = some { cls := .type "list", data := .seq vs.toArray }) (hi : IntsAre vs ns) (hl : ns.length ≤ sizeLine) (hr : Room k callerA)
    (F : ∀ base : Heap, K.In base → base.Ns mainGlobals mg → FnG P w K mg base CX0 k fa fd [x] sp) (bd : ∀ (s : Shared) (u : Value), BindsTo s fd ⟨[u], []⟩ [(x, u)])
    (hsp : ∀ H : Hp, Only H → SqL K H a (ns.map V.int) → sp [.ref a] H (fun v _ => v = .bl true) fun _ _ _ => False) :
    codeAny (model P w) callerA (.call (.ref fa) ⟨[.ref a], []⟩) (fun r z2 => r = .ok (.ret (.bool true)) ∧ OldK z.heap z2.heap ∧ z2.os = z.os ∧ AllBare z2.gens) z := by
  have rv := vals_ints hi
  have lv := hi.length
  have go := law_coreG inK hns hb hbb noL ng ha hr F bd
  cases hk : K.lookup a with
  | some o =>
    have e := inK a o hk
    rw [ha] at e
    have e' := Option.some.inj e
    subst e'
    have on : Only fun _ => none := fun _ => .inl rfl
    exact go _ on (hsp _ on (.inr ⟨_, vs.toArray, _, hk, rfl, rfl, rfl, by rw [List.size_toArray, lv]; exact hl, by simpa using rv⟩)) (fun b u n => nomatch (show (none : Option HO) = some u from n)) (fun b n => absurd rfl n) fun n => absurd rfl n
  | none =>
    have on : Only fun b => if b = a then some (HO.frz { cls := .type "list", data := .seq vs.toArray } (.lst (ns.map V.int))) else none := fun b => by
      by_cases hb : b = a
      · exact .inr ⟨_, _, if_pos hb⟩
      · exact .inl (if_neg hb)
    refine go _ on (hsp _ on (.inl (.inr ⟨{ cls := .type "list", data := .seq vs.toArray }, if_pos rfl⟩))) (fun b u n => ?_) (fun b n => ?_) fun _ => hk
    · by_cases hb : b = a
      · have e := (if_pos hb).symm.trans n
        cases e
        subst hb
        exact ⟨ha, by rw [List.length_map]; exact hl, vs, _, rv, ha⟩
      · exact nomatch (if_neg hb).symm.trans n
    · by_cases hb : b = a
      · exact hb
      · exact absurd (if_neg hb) n
end
theorem walk_ofG {l : PySem.W.OpenLaw} {n k : Nat} {q : Program} {loose : List Str} {XP : (Str → Option Value) → Heap → Prop} {YP : World → Heap → Prop} {d : DefRec} {K : Params → PySem.W.Frag} {sp : World → Sp} {x : Str}
    (hn : l.most = some n) (hn2 : n ≤ sizeLine) (hdf : d.params.defaults = []) (hr : Room k callerA) (hY : ∀ (w : World) (h : Heap), YP w h → (K w.params).In h)
    (F : ∀ (w : World) (mg : Str → Option Value) (fa : Addr) (h : Heap), (K w.params).In h → h.Ns mainGlobals mg → mg d.name = some (.ref fa) →
      ∃ fd : FuncData, (∀ (s : Shared) (u : Value), BindsTo s fd ⟨[u], []⟩ [(x, u)]) ∧ ∀ base : Heap, (K w.params).In base → base.Ns mainGlobals mg → FnG l.prog w (K w.params) mg base CX0 k fa fd [x] (sp w))
    (hsp : ∀ (w : World) (H : Hp) (a : Addr) (ns : List Int), ns.length ≤ n → Only H → SqL (K w.params) H a (ns.map V.int) → sp w [.ref a] H (fun v _ => v = .bl true) fun _ _ _ => False) :
    PySem.W.WalkO q loose XP YP l.row.toRowW d [] (fun f vs => PySem.call f vs) := by
  refine Att.attach_call hn hdf fun w s₀ z mg mb fa o pm cd doc a vs ns G Y ho hd hcd hmg hobj hi hlen hg => ?_
  have inK := hY w _ Y
  obtain ⟨fd, hb, hF⟩ := F w mg fa _ inK G.T.g hmg
  exact law_callG inK G.T.g G.T.b G.T.builtins G.T.nolimit hg hobj hi (Nat.le_trans hlen hn2) hr hF hb fun H on hS => hsp w H a ns hlen on hS
end L2
set_option Elab.async false
set_option linter.all false
set_option maxRecDepth 100000
set_option maxHeartbeats 4000000
namespace K02
open PySem L2 PyProof.Rows
/-! ### the law -/
def spLaw (K : PySem.W.Frag) : Sp := fun vs H Q _ => ∃ (a : Addr) (ns : List Int), vs = [.ref a] ∧ SqL K H a (ns.map V.int) ∧ ns.length ≤ 63 ∧ ∀ H', Q (.bl true) H'
section
variable {P : Program} {w : World} {K : PySem.W.Frag} {mg : Str → Option Value} {base : Heap}
theorem sqL_same {H H1 : Hp} {a : Addr} {xs : List V} (h : SqL K H a xs) (e : Same H H1) : SqL K H1 a xs := by
  rcases h with (h | ⟨o, h⟩) | h
  · exact .inl (.inl (e _ _ h))
  · exact .inl (.inr ⟨o, e _ _ h⟩)
  · exact .inr h
theorem scL : FnScope ["script", "spot"] ["script"] (defScope sLaw) := ⟨rfl, rfl, rfl, by decide +kernel, rfl, by decide +kernel, by decide +kernel⟩
theorem ok_law {f fP fR : Addr} {fd fdP fdR : FuncData} (F : Fun K "law" "law" sLaw f fd) (T : Txt K mg) (GP : FnOk P w K mg base CX0 1 fP fdP ["script", "place"] (spPurse K)) (bP : Binds K fdP ["script", "place"] []) (mP : mg "_law_tr_sack" = some (.ref fP)) (kP : PySem.W.keepIn K (.ref fP) = true)
    (GR : FnG P w K mg base CX0 45 fR fdR ["sack"] spNoRight) (bR : Binds K fdR ["sack"] []) (mR : mg "_law_no_right" = some (.ref fR)) (kR : PySem.W.keepIn K (.ref fR) = true) : FnG P w K mg base CX0 46 f fd ["script"] (spLaw K) := by
  refine F.okG scL (fun vs H Q E h => ?_) (fun cdv A outer s H vs Q E fr hr h => ?_)
  · obtain ⟨a, ns, rfl, _⟩ := h
    rfl
  obtain ⟨a, ns, rfl, hS, hl, kk⟩ := h
  have hr1 : Room 1 (A.deeper (envOfC "law" (defScope sLaw) s.heap.objs.size f cdv)) := hr.mono (by decide)
  refine ⟨_, pss_cons (ps_for PassesOwn.never rfl (pi_range1 rfl T.range (pa_cons (pe_callB (call_max2 rfl) (by rfl) T.max boot_max (pa_cons pe_int (pa_cons (pe_callB (call_min2 rfl) (by rfl) T.min boot_min (pa_cons pe_int (pa_cons (pe_callB call_len_seq (by rfl) T.len PySem.boot_len (pa_cons (pv 0) pa_nil)) pa_nil))) pa_nil))) pa_nil)) (pg_name (i := 1) scL.nd rfl (Or.inl rfl))
      (pss_one (ps_if (pt_not (pt_val (pe_callG GR fr hr rfl mR kR bR pass0 (pa_cons (pe_call GP hr1 rfl mP kP bP .nil pass0 (pa_cons (pv 0) (pa_cons (pv 1) pa_nil))) pa_nil)))) pss_never pss_nil)))
    (pss_one (ps_ret pe_bl)), ?_⟩
  refine ⟨_, rfl, a, _, rfl, .inl hS, _, _, rfl, _, _, rfl, _, rfl, ?_, ?_, ?_⟩
  · split <;> split <;> omega
  · split <;> split <;> omega
  refine for_range (lo := 0) (fun i σ' H' => Same H H' ∧ ∃ v1 : Option V, σ' = [some (.ref a), v1]) ⟨Same.refl _, _, rfl⟩ ?_ ?_
  · rintro i σ' H1 hi ⟨hs1, v1, rfl⟩
    have hi6 : i ≤ 100 := by
      revert hi
      split <;> split <;> omega
    refine ⟨_, rfl, _, rfl, a, ns, i, by rw [Int.zero_add]; rfl, sqL_same hS hs1, hl, hi6, fun p H2 hp hs2 hpu => ?_⟩
    refine ⟨p, 0, rfl, hpu, by decide, fun H3 hb3 => ⟨true, rfl, ?_⟩⟩
    refine ⟨fun b o e => ?_, _, rfl⟩
    have e1 := hs1 b o e
    exact hb3 b o (ne_of_none e1 hp) (hs2 _ _ e1)
  · rintro σ' H1 _
    exact kk H1
end
end K02
set_option Elab.async false
set_option linter.all false
set_option maxRecDepth 100000
set_option maxHeartbeats 4000000
namespace K02
open PySem L2 PyProof.Rows
/-! ### what the classes say, as one word -/
def clsOne (K : PySem.W.Frag) (C fI : Addr) : Bool :=
  decide (PySem.W.findIn K (.ref C) "__setattr__" = some (some (.builtin "object.__setattr__"))) && (decide (PySem.W.subIn K (.ref C) (.type "BaseException") = some true) && (decide (PySem.W.typeIn K (.ref C) = some (.type "type")) &&
  (PySem.W.keepIn K (.ref C) && ((PySem.W.clsIn K C).isSome && (decide (PySem.W.findIn K (.ref C) "__getattribute__" = some (some (.builtin "BaseException.__getattribute__"))) && (decide (PySem.W.findIn K (.ref C) "__getattr__" = some none) &&
  (PySem.W.hasDictIn K C && (decide (PySem.W.findIn K (.ref C) "__class__" = some (some (.builtin "object.__class__"))) && (decide (PySem.W.specialIn K (.builtin "object.__class__") "__get__" = some (some (.builtin "getset_descriptor.__get__"))) &&
  (decide (PySem.W.takesIn K (.builtin "object.__class__") = some true) && (decide (PySem.W.mroIn K C (.type "object") = some true) && (decide (PySem.W.findIn K (.ref C) "__init__" = some (some (.ref fI))) &&
  (decide (PySem.W.findIn K (.ref C) "value" = some none) && decide (PySem.W.kitOne K (.ref C) (.type "ValueError") = some true))))))))))))))
def clsAll (K : PySem.W.Frag) (Cs : List Addr) (fI : Addr) : Bool :=
  ((List.range 4).all fun j => clsOne K (Cs.getD j 0) fI) && (((List.range 4).all fun i => (List.range 4).all fun j => decide (PySem.W.kitOne K (.ref (Cs.getD i 0)) (.ref (Cs.getD j 0)) = some (decide (j = 0 ∨ j = i)))) &&
    (List.range 4).all fun i => (List.range 4).all fun j => decide (PySem.W.exmOne K (.ref (Cs.getD i 0)) (.ref (Cs.getD j 0)) = some (decide (j = 0 ∨ j = i))))
theorem cls_of {K : PySem.W.Frag} {mg : Str → Option Value} {Cs : List Addr} {fI : Addr} (pk : clsAll K Cs fI = true) (tI : PySem.W.typeIn K (.ref fI) = some (.type "function")) (hm : ∀ j x, cNames[j]? = some x → mg x = some (.ref (Cs.getD j 0)))
    (hx : ∀ j, j < 4 → ∃ nm q N bs bm sn sub ab col dd k0 k1 k2 k3 k5, K.lookup (Cs.getD j 0) = some (excClassObj nm q (Cs.getD j 0) N bs bm true sn sub ab col dd k0 k1 k2 k3 k5 "ValueError.__new__") ∧ PySem.HandSPX.refsVE bm = true) :
    ECls K mg (fun j => Cs.getD j 0) fI := by
  obtain ⟨p1, p23⟩ := Bool.and_eq_true_iff.mp pk
  obtain ⟨p2, p3⟩ := Bool.and_eq_true_iff.mp p23
  have one : ∀ j, j < 4 → clsOne K (Cs.getD j 0) fI = true := fun j hj => List.all_eq_true.mp p1 j (List.mem_range.mpr hj)
  have two : ∀ i j, i < 4 → j < 4 → PySem.W.kitOne K (.ref (Cs.getD i 0)) (.ref (Cs.getD j 0)) = some (decide (j = 0 ∨ j = i)) := fun i j hi hj =>
    of_decide_eq_true (List.all_eq_true.mp (List.all_eq_true.mp p2 i (List.mem_range.mpr hi)) j (List.mem_range.mpr hj))
  have three : ∀ i j, i < 4 → j < 4 → PySem.W.exmOne K (.ref (Cs.getD i 0)) (.ref (Cs.getD j 0)) = some (decide (j = 0 ∨ j = i)) := fun i j hi hj =>
    of_decide_eq_true (List.all_eq_true.mp (List.all_eq_true.mp p3 i (List.mem_range.mpr hi)) j (List.mem_range.mpr hj))
  have each : ∀ j, j < 4 → OexC K (Cs.getD j 0) ∧ ExcW K (Cs.getD j 0) ∧ PySem.W.findIn K (.ref (Cs.getD j 0)) "__init__" = some (some (.ref fI)) ∧ PySem.W.findIn K (.ref (Cs.getD j 0)) "value" = some none ∧ PySem.W.kitOne K (.ref (Cs.getD j 0)) (.type "ValueError") = some true := fun j hj => by
    have h := one j hj
    unfold clsOne at h
    obtain ⟨h1, h⟩ := Bool.and_eq_true_iff.mp h
    obtain ⟨h2, h⟩ := Bool.and_eq_true_iff.mp h
    obtain ⟨h3, h⟩ := Bool.and_eq_true_iff.mp h
    obtain ⟨h4, h⟩ := Bool.and_eq_true_iff.mp h
    obtain ⟨h5, h⟩ := Bool.and_eq_true_iff.mp h
    obtain ⟨h6, h⟩ := Bool.and_eq_true_iff.mp h
    obtain ⟨h7, h⟩ := Bool.and_eq_true_iff.mp h
    obtain ⟨h8, h⟩ := Bool.and_eq_true_iff.mp h
    obtain ⟨h9, h⟩ := Bool.and_eq_true_iff.mp h
    obtain ⟨h10, h⟩ := Bool.and_eq_true_iff.mp h
    obtain ⟨h11, h⟩ := Bool.and_eq_true_iff.mp h
    obtain ⟨h12, h⟩ := Bool.and_eq_true_iff.mp h
    obtain ⟨h13, h⟩ := Bool.and_eq_true_iff.mp h
    obtain ⟨h14, h15⟩ := Bool.and_eq_true_iff.mp h
    exact ⟨⟨hx j hj, of_decide_eq_true h1, of_decide_eq_true h2, of_decide_eq_true h3, h4⟩, ⟨h5, of_decide_eq_true h6, of_decide_eq_true h7, of_decide_eq_true h2, h8, of_decide_eq_true h9, of_decide_eq_true h10, of_decide_eq_true h11, of_decide_eq_true h12⟩,
      of_decide_eq_true h13, of_decide_eq_true h14, of_decide_eq_true h15⟩
  exact ⟨hm, fun j hj => (each j hj).1, fun j hj => (each j hj).2.1, fun j hj => (each j hj).2.2.1, fun j hj => (each j hj).2.2.2.1, tI, two, fun j hj => (each j hj).2.2.2.2, three⟩
theorem all_mk {l : PySem.W.OpenLaw} {w : World} {K : PySem.W.Frag} {h : Heap} {mg : Str → Option Value} {fa : Addr} (X : K.In h) (G : h.Ns mainGlobals mg) (hfa : mg "law" = some (.ref fa))
    {aV bV' : Addr} {odV odW : Option Addr} {slV slW : Array (Option Value)} {nV nW : Nat} {tV tW : Tok} {f_fresh : Addr}
    {od_fresh an_fresh : Option Addr} {sl_fresh : Array (Option Value)} {oc_fresh kV_fresh dc_fresh pm_fresh cd_fresh ct_fresh : Value} {f_kindw : Addr} {od_kindw an_kindw : Option Addr} {sl_kindw : Array (Option Value)}
    {oc_kindw kV_kindw dc_kindw pm_kindw cd_kindw ct_kindw : Value} {f_resp : Addr} {od_resp an_resp : Option Addr} {sl_resp : Array (Option Value)} {oc_resp kV_resp dc_resp pm_resp cd_resp ct_resp : Value} {f_inpath : Addr}
    {od_inpath an_inpath : Option Addr} {sl_inpath : Array (Option Value)} {oc_inpath kV_inpath dc_inpath pm_inpath cd_inpath ct_inpath : Value} {f_inplace : Addr} {od_inplace an_inplace : Option Addr} {sl_inplace : Array (Option Value)}
    {oc_inplace kV_inplace dc_inplace pm_inplace cd_inplace ct_inplace : Value} {f_placeof : Addr} {od_placeof an_placeof : Option Addr} {sl_placeof : Array (Option Value)} {oc_placeof kV_placeof dc_placeof pm_placeof cd_placeof ct_placeof : Value} {f_lookof : Addr}
    {od_lookof an_lookof : Option Addr} {sl_lookof : Array (Option Value)} {oc_lookof kV_lookof dc_lookof pm_lookof cd_lookof ct_lookof : Value} {f_kind : Addr} {od_kind an_kind : Option Addr} {sl_kind : Array (Option Value)}
    {oc_kind kV_kind dc_kind pm_kind cd_kind ct_kind : Value} {f_walk : Addr} {od_walk an_walk : Option Addr} {sl_walk : Array (Option Value)} {oc_walk kV_walk dc_walk pm_walk cd_walk ct_walk : Value} {f_ansat : Addr}
    {od_ansat an_ansat : Option Addr} {sl_ansat : Array (Option Value)} {oc_ansat kV_ansat dc_ansat pm_ansat cd_ansat ct_ansat : Value} {f_found : Addr} {od_found an_found : Option Addr} {sl_found : Array (Option Value)}
    {oc_found kV_found dc_found pm_found cd_found ct_found : Value} {f_haskey : Addr} {od_haskey an_haskey : Option Addr} {sl_haskey : Array (Option Value)} {oc_haskey kV_haskey dc_haskey pm_haskey cd_haskey ct_haskey : Value} {f_wayw : Addr}
    {od_wayw an_wayw : Option Addr} {sl_wayw : Array (Option Value)} {oc_wayw kV_wayw dc_wayw pm_wayw cd_wayw ct_wayw : Value} {f_coin : Addr} {od_coin an_coin : Option Addr} {sl_coin : Array (Option Value)}
    {oc_coin kV_coin dc_coin pm_coin cd_coin ct_coin : Value} {f_places : Addr} {od_places an_places : Option Addr} {sl_places : Array (Option Value)} {oc_places kV_places dc_places pm_places cd_places ct_places : Value} {f_look : Addr}
    {od_look an_look : Option Addr} {sl_look : Array (Option Value)} {oc_look kV_look dc_look pm_look cd_look ct_look : Value} {f_done : Addr} {od_done an_done : Option Addr} {sl_done : Array (Option Value)}
    {oc_done kV_done dc_done pm_done cd_done ct_done : Value} {f_tree : Addr} {od_tree an_tree : Option Addr} {sl_tree : Array (Option Value)} {oc_tree kV_tree dc_tree pm_tree cd_tree ct_tree : Value} {f_thing : Addr}
    {od_thing an_thing : Option Addr} {sl_thing : Array (Option Value)} {oc_thing kV_thing dc_thing pm_thing cd_thing ct_thing : Value} {f_pick : Addr} {od_pick an_pick : Option Addr} {sl_pick : Array (Option Value)}
    {oc_pick kV_pick dc_pick pm_pick cd_pick ct_pick : Value} {f_words : Addr} {od_words an_words : Option Addr} {sl_words : Array (Option Value)} {oc_words kV_words dc_words pm_words cd_words ct_words : Value} {f_sack : Addr}
    {od_sack an_sack : Option Addr} {sl_sack : Array (Option Value)} {oc_sack kV_sack dc_sack pm_sack cd_sack ct_sack : Value} {f_nowalk : Addr} {od_nowalk an_nowalk : Option Addr} {sl_nowalk : Array (Option Value)}
    {oc_nowalk kV_nowalk dc_nowalk pm_nowalk cd_nowalk ct_nowalk : Value} {f_nobase : Addr} {od_nobase an_nobase : Option Addr} {sl_nobase : Array (Option Value)} {oc_nobase kV_nobase dc_nobase pm_nobase cd_nobase ct_nobase : Value} {f_nolook : Addr}
    {od_nolook an_nolook : Option Addr} {sl_nolook : Array (Option Value)} {oc_nolook kV_nolook dc_nolook pm_nolook cd_nolook ct_nolook : Value} {f_right : Addr} {od_right an_right : Option Addr} {sl_right : Array (Option Value)}
    {oc_right kV_right dc_right pm_right cd_right ct_right : Value} {f_law : Addr} {od_law an_law : Option Addr} {sl_law : Array (Option Value)} {oc_law kV_law dc_law pm_law cd_law ct_law : Value} {f_tinit : Addr}
    {od_tinit an_tinit : Option Addr} {sl_tinit : Array (Option Value)} {oc_tinit kV_tinit dc_tinit pm_tinit cd_tinit ct_tinit : Value} {C0 N0 : Addr} {nm0 q0 : Str} {bs0 sub0 : List Value}
    {sn0 : List Str} {ab0 : Bool} {col0 : Option Bool} {dd0 : Option Addr} {x00 x01 x02 x03 x05 : Option Value} {C1 N1 : Addr}
    {nm1 q1 : Str} {bs1 sub1 : List Value} {sn1 : List Str} {ab1 : Bool} {col1 : Option Bool} {dd1 : Option Addr}
    {x10 x11 x12 x13 x15 : Option Value} {C2 N2 : Addr} {nm2 q2 : Str} {bs2 sub2 : List Value} {sn2 : List Str} {ab2 : Bool}
    {col2 : Option Bool} {dd2 : Option Addr} {x20 x21 x22 x23 x25 : Option Value} {C3 N3 : Addr} {nm3 q3 : Str} {bs3 sub3 : List Value}
    {sn3 : List Str} {ab3 : Bool} {col3 : Option Bool} {dd3 : Option Addr} {x30 x31 x32 x33 x35 : Option Value}
    (aC0 : PySem.W.nsIn K mainGlobals "TakeError" = some (some (.ref C0)))
    (aC1 : PySem.W.nsIn K mainGlobals "InvalidAnswer" = some (some (.ref C1)))
    (aC2 : PySem.W.nsIn K mainGlobals "UnknownPlace" = some (some (.ref C2)))
    (aC3 : PySem.W.nsIn K mainGlobals "TakeEnded" = some (some (.ref C3)))
    (xL0 : K.lookup C0 = some (excClassObj nm0 q0 C0 N0 bs0 [.type "ValueError", .type "Exception", .type "BaseException", .type "object"] true sn0 sub0 ab0 col0 dd0 x00 x01 x02 x03 x05 "ValueError.__new__"))
    (xL1 : K.lookup C1 = some (excClassObj nm1 q1 C1 N1 bs1 [.ref C0, .type "ValueError", .type "Exception", .type "BaseException", .type "object"] true sn1 sub1 ab1 col1 dd1 x10 x11 x12 x13 x15 "ValueError.__new__"))
    (xL2 : K.lookup C2 = some (excClassObj nm2 q2 C2 N2 bs2 [.ref C0, .type "ValueError", .type "Exception", .type "BaseException", .type "object"] true sn2 sub2 ab2 col2 dd2 x20 x21 x22 x23 x25 "ValueError.__new__"))
    (xL3 : K.lookup C3 = some (excClassObj nm3 q3 C3 N3 bs3 [.ref C0, .type "ValueError", .type "Exception", .type "BaseException", .type "object"] true sn3 sub3 ab3 col3 dd3 x30 x31 x32 x33 x35 "ValueError.__new__"))
    (aI : PySem.W.findIn K (.ref C0) "__init__" = some (some (.ref f_tinit)))
    (tI : PySem.W.typeIn K (.ref f_tinit) = some (.type "function"))
    (a_fresh : PySem.W.nsIn K mainGlobals "fresh" = some (some (.ref f_fresh)))
    (l_fresh : K.lookup f_fresh = some ⟨oc_fresh, od_fresh, .func (PySem.W.fnOf "fresh" "fresh" (defArgs sFresh) (defBody sFresh) (defScope sFresh) .none kV_fresh dc_fresh pm_fresh an_fresh cd_fresh ct_fresh), sl_fresh⟩)
    (c_fresh : PySem.W.codeIn K cd_fresh "fresh" = true)
    (k_fresh : PySem.W.keepIn K (.ref f_fresh) = true)
    (a_kindw : PySem.W.nsIn K mainGlobals "kind_with" = some (some (.ref f_kindw)))
    (l_kindw : K.lookup f_kindw = some ⟨oc_kindw, od_kindw, .func (PySem.W.fnOf "kind_with" "kind_with" (defArgs sKindW) (defBody sKindW) (defScope sKindW) .none kV_kindw dc_kindw pm_kindw an_kindw cd_kindw ct_kindw), sl_kindw⟩)
    (c_kindw : PySem.W.codeIn K cd_kindw "kind_with" = true)
    (k_kindw : PySem.W.keepIn K (.ref f_kindw) = true)
    (a_resp : PySem.W.nsIn K mainGlobals "result_place" = some (some (.ref f_resp)))
    (l_resp : K.lookup f_resp = some ⟨oc_resp, od_resp, .func (PySem.W.fnOf "result_place" "result_place" (defArgs sResP) (defBody sResP) (defScope sResP) .none kV_resp dc_resp pm_resp an_resp cd_resp ct_resp), sl_resp⟩)
    (c_resp : PySem.W.codeIn K cd_resp "result_place" = true)
    (k_resp : PySem.W.keepIn K (.ref f_resp) = true)
    (a_inpath : PySem.W.nsIn K mainGlobals "inner_path" = some (some (.ref f_inpath)))
    (l_inpath : K.lookup f_inpath = some ⟨oc_inpath, od_inpath, .func (PySem.W.fnOf "inner_path" "inner_path" (defArgs sInPath) (defBody sInPath) (defScope sInPath) .none kV_inpath dc_inpath pm_inpath an_inpath cd_inpath ct_inpath), sl_inpath⟩)
    (c_inpath : PySem.W.codeIn K cd_inpath "inner_path" = true)
    (k_inpath : PySem.W.keepIn K (.ref f_inpath) = true)
    (a_inplace : PySem.W.nsIn K mainGlobals "inner_place" = some (some (.ref f_inplace)))
    (l_inplace : K.lookup f_inplace = some ⟨oc_inplace, od_inplace, .func (PySem.W.fnOf "inner_place" "inner_place" (defArgs sInPlace) (defBody sInPlace) (defScope sInPlace) .none kV_inplace dc_inplace pm_inplace an_inplace cd_inplace ct_inplace), sl_inplace⟩)
    (c_inplace : PySem.W.codeIn K cd_inplace "inner_place" = true)
    (k_inplace : PySem.W.keepIn K (.ref f_inplace) = true)
    (a_placeof : PySem.W.nsIn K mainGlobals "place_of" = some (some (.ref f_placeof)))
    (l_placeof : K.lookup f_placeof = some ⟨oc_placeof, od_placeof, .func (PySem.W.fnOf "place_of" "place_of" (defArgs sPlaceOf) (defBody sPlaceOf) (defScope sPlaceOf) .none kV_placeof dc_placeof pm_placeof an_placeof cd_placeof ct_placeof), sl_placeof⟩)
    (c_placeof : PySem.W.codeIn K cd_placeof "place_of" = true)
    (k_placeof : PySem.W.keepIn K (.ref f_placeof) = true)
    (a_lookof : PySem.W.nsIn K mainGlobals "look_of" = some (some (.ref f_lookof)))
    (l_lookof : K.lookup f_lookof = some ⟨oc_lookof, od_lookof, .func (PySem.W.fnOf "look_of" "look_of" (defArgs sLookOf) (defBody sLookOf) (defScope sLookOf) .none kV_lookof dc_lookof pm_lookof an_lookof cd_lookof ct_lookof), sl_lookof⟩)
    (c_lookof : PySem.W.codeIn K cd_lookof "look_of" = true)
    (k_lookof : PySem.W.keepIn K (.ref f_lookof) = true)
    (a_kind : PySem.W.nsIn K mainGlobals "kind_of" = some (some (.ref f_kind)))
    (l_kind : K.lookup f_kind = some ⟨oc_kind, od_kind, .func (PySem.W.fnOf "kind_of" "kind_of" (defArgs sKindOf) (defBody sKindOf) (defScope sKindOf) .none kV_kind dc_kind pm_kind an_kind cd_kind ct_kind), sl_kind⟩)
    (c_kind : PySem.W.codeIn K cd_kind "kind_of" = true)
    (k_kind : PySem.W.keepIn K (.ref f_kind) = true)
    (a_walk : PySem.W.nsIn K mainGlobals "walk" = some (some (.ref f_walk)))
    (l_walk : K.lookup f_walk = some ⟨oc_walk, od_walk, .func (PySem.W.fnOf "walk" "walk" (defArgs sWalk) (defBody sWalk) (defScope sWalk) .none kV_walk dc_walk pm_walk an_walk cd_walk ct_walk), sl_walk⟩)
    (c_walk : PySem.W.codeIn K cd_walk "walk" = true)
    (k_walk : PySem.W.keepIn K (.ref f_walk) = true)
    (a_ansat : PySem.W.nsIn K mainGlobals "answer_at" = some (some (.ref f_ansat)))
    (l_ansat : K.lookup f_ansat = some ⟨oc_ansat, od_ansat, .func (PySem.W.fnOf "answer_at" "answer_at" (defArgs sAnsAt) (defBody sAnsAt) (defScope sAnsAt) .none kV_ansat dc_ansat pm_ansat an_ansat cd_ansat ct_ansat), sl_ansat⟩)
    (c_ansat : PySem.W.codeIn K cd_ansat "answer_at" = true)
    (k_ansat : PySem.W.keepIn K (.ref f_ansat) = true)
    (a_found : PySem.W.nsIn K mainGlobals "found_at" = some (some (.ref f_found)))
    (l_found : K.lookup f_found = some ⟨oc_found, od_found, .func (PySem.W.fnOf "found_at" "found_at" (defArgs sFoundAt) (defBody sFoundAt) (defScope sFoundAt) .none kV_found dc_found pm_found an_found cd_found ct_found), sl_found⟩)
    (c_found : PySem.W.codeIn K cd_found "found_at" = true)
    (k_found : PySem.W.keepIn K (.ref f_found) = true)
    (a_haskey : PySem.W.nsIn K mainGlobals "has_key" = some (some (.ref f_haskey)))
    (l_haskey : K.lookup f_haskey = some ⟨oc_haskey, od_haskey, .func (PySem.W.fnOf "has_key" "has_key" (defArgs sHasKey) (defBody sHasKey) (defScope sHasKey) .none kV_haskey dc_haskey pm_haskey an_haskey cd_haskey ct_haskey), sl_haskey⟩)
    (c_haskey : PySem.W.codeIn K cd_haskey "has_key" = true)
    (k_haskey : PySem.W.keepIn K (.ref f_haskey) = true)
    (a_wayw : PySem.W.nsIn K mainGlobals "way_with" = some (some (.ref f_wayw)))
    (l_wayw : K.lookup f_wayw = some ⟨oc_wayw, od_wayw, .func (PySem.W.fnOf "way_with" "way_with" (defArgs sWayW) (defBody sWayW) (defScope sWayW) .none kV_wayw dc_wayw pm_wayw an_wayw cd_wayw ct_wayw), sl_wayw⟩)
    (c_wayw : PySem.W.codeIn K cd_wayw "way_with" = true)
    (k_wayw : PySem.W.keepIn K (.ref f_wayw) = true)
    (a_coin : PySem.W.nsIn K mainGlobals "_law_coin" = some (some (.ref f_coin)))
    (l_coin : K.lookup f_coin = some ⟨oc_coin, od_coin, .func (PySem.W.fnOf "_law_coin" "_law_coin" (defArgs sCoin) (defBody sCoin) (defScope sCoin) .none kV_coin dc_coin pm_coin an_coin cd_coin ct_coin), sl_coin⟩)
    (c_coin : PySem.W.codeIn K cd_coin "_law_coin" = true)
    (k_coin : PySem.W.keepIn K (.ref f_coin) = true)
    (a_places : PySem.W.nsIn K mainGlobals "_law_wk_places" = some (some (.ref f_places)))
    (l_places : K.lookup f_places = some ⟨oc_places, od_places, .func (PySem.W.fnOf "_law_wk_places" "_law_wk_places" (defArgs sWkPlaces) (defBody sWkPlaces) (defScope sWkPlaces) .none kV_places dc_places pm_places an_places cd_places ct_places), sl_places⟩)
    (c_places : PySem.W.codeIn K cd_places "_law_wk_places" = true)
    (k_places : PySem.W.keepIn K (.ref f_places) = true)
    (a_look : PySem.W.nsIn K mainGlobals "_law_wk_look" = some (some (.ref f_look)))
    (l_look : K.lookup f_look = some ⟨oc_look, od_look, .func (PySem.W.fnOf "_law_wk_look" "_law_wk_look" (defArgs sWkLook) (defBody sWkLook) (defScope sWkLook) .none kV_look dc_look pm_look an_look cd_look ct_look), sl_look⟩)
    (c_look : PySem.W.codeIn K cd_look "_law_wk_look" = true)
    (k_look : PySem.W.keepIn K (.ref f_look) = true)
    (a_done : PySem.W.nsIn K mainGlobals "_law_wk_done" = some (some (.ref f_done)))
    (l_done : K.lookup f_done = some ⟨oc_done, od_done, .func (PySem.W.fnOf "_law_wk_done" "_law_wk_done" (defArgs sWkDone) (defBody sWkDone) (defScope sWkDone) .none kV_done dc_done pm_done an_done cd_done ct_done), sl_done⟩)
    (c_done : PySem.W.codeIn K cd_done "_law_wk_done" = true)
    (k_done : PySem.W.keepIn K (.ref f_done) = true)
    (a_tree : PySem.W.nsIn K mainGlobals "_law_wk_tree" = some (some (.ref f_tree)))
    (l_tree : K.lookup f_tree = some ⟨oc_tree, od_tree, .func (PySem.W.fnOf "_law_wk_tree" "_law_wk_tree" (defArgs sWkTree) (defBody sWkTree) (defScope sWkTree) .none kV_tree dc_tree pm_tree an_tree cd_tree ct_tree), sl_tree⟩)
    (c_tree : PySem.W.codeIn K cd_tree "_law_wk_tree" = true)
    (k_tree : PySem.W.keepIn K (.ref f_tree) = true)
    (a_thing : PySem.W.nsIn K mainGlobals "_law_wk_thing" = some (some (.ref f_thing)))
    (l_thing : K.lookup f_thing = some ⟨oc_thing, od_thing, .func (PySem.W.fnOf "_law_wk_thing" "_law_wk_thing" (defArgs sWkThing) (defBody sWkThing) (defScope sWkThing) .none kV_thing dc_thing pm_thing an_thing cd_thing ct_thing), sl_thing⟩)
    (c_thing : PySem.W.codeIn K cd_thing "_law_wk_thing" = true)
    (k_thing : PySem.W.keepIn K (.ref f_thing) = true)
    (a_pick : PySem.W.nsIn K mainGlobals "_law_tr_pick" = some (some (.ref f_pick)))
    (l_pick : K.lookup f_pick = some ⟨oc_pick, od_pick, .func (PySem.W.fnOf "_law_tr_pick" "_law_tr_pick" (defArgs sPick) (defBody sPick) (defScope sPick) .none kV_pick dc_pick pm_pick an_pick cd_pick ct_pick), sl_pick⟩)
    (c_pick : PySem.W.codeIn K cd_pick "_law_tr_pick" = true)
    (k_pick : PySem.W.keepIn K (.ref f_pick) = true)
    (a_words : PySem.W.nsIn K mainGlobals "_law_tr_words" = some (some (.ref f_words)))
    (l_words : K.lookup f_words = some ⟨oc_words, od_words, .func (PySem.W.fnOf "_law_tr_words" "_law_tr_words" (defArgs sWords) (defBody sWords) (defScope sWords) .none kV_words dc_words pm_words an_words cd_words ct_words), sl_words⟩)
    (c_words : PySem.W.codeIn K cd_words "_law_tr_words" = true)
    (k_words : PySem.W.keepIn K (.ref f_words) = true)
    (a_sack : PySem.W.nsIn K mainGlobals "_law_tr_sack" = some (some (.ref f_sack)))
    (l_sack : K.lookup f_sack = some ⟨oc_sack, od_sack, .func (PySem.W.fnOf "_law_tr_sack" "_law_tr_sack" (defArgs sSack) (defBody sSack) (defScope sSack) .none kV_sack dc_sack pm_sack an_sack cd_sack ct_sack), sl_sack⟩)
    (c_sack : PySem.W.codeIn K cd_sack "_law_tr_sack" = true)
    (k_sack : PySem.W.keepIn K (.ref f_sack) = true)
    (a_nowalk : PySem.W.nsIn K mainGlobals "_law_no_walk" = some (some (.ref f_nowalk)))
    (l_nowalk : K.lookup f_nowalk = some ⟨oc_nowalk, od_nowalk, .func (PySem.W.fnOf "_law_no_walk" "_law_no_walk" (defArgs sNoWalk) (defBody sNoWalk) (defScope sNoWalk) .none kV_nowalk dc_nowalk pm_nowalk an_nowalk cd_nowalk ct_nowalk), sl_nowalk⟩)
    (c_nowalk : PySem.W.codeIn K cd_nowalk "_law_no_walk" = true)
    (k_nowalk : PySem.W.keepIn K (.ref f_nowalk) = true)
    (a_nobase : PySem.W.nsIn K mainGlobals "_law_no_base" = some (some (.ref f_nobase)))
    (l_nobase : K.lookup f_nobase = some ⟨oc_nobase, od_nobase, .func (PySem.W.fnOf "_law_no_base" "_law_no_base" (defArgs sNoBase) (defBody sNoBase) (defScope sNoBase) .none kV_nobase dc_nobase pm_nobase an_nobase cd_nobase ct_nobase), sl_nobase⟩)
    (c_nobase : PySem.W.codeIn K cd_nobase "_law_no_base" = true)
    (k_nobase : PySem.W.keepIn K (.ref f_nobase) = true)
    (a_nolook : PySem.W.nsIn K mainGlobals "_law_no_look" = some (some (.ref f_nolook)))
    (l_nolook : K.lookup f_nolook = some ⟨oc_nolook, od_nolook, .func (PySem.W.fnOf "_law_no_look" "_law_no_look" (defArgs sNoLook) (defBody sNoLook) (defScope sNoLook) .none kV_nolook dc_nolook pm_nolook an_nolook cd_nolook ct_nolook), sl_nolook⟩)
    (c_nolook : PySem.W.codeIn K cd_nolook "_law_no_look" = true)
    (k_nolook : PySem.W.keepIn K (.ref f_nolook) = true)
    (a_right : PySem.W.nsIn K mainGlobals "_law_no_right" = some (some (.ref f_right)))
    (l_right : K.lookup f_right = some ⟨oc_right, od_right, .func (PySem.W.fnOf "_law_no_right" "_law_no_right" (defArgs sNoRight) (defBody sNoRight) (defScope sNoRight) .none kV_right dc_right pm_right an_right cd_right ct_right), sl_right⟩)
    (c_right : PySem.W.codeIn K cd_right "_law_no_right" = true)
    (k_right : PySem.W.keepIn K (.ref f_right) = true)
    (a_law : PySem.W.nsIn K mainGlobals "law" = some (some (.ref f_law)))
    (l_law : K.lookup f_law = some ⟨oc_law, od_law, .func (PySem.W.fnOf "law" "law" (defArgs sLaw) (defBody sLaw) (defScope sLaw) .none kV_law dc_law pm_law an_law cd_law ct_law), sl_law⟩)
    (c_law : PySem.W.codeIn K cd_law "law" = true)
    (k_law : PySem.W.keepIn K (.ref f_law) = true)
    (l_tinit : K.lookup f_tinit = some ⟨oc_tinit, od_tinit, .func (PySem.W.fnOf "__init__" "TakeError.__init__" (defArgs sTInit) (defBody sTInit) (defScope sTInit) .none kV_tinit dc_tinit pm_tinit an_tinit cd_tinit ct_tinit), sl_tinit⟩)
    (c_tinit : PySem.W.codeIn K cd_tinit "TakeError.__init__" = true)
    (k_tinit : PySem.W.keepIn K (.ref f_tinit) = true)
    (aVal : PySem.W.nsIn K mainGlobals "VALUE" = some (some (.ref aV)))
    (lV : K.lookup aV = some ⟨.type "tuple", odV, .seq #[.str (Str.ofString "at") tV, .ref bV'] nV, slV⟩)
    (lW : K.lookup bV' = some ⟨.type "tuple", odW, .seq #[.str (Str.ofString "value") tW] nW, slW⟩)
    (z_len : PySem.W.nsIn K mainGlobals "len" = some none)
    (z_max : PySem.W.nsIn K mainGlobals "max" = some none)
    (z_min : PySem.W.nsIn K mainGlobals "min" = some none)
    (z_abs : PySem.W.nsIn K mainGlobals "abs" = some none)
    (z_int : PySem.W.nsIn K mainGlobals "int" = some none)
    (z_range : PySem.W.nsIn K mainGlobals "range" = some none)
    (z_set : PySem.W.nsIn K mainGlobals "set" = some none)
    (z_list : PySem.W.nsIn K mainGlobals "list" = some none)
    (z_tuple : PySem.W.nsIn K mainGlobals "tuple" = some none)
    (z_all : PySem.W.nsIn K mainGlobals "all" = some none)
    (z_repr : PySem.W.nsIn K mainGlobals "repr" = some none)
    (z_isinstance : PySem.W.nsIn K mainGlobals "isinstance" = some none)
    (z_dict : PySem.W.nsIn K mainGlobals "dict" = some none)
    (z_bool : PySem.W.nsIn K mainGlobals "bool" = some none)
    (z_str : PySem.W.nsIn K mainGlobals "str" = some none)
    (z_sum : PySem.W.nsIn K mainGlobals "sum" = some none)
    (z_enumerate : PySem.W.nsIn K mainGlobals "enumerate" = some none)
    (z_sorted : PySem.W.nsIn K mainGlobals "sorted" = some none)
    (z_ValueError : PySem.W.nsIn K mainGlobals "ValueError" = some none)
    (pk : clsAll K [C0, C1, C2, C3] f_tinit = true)
    : ∃ fd : FuncData, (∀ (s : Shared) (v : Value), BindsTo s fd ⟨[v], []⟩ [("script", v)]) ∧ ∀ base : Heap, K.In base → base.Ns mainGlobals mg → FnG l.prog w K mg base CX0 46 fa fd ["script"] (spLaw K) := by
  have e := hfa.symm.trans (PySem.W.mg_of X G a_law)
  cases e
  have m_fresh := PySem.W.mg_of X G a_fresh
  have m_kindw := PySem.W.mg_of X G a_kindw
  have m_resp := PySem.W.mg_of X G a_resp
  have m_inpath := PySem.W.mg_of X G a_inpath
  have m_inplace := PySem.W.mg_of X G a_inplace
  have m_placeof := PySem.W.mg_of X G a_placeof
  have m_lookof := PySem.W.mg_of X G a_lookof
  have m_kind := PySem.W.mg_of X G a_kind
  have m_walk := PySem.W.mg_of X G a_walk
  have m_ansat := PySem.W.mg_of X G a_ansat
  have m_found := PySem.W.mg_of X G a_found
  have m_haskey := PySem.W.mg_of X G a_haskey
  have m_wayw := PySem.W.mg_of X G a_wayw
  have m_coin := PySem.W.mg_of X G a_coin
  have m_places := PySem.W.mg_of X G a_places
  have m_look := PySem.W.mg_of X G a_look
  have m_done := PySem.W.mg_of X G a_done
  have m_tree := PySem.W.mg_of X G a_tree
  have m_thing := PySem.W.mg_of X G a_thing
  have m_pick := PySem.W.mg_of X G a_pick
  have m_words := PySem.W.mg_of X G a_words
  have m_sack := PySem.W.mg_of X G a_sack
  have m_nowalk := PySem.W.mg_of X G a_nowalk
  have m_nobase := PySem.W.mg_of X G a_nobase
  have m_nolook := PySem.W.mg_of X G a_nolook
  have m_right := PySem.W.mg_of X G a_right
  have m_law := PySem.W.mg_of X G a_law
  have y_len := PySem.W.mg_none_of X G z_len
  have y_max := PySem.W.mg_none_of X G z_max
  have y_min := PySem.W.mg_none_of X G z_min
  have y_abs := PySem.W.mg_none_of X G z_abs
  have y_int := PySem.W.mg_none_of X G z_int
  have y_range := PySem.W.mg_none_of X G z_range
  have y_set := PySem.W.mg_none_of X G z_set
  have y_list := PySem.W.mg_none_of X G z_list
  have y_tuple := PySem.W.mg_none_of X G z_tuple
  have y_all := PySem.W.mg_none_of X G z_all
  have y_repr := PySem.W.mg_none_of X G z_repr
  have y_isinstance := PySem.W.mg_none_of X G z_isinstance
  have y_dict := PySem.W.mg_none_of X G z_dict
  have y_bool := PySem.W.mg_none_of X G z_bool
  have y_str := PySem.W.mg_none_of X G z_str
  have y_sum := PySem.W.mg_none_of X G z_sum
  have y_enumerate := PySem.W.mg_none_of X G z_enumerate
  have y_sorted := PySem.W.mg_none_of X G z_sorted
  have y_ValueError := PySem.W.mg_none_of X G z_ValueError
  have T : Txt K mg := ⟨y_len, y_max, y_min, y_abs, y_int, y_range, y_set, y_list, y_tuple, y_all, y_repr, y_isinstance⟩
  have F_fresh := fun_mk (st := sFresh) l_fresh c_fresh k_fresh
  have b_fresh := F_fresh.binds (ps := ["thing"]) fun _ _ _ _ _ _ us hl => match us, hl with | [_], _ => rfl
  have F_kindw := fun_mk (st := sKindW) l_kindw c_kindw k_kindw
  have b_kindw := F_kindw.binds (ps := ["key"]) fun _ _ _ _ _ _ us hl => match us, hl with | [_], _ => rfl
  have F_resp := fun_mk (st := sResP) l_resp c_resp k_resp
  have b_resp := F_resp.binds (ps := ["number"]) fun _ _ _ _ _ _ us hl => match us, hl with | [_], _ => rfl
  have F_inpath := fun_mk (st := sInPath) l_inpath c_inpath k_inpath
  have b_inpath := F_inpath.binds (ps := ["place", "key"]) fun _ _ _ _ _ _ us hl => match us, hl with | [_, _], _ => rfl
  have F_inplace := fun_mk (st := sInPlace) l_inplace c_inplace k_inplace
  have b_inplace := F_inplace.binds (ps := ["place", "key"]) fun _ _ _ _ _ _ us hl => match us, hl with | [_, _], _ => rfl
  have F_placeof := fun_mk (st := sPlaceOf) l_placeof c_placeof k_placeof
  have b_placeof := F_placeof.binds (ps := ["told"]) fun _ _ _ _ _ _ us hl => match us, hl with | [_], _ => rfl
  have F_lookof := fun_mk (st := sLookOf) l_lookof c_lookof k_lookof
  have b_lookof := F_lookof.binds (ps := ["told"]) fun _ _ _ _ _ _ us hl => match us, hl with | [_], _ => rfl
  have F_kind := fun_mk (st := sKindOf) l_kind c_kind k_kind
  have b_kind := F_kind.binds (ps := ["value"]) fun _ _ _ _ _ _ us hl => match us, hl with | [_], _ => rfl
  have F_walk := fun_mk (st := sWalk) l_walk c_walk k_walk
  have b_walk := F_walk.binds (ps := ["told", "value", "results"]) fun _ _ _ _ _ _ us hl => match us, hl with | [_, _, _], _ => rfl
  have F_ansat := fun_mk (st := sAnsAt) l_ansat c_ansat k_ansat
  have b_ansat := F_ansat.binds (ps := ["told", "value", "results"]) fun _ _ _ _ _ _ us hl => match us, hl with | [_, _, _], _ => rfl
  have F_found := fun_mk (st := sFoundAt) l_found c_found k_found
  have b_found := F_found.binds (ps := ["path", "place", "value", "results"]) fun _ _ _ _ _ _ us hl => match us, hl with | [_, _, _, _], _ => rfl
  have F_haskey := fun_mk (st := sHasKey) l_haskey c_haskey k_haskey
  have b_haskey := F_haskey.binds (ps := ["found", "key"]) fun _ _ _ _ _ _ us hl => match us, hl with | [_, _], _ => rfl
  have F_wayw := fun_mk (st := sWayW) l_wayw c_wayw k_wayw
  have b_wayw := F_wayw.binds (ps := ["ways", "answer"]) fun _ _ _ _ _ _ us hl => match us, hl with | [_, _], _ => rfl
  have F_coin := fun_mk (st := sCoin) l_coin c_coin k_coin
  have b_coin := F_coin.binds (ps := ["purse", "many"]) fun _ _ _ _ _ _ us hl => match us, hl with | [_, _], _ => rfl
  have F_places := fun_mk (st := sWkPlaces) l_places c_places k_places
  have b_places := F_places.binds (ps := ["value_here", "results_here"]) fun _ _ _ _ _ _ us hl => match us, hl with | [_, _], _ => rfl
  have F_look := fun_mk (st := sWkLook) l_look c_look k_look
  have b_look := F_look.binds (ps := ["sack", "places", "fields"]) fun _ _ _ _ _ _ us hl => match us, hl with | [_, _, _], _ => rfl
  have F_done := fun_mk (st := sWkDone) l_done c_done k_done
  have b_done := F_done.binds (ps := ["sack", "places", "names_here"]) fun _ _ _ _ _ _ us hl => match us, hl with | [_, _, _], _ => rfl
  have F_tree := fun_mk (st := sWkTree) l_tree c_tree k_tree
  have b_tree := F_tree.binds (ps := ["sack", "places", "names_here", "used", "last"]) fun _ _ _ _ _ _ us hl => match us, hl with | [_, _, _, _, _], _ => rfl
  have F_thing := fun_mk (st := sWkThing) l_thing c_thing k_thing
  have b_thing := F_thing.binds (ps := ["sack", "fields", "deep"]) fun _ _ _ _ _ _ us hl => match us, hl with | [_, _, _], _ => rfl
  have F_pick := fun_mk (st := sPick) l_pick c_pick k_pick
  have b_pick := F_pick.binds (ps := ["sack", "some"]) fun _ _ _ _ _ _ us hl => match us, hl with | [_, _], _ => rfl
  have F_words := fun_mk (st := sWords) l_words c_words k_words
  have b_words := F_words.binds (ps := ["sack", "many"]) fun _ _ _ _ _ _ us hl => match us, hl with | [_, _], _ => rfl
  have F_sack := fun_mk (st := sSack) l_sack c_sack k_sack
  have b_sack := F_sack.binds (ps := ["script", "place"]) fun _ _ _ _ _ _ us hl => match us, hl with | [_, _], _ => rfl
  have F_nowalk := fun_mk (st := sNoWalk) l_nowalk c_nowalk k_nowalk
  have b_nowalk := F_nowalk.binds (ps := ["told_here", "value_here", "results_here"]) fun _ _ _ _ _ _ us hl => match us, hl with | [_, _, _], _ => rfl
  have F_nobase := fun_mk (st := sNoBase) l_nobase c_nobase k_nobase
  have b_nobase := F_nobase.binds (ps := ["told_here", "value_here", "results_here"]) fun _ _ _ _ _ _ us hl => match us, hl with | [_, _, _], _ => rfl
  have F_nolook := fun_mk (st := sNoLook) l_nolook c_nolook k_nolook
  have b_nolook := F_nolook.binds (ps := ["sack", "places", "names_here", "many"]) fun _ _ _ _ _ _ us hl => match us, hl with | [_, _, _, _], _ => rfl
  have F_right := fun_mk (st := sNoRight) l_right c_right k_right
  have b_right := F_right.binds (ps := ["sack"]) fun _ _ _ _ _ _ us hl => match us, hl with | [_], _ => rfl
  have F_law := fun_mk (st := sLaw) l_law c_law k_law
  have F_tinit := fun_mk (st := sTInit) l_tinit c_tinit k_tinit
  have b_tinit := F_tinit.binds (ps := ["self", "value"]) fun _ _ _ _ _ _ us hl => match us, hl with | [_, _], _ => rfl
  have EC : ECls K mg (fun j => ([C0, C1, C2, C3] : List Addr).getD j 0) f_tinit := by
    refine cls_of pk tI (fun j x e => ?_) (fun j hj => ?_)
    · have hx : x = cNames.getD j Str.empty ∧ j < 4 := by
        have hj : j < cNames.length := (List.getElem?_eq_some_iff.mp e).1
        rw [List.getD_eq_getElem?_getD, e]
        exact ⟨rfl, hj⟩
      obtain ⟨rfl, hj⟩ := hx
      have cs : j = 0 ∨ j = 1 ∨ j = 2 ∨ j = 3 := by omega
      rcases cs with rfl | rfl | rfl | rfl
      · exact PySem.W.mg_of X G aC0
      · exact PySem.W.mg_of X G aC1
      · exact PySem.W.mg_of X G aC2
      · exact PySem.W.mg_of X G aC3
    · have cs : j = 0 ∨ j = 1 ∨ j = 2 ∨ j = 3 := by omega
      rcases cs with rfl | rfl | rfl | rfl
      · exact ⟨_, _, _, _, _, _, _, _, _, _, _, _, _, _, _, xL0, rfl⟩
      · exact ⟨_, _, _, _, _, _, _, _, _, _, _, _, _, _, _, xL1, rfl⟩
      · exact ⟨_, _, _, _, _, _, _, _, _, _, _, _, _, _, _, xL2, rfl⟩
      · exact ⟨_, _, _, _, _, _, _, _, _, _, _, _, _, _, _, xL3, rfl⟩
  have mV := PySem.W.mg_of X G aVal
  have hV : ∀ H, SqT K H aV [.str (Str.ofString "at"), .ref bV'] := fun H => .inr ⟨_, _, _, lV, rfl, rfl, by show 2 ≤ sizeLine; decide, .cons ⟨tV, rfl⟩ (.cons rfl .nil)⟩
  have hV' : ∀ H, SqT K H bV' [.str (Str.ofString "value")] := fun H => .inr ⟨_, _, _, lW, rfl, rfl, by show 1 ≤ sizeLine; decide, .cons ⟨tW, rfl⟩ .nil⟩
  refine ⟨PySem.W.fnOf "law" "law" (defArgs sLaw) (defBody sLaw) (defScope sLaw) .none kV_law dc_law pm_law an_law cd_law ct_law, fun s v => .of_eq rfl, fun base _ _ => ?_⟩
  have GFr : ∀ n, FnOk l.prog w K mg base CX0 n f_fresh _ ["thing"] (spCopy n) := fun n => Nat.rec copy_none (fun n ih => ok_fresh F_fresh T ih b_fresh m_fresh y_dict) n
  have GKi := ok_kind (P := l.prog) (w := w) (base := base) F_kind T y_dict
  have GKw := ok_kindw (P := l.prog) (w := w) (base := base) F_kindw T y_str
  have GHk := ok_haskey (P := l.prog) (w := w) (base := base) F_haskey T y_str
  have GRp := ok_resp (P := l.prog) (w := w) (mg := mg) (base := base) F_resp
  have GIp := ok_inpath (P := l.prog) (w := w) (mg := mg) (base := base) F_inpath
  have GIq := ok_inplace (P := l.prog) (w := w) (base := base) F_inplace F_inpath GIp b_inpath m_inpath
  have GPo : ∀ n, FnOk l.prog w K mg base CX0 n f_placeof _ ["told"] (spPlaceOf K n) := fun n => Nat.rec place_none (fun n ih => ok_place F_placeof mV hV hV' F_resp GRp b_resp m_resp F_inplace GIq b_inplace m_inplace ih b_placeof m_placeof) n
  have GLo := ok_lookof (P := l.prog) (w := w) (base := base) F_lookof F_placeof (GPo 24) b_placeof m_placeof
  have GFa := ok_foundX (P := l.prog) (w := w) (base := base) F_found T EC F_tinit b_tinit F_kind GKi b_kind m_kind F_kindw GKw b_kindw m_kindw F_haskey GHk b_haskey m_haskey F_fresh (GFr 40) b_fresh m_fresh
  have GAa := ok_ansatX (P := l.prog) (w := w) (base := base) F_ansat EC F_tinit b_tinit F_lookof GLo b_lookof m_lookof F_found GFa b_found m_found F_kind GKi b_kind m_kind F_kindw GKw b_kindw m_kindw F_fresh (GFr 40) b_fresh m_fresh F_haskey GHk b_haskey m_haskey
  have GWw := ok_waywX (P := l.prog) (w := w) (mg := mg) (base := base) F_wayw
  have GWk := ok_walkX (P := l.prog) (w := w) (base := base) F_walk EC F_tinit b_tinit F_ansat GAa b_ansat m_ansat F_wayw GWw b_wayw m_wayw F_fresh (GFr 40) b_fresh m_fresh
  have GWd := ok_words17 (P := l.prog) (w := w) (base := base) F_words T F_coin b_coin m_coin F_pick b_pick m_pick
  have GTh : ∀ n, FnOk l.prog w K mg base CX0 (1 + n) f_thing _ ["sack", "fields", "deep"] (spThing n) := fun n => Nat.rec (thing_none.mono (Nat.zero_le _)) (fun n ih => ok_thing (k := 1 + n) (j := n) F_thing T y_dict F_coin b_coin m_coin (Nat.le_add_right 1 n) ih b_thing m_thing) n
  have GPs := ok_places (P := l.prog) (w := w) (base := base) F_places T y_dict y_enumerate y_sorted
  have GLk := ok_look (P := l.prog) (w := w) (base := base) F_look T y_dict F_coin b_coin m_coin
  have GDn := ok_done (P := l.prog) (w := w) (base := base) F_done T y_sorted F_coin b_coin m_coin
  have GTr : ∀ n, FnOk l.prog w K mg base CX0 (2 + n) f_tree _ ["sack", "places", "names_here", "used", "last"] (spTree n) := fun n => Nat.rec (tree_none.mono (Nat.zero_le _)) (fun n ih => ok_tree (k := 2 + n) (j := n) F_tree T F_coin b_coin m_coin (Nat.le_add_right 2 n) F_look GLk b_look m_look F_done GDn b_done m_done ih b_tree m_tree) n
  have GNw := ok_nowalk (P := l.prog) (w := w) (base := base) F_nowalk T EC F_walk GWk b_walk m_walk
  have GNb := ok_nobase (P := l.prog) (w := w) (base := base) F_nobase T y_ValueError EC F_walk GWk b_walk m_walk
  have GNl := ok_nolook (P := l.prog) (w := w) (base := base) F_nolook T y_dict F_coin b_coin m_coin F_look GLk b_look m_look
  have GR := ok_noright (P := l.prog) (w := w) (base := base) F_right T F_coin b_coin m_coin F_words GWd b_words m_words F_thing (GTh 4) b_thing m_thing F_places GPs b_places m_places F_done GDn b_done m_done F_nolook GNl b_nolook m_nolook F_tree (GTr 6) b_tree m_tree F_walk GWk b_walk m_walk F_nowalk GNw b_nowalk m_nowalk F_nobase GNb b_nobase m_nobase
  exact ok_law F_law T (ok_sack F_sack T) b_sack m_sack k_sack GR b_right m_right k_right
end K02
set_option Elab.async false
set_option maxRecDepth 100000
namespace K02
open PySem L2 PyProof.Rows
theorem walk {l : PySem.W.OpenLaw} {q : Program} {loose : List Str} {XP : (Str → Option Value) → Heap → Prop} {YP : World → Heap → Prop} {d : DefRec} {K : Params → PySem.W.Frag} (hn : l.most = some 63) (hdf : d.params.defaults = [])
    (hY : ∀ (w : World) (h : Heap), YP w h → (K w.params).In h)
    (F : ∀ (w : World) (mg : Str → Option Value) (fa : Addr) (h : Heap), (K w.params).In h → h.Ns mainGlobals mg → mg d.name = some (.ref fa) →
      ∃ fd : FuncData, (∀ (s : Shared) (u : Value), BindsTo s fd ⟨[u], []⟩ [("script", u)]) ∧ ∀ base : Heap, (K w.params).In base → base.Ns mainGlobals mg → FnG l.prog w (K w.params) mg base CX0 46 fa fd ["script"] (spLaw (K w.params))) :
    PySem.W.WalkO q loose XP YP l.row.toRowW d [] (fun f vs => PySem.call f vs) :=
  L2.walk_ofG (n := 63) (k := 46) (x := "script") (sp := fun w => spLaw (K w.params)) hn (by decide) hdf ⟨rfl, by decide, by decide⟩ hY F (fun _ _ a ns hl _ hS => ⟨a, ns, rfl, hS, hl, fun _ => rfl⟩)
end K02
open PySem PySem.W PyProof.Rows
set_option maxRecDepth 100000 in
set_option maxHeartbeats 0 in
theorem PySem.Challenge.cw_partedvalues_k18_walks_that_lead_nowhere_holds : PySem.Challenge.rw_partedvalues_k18_walks_that_lead_nowhere.Holds := by
  w_on; o_law; k_head; (case hw => w_witness2)
  k_fill
  refine K02.walk (l := PySem.Challenge.rw_partedvalues_k18_walks_that_lead_nowhere) rfl rfl (fun w h Y => PySem.W.kIn_of Y) ?F
  case F =>
    intro w mg fa h KX G hmg
    refine' K02.all_mk KX G hmg ?aC0 ?aC1 ?aC2 ?aC3 ?xL0 ?xL1 ?xL2 ?xL3 ?aI ?tI ?a_fresh ?l_fresh ?c_fresh ?k_fresh ?a_kindw ?l_kindw ?c_kindw ?k_kindw ?a_resp ?l_resp ?c_resp ?k_resp ?a_inpath ?l_inpath ?c_inpath ?k_inpath ?a_inplace ?l_inplace ?c_inplace ?k_inplace ?a_placeof ?l_placeof ?c_placeof ?k_placeof ?a_lookof ?l_lookof ?c_lookof ?k_lookof ?a_kind ?l_kind ?c_kind ?k_kind ?a_walk ?l_walk ?c_walk ?k_walk ?a_ansat ?l_ansat ?c_ansat ?k_ansat ?a_found ?l_found ?c_found ?k_found ?a_haskey ?l_haskey ?c_haskey ?k_haskey ?a_wayw ?l_wayw ?c_wayw ?k_wayw ?a_coin ?l_coin ?c_coin ?k_coin ?a_places ?l_places ?c_places ?k_places ?a_look ?l_look ?c_look ?k_look ?a_done ?l_done ?c_done ?k_done ?a_tree ?l_tree ?c_tree ?k_tree ?a_thing ?l_thing ?c_thing ?k_thing ?a_pick ?l_pick ?c_pick ?k_pick ?a_words ?l_words ?c_words ?k_words ?a_sack ?l_sack ?c_sack ?k_sack ?a_nowalk ?l_nowalk ?c_nowalk ?k_nowalk ?a_nobase ?l_nobase ?c_nobase ?k_nobase ?a_nolook ?l_nolook ?c_nolook ?k_nolook ?a_right ?l_right ?c_right ?k_right ?a_law ?l_law ?c_law ?k_law ?l_tinit ?c_tinit ?k_tinit ?aVal ?lV ?lW ?z_len ?z_max ?z_min ?z_abs ?z_int ?z_range ?z_set ?z_list ?z_tuple ?z_all ?z_repr ?z_isinstance ?z_dict ?z_bool ?z_str ?z_sum ?z_enumerate ?z_sorted ?z_ValueError ?pk
    (case aC0 => k_is)
    (case aC1 => k_is)
    (case aC2 => k_is)
    (case aC3 => k_is)
    (case xL0 => k_is)
    (case xL1 => k_is)
    (case xL2 => k_is)
    (case xL3 => k_is)
    (case aI => k_is)
    (case tI => k_is)
    (case a_fresh => k_is)
    (case l_fresh => k_is)
    (case c_fresh => k_is)
    (case k_fresh => k_is)
    (case a_kindw => k_is)
    (case l_kindw => k_is)
    (case c_kindw => k_is)
    (case k_kindw => k_is)
    (case a_resp => k_is)
    (case l_resp => k_is)
    (case c_resp => k_is)
    (case k_resp => k_is)
    (case a_inpath => k_is)
    (case l_inpath => k_is)
    (case c_inpath => k_is)
    (case k_inpath => k_is)
    (case a_inplace => k_is)
    (case l_inplace => k_is)
    (case c_inplace => k_is)
    (case k_inplace => k_is)
    (case a_placeof => k_is)
    (case l_placeof => k_is)
    (case c_placeof => k_is)
    (case k_placeof => k_is)
    (case a_lookof => k_is)
    (case l_lookof => k_is)
    (case c_lookof => k_is)
    (case k_lookof => k_is)
    (case a_kind => k_is)
    (case l_kind => k_is)
    (case c_kind => k_is)
    (case k_kind => k_is)
    (case a_walk => k_is)
    (case l_walk => k_is)
    (case c_walk => k_is)
    (case k_walk => k_is)
    (case a_ansat => k_is)
    (case l_ansat => k_is)
    (case c_ansat => k_is)
    (case k_ansat => k_is)
    (case a_found => k_is)
    (case l_found => k_is)
    (case c_found => k_is)
    (case k_found => k_is)
    (case a_haskey => k_is)
    (case l_haskey => k_is)
    (case c_haskey => k_is)
    (case k_haskey => k_is)
    (case a_wayw => k_is)
    (case l_wayw => k_is)
    (case c_wayw => k_is)
    (case k_wayw => k_is)
    (case a_coin => k_is)
    (case l_coin => k_is)
    (case c_coin => k_is)
    (case k_coin => k_is)
    (case a_places => k_is)
    (case l_places => k_is)
    (case c_places => k_is)
    (case k_places => k_is)
    (case a_look => k_is)
    (case l_look => k_is)
    (case c_look => k_is)
    (case k_look => k_is)
    (case a_done => k_is)
    (case l_done => k_is)
    (case c_done => k_is)
    (case k_done => k_is)
    (case a_tree => k_is)
    (case l_tree => k_is)
    (case c_tree => k_is)
    (case k_tree => k_is)
    (case a_thing => k_is)
    (case l_thing => k_is)
    (case c_thing => k_is)
    (case k_thing => k_is)
    (case a_pick => k_is)
    (case l_pick => k_is)
    (case c_pick => k_is)
    (case k_pick => k_is)
    (case a_words => k_is)
    (case l_words => k_is)
    (case c_words => k_is)
    (case k_words => k_is)
    (case a_sack => k_is)
    (case l_sack => k_is)
    (case c_sack => k_is)
    (case k_sack => k_is)
    (case a_nowalk => k_is)
    (case l_nowalk => k_is)
    (case c_nowalk => k_is)
    (case k_nowalk => k_is)
    (case a_nobase => k_is)
    (case l_nobase => k_is)
    (case c_nobase => k_is)
    (case k_nobase => k_is)
    (case a_nolook => k_is)
    (case l_nolook => k_is)
    (case c_nolook => k_is)
    (case k_nolook => k_is)
    (case a_right => k_is)
    (case l_right => k_is)
    (case c_right => k_is)
    (case k_right => k_is)
    (case a_law => k_is)
    (case l_law => k_is)
    (case c_law => k_is)
    (case k_law => k_is)
    (case l_tinit => k_is)
    (case c_tinit => k_is)
    (case k_tinit => k_is)
    (case aVal => k_is)
    (case lV => k_is)
    (case lW => k_is)
    (case z_len => k_is)
    (case z_max => k_is)
    (case z_min => k_is)
    (case z_abs => k_is)
    (case z_int => k_is)
    (case z_range => k_is)
    (case z_set => k_is)
    (case z_list => k_is)
    (case z_tuple => k_is)
    (case z_all => k_is)
    (case z_repr => k_is)
    (case z_isinstance => k_is)
    (case z_dict => k_is)
    (case z_bool => k_is)
    (case z_str => k_is)
    (case z_sum => k_is)
    (case z_enumerate => k_is)
    (case z_sorted => k_is)
    (case z_ValueError => k_is)
    (case pk => kernel_rfl)
#print axioms PySem.Challenge.cw_partedvalues_k18_walks_that_lead_nowhere_holds
