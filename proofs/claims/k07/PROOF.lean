import PyProof.Rows.All
import Wide.All
import OpenK.AllK
import Wide.FinOn
import HandS.ExcInit
import HandS.IsInst
import HandS.Wide
import HandS.Defaults
import KE.KExcIs
import HandS.SetFor
import HandS.Strs
import HandS.More
import HandS.ForMost
import HandS.Evl
import HandS.Deep
import HandS.Walk
import HandS.WordsExc
import HandS.ExcIs
import HandS.Exc
import HandS.ExcOwn
import HandS.MakeKwOnly
import HandS.Property
import HandS.HeadHook3
import PySem.Challenge.RW_partedvalues_k07_rules_refused
set_option Elab.async false
set_option linter.all false
set_option maxRecDepth 100000
set_option maxHeartbeats 2000000
/-! An own exception made as a value, with positional or keyword arguments. -/
namespace PySem
namespace KwX
open PySem.W PySem.Calls PyProof.Rows PySem.HandSPX
section
variable {M : Model} {A : Around} {E : Value → Shared → Prop} {hh : Heap} {gg : Array GenState} {dr : Drawn} {tt : Nat} {oss : OsState}
variable {nm q : Str} {C N : Addr} {bs bm mb : List Value} {hdct : Bool} {sn : List Str} {sub : List Value} {ab : Bool} {col : Option Bool} {dd : Option Addr} {k0 k1 k2 k3 k5 : Option Value} {B newId initId : String}
/-- the look at the arguments of the maker, whatever the keywords -/
theorem chk_new (F : ExcBaseFacts B newId initId mb) (hT : ∀ Y : String, bm.contains (.type Y) = mb.contains (.type Y)) {ps : List Value} {kws : List (Str × Value)} {Q : Unit → Shared → Prop}
    (hC : hh.get? C = some (excClassObj nm q C N bs bm hdct sn sub ab col dd k0 k1 k2 k3 k5 newId)) (hq : Q () ⟨hh, gg, dr, tt, oss⟩) :
    wpAny M A (checkBuiltinCall newId ⟨.ref C :: ps, kws⟩) Q E ⟨hh, gg, dr, tt, oss⟩ := by
  have w1 : (Value.ref C :: bm).contains (.type B) = true := by
    rw [List.contains_cons, hT, F.hasB, Bool.or_true]
  have w2 := F.noStar
  simp only [checkBuiltinCall, F.newKind, F.newSplit, F.newRow]
  repeat
    first
      | refine wpAny_loadPart_at hC ?_
      | (refine wpAny_isSubtype_exc hC ?_; rw [w1])
      | refine wpAny_staticBase_exc hC ?_
      | refine wpAny_madeBy_exc hC ?_
      | simp only [bne_self_eq_false, Bool.false_eq_true, if_false]
      | wp_step
  exact hq
end

section
variable {prog : Program} {w : World} {A : Around} {E : Value → Shared → Prop} {R : Result → Shared → Prop} {hh : Heap} {gg : Array GenState} {dr : Drawn} {tt : Nat} {oss : OsState}
variable {nm q : Str} {C N : Addr} {bs bm mb : List Value} {hdct : Bool} {sn : List Str} {sub : List Value} {ab : Bool} {col : Option Bool} {dd : Option Addr} {k0 k1 k2 k3 k5 : Option Value} {B newId initId : String}
/-- the maker's own run -/
theorem made_kw (F : ExcBaseFacts B newId initId mb) (hT : ∀ Y : String, bm.contains (.type Y) = mb.contains (.type Y)) {ps : List Value} {kws : List (Str × Value)}
    (hC : hh.get? C = some (excClassObj nm q C N bs bm hdct sn sub ab col dd k0 k1 k2 k3 k5 newId)) (hz : ps.length ≤ sizeLine)
    (hq : R (.ok (.ret (.ref (hh.objs.size + 1)))) ⟨(hh.push (W.kdv_tup ps)).push (excO C hh.objs.size), gg, dr, tt, oss⟩) :
    codeAny (model prog w) A (.builtin newId ⟨.ref C :: ps, kws⟩) R ⟨hh, gg, dr, tt, oss⟩ := by
  have w0 := F.ends
  have wB : (Value.ref C :: bm).contains (.type B) = true := by
    rw [List.contains_cons, hT, F.hasB, Bool.or_true]
  have wA : (Value.ref C :: bm).contains (.type "AttributeError") = false := by
    rw [List.contains_cons, hT, F.noAttr]
    rfl
  have wN : (Value.ref C :: bm).contains (.type "NameError") = false := by
    rw [List.contains_cons, hT, F.noName]
    rfl
  refine codeAny_builtinAt F.entry ?_
  unfold Builtin.«BaseException.__new__»
  refine wpAt_bind ?_
  show wpAt _ _ _ (stack >>= _) _ _ _
  refine wpAt_bind (wpAt_stack fun p below => wpAt_of_wpAny ?_)
  wp_walk
  refine wpAt_of_wpAny ?_
  rw [F.owner]
  repeat
    first
      | with_reducible refine wpAny_madeHere_exc F.canon hC ?_
      | with_reducible refine wpAny_loadPart_at hC ?_
      | (with_reducible refine wpAny_isSubtype_exc hC ?_; first | rw [wB] | rw [wA] | rw [wN])
      | wp_step
  show R _ _
  rw [Heap.size_push]
  exact hq
/-- type.__call__ of such a class: the maker, then its own __init__ -/
theorem called_kw (F : ExcBaseFacts B newId initId mb) (hT : ∀ Y : String, bm.contains (.type Y) = mb.contains (.type Y)) {ps : List Value} {kws : List (Str × Value)} {fI : Addr} {Q : Fin → Shared → Prop}
    (hC : hh.get? C = some (excClassObj nm q C N bs bm hdct sn sub ab col dd k0 k1 k2 k3 k5 newId))
    (hi : W.Looks (model prog w) hh (typeLookup (.ref C) "__init__") (some (.ref fI))) (hb : ∀ me, W.Looks (model prog w) hh (bindSpecial (.ref fI) me) (.ref fI, [me])) (hz : ps.length ≤ sizeLine)
    (hq : codeAny (model prog w) A (.call (.ref fI) ⟨.ref (hh.objs.size + 1) :: ps, kws⟩)
      (fun r z => match r with | .ok (.ret v) => v = .none ∧ Q (.done (.ret (.ref (hh.objs.size + 1)))) z | .ok _ => False | .error e => E e z)
      ⟨(hh.push (W.kdv_tup ps)).push (excO C hh.objs.size), gg, dr, tt, oss⟩) :
    wpAny (model prog w) A (Builtin.«type.__call__» ⟨.ref C :: ps, kws⟩) Q E ⟨hh, gg, dr, tt, oss⟩ := by
  repeat
    first
      | with_reducible refine wpAny_loadPart_at hC ?_
      | with_reducible refine wpAny_madeBy_exc hC ?_
      | wp_step
  refine codeAny_call_builtin_code (Code.quiet_builtin _ F.quiet) (chk_new F hT hC ?_)
  refine made_kw F hT hC hz ?_
  show wpAny _ _ _ _ _ _
  have kp : ∀ b o, hh.get? b = some o → ((hh.push (W.kdv_tup ps)).push (excO C hh.objs.size)).get? b = some o := fun b o e =>
    Heap.get?_push_of_some _ (Heap.get?_push_of_some _ e)
  have hC1 := kp _ _ hC
  have hx : ((hh.push (W.kdv_tup ps)).push (excO C hh.objs.size)).get? (hh.objs.size + 1) = some (excO C hh.objs.size) := by heap_get
  have wC : (Value.ref C :: bm).contains (.ref C) = true := by simp
  have i1 := hi.keeps kp
  have b1 := (hb (.ref (hh.objs.size + 1))).keeps kp
  unfold isInstance
  repeat
    first
      | with_reducible refine wpAny_loadPart_at hx ?_
      | (with_reducible refine wpAny_isSubtype_exc hC1 ?_; rw [wC])
      | wp_step
  show wpAny _ _ (typeLookup (.ref C) _) _ _ _
  refine i1.at ?_
  refine wpAny_holding (wpAny_bind (b1.at ?_))
  refine wpAny_bind (wpAny_call (codeAny_mono hq fun r z hz => ?_))
  rcases r with e | (v | _ | _ | _) <;> first | exact hz | exact hz.elim | skip
  obtain ⟨rfl, hz⟩ := hz
  first
    | exact wpAny_pure (wpAny_pure hz)
    | (wp_walk; exact hz)
theorem call_kw (F : ExcBaseFacts B newId initId mb) (hT : ∀ Y : String, bm.contains (.type Y) = mb.contains (.type Y)) {ps : List Value} {kws : List (Str × Value)} {fI : Addr}
    (hC : hh.get? C = some (excClassObj nm q C N bs bm hdct sn sub ab col dd k0 k1 k2 k3 k5 newId))
    (hi : W.Looks (model prog w) hh (typeLookup (.ref C) "__init__") (some (.ref fI))) (hb : ∀ me, W.Looks (model prog w) hh (bindSpecial (.ref fI) me) (.ref fI, [me])) (hz : ps.length ≤ sizeLine)
    (hq : codeAny (model prog w) (A.under (.builtin "type.__call__" ⟨.ref C :: ps, kws⟩)) (.call (.ref fI) ⟨.ref (hh.objs.size + 1) :: ps, kws⟩) (W.InitBack (hh.objs.size + 1) R)
      ⟨(hh.push (W.kdv_tup ps)).push (excO C hh.objs.size), gg, dr, tt, oss⟩) :
    codeAny (model prog w) A (.call (.ref C) ⟨ps, kws⟩) R ⟨hh, gg, dr, tt, oss⟩ := by
  have f1 := tc_lookup
  have f2 := tc_bind (.ref C)
  have hTy : (⟨hh, gg, dr, tt, oss⟩ : Shared).TypeIs (.ref C) "type" := ⟨_, hC, rfl⟩
  refine codeAny_of_tree ?_
  show wpAny _ _ (callAny (.ref C) _) _ _ _
  repeat
    any_goals
      first
        | assumption
        | with_reducible refine wpAny_loadPart_at hC ?_
        | wp_step
  refine ⟨rfl, ?_⟩
  refine codeAny_call_builtin_at (Code.quiet_builtin _ (by decide +kernel)) entry_typeCall (wpAny_check_type_call_sub hC (called_kw F hT hC hi hb hz ?_))
  refine codeAny_mono hq fun r z hz => ?_
  rcases r with e | (v | _ | _ | _) <;> exact hz
end
end KwX
end PySem

namespace L2
open PySem PySem.Spec PyProof.Rows
/-- at a: an exception of the class at C whose dict at d holds fs -/
def ExcAt (H : Hp) (a C : Addr) (fs : List (Str × V)) : Prop := ∃ d : Addr, H a = some (exo a C (some d)) ∧ H d = some (exd d fs)
/-- C(.., k = v, ..), C an own error class with an own (or inherited) __init__: a value -/
def tExcN (C : Addr) (n m : Nat) (sp : Sp) (gV : List V → List V → List V) (t tk : TA) : TE := fun σ H Q => t σ H fun vs H1 => tk σ H1 fun zs H2 => vs.length = n ∧ zs.length = m ∧ vs.length ≤ 1000 ∧
  ∀ x, H2 x = none → sp (gV (.ref x :: vs) zs) (upd H2 x (exo x C none)) (fun v H3 => v = .non ∧ Q (.ref x) H3) (fun _ _ _ => False)
section
variable {X : Cx} {CX : CXT} {k n : Nat} {fI C : Addr} {fd : FuncData} {ps ks : List Str} {sp : Sp} {x : Str} {p pos : Pos} {e : Expr} {es : List Expr} {kws : List Keyword} {t tk : TA}
variable {g : List Value → List Value → List Value} {gV : List V → List V → List V}
theorem run_excN {pins : List (Addr × Obj)} {σ : St} {H : Hp} {s : Shared} {Q : VK} {us ws : List Value} {vs zs : List V} (T : OexC X.K C) (iC : PySem.W.findIn X.K (.ref C) "__init__" = some (some (.ref fI)))
    (tI : PySem.W.typeIn X.K (.ref fI) = some (.type "function")) (F1 : FnOk X.prog X.w X.K X.mg X.base CX k fI fd ps sp) (hr : Room (k + 1) X.A) (hb : KBn X.K fd ps (n + 1) ks g gV)
    (hx : Passes CX X (fun _ _ _ => False)) (I : Inv X pins σ H s) (r : Vals vs us) (rz : Vals zs ws) (l1 : vs.length = n) (l2 : zs.length = ks.length) (l3 : vs.length ≤ 1000)
    (h : ∀ x, H x = none → sp (gV (.ref x :: vs) zs) (upd H x (exo x C none)) (fun v H3 => v = .non ∧ Q (.ref x) H3) (fun _ _ _ => False)) :
    wpAny (model X.prog X.w) X.A (call (.ref C) us (ks.zip ws)) (EP X pins σ Q) X.xe s := by
  obtain ⟨nm, q, N, bs, bm, sn, sub, ab, col, dd, k0, k1, k2, k3, k5, hC, hbm⟩ := T.cls
  obtain ⟨hp, gg, dr, tk', os⟩ := s
  have hsz : hp.objs.size ≤ hp.objs.size + 1 := Nat.le_succ _
  have hq := h (hp.objs.size + 1) (I.hok.fresh hsz)
  have kp : ∀ b o, hp.get? b = some o → ((hp.push (PySem.W.kdv_tup us)).push (PySem.HandSPX.excO C hp.objs.size)).get? b = some o := fun b o e =>
    Heap.get?_push_of_some _ (Heap.get?_push_of_some _ e)
  have hget : ((hp.push (PySem.W.kdv_tup us)).push (PySem.HandSPX.excO C hp.objs.size)).get? (hp.objs.size + 1) = some (PySem.HandSPX.excO C hp.objs.size) := by heap_get
  have I2 : Inv X pins σ (upd H (hp.objs.size + 1) (exo (hp.objs.size + 1) C none)) ⟨(hp.push (PySem.W.kdv_tup us)).push (PySem.HandSPX.excO C hp.objs.size), gg, dr, tk', os⟩ :=
    I.laid (t' := tk') kp hsz (exo_ok hget)
  have r1 : Vals (V.ref (hp.objs.size + 1) :: vs) (Value.ref (hp.objs.size + 1) :: us) := .cons rfl r
  have r2 := hb.rel r1 rz
  have e1 : (Value.ref (hp.objs.size + 1) :: us).length = n + 1 := by
    rw [List.length_cons, ← Paired.length r, l1]
  have e2 : ws.length = ks.length := (Paired.length rz).symm.trans l2
  have e3 : us.length ≤ sizeLine := by
    rw [← Paired.length r, sizeLine_eq]
    omega
  refine wpAny_call (PySem.KwX.call_kw F.excBase_ValueError (fun Y => PySem.HandSPX.refsVE_contains Y bm hbm) (I.kIn _ _ hC) (PySem.W.looks_findIn I.kIn iC) (fun me => PySem.W.bind_fn I.kIn me tI) e3
    (codeAny_mono (F1.run _ X.stack _ _ ⟨Value.ref (hp.objs.size + 1) :: us, ks.zip ws⟩ (g (Value.ref (hp.objs.size + 1) :: us) ws) _ _ (fun _ _ _ => False) (hr.make C us (ks.zip ws))
      (I2.env0.make C us (ks.zip ws)) (hb.to _ (Value.ref (hp.objs.size + 1) :: us) ws I2.kIn e1 e2) r2 hq) fun r z hz => ?_))
  cases r with
  | error er => exact hx pins σ _ _ er z I2 hz
  | ok fl =>
    cases fl with
    | ret u =>
      obtain ⟨v, H3, I3, rv, ev, q3⟩ := I2.after hz
      subst ev
      exact ⟨rv, ⟨V.ref (hp.objs.size + 1), H3, I3, rfl, q3⟩⟩
    | next => exact False.elim hz
    | brk => exact False.elim hz
    | cont => exact False.elim hz
/-- C(k = v, ..) -/
theorem pe_excK (T : OexC X.K C) (iC : PySem.W.findIn X.K (.ref C) "__init__" = some (some (.ref fI))) (tI : PySem.W.typeIn X.K (.ref fI) = some (.type "function"))
    (F1 : FnOk X.prog X.w X.K X.mg X.base CX k fI fd ps sp) (hr : Room (k + 1) X.A) (hg : Gl X x) (hm : X.mg x = some (.ref C)) (hb : KBn X.K fd ps 1 ks g gV) (hx : Passes CX X (fun _ _ _ => False)) (hkw : PK X kws tk)
    (hall : (backToKw pos (keywordEach kws X.env)).all (·.1.isSome) = true := by rfl) (hks : (backToKw pos (keywordEach kws X.env)).filterMap (·.1) = ks := by rfl)
    (hdb : (x == ("__debug__" : Str)) = false := by decide)
    (hpl : ((backTo pos (starEach [] X.env)).any (·.1) || (backToKw pos (keywordEach kws X.env)).any (·.1.isNone)) = false := by rfl) :
    PE X (.Call (.Name x p) [] kws pos) (tExcN C 0 ks.length sp gV tNil tk) := by
  refine ⟨fun pins s σ H Q I h => ?_⟩
  refine wpAny_Call_Name_kw (ld_glob I hg hm ?_ hdb)
  refine PySem.W.callWith_KW0 (h₀ := X.base) I.ok.mod.kin T.kC hall ?_ hpl
  refine thn (hkw.run pos pins s σ H _ I h) fun ws s2 ⟨zs, H2, I2, rz, l1, l2, l3, q2⟩ => ⟨I2.kIn, ?_⟩
  rw [hks]
  exact run_excN (us := []) (vs := []) T iC tI F1 hr hb hx I2 .nil rz rfl l2 l3 q2
/-- C(e, ..) -/
theorem pe_excP {ds : List Value} {dvs : List V} (T : OexC X.K C) (iC : PySem.W.findIn X.K (.ref C) "__init__" = some (some (.ref fI))) (tI : PySem.W.typeIn X.K (.ref fI) = some (.type "function"))
    (F1 : FnOk X.prog X.w X.K X.mg X.base CX k fI fd ps sp) (hr : Room (k + 1) X.A) (hg : Gl X x) (hm : X.mg x = some (.ref C)) (hb : KBn X.K fd ps (n + 1) [] g gV) (hx : Passes CX X (fun _ _ _ => False)) (ha : PA X (e :: es) t)
    (hdb : (x == ("__debug__" : Str)) = false := by decide) (he : starEach (e :: es) X.env = (false, eval e X.env) :: starEach es X.env := by rfl) (hpl : (backTo pos (starEach es X.env)).any (·.1) = false := by rfl) :
    PE X (.Call (.Name x p) (e :: es) [] pos) (tExcN C n 0 sp gV t tNil) := by
  refine ⟨fun pins s σ H Q I h => ?_⟩
  refine wpAny_Call_Name_kw (ld_glob I hg hm ?_ hdb)
  refine PySem.W.callWith_K (h₀ := X.base) I.ok.mod.kin T.kC (thn (ha.run pos pins s σ H _ I h) fun us s1 ⟨vs, H1, I1, r, l1, l2, l3, q⟩ => ⟨I1.kIn, ?_⟩) he hpl
  exact run_excN (ws := []) (zs := []) (ks := []) T iC tI F1 hr hb hx I1 r .nil l1 rfl l3 q
end

/-! ### a field of such an exception, its class -/
/-- what an own error class says, so that isinstance and the fields of its instances are told -/
structure ExcW (K : PySem.W.Frag) (C : Addr) : Prop where
  is1 : (PySem.W.clsIn K C).isSome = true
  ga : PySem.W.findIn K (.ref C) "__getattribute__" = some (some (.builtin "BaseException.__getattribute__"))
  gg : PySem.W.findIn K (.ref C) "__getattr__" = some none
  ex : PySem.W.subIn K (.ref C) (.type "BaseException") = some true
  hd : PySem.W.hasDictIn K C = true
  ca : PySem.W.findIn K (.ref C) "__class__" = some (some (.builtin "object.__class__"))
  sg : PySem.W.specialIn K (.builtin "object.__class__") "__get__" = some (some (.builtin "getset_descriptor.__get__"))
  tk : PySem.W.takesIn K (.builtin "object.__class__") = some true
  ob : PySem.W.mroIn K C (.type "object") = some true
def tExF (K : PySem.W.Frag) (f : Str) (to : TE) : TE := fun σ H Q => to σ H fun x H1 => ∃ (a C : Addr) (fs : List (Str × V)) (v : V), x = .ref a ∧ ExcAt H1 a C fs ∧ ExcW K C ∧ PySem.W.findIn K (.ref C) f = some none ∧ fs.lookup f = some v ∧ Q v H1
section
variable {X : Cx} {o : Expr} {to : TE} {f : Str} {pos : Pos}
theorem Inv.excAt {pins : List (Addr × Obj)} {σ : St} {H : Hp} {s : Shared} {a C : Addr} {fs : List (Str × V)} (I : Inv X pins σ H s) (h : ExcAt H a C fs) :
    ∃ (ox od : Obj), PySem.W.InstAt s.heap a ox C (some od) ∧ ∀ (f : Str) (v : V), fs.lookup f = some v → ∃ u, PySem.W.lookIn f od = some (some u) ∧ RelV v u := by
  obtain ⟨d, ha, hd⟩ := h
  obtain ⟨t1, e1⟩ := exo_at I.hok ha
  obtain ⟨mA, hns, rel⟩ := exd_at I.hok hd
  obtain ⟨od, ho, hl⟩ := lookIn_ns hns
  refine ⟨_, od, ⟨e1, rfl, rfl, ho⟩, fun f v e => ?_⟩
  obtain ⟨u, hu, ru⟩ := RelO.some_of (v := v) (o := mA f) (by rw [← e]; exact rel f)
  exact ⟨u, by rw [hl, hu], ru⟩
/-- error.f -/
theorem pe_exF (ho : PE X o to) (hb : attributeBase o f X.env (eval o X.env) = eval o X.env := by rfl) : PE X (.Attribute o f pos) (tExF X.K f to) := by
  refine ⟨fun pins s σ H Q I h => ?_⟩
  refine attr_of hb (thn (ho.run pins s σ H _ I h) fun u s1 ⟨x, H1, I1, rx, a, C, fs, v, ex, ha, T, hno, hl, q⟩ => ?_)
  subst ex
  obtain rfl : u = Value.ref a := rx
  obtain ⟨ox, od, J, hf⟩ := I1.excAt ha
  obtain ⟨w', hu, ru⟩ := hf f v hl
  exact HandSPX.exc_get I1.kIn J T.ga T.gg T.ex (PySem.W.findObj_own T.hd hno rfl hu) (handed_of ru) ⟨v, H1, I1.tok _, ru, q⟩
/-- isinstance(error, c) -/
def rIsX (K : PySem.W.Frag) : List V → Hp → VK → Prop := fun xs H Q => ∃ (a C : Addr) (fs : List (Str × V)) (c : V) (u : Value) (b : Bool), xs = [.ref a, c] ∧ ClsV c u ∧ ExcAt H a C fs ∧ ExcW K C ∧
  PySem.W.kitOne K (.ref C) u = some b ∧ Q (.bl b) H
theorem call_isX : CallR X (.builtin "isinstance") (rIsX X.K) := by
  intro pins s σ H xs us Q I r h
  obtain ⟨a, C, fs, c, u, b, rfl, k, ha, T, e, q⟩ := h
  obtain ⟨u1, u2, rfl, r1, r2⟩ := vals2 r
  have e2 := k.eq r2
  subst e2
  obtain rfl : u1 = Value.ref a := r1
  obtain ⟨ox, od, J, _⟩ := I.excAt ha
  exact PySem.W.kia_one (PySem.W.kitx_exc T.is1 T.ga T.gg T.ex T.ca T.sg T.tk T.ob) I.kIn J e (fun z => nomatch z) fun tk' => ⟨.bl b, H, I.tok tk', rfl, q⟩
end

/-! ### powers of great numbers, repr of None and of truths -/
def CPowW (i j : Int) : Prop := 0 ≤ j ∧ j ≤ 3 ∧ i.natAbs < 2 ^ 10000
theorem op_powW {X : Cx} : OpR X (binaryOp .Pow) (rI CPowW fun i j => .int (i ^ j.toNat)) := opI fun i j _ _ _ _ _ hc q => by
  obtain ⟨h0, h1, h2⟩ := hc
  refine pow_int h0 ?_ q
  have b1 : Builtin.Int.intBits i ≤ i.natAbs.log2 + 1 := by
    unfold Builtin.Int.intBits
    split <;> omega
  have b2 : i.natAbs.log2 < 10000 := PySem.Flt.log2_lt_of (by decide) h2
  have b3 : (Builtin.Int.intBits i : Int) ≤ 10000 := by omega
  have b4 : (Builtin.Int.intBits i : Int) * j ≤ 10000 * 3 := Int.mul_le_mul b3 h1 h0 (by decide)
  exact Int.le_trans b4 (by decide)
def rRepr : List V → Hp → VK → Prop := fun xs H Q => (xs = [.non] ∧ Q (.str "None") H) ∨ ∃ b, xs = [.bl b] ∧ Q (.str (if b then "True" else "False")) H
theorem call_reprNB {X : Cx} : CallR X (.builtin "repr") rRepr := by
  intro pins s σ H xs us Q I r h
  rcases h with ⟨rfl, q⟩ | ⟨b, rfl, q⟩
  · obtain ⟨u, rfl, r1⟩ := vals1 r
    obtain rfl : u = Value.none := r1
    exact PySem.P.repr_of_none ⟨.str _, H, I.tok _, ⟨_, rfl⟩, q⟩
  · obtain ⟨u, rfl, r1⟩ := vals1 r
    obtain rfl : u = Value.bool b := r1
    exact PySem.P.repr_of_bool ⟨.str _, H, I.tok _, ⟨_, rfl⟩, q⟩
end L2
set_option Elab.async false
set_option linter.all false
set_option maxRecDepth 100000
set_option maxHeartbeats 2000000
/-! Sets of texts: made of a list, measured, sorted. -/
namespace TxSet
open PySem PySem.Spec PyProof.Rows L2
/-- a member of the set's table: a text under its hash -/
def Mem1 (w : World) (e : Int × Value) : Prop := ∃ k tk, e.2 = Value.str k tk ∧ e.1 = hashStr w k
def txt (e : Int × Value) : Str := match e.2 with
  | .str k _ => k
  | _ => Str.empty
/-- the set at a holds just the texts L; its table can be walked -/
def SetT (w : World) (h : Heap) (a : Addr) (L : List Str) : Prop :=
  ∃ o es ep t, h.get? a = some o ∧ o.ExactSet ∧ o.data = .set es ep t ∧ (∀ e ∈ es.toList, Mem1 w e) ∧ (es.toList.map txt).Perm L ∧ L.Nodup ∧
    es.size < scanBound ∧ t.fits es.size = true ∧ Ris t.place.toList ∧ (w.params.followText "set-order" = true ∨ t.led = true)
section
variable {P : Program} {w : World} {h h' : Heap} {a : Addr} {L : List Str}
theorem SetT.at (R : SetT w h a L) (k : ∀ o, h.get? a = some o → h'.get? a = some o) : SetT w h' a L := by
  obtain ⟨o, es, ep, t, ho, r⟩ := R
  exact ⟨o, es, ep, t, k o ho, r⟩
theorem txt_is {e : Int × Value} (g : Mem1 w e) (k : Str) : (strKind P w).is k e.2 = true ↔ txt e = k := by
  obtain ⟨k', tk, h1, _⟩ := g
  unfold txt
  rw [h1]
  show Value.isStrOf k (.str k' tk) = true ↔ k' = k
  simp [Value.isStrOf]
theorem mem_elems {l : List (Int × Value)} (g : ∀ e ∈ l, Mem1 w e) : ElemsOf (strKind P w) l := fun e he => by
  obtain ⟨k, tk, h1, h2⟩ := g e he
  refine ⟨⟨k, ?_, h2⟩, ?_⟩
  · rw [h1]
    exact strKind_is P w k tk
  · rw [h1]
    rfl
theorem mem_txt {l : List (Int × Value)} (g : ∀ e ∈ l, Mem1 w e) (k : Str) : k ∈ l.map txt ↔ ∃ e ∈ l, (strKind P w).is k e.2 = true := by
  constructor
  · intro z
    obtain ⟨e, he, q⟩ := List.mem_map.mp z
    exact ⟨e, he, (txt_is (g e he) k).2 q⟩
  · rintro ⟨e, he, q⟩
    exact List.mem_map.mpr ⟨e, he, (txt_is (g e he) k).1 q⟩
end
/-- one text more -/
def ins (L : List Str) (k : Str) : List Str := if k ∈ L then L else k :: L
def dd (xs : List Str) : List Str := xs.foldl ins []
section
variable {P : Program} {w : World} {A : Around} {E : Value → Shared → Prop} {s : Shared} {a : Addr} {L : List Str}
theorem add_tail {g : Bool → Sem Unit} (hg : ∀ (b : Bool) (z : Shared) (Q' : Unit → Shared → Prop), Q' () z → wpAny (model P w) A (g b) Q' E z)
    {o : Obj} {es : Array (Int × Value)} {ep : Nat} {t : SetTable} (ho : s.heap.get? a = some o) (hex : o.ExactSet) (hd : o.data = .set es ep t)
    {fs : Array (Int × Value)} {t2 : SetTable} {M : List Str} (g1 : ∀ e ∈ fs.toList, Mem1 w e) (p1 : (fs.toList.map txt).Perm M) (nd : M.Nodup)
    (hb1 : fs.size < scanBound) (hf2 : t2.fits fs.size = true) (hr : Ris t2.place.toList) (hl : w.params.followText "set-order" = true ∨ t2.led = true) {dummy : Bool} {R : Option Bool → Shared → Prop}
    (hR : ∀ h', Heap.SameBut a s.heap h' → SetT w h' a M → R (some true) { s with heap := h' }) :
    wpAny (model P w) A (do
        storeSet a fs t2
        if (!dummy && t2.tooFull) = true then do
            g (relayAll t2 fs (SetTable.grown fs.size)).2.2
            storeSet a (relayAll t2 fs (SetTable.grown fs.size)).1 (relayAll t2 fs (SetTable.grown fs.size)).2.1
            pure (some true)
          else pure (some true)) R E s := by
  refine wpAny_bind (wpAny_storeSet_of ho hd ?_ (fits_of_scanBound hb1))
  have ho1 := store_at (es' := fs) (t' := t2) ho hd
  have sb1 := Heap.SameBut.update s.heap a (Obj.putSet fs t2)
  split
  · have pm := relayAll_perm t2 fs (SetTable.grown fs.size)
    have w1 := relayAll_fits t2 fs (SetTable.grown fs.size)
    have w2 := relayAll_ris t2 fs (SetTable.grown fs.size)
    have w3 := relayAll_led t2 fs (SetTable.grown fs.size)
    generalize relayAll t2 fs (SetTable.grown fs.size) = Z at pm w1 w2 w3 ⊢
    obtain ⟨gs, t3, gave⟩ := Z
    dsimp only at pm w1 w2 w3 ⊢
    have hsz : gs.size = fs.size := by
      rw [← Array.length_toList, pm.length_eq, Array.length_toList]
    have hb2 : gs.size < scanBound := hsz ▸ hb1
    refine wpAny_bind (hg _ _ _ ?_)
    refine wpAny_bind (wpAny_storeSet_of ho1 rfl ?_ (fits_of_scanBound hb2))
    have ho2 := store_at (es' := gs) (t' := t3) ho1 rfl
    refine wpAny_pure (hR _ (sb1.trans (Heap.SameBut.update _ a _)) ?_)
    refine ⟨_, gs, _, t3, ho2, hex, rfl, fun e he => g1 e (pm.mem_iff.mp he), (pm.map txt).trans p1, nd, hb2, w1, w2, ?_⟩
    exact hl.imp id fun z => w3.trans z
  · exact wpAny_pure (hR _ sb1 ⟨_, fs, _, t2, ho1, hex, rfl, g1, p1, nd, hb1, hf2, hr, hl⟩)
theorem add_hashed {k : Str} {tk : Tok} {Q : Bool → Shared → Prop} (R : SetT w s.heap a L) (room : L.length + 1 < scanBound)
    (hQ : ∀ b h', Heap.SameBut a s.heap h' → SetT w h' a (ins L k) → Q b { s with heap := h' }) : wpAny (model P w) A (setAddHashed a (.str k tk) ((strKind P w).hash k)) Q E s := by
  obtain ⟨o, es, ep, t, ho, hex, hd, g, pm0, nd, hb, hf, hr, hl⟩ := R
  have hkey : (strKind P w).is k (.str k tk) = true := strKind_is P w k tk
  have hsc : (Value.str k tk).scannable = true := rfl
  have hel : ElemsOf (strKind P w) es.toList := mem_elems g
  unfold setAddHashed setAddHashedIn
  refine wpAny_holding (wpAny_bind (wpAny_setState_of ho hd hf ?_))
  dsimp only
  rw [byScan_of hsc hb hel]
  simp only [↓reduceIte]
  unfold setAddByScan
  refine wpAny_bind ?_
  refine wpAny_bind (wpAny_rule ?_)
  refine wpAny_bind (wpAny_setScan_of hkey ho hd hf hel ?_)
  cases hfi : List.findIdx? (fun e => (strKind P w).is k e.2) es.toList with
  | some j =>
    dsimp only
    obtain ⟨hj, pj, _⟩ := List.findIdx?_eq_some_iff_getElem.mp hfi
    have hk : k ∈ L := pm0.mem_iff.mp ((mem_txt (P := P) g k).2 ⟨es.toList[j], List.getElem_mem hj, pj⟩)
    refine wpAny_pure (wpAny_pure ?_)
    refine hQ _ s.heap (Heap.SameBut.refl a s.heap) ?_
    rw [show ins L k = L from if_pos hk]
    exact ⟨o, es, ep, t, ho, hex, hd, g, pm0, nd, hb, hf, hr, hl⟩
  | none =>
    dsimp only
    have hk : k ∉ L := fun z => by
      obtain ⟨e, he, q⟩ := (mem_txt (P := P) g k).1 (pm0.mem_iff.mpr z)
      have c := List.findIdx?_eq_none_iff.mp hfi e he
      rw [q] at c
      cases c
    have hgw : ∀ (b : Bool) {z : Shared} {Q' : Unit → Shared → Prop}, Q' () z → wpAny (model P w) A (match b with | true => rule "set.scan.the-table-gave-way" | false => pure ()) Q' E z := fun b z Q' q => by
      cases b
      · exact wpAny_pure q
      · exact wpAny_rule q
    have pm := layNew_perm t es ((strKind P w).hash k) (.str k tk)
    have w1 := layNew_fits t es ((strKind P w).hash k) (.str k tk)
    have w2 := layNew_ris t es ((strKind P w).hash k) (.str k tk) hr
    have w3 := layNew_led t es ((strKind P w).hash k) (.str k tk)
    generalize layNew t es ((strKind P w).hash k) (.str k tk) = Z at pm w1 w2 w3 ⊢
    obtain ⟨fs, t1, dummy, gave⟩ := Z
    dsimp only at pm w1 w2 w3 ⊢
    rw [Array.toList_push] at pm
    have pc : fs.toList.Perm (((strKind P w).hash k, Value.str k tk) :: es.toList) := pm.trans (List.perm_append_singleton _ _)
    have pk : (fs.toList.map txt).Perm (k :: L) := (pc.map txt).trans (List.Perm.cons k pm0)
    have g1 : ∀ e ∈ fs.toList, Mem1 w e := fun e he => by
      rcases List.mem_cons.mp (pc.mem_iff.mp he) with z | z
      · rw [z]
        exact ⟨k, tk, rfl, rfl⟩
      · exact g e z
    have nd1 : (k :: L).Nodup := List.nodup_cons.mpr ⟨hk, nd⟩
    have hsz : fs.size = L.length + 1 := by
      have z := pk.length_eq
      rw [List.length_map, Array.length_toList, List.length_cons] at z
      exact z
    have hb1 : fs.size < scanBound := by
      rw [hsz]
      exact room
    have hled : w.params.followText "set-order" = true ∨ t1.led = true := hl.imp id fun z => w3.trans z
    have fin : ∀ h', Heap.SameBut a s.heap h' → SetT w h' a (k :: L) → Q true { s with heap := h' } := fun h' sb r => hQ true h' sb (by
      rw [show ins L k = k :: L from if_neg hk]
      exact r)
    refine wpAny_bind (hgw _ ?_)
    split
    · refine wpAny_bind ?_
      rw [hashByValue_scannable 8 hsc]
      refine wpAny_pure ?_
      refine add_tail ?_ ho hex hd g1 pk nd1 hb1 ?_ ?_ ?_ ?_
      · intro b z Q' q
        cases b <;> first | exact wpAny_pure q | exact wpAny_rule q
      · first
          | (split <;> first | exact w1 | exact SetTable.fits_plain_off w1)
          | exact w1
      · first
          | (split <;> exact w2)
          | exact w2
      · first
          | (split <;> exact hled)
          | exact hled
      · intro h' sb r
        dsimp only
        exact wpAny_pure (fin h' sb r)
    · refine wpAny_bind (wpAny_pure ?_)
      simp only [↓reduceIte]
      refine add_tail ?_ ho hex hd g1 pk nd1 hb1 w1 w2 hled ?_
      · intro b z Q' q
        cases b <;> first | exact wpAny_pure q | exact wpAny_rule q
      · intro h' sb r
        dsimp only
        exact wpAny_pure (fin h' sb r)
theorem dd_more (xs : List Str) (x : Str) : dd (xs ++ [x]) = ins (dd xs) x := by
  unfold dd
  rw [List.foldl_append]
  rfl
theorem ins_len (L : List Str) (k : Str) : (ins L k).length ≤ L.length + 1 := by
  unfold ins
  split
  · exact Nat.le_succ _
  · exact Nat.le_refl _
theorem dd_len : ∀ xs : List Str, (dd xs).length ≤ xs.length := by
  have go : ∀ (xs L : List Str), (xs.foldl ins L).length ≤ L.length + xs.length := by
    intro xs
    induction xs with
    | nil => intro L; exact Nat.le_refl _
    | cons x xs ih =>
      intro L
      have h1 := ih (ins L x)
      have h2 := ins_len L x
      rw [List.foldl_cons, List.length_cons]
      omega
  intro xs
  have h := go xs []
  rw [List.length_nil, Nat.zero_add] at h
  exact h
/-- texts, one by one, into the set -/
theorem into_set {I : Addr} {fp wr : List Addr} {G : Array GenState → Array GenState → Prop} {n : Nat} {Pv : Nat → Value → Prop} {St : Nat → Shared → Prop} {R : Result → Shared → Prop}
    (W : WalksS P w A.in1 I fp wr G n Pv St) (S : Addr) (hSf : S ∉ fp) (xs : List Str) (hn : n = xs.length) (hb : xs.length + 1 < scanBound) (hval : ∀ i v, Pv i v → ∃ k t, xs[i]? = some k ∧ v = .str k t) :
    ∀ (k i : Nat) (s : Shared), n - i = k → i ≤ n → St i s → SetT w s.heap S (dd (xs.take i)) → (∀ z, Moved (S :: wr) G s z → SetT w z.heap S (dd xs) → R (.ok (.ret .none)) z) →
      codeAny (model P w) A (.builtin "set.update.loop" ⟨[.ref S, .ref I], []⟩) R s := by
  have hSw : S ∉ wr := fun h => hSf (W.sub _ h)
  have hsub : ∀ b ∈ wr, b ∈ S :: wr := fun b hb => List.mem_cons_of_mem _ hb
  intro k
  induction k with
  | zero =>
    intro i s hk' hi hst hS hR
    obtain rfl : i = n := by omega
    refine codeAny_builtin F.entry_set_update_loop ?_
    rw [Around.under_plainId F.plain_set_update_loop _]
    show wpAny _ A.in1 (pyNext (.ref I) >>= _) _ _ s
    refine wpAny_bind (W.done s _ _ hst fun z hm => ?_)
    show wpAny _ A.in1 (ret Value.none) _ _ z
    rw [List.take_of_length_le (by omega)] at hS
    exact wpAny_pure (hR z (hm.mono hsub) (hS.at fun o e => hm.heap S o hSw e))
  | succ k ih =>
    intro i s hk' hi hst hS hR
    have hlt : i < n := by omega
    refine codeAny_builtin F.entry_set_update_loop ?_
    rw [Around.under_plainId F.plain_set_update_loop _]
    show wpAny _ A.in1 (pyNext (.ref I) >>= _) _ _ s
    refine wpAny_bind (W.item i s _ _ hlt hst fun v z hP hst' hm => ?_)
    obtain ⟨y, t, hy, rfl⟩ := hval i v hP
    have hS' : SetT w z.heap S (dd (xs.take i)) := hS.at fun o e => hm.heap S o hSw e
    have hl : (dd (xs.take i)).length + 1 < scanBound := by
      have h1 := dd_len (xs.take i)
      rw [List.length_take] at h1
      omega
    show wpAny _ A.in1 (holding [Value.str y t] (setAdd S (.str y t)) >>= _) _ _ z
    refine wpAny_bind (wpAny_holding ?_)
    unfold setAdd
    refine wpAny_holding ?_
    refine wpAny_bind ((strKind P w).pyHash (k := y) (strKind_is P w y t) ?_)
    refine add_hashed (s := { z with toks := z.toks + 1 }) hS' hl fun b h' hsb hS2 => ?_
    have hS3 : SetT w h' S (dd (xs.take (i + 1))) := by
      rw [List.take_add_one, hy]
      show SetT w h' S (dd (xs.take i ++ [y]))
      rw [dd_more]
      exact hS2
    refine wpAny_pure ⟨plainId_quiet F.plain_set_update_loop _, ih (i + 1) _ (by omega) hlt (W.frame _ z _ _ hst' (Nat.le_succ _) fun b hb o e => ?_) hS3 fun y' hm'' hS'' => ?_⟩
    · rw [hsb.2 b (fun h : b = S => hSf (by rw [← h]; exact hb))]
      exact e
    · refine hR y' (Moved.trans W.gtrans ((hm.mono hsub).then_heap (Nat.le_succ _) fun b o hb e => ?_) hm'') hS''
      rw [hsb.2 b (fun h : b = S => hb (by rw [h]; exact List.mem_cons_self))]
      exact e
theorem new_at {h : Heap} (ho : h.get? a = some { cls := .type "set", dict := none, data := .set #[] 0 (.fresh 0 0 (!w.params.followText "set-order")) }) : SetT w h a (dd ([] : List Str)) := by
  refine ⟨_, #[], 0, _, ho, ⟨rfl, rfl, rfl⟩, rfl, (fun e he => by simp at he), List.Perm.refl _, List.nodup_nil, (by decide), (by rfl), List.Pairwise.nil, ?_⟩
  show _ ∨ (!w.params.followText "set-order") = true
  cases w.params.followText "set-order"
  · exact .inr rfl
  · exact .inl rfl
abbrev emptyS (w : World) : Obj := { cls := .type "set", dict := none, data := .set #[] 0 (.fresh 0 0 (!w.params.followText "set-order")) }
set_option maxRecDepth 100000 in
set_option maxHeartbeats 3200000 in
/-- set(a list of texts) -/
theorem set_of_list {l : Addr} {items : Array Value} (xs : List Str) {Q : Value → Shared → Prop} (hh : A.handled = none) (hl : s.heap.IsList l items) (hit : StrsAre items.toList xs) (hb : xs.length + 1 < scanBound)
    (h : ∀ (h' : Heap) (tk : Nat), SetT w h' s.heap.objs.size (dd xs) → (∀ b o, s.heap.get? b = some o → h'.get? b = some o) → Q (.ref s.heap.objs.size) { s with heap := h', toks := tk }) :
    wpAny (model P w) A (call (.type "set") [.ref l]) Q E s := by
  have hisz : items.size = xs.length := by
    have q := hit.length
    rw [Array.length_toList] at q
    exact q
  obtain ⟨c, tl, hmro⟩ := F.called_set.mro
  have hmade := F.called_set.made
  have hsub := F.called_set.sub
  refine wpAny_call (codeAny_of_tree ?_)
  show wpAny _ _ (callAny (.type "set") _) _ _ _
  refine wpAny_pure ⟨Code.quiet_builtin _ (by decide +kernel), codeAny_builtin F.entry_type_call ?_⟩
  rw [Around.under_plain (weight_type_call_type "set" [.ref l] []) rfl]
  have h1 := F.called_set.notType
  have h2 := F.called_set.canCreate
  have hct := F.typeCall_set_1 (.ref l)
  repeat (any_goals (first | assumption | wp_step))
  refine codeAny_mono (code_set_led1 (.ref l) (E := E) (Q₁ := fun obj z => obj = .ref s.heap.objs.size ∧ z = { s with heap := s.heap.push (emptyS w) }) ⟨rfl, rfl⟩) fun r z hr => ?_
  cases r with
  | error e => exact hr
  | ok fl =>
    cases fl with
    | ret obj =>
      obtain ⟨rfl, rfl⟩ := hr
      have hS : (s.heap.push (emptyS w)).get? s.heap.objs.size = some (emptyS w) := Heap.get?_push_size _ rfl
      have hT : Shared.TypeIs { s with heap := s.heap.push (emptyS w) } (.ref s.heap.objs.size) "set" := ⟨_, hS, rfl⟩
      have hli := F.called_set.init.lookup
      have hbi := F.called_set.init.bind (.ref s.heap.objs.size)
      repeat (any_goals (first | assumption | wp_step))
      refine codeAny_mono (codeAny_call_builtin (R := wants (fun r z2 => r = .none ∧ ∃ h' tk, z2 = { s with heap := h', toks := tk } ∧ SetT w h' s.heap.objs.size (dd xs) ∧
          (∀ b o, s.heap.get? b = some o → h'.get? b = some o)) E) F.called_set.init.plain F.entry_set_init (check_set_init_1 hT ?_)) fun r2 z2 hr2 => ?_
      · obtain ⟨ol, hol, hcl, nl, hdl⟩ := hl
        obtain ⟨ocls, odict, odata, oslots⟩ := ol
        simp only at hcl hdl
        subst hcl; subst hdl
        have hol' : (s.heap.push (emptyS w)).get? l = some { cls := .type "list", dict := odict, data := .seq items nl, slots := oslots } := Heap.get?_push_of_some _ hol
        have hsls := F.sub_list_set
        have hslf := F.sub_list_frozenset
        have hne : (Value.type "list" == Value.type "dict") = false := by decide
        have hl1 : (s.heap.push (emptyS w)).IsList l items := ⟨_, hol', rfl, nl, rfl⟩
        unfold Builtin.«set.__init__» noKeywords Builtin.Frozenset.updateFrom
        generalize hPI : pyIter = PI
        wp_walk
        subst hPI
        refine wpAny_pyIter_list hl1 ?_
        refine wpAny_bind (wpAny_runValue ?_)
        have hlS : l < s.heap.objs.size := Heap.lt_size hol
        have hh3 : A.in1.in1.in1.handled = none := by simp [hh]
        have hneI : l ≠ (s.heap.push (emptyS w)).objs.size := by
          rw [Heap.size_push]
          exact Nat.ne_of_lt (Nat.lt_succ_of_lt hlS)
        have hSf : s.heap.objs.size ∉ [(s.heap.push (emptyS w)).objs.size, l] := by
          rw [Heap.size_push]
          simp only [List.mem_cons, List.mem_singleton, List.not_mem_nil, or_false, not_or]
          exact ⟨Nat.ne_of_lt (Nat.lt_succ_self _), Nat.ne_of_gt hlS⟩
        have hval : ∀ (i : Nat) (v : Value), items[i]? = some v → ∃ k t, xs[i]? = some k ∧ v = .str k t := fun i v hv => by
          have hi : i < xs.length := by
            rw [← hisz]
            exact (Array.getElem?_eq_some_iff.mp hv).1
          obtain ⟨t, e⟩ := SS.strs_at hit i v (by rw [Array.getElem?_toList]; exact hv)
          refine ⟨xs[i], t, List.getElem?_eq_getElem hi, ?_⟩
          rw [e, List.getD_eq_getElem?_getD, List.getElem?_eq_getElem hi]
          rfl
        refine into_set ((Walks.list hh3 _ l hneI items).toS) s.heap.objs.size hSf xs hisz hb hval (items.size - 0) 0 _ (by omega) (Nat.zero_le _)
          ⟨⟨_, Heap.get?_push_size _ rfl, rfl, rfl⟩, (hl1.push _)⟩ ?hS0 ?hR
        case hS0 => exact new_at (Heap.get?_push_of_some _ hS)
        case hR =>
          intro z3 hm hS'
          obtain ⟨h', g2, d', tk', os'⟩ := z3
          have eg : g2 = s.gens := hm.gens
          have ed : d' = s.drawn := hm.drawn
          have eo : os' = s.os := hm.os
          subst eg; subst ed; subst eo
          show wpAny _ _ _ _ _ _
          refine wpAny_pure ?_
          show wpAny _ _ (ret Value.none) _ _ _
          refine wpAny_pure ⟨rfl, h', tk', rfl, hS', fun b o e => ?_⟩
          have hb0 : b < s.heap.objs.size := Heap.lt_size e
          have hb1 : b ≠ s.heap.objs.size := Nat.ne_of_lt hb0
          have hb2 : b ≠ (s.heap.push (emptyS w)).objs.size := by
            rw [Heap.size_push]
            exact Nat.ne_of_lt (Nat.lt_succ_of_lt hb0)
          refine hm.heap b o ?_ (Heap.get?_push_of_some _ (Heap.get?_push_of_some _ e))
          simp only [List.mem_cons, List.mem_singleton, List.not_mem_nil, or_false, not_or]
          exact ⟨hb1, hb2⟩
      · cases r2 with
        | error e => exact hr2
        | ok fl2 =>
          cases fl2 with
          | ret r =>
            obtain ⟨rfl, h', tk, rfl, hS', hk'⟩ := hr2
            repeat (any_goals (first | assumption | wp_step))
            exact h _ _ hS' hk'
          | _ => exact hr2.elim
    | _ => exact hr.elim
end
end TxSet
set_option Elab.async false
set_option linter.all false
set_option maxRecDepth 100000
set_option maxHeartbeats 2000000
namespace TxSet
open PySem PySem.Spec PyProof.Rows L2
theorem strs_map : ∀ (l : List Value), (∀ v ∈ l, ∃ k tk, v = Value.str k tk) → ∃ ss : List Str, StrsAre l ss ∧ ss = l.map (fun v => txt (0, v))
  | [], _ => ⟨[], .nil, rfl⟩
  | v :: l, h => by
    obtain ⟨k, tk, rfl⟩ := h v List.mem_cons_self
    obtain ⟨ss, h1, h2⟩ := strs_map l fun u hu => h u (List.mem_cons_of_mem _ hu)
    exact ⟨k :: ss, .cons k tk h1, by rw [h2]; rfl⟩
section
variable {P : Program} {w : World} {A : Around} {E : Value → Shared → Prop} {s : Shared} {a : Addr} {L : List Str}
/-- sorted(a set of texts) -/
theorem sorted_txt {Q : Value → Shared → Prop} (R : SetT w s.heap a L) (hh : A.handled = none) (h64 : L.length < 64)
    (hQ : ∀ z p (out : Array Value) (c : Nat) (ys : List Str), (∀ b o, s.heap.get? b = some o → z.heap.get? b = some o) → z.gens = s.gens → z.os = s.os → s.heap.objs.size ≤ p →
      z.heap.get? p = some (seqObj "list" out c) → StrsAre out.toList ys → ys.Perm L → sortedS ys = true → Q (.ref p) z) :
    wpAny (model P w) A (call (.builtin "sorted") [.ref a]) Q E s := by
  obtain ⟨o, es, ep, t, ho, hex, hd, g, pm0, nd, hb, hf, hr, hl⟩ := R
  refine Calls.call_function_entry kind_sorted plain_sorted entry_sorted (args_sorted1 _) ?_
  unfold Builtin.«sorted»
  refine wpAny_bind (m := checkCount "sorted" 1 1 _) (wpAny_pure ?_)
  refine wpAny_bind (collect_set (A := A.in1) hh ⟨o, ho, hex.1, hd⟩ hf hb hr hl fun s1 vs k1 hz g1 o1 pm => ?_)
  obtain ⟨ss, hI, e1⟩ := strs_map vs fun v hv => by
    obtain ⟨e, he, q⟩ := List.mem_map.mp (pm.mem_iff.mp hv)
    obtain ⟨k, tk, h1, _⟩ := g e he
    exact ⟨k, tk, by rw [← q]; exact h1⟩
  have pk : ss.Perm L := by
    have q := pm.map (fun v => txt (0, v))
    rw [List.map_map, ← e1] at q
    exact q.trans pm0
  have hvl : vs.length < 64 := by
    have z := hI.length
    rw [z, pk.length_eq]
    exact h64
  refine wpAny_bind (wpAny_newList ?_ (by rw [sizeLine_eq]; omega))
  have hoL : (s1.heap.push (seqObj "list" vs.toArray 0)).get? s1.heap.objs.size = some (seqObj "list" vs.toArray 0) := Heap.get?_push_size _ rfl
  refine wpAny_bind (wpAny_holding (wpAny_call_entry slot_list_sort ⟨_, hoL, rfl⟩ entry_list_sort
    (list_sort_treeK strKind_oneLt hoL hI.keysOf (fun v1 v2 rest e => keyKind_strs (by rw [← e]; exact hI)) hvl fun st' hp hs => ?_) (args_list_sort _)))
  obtain ⟨ys, g1', g2', g3'⟩ := sorted_out_str hI hp hs
  refine ⟨_, rfl, ?_⟩
  obtain ⟨c, hc⟩ := sortedHeap_at (vs := vs) (out := _) hoL
  refine wpAny_pure ⟨_, rfl, hQ _ s1.heap.objs.size _ c ys (fun b u e => ?_) g1 o1 hz hc g1' (g2'.trans pk) g3'⟩
  have q := k1 b u e
  have hlt := Heap.lt_size q
  show (sortedHeap (s1.heap.push (seqObj "list" vs.toArray 0)) s1.heap.objs.size vs _).get? b = some u
  rw [sortedHeap_old (Nat.ne_of_lt hlt) (by rw [size_push']; exact Nat.lt_succ_of_lt hlt)]
  exact Heap.get?_push_of_some _ q
end
/-- of two risings of the same texts there is one -/
def tle (x y : Str) : Prop := x.cps.toList ≤ y.cps.toList
theorem rising_all : ∀ (r : List Str) (x : Str), risingS x r = true → (∀ y ∈ r, tle x y) ∧ r.Pairwise tle
  | [], _, _ => ⟨(fun _ h => nomatch h), List.Pairwise.nil⟩
  | y :: r, x, h => by
    have h' : (!Spec.ltCps y.cps.toList x.cps.toList && risingS y r) = true := h
    rw [Bool.and_eq_true, Bool.not_eq_true', ltCps_eq, decide_eq_false_iff_not] at h'
    obtain ⟨h1, h2⟩ := h'
    have hxy : tle x y := List.not_lt.mp h1
    obtain ⟨a1, a2⟩ := rising_all r y h2
    refine ⟨fun z hz => ?_, List.pairwise_cons.mpr ⟨a1, a2⟩⟩
    rcases List.mem_cons.mp hz with e | hz
    · rw [e]
      exact hxy
    · exact List.le_trans hxy (a1 z hz)
theorem sorted_pair : ∀ l : List Str, sortedS l = true → l.Pairwise tle
  | [], _ => List.Pairwise.nil
  | x :: r, h => by
    obtain ⟨a1, a2⟩ := rising_all r x h
    exact List.pairwise_cons.mpr ⟨a1, a2⟩
theorem one_rising {xs ys zs : List Str} (h1 : ys.Perm xs) (s1 : sortedS ys = true) (h2 : zs.Perm xs) (s2 : sortedS zs = true) : ys = zs := by
  refine List.Perm.eq_of_pairwise (le := tle) (fun a b _ _ p q => ?_) (sorted_pair ys s1) (sorted_pair zs s2) (h1.trans h2.symm)
  have e : a.cps.toList = b.cps.toList := List.le_antisymm p q
  obtain ⟨a⟩ := a
  obtain ⟨b⟩ := b
  have e' : a = b := Array.toList_inj.mp e
  rw [e']
/-- as many as there are: no two are one -/
theorem ins_mem (L : List Str) (k x : Str) : x ∈ ins L k ↔ x = k ∨ x ∈ L := by
  unfold ins
  split
  · rename_i h
    exact ⟨.inr, fun z => z.elim (fun e => e ▸ h) id⟩
  · rw [List.mem_cons]
theorem dd_go : ∀ (xs L : List Str), (xs.foldl ins L).length ≤ L.length + xs.length ∧ (∀ x, x ∈ xs.foldl ins L ↔ x ∈ L ∨ x ∈ xs) ∧ ((xs.foldl ins L).length = L.length + xs.length ↔ xs.Nodup ∧ ∀ x ∈ xs, x ∉ L)
  | [], L => ⟨Nat.le_refl _, fun x => by simp, by simp⟩
  | y :: xs, L => by
    obtain ⟨a1, a2, a3⟩ := dd_go xs (ins L y)
    have l1 := ins_len L y
    rw [List.foldl_cons]
    refine ⟨by rw [List.length_cons]; omega, fun x => ?_, ?_⟩
    · rw [a2 x, ins_mem, List.mem_cons]
      constructor
      · rintro ((e | h) | h)
        · exact .inr (.inl e)
        · exact .inl h
        · exact .inr (.inr h)
      · rintro (h | e | h)
        · exact .inl (.inr h)
        · exact .inl (.inl e)
        · exact .inr h
    · by_cases hy : y ∈ L
      · have e : ins L y = L := if_pos hy
        rw [e] at a1 ⊢
        constructor
        · intro z
          rw [List.length_cons] at z
          omega
        · rintro ⟨_, z⟩
          exact absurd hy (z y List.mem_cons_self)
      · have e : ins L y = y :: L := if_neg hy
        rw [e] at a3 ⊢
        rw [List.length_cons] at a3 ⊢
        rw [show L.length + (xs.length + 1) = L.length + 1 + xs.length by omega, a3, List.nodup_cons]
        constructor
        · rintro ⟨h1, h2⟩
          refine ⟨⟨fun z => h2 y z List.mem_cons_self, h1⟩, fun x hx => ?_⟩
          rcases List.mem_cons.mp hx with e | hx
          · rw [e]
            exact hy
          · exact fun z => h2 x hx (List.mem_cons_of_mem _ z)
        · rintro ⟨⟨h1, h2⟩, h3⟩
          refine ⟨h2, fun x hx z => ?_⟩
          rcases List.mem_cons.mp z with e | z
          · exact h1 (e ▸ hx)
          · exact h3 x (List.mem_cons_of_mem _ hx) z
theorem dd_full (xs : List Str) : (dd xs).length = xs.length ↔ xs.Nodup := by
  have h := (dd_go xs []).2.2
  rw [List.length_nil, Nat.zero_add] at h
  show (xs.foldl ins []).length = xs.length ↔ _
  rw [h]
  exact ⟨fun z => z.1, fun z => ⟨z, fun _ _ q => nomatch q⟩⟩
theorem dd_mem (xs : List Str) (x : Str) : x ∈ dd xs ↔ x ∈ xs := by
  have h := (dd_go xs []).2.1 x
  show x ∈ xs.foldl ins [] ↔ _
  rw [h]
  exact ⟨fun z => z.elim (fun q => nomatch q) id, .inr⟩
theorem ins_nodup {L : List Str} (h : L.Nodup) (k : Str) : (ins L k).Nodup := by
  unfold ins
  split
  · exact h
  · rename_i z
    exact List.nodup_cons.mpr ⟨z, h⟩
theorem dd_nodup (xs : List Str) : (dd xs).Nodup := by
  have go : ∀ (xs L : List Str), L.Nodup → (xs.foldl ins L).Nodup := by
    intro xs
    induction xs with
    | nil => intro L h; exact h
    | cons x xs ih => intro L h; exact ih _ (ins_nodup h x)
  exact go xs [] List.nodup_nil
end TxSet
namespace L2
open PySem PySem.Spec PyProof.Rows
/-- len(set(xs)) -/
def tLenSetT (K : PySem.W.Frag) (ta : TE) : TE := fun σ H Q => ta σ H fun x H1 => ∃ (l : Addr) (xs : List Str), x = .ref l ∧ SqL K H1 l (xs.map V.str) ∧ xs.length ≤ 4000 ∧ Q (.int ((TxSet.dd xs).length : Nat)) H1
theorem pe_lenSetT {X : Cx} {a : Expr} {ta : TE} {p p2 q pos : Pos} (hc : X.calm = true) (hg : Gl X "len") (hm : X.mg "len" = none) (hg2 : Gl X "set") (hm2 : X.mg "set" = none) (ha : PE X a ta)
    (na : starEach [a] X.env = (false, eval a X.env) :: starEach [] X.env := by rfl) : PE X (.Call (.Name "len" p) [.Call (.Name "set" p2) [a] [] q] [] pos) (tLenSetT X.K ta) := by
  refine ⟨fun pins s σ H Q I h => ?_⟩
  refine Call_ (ld_blt I hg hm boot_len ?_)
  refine PyProof.Rows.callWith_builtin1 (PyProof.Rows.args_cons ?_ rfl) rfl rfl
  refine Call_ (ld_blt I hg2 hm2 boot_set ?_)
  refine PyProof.Rows.callWith_type1 (PyProof.Rows.args_cons (thn (ha.run pins s σ H _ I h) fun v s1 ⟨x, H1, I1, r1, q1⟩ => PyProof.Rows.args_nil ?_) na) na rfl
  obtain ⟨l, xs, rfl, hq, hl, q1⟩ := q1
  cases r1
  obtain ⟨its, r, pl, hz⟩ := I1.list hq
  refine TxSet.set_of_list xs (I1.ok.hd hc) pl.isList (by simpa using strsAre_of r) (by unfold scanBound; omega) fun h' tk hS hk => ?_
  refine PyProof.Rows.args_nil ?_
  obtain ⟨o, es, ep, t, ho, hex, hd, _, pm, _, hb, hf, _⟩ := hS
  have hn : es.size = (TxSet.dd xs).length := by
    have z := pm.length_eq
    rw [List.length_map, Array.length_toList] at z
    exact z
  have I2 : Inv X pins σ H1 { s1 with heap := h', toks := tk } := I1.kept fun b o e => hk b o e
  refine call_len_set ho hex hd hf ?_ ⟨.int ((TxSet.dd xs).length : Nat), H1, I2.tok _, ⟨_, by rw [hn]⟩, q1⟩
  have hb' : es.size < 4096 := hb
  omega
/-- sorted(set(xs)) -/
def tSortSetT (K : PySem.W.Frag) (ta : TE) : TE := fun σ H Q => ta σ H fun x H1 => ∃ (l : Addr) (xs : List Str), x = .ref l ∧ SqL K H1 l (xs.map V.str) ∧ xs.length ≤ 4000 ∧ (TxSet.dd xs).length < 64 ∧
  ∀ (ys : List Str) (p : Addr), ys.Perm (TxSet.dd xs) → sortedS ys = true → H1 p = none → Q (.ref p) (upd H1 p (.lst (ys.map V.str)))
theorem pe_sortSetT {X : Cx} {a : Expr} {ta : TE} {p p2 q pos : Pos} (hc : X.calm = true) (hg : Gl X "sorted") (hm : X.mg "sorted" = none) (hg2 : Gl X "set") (hm2 : X.mg "set" = none) (ha : PE X a ta)
    (na : starEach [a] X.env = (false, eval a X.env) :: starEach [] X.env := by rfl) : PE X (.Call (.Name "sorted" p) [.Call (.Name "set" p2) [a] [] q] [] pos) (tSortSetT X.K ta) := by
  refine ⟨fun pins s σ H Q I h => ?_⟩
  refine Call_ (ld_blt I hg hm boot_sorted ?_)
  refine PyProof.Rows.callWith_builtin1 (PyProof.Rows.args_cons ?_ rfl) rfl rfl
  refine Call_ (ld_blt I hg2 hm2 boot_set ?_)
  refine PyProof.Rows.callWith_type1 (PyProof.Rows.args_cons (thn (ha.run pins s σ H _ I h) fun v s1 ⟨x, H1, I1, r1, q1⟩ => PyProof.Rows.args_nil ?_) na) na rfl
  obtain ⟨l, xs, rfl, hq, hl, h64, q1⟩ := q1
  cases r1
  obtain ⟨its, r, pl, hz⟩ := I1.list hq
  refine TxSet.set_of_list xs (I1.ok.hd hc) pl.isList (by simpa using strsAre_of r) (by unfold scanBound; omega) fun h' tk hS hk => ?_
  refine PyProof.Rows.args_nil ?_
  refine TxSet.sorted_txt (s := { s1 with heap := h', toks := tk }) hS (I1.ok.hd hc) h64 fun z p out c ys k2 g2 o2 hp hout hys hperm hsort => ?_
  have old : ∀ b o, s1.heap.get? b = some o → z.heap.get? b = some o := fun b o e => k2 b o (hk b o e)
  have hge : s1.heap.objs.size ≤ p := by
    have h1 : s1.heap.objs.size ≤ h'.objs.size := by
      obtain ⟨o, _, _, _, ho, _⟩ := hS
      exact Nat.le_of_lt (Heap.lt_size ho)
    exact Nat.le_trans h1 hp
  have hlen : (ys.map V.str).length ≤ sizeLine := by
    rw [List.length_map, hperm.length_eq]
    exact Nat.le_of_lt (Nat.lt_of_lt_of_le h64 (by decide))
  obtain ⟨zh, zg, zd, zt, zo⟩ := z
  obtain rfl : zg = s1.gens := g2
  obtain rfl : zo = s1.os := o2
  have hn : H1 p = none := I1.hok.fresh hge
  have J : Inv X pins σ (upd H1 p (.lst (ys.map V.str))) { s1 with heap := zh, gens := s1.gens, drawn := zd, toks := zt } :=
    I1.call (ch := []) (Un.laid old hge hn) (I1.hok.laid old hge ⟨hlen, out.toList, c, vals_of_strs hys, hout⟩) I1.bare (fun _ z => nomatch z)
  exact ⟨.ref p, _, J, rfl, q1 ys p hperm hsort hn⟩
end L2
set_option Elab.async false
set_option linter.all false
set_option maxRecDepth 100000
set_option maxHeartbeats 2000000
namespace K03
open PySem L2 PyProof.Rows
def top (i : Nat) : Stmt := PySem.Challenge.pw_partedvalues_k07_rules_refused.main.body.getD i (.Pass ⟨0, 0, 0, 0⟩)
abbrev sFresh : Stmt := top 1
abbrev sFilled : Stmt := top 23
abbrev sCkName : Stmt := top 24
abbrev sCkOpt : Stmt := top 25
abbrev sCkTerm : Stmt := top 26
abbrev sCkDef : Stmt := top 27
abbrev sCkPart : Stmt := top 28
abbrev sCkRow : Stmt := top 29
abbrev sCkRec : Stmt := top 30
abbrev sCkRules : Stmt := top 31
abbrev sPattern : Stmt := top 33
abbrev sPurse : Stmt := top 35
abbrev sCoin : Stmt := top 36
abbrev sWords : Stmt := top 37
abbrev sCopied : Stmt := top 38
abbrev sTerm : Stmt := top 39
abbrev sName : Stmt := top 40
abbrev sPart : Stmt := top 41
abbrev sDefault : Stmt := top 42
abbrev sPlan : Stmt := top 43
abbrev sIsName : Stmt := top 44
abbrev sTmFault : Stmt := top 45
abbrev sPtFault : Stmt := top 46
abbrev sFault : Stmt := top 47
abbrev sRules : Stmt := top 48
abbrev sMark : Stmt := top 49
abbrev sSame : Stmt := top 50
abbrev sCaught : Stmt := top 52
abbrev sCRight : Stmt := top 53
abbrev sRefus : Stmt := top 54
abbrev sRight : Stmt := top 56
abbrev sLaw : Stmt := top 57
abbrev sTInit : Stmt := inClass (top 3) 0
abbrev sMade : Stmt := top 51
abbrev sByOrd : Stmt := top 55
/-! ### heaps -/
/-- what was tracked stands, but at p -/
def But (p : Addr) (H H' : Hp) : Prop := ∀ b o, b ≠ p → H b = some o → H' b = some o
theorem But.refl (p : Addr) (H : Hp) : But p H H := fun _ _ _ h => h
theorem But.trans {p : Addr} {H H1 H2 : Hp} (a : But p H H1) (b : But p H1 H2) : But p H H2 := fun c o n h => b c o n (a c o n h)
theorem But.of {p : Addr} {H H' : Hp} (s : Same H H') : But p H H' := fun c o _ h => s c o h
theorem But.upd {p : Addr} {H : Hp} {o : HO} : But p H (upd H p o) := fun c o n h => by
  rw [upd_ne n]
  exact h
theorem But.new {p q : Addr} {H : Hp} {o : HO} (h : H q = none) : But p H (L2.upd H q o) := fun c u _ e => by
  rw [upd_ne (ne_of_none e h)]
  exact e
theorem same_new {H : Hp} {p : Addr} (h : H p = none) (o : HO) : Same H (upd H p o) := fun b u q => by
  rw [upd_ne (ne_of_none q h)]
  exact q
/-- a purse: three numbers, the last one the number of draws -/
def Purse (H : Hp) (p : Addr) (n : Nat) : Prop := ∃ a b c : Int, H p = some (.lst [.int a, .int b, .int c]) ∧ 0 ≤ b ∧ b < 10 ^ 25 ∧ 0 ≤ c ∧ c ≤ (n : Int)
theorem Purse.mono {H : Hp} {p : Addr} {m n : Nat} (h : Purse H p m) (hm : m ≤ n) : Purse H p n := by
  obtain ⟨a, b, c, e, h1, h2, h3, h4⟩ := h
  exact ⟨a, b, c, e, h1, h2, h3, by omega⟩
theorem Purse.same {H H' : Hp} {p : Addr} {n : Nat} (h : Purse H p n) (s : Same H H') : Purse H' p n := by
  obtain ⟨a, b, c, e, r⟩ := h
  exact ⟨a, b, c, s _ _ e, r⟩
theorem Purse.some {H : Hp} {p : Addr} {n : Nat} (h : Purse H p n) : ∃ o, H p = some o := by
  obtain ⟨a, b, c, e, r⟩ := h
  exact ⟨_, e⟩
/-- free behind But is free before (away from p) -/
theorem But.free {p q : Addr} {H H' : Hp} {o : HO} (s : But p H H') (hp : H p = some o) (hp' : ∃ o', H' p = some o') (h : H' q = none) : H q = none := by
  cases e : H q with
  | none => rfl
  | some u =>
    by_cases hq : q = p
    · obtain ⟨o', ho'⟩ := hp'
      rw [hq, ho'] at h
      cases h
    · rw [s q u hq e] at h
      cases h

theorem at3_0 {x y z : V} : atI [x, y, z] 0 = some x := atI_nat (j := 0) rfl
theorem at3_1 {x y z : V} : atI [x, y, z] 1 = some y := atI_nat (j := 1) rfl
theorem at3_2 {x y z : V} : atI [x, y, z] 2 = some z := atI_nat (j := 2) rfl
theorem pos_nat {a b : Int} {n : Nat} (h0 : 0 ≤ a) (h : a < b) (hb : b.toNat ≤ n) : a.natAbs < n := by omega
/-! ### the promises -/
def spPurse (K : PySem.W.Frag) : Sp := fun vs H Q _ => ∃ (a : Addr) (ns : List Int) (i : Nat), vs = [.ref a, .int (i : Int)] ∧ SqL K H a (ns.map V.int) ∧ ns.length ≤ 63 ∧ i ≤ 100 ∧
  ∀ p H', H p = none → Same H H' → Purse H' p 0 → Q (.ref p) H'
def spCoin : Sp := fun vs H Q _ => ∃ (p : Addr) (m : Int) (n : Nat), vs = [.ref p, .int m] ∧ Purse H p n ∧ n < 10 ^ 60 ∧ 0 < m ∧ m ≤ 10 ^ 12 ∧
  ∀ d H', 0 ≤ d → d < m → But p H H' → Purse H' p (n + 1) → Q (.int d) H'
structure Txt (K : PySem.W.Frag) (mg : Str → Option Value) : Prop where
  len : mg "len" = none
  max : mg "max" = none
  min : mg "min" = none
  abs : mg "abs" = none
  int : mg "int" = none
  range : mg "range" = none
  set : mg "set" = none
  list : mg "list" = none
  tuple : mg "tuple" = none
  all : mg "all" = none
  repr : mg "repr" = none
  isi : mg "isinstance" = none
section
variable {P : Program} {w : World} {K : PySem.W.Frag} {mg : Str → Option Value} {base : Heap}
theorem scP : FnScope ["script", "place", "cell"] ["script", "place"] (defScope sPurse) := ⟨rfl, rfl, rfl, by decide +kernel, rfl, by decide +kernel, by decide +kernel⟩
theorem ok_purse {f : Addr} {fd : FuncData} (F : Fun K "_law_purse" "_law_purse" sPurse f fd) (T : Txt K mg) : FnOk P w K mg base CX0 1 f fd ["script", "place"] (spPurse K) := by
  refine F.ok scP (fun vs H Q E h => ?_) (fun cdv A outer s H vs Q E hr h => ?_)
  · obtain ⟨a, ns, i, rfl, _⟩ := h
    rfl
  obtain ⟨a, ns, i, rfl, hS, hl, hi, k⟩ := h
  refine ⟨_, Evl.pss_cut (ps_set (i := 2) scP.nd rfl (Or.inl rfl) (pe_ifExp (pt_cmpR op_lt (pv 1) (pe_callB call_len_seq (by rfl) T.len PySem.boot_len (pa_cons (pv 0) pa_nil)) (nomark _)) (pe_ix ix_list (pv 0) (pv 1) (fun _ _ => rfl)) pe_int))
    (pss_one (ps_ret (pe_lst (pa_cons (pe_callB (call_max2 rfl) (by rfl) T.max boot_max (pa_cons pe_int (pa_cons (pe_op op_sub (pe_callB call_abs (by rfl) T.abs boot_abs (pa_cons (pv 2) pa_nil)) (pe_op op_pow pe_int pe_int)) pa_nil)))
      (pa_cons (pe_op op_mod (pe_callTy call_int1 (by rfl) T.int boot_int (pa_cons (pe_op op_add (pe_op op_add (pe_op op_mul (pv 2) pe_int) (pe_op op_mul (pv 1) pe_int)) pe_int) pa_nil)) (pe_op op_add (pe_op op_pow pe_int pe_int) pe_int))
      (pa_cons pe_int pa_nil)))))), ?_⟩
  refine ⟨fun σ' H' => H' = H ∧ ∃ c : Int, σ' = [some (.ref a), some (.int (i : Int)), some (.int c)], ?_, ?_⟩
  · refine ⟨_, rfl, _, rfl, a, _, rfl, .inl hS, _, _, rfl, rfl, _, rfl, ?_⟩
    refine ite2 (fun c => ?_) (fun c => ⟨rfl, 0, rfl⟩)
    have c' : (i : Int) < (((ns.map V.int).length : Nat) : Int) := of_decide_eq_true c
    rw [List.length_map] at c'
    have hi' : i < ns.length := by omega
    refine ⟨_, rfl, _, rfl, a, _, _, _, rfl, rfl, hS, atI_nat (v := .int ns[i]) (by rw [List.getElem?_map, List.getElem?_eq_getElem hi']; rfl), ?_⟩
    exact ⟨rfl, _, rfl⟩
  · rintro σ' H' ⟨rfl, c, rfl⟩
    refine ⟨_, rfl, _, rfl, _, _, rfl, rfl, ⟨by decide, by decide, by decide⟩, _, _, rfl, rfl, _, _, rfl, ?_⟩
    refine ⟨_, rfl, _, _, rfl, rfl, .inr ⟨by decide, by decide⟩, _, rfl, _, _, rfl, rfl, .inr ⟨by decide, by decide⟩, _, _, rfl, rfl, _, _, rfl, rfl, .inl ⟨_, rfl, ?_⟩⟩
    refine ⟨_, _, rfl, rfl, ⟨by decide, by decide, by decide⟩, _, _, rfl, rfl, _, _, rfl, rfl, (by show (0 : Int) < 10 ^ (24 : Nat) + 7; decide), ?_⟩
    refine ⟨(by show 3 ≤ sizeLine; decide), fun p hp => ?_⟩
    refine k p _ hp (same_new hp _) ⟨_, _, _, upd_same, ?_, ?_, Int.le_refl 0, Int.le_refl 0⟩
    · exact Int.emod_nonneg _ (by show (10 ^ (24 : Nat) + 7 : Int) ≠ 0; decide)
    · refine Int.lt_trans (Int.emod_lt_of_pos _ (by show (0 : Int) < 10 ^ (24 : Nat) + 7; decide)) ?_
      show (10 ^ (24 : Nat) + 7 : Int) < 10 ^ 25
      decide
theorem scC : FnScope ["purse", "many", "drawn", "stirred"] ["purse", "many"] (defScope sCoin) := ⟨rfl, rfl, rfl, by decide +kernel, rfl, by decide +kernel, by decide +kernel⟩
theorem ok_coin {f : Addr} {fd : FuncData} (F : Fun K "_law_coin" "_law_coin" sCoin f fd) (T : Txt K mg) : FnOk P w K mg base CX0 1 f fd ["purse", "many"] spCoin := by
  refine F.ok scC (fun vs H Q E h => ?_) (fun cdv A outer s H vs Q E hr h => ?_)
  · obtain ⟨p, m, n, rfl, _⟩ := h
    rfl
  obtain ⟨p, m, n, rfl, ⟨a, b, c, hp, hb0, hb1, hc0, hc1⟩, hn, hm0, hm1, k⟩ := h
  refine ⟨_, pss_cons (ps_if (pt_cmpR op_gt (pe_ix ix_list (pv 0) pe_int (fun _ _ => rfl)) pe_int (nomark _))
      (pss_cons (ps_set (i := 2) scC.nd rfl (Or.inl rfl) (pe_op op_mod (pe_callTy call_int1 (by rfl) T.int boot_int (pa_cons (pe_ix ix_list (pv 0) pe_int (fun _ _ => rfl)) pa_nil)) (pv 1)))
      (pss_cons (ps_asg (pe_op op_fdivW (pe_ix ix_list (pv 0) pe_int (fun _ _ => rfl)) (pv 1)) (pg_sub (pv 0) pe_int set_list))
      (pss_one (ps_ret (pv 2))))) pss_nil)
    (pss_cons (ps_asg (pe_op op_add (pe_ix ix_list (pv 0) pe_int (fun _ _ => rfl)) pe_int) (pg_sub (pv 0) pe_int set_list))
    (pss_cons (ps_set (i := 3) scC.nd rfl (Or.inl rfl) (pe_op op_mod (pe_op op_powW (pe_callTy call_int1 (by rfl) T.int boot_int (pa_cons (pe_op op_add (pe_ix ix_list (pv 0) pe_int (fun _ _ => rfl)) (pe_op op_mul pe_int (pe_ix ix_list (pv 0) pe_int (fun _ _ => rfl)))) pa_nil)) pe_int) (pe_op op_add (pe_op op_pow pe_int pe_int) pe_int)))
    (pss_cons (ps_set (i := 3) scC.nd rfl (Or.inl rfl) (pe_op op_mod (pe_op op_powW (pe_callTy call_int1 (by rfl) T.int boot_int (pa_cons (pe_op op_add (pv 3) (pe_op op_mul pe_int (pe_ix ix_list (pv 0) pe_int (fun _ _ => rfl)))) pa_nil)) pe_int) (pe_op op_add (pe_op op_pow pe_int pe_int) pe_int)))
    (pss_one (ps_ret (pe_op op_mod (pe_callTy call_int1 (by rfl) T.int boot_int (pa_cons (pe_op op_fdivW (pv 3) pe_int) pa_nil)) (pv 1))))))), ?_⟩
  refine ⟨_, rfl, p, _, _, _, rfl, rfl, SqL.of hp, at3_0, _, _, rfl, rfl, _, rfl, ?_⟩
  have m2 : m.natAbs < 2 ^ 50 := Nat.lt_of_le_of_lt (show m.natAbs ≤ 10 ^ 12 by omega) (by decide)
  refine ite2 (fun h1 => ?_) (fun h1 => ?_)
  · refine ⟨_, rfl, p, _, _, _, rfl, rfl, SqL.of hp, at3_0, .inl ⟨_, rfl, _, rfl, _, _, rfl, rfl, hm0, ?_⟩⟩
    refine ⟨_, rfl, p, _, _, _, rfl, rfl, SqL.of hp, at3_0, _, rfl, _, _, rfl, rfl, wide_div hm0 m2 (by decide) (by decide), ?_⟩
    refine ⟨_, rfl, p, _, _, 0, rfl, rfl, hp, rfl, ?_⟩
    refine ⟨_, rfl, k _ _ (Int.emod_nonneg _ (by omega)) (Int.emod_lt_of_pos _ hm0) But.upd ⟨_, _, _, upd_same, hb0, hb1, hc0, by omega⟩⟩
  · have c1 : c + 1 ≤ 10 ^ 60 := by omega
    refine ⟨_, rfl, p, _, _, _, rfl, rfl, SqL.of hp, at3_2, _, _, rfl, rfl, ?_⟩
    refine ⟨_, rfl, p, _, _, 2, rfl, rfl, hp, rfl, ?_⟩
    have hp1 : (upd H p (.lst [.int a, .int b, .int (c + 1)])) p = some (.lst [.int a, .int b, .int (c + 1)]) := upd_same
    refine ⟨_, rfl, p, _, _, _, rfl, rfl, SqL.of hp1, at3_1, _, rfl, p, _, _, _, rfl, rfl, SqL.of hp1, at3_2, ?_⟩
    refine ⟨_, _, rfl, rfl, .inl ⟨by decide, by decide⟩, _, _, rfl, rfl, .inl ⟨_, rfl, _, _, rfl, rfl, ⟨by decide, by decide, ?_⟩, ?_⟩⟩
    · exact Nat.lt_of_lt_of_le (pos_nat (b := 10 ^ 25 + 2038074743 * 10 ^ 60 + 1) (n := 2 ^ 300) (by omega) (by omega) (by decide)) (Nat.pow_le_pow_right (by decide) (by decide))
    refine ⟨_, _, rfl, rfl, ⟨by decide, by decide, by decide⟩, _, _, rfl, rfl, _, _, rfl, rfl, (by show (0 : Int) < 10 ^ (25 : Nat) + 13; decide), ?_⟩
    generalize hd : (b + 2038074743 * (c + 1)) ^ (3 : Int).toNat % (10 ^ (25 : Int).toNat + 13) = d
    have d0 : 0 ≤ d := by
      rw [← hd]
      exact Int.emod_nonneg _ (by decide)
    have d1 : d < 10 ^ 26 := by
      rw [← hd]
      exact Int.lt_trans (Int.emod_lt_of_pos _ (by decide)) (by decide)
    refine ⟨_, rfl, _, rfl, p, _, _, _, rfl, rfl, SqL.of hp1, at3_2, ?_⟩
    refine ⟨_, _, rfl, rfl, .inl ⟨by decide, by decide⟩, _, _, rfl, rfl, .inl ⟨_, rfl, _, _, rfl, rfl, ⟨by decide, by decide, ?_⟩, ?_⟩⟩
    · exact Nat.lt_of_lt_of_le (pos_nat (b := 10 ^ 26 + 982451653 * 10 ^ 60 + 1) (n := 2 ^ 300) (by omega) (by omega) (by decide)) (Nat.pow_le_pow_right (by decide) (by decide))
    refine ⟨_, _, rfl, rfl, ⟨by decide, by decide, by decide⟩, _, _, rfl, rfl, _, _, rfl, rfl, (by show (0 : Int) < 10 ^ (24 : Nat) + 7; decide), ?_⟩
    refine ⟨_, rfl, _, _, rfl, rfl, wide_div (b := 11) (by decide) (by decide) (by decide) (by decide), .inl ⟨_, rfl, _, rfl, _, _, rfl, rfl, hm0, ?_⟩⟩
    exact k _ _ (Int.emod_nonneg _ (by omega)) (Int.emod_lt_of_pos _ hm0) But.upd ⟨_, _, _, upd_same, hb0, hb1, by omega, by omega⟩
end
end K03
set_option Elab.async false
set_option linter.all false
set_option maxRecDepth 100000
set_option maxHeartbeats 4000000
namespace K03
open PySem L2 PyProof.Rows
abbrev nW : List Str := ["purse", "many", "letters", "sort_here", "menu", "stem", "start", "rank", "found", "size", "base", "word", "tail", "at", "turn"]
/-- what stands around: the purse drawn from c times at most, all else kept, a list of texts apart -/
def Around1 (H : Hp) (p : Addr) (c : Nat) (H' : Hp) : Prop := But p H H' ∧ Purse H' p c
theorem Around1.same {H H1 H2 : Hp} {p : Addr} {c : Nat} (h : Around1 H p c H1) (s : Same H1 H2) : Around1 H p c H2 := ⟨h.1.trans (.of s), h.2.same s⟩
theorem Around1.mono {H H1 : Hp} {p : Addr} {c d : Nat} (h : Around1 H p c H1) (hd : c ≤ d) : Around1 H p d H1 := ⟨h.1, h.2.mono hd⟩
theorem Around1.draw {H H1 H2 : Hp} {p : Addr} {c : Nat} (h : Around1 H p c H1) (b : But p H1 H2) (q : Purse H2 p (c + 1)) : Around1 H p (c + 1) H2 := ⟨h.1.trans b, q⟩
theorem Around1.new {H H1 : Hp} {p a : Addr} {c : Nat} {o : HO} (h : Around1 H p c H1) (ha : H1 a = none) : Around1 H p c (upd H1 a o) := h.same (same_new ha o)
theorem Around1.trans {H H1 H2 : Hp} {p : Addr} {c d : Nat} (h : Around1 H p c H1) (k : Around1 H1 p d H2) : Around1 H p d H2 := ⟨h.1.trans k.1, k.2⟩
/-- an object that is not the purse may change -/
theorem Around1.put {H H1 : Hp} {p a : Addr} {c : Nat} {o : HO} (h : Around1 H p c H1) (ha : H a = none) (hp : a ≠ p) : Around1 H p c (upd H1 a o) := by
  refine ⟨fun b u n e => ?_, ?_⟩
  · rw [upd_ne (ne_of_none e ha)]
    exact h.1 b u n e
  · obtain ⟨x, y, z, e, r⟩ := h.2
    exact ⟨x, y, z, by rw [upd_ne hp.symm]; exact e, r⟩
theorem Around1.free {H H1 : Hp} {p a : Addr} {c n : Nat} (h : Around1 H p c H1) (h0 : Purse H p n) (ha : H1 a = none) : H a = none := by
  obtain ⟨o, e⟩ := h0.some
  exact h.1.free e h.2.some ha
theorem Purse.ne {H : Hp} {p a : Addr} {n : Nat} (h : Purse H p n) (ha : H a = none) : a ≠ p := fun e => by
  obtain ⟨o, q⟩ := h.some
  rw [e, q] at ha
  cases ha
/-- small letters alone -/
def ls (z : Str) : Prop := ∀ c ∈ z.cps.toList, 97 ≤ c ∧ c ≤ 122
/-- a name: one to eight small letters -/
def okName (z : Str) : Prop := 1 ≤ z.length ∧ z.length ≤ 8 ∧ ls z
def spWords : Sp := fun vs H Q _ => ∃ (p : Addr) (m n : Nat), vs = [.ref p, .int (m : Int)] ∧ 1 ≤ m ∧ m ≤ 26 ∧ Purse H p n ∧ n + 400 < 10 ^ 60 ∧
  ∀ (r : Addr) (zs : List Str) H', Around1 H p (n + 400) H' → H r = none → H' r = some (.lst (zs.map V.str)) → zs.length = m → zs.Nodup → (∀ z ∈ zs, okName z) → Q (.ref r) H'
abbrev LT : Str := Str.ofString "abcdefghijklmnopqrstuvwxyz"
def menuT : List Str := ["soon", "late", "absent", "nothing", "name", "any", "row", "record", "a", "b", "f", "read", "call", "known"].map Str.ofString
theorem menu_small : ∀ z ∈ menuT, z.length ≤ 8 := by decide +kernel
theorem at_ofN {α : Type} {xs : List α} {z : Int} {j : Nat} {v : α} (e : z = (j : Int)) (h : xs[j]? = some v) : atI xs z = some v := by
  rw [e]
  exact atI_nat h
theorem sum_ones : ∀ {ys : List Str}, (∀ y ∈ ys, y.length = 1) → (ys.map (·.length)).sum = ys.length
  | [], _ => rfl
  | y :: ys, h => by
    rw [List.map_cons, List.sum_cons, sum_ones fun z hz => h z (List.mem_cons_of_mem _ hz), h y List.mem_cons_self, List.length_cons]
    exact Nat.add_comm _ _
theorem join_room {ys : List Str} (h : ∀ y ∈ ys, y.length = 1) (hl : ys.length ≤ 1000) : (ys.map (·.length)).sum + ys.length * (Str.ofString "").length ≤ 16777216 := by
  rw [sum_ones h, show (Str.ofString "").length = 0 by decide]
  omega
theorem lt_all : ∀ r, r < 26 → LT.cps.toList[r]? = some (97 + r) := by decide +kernel
theorem lt_at {d : Int} (h0 : 0 ≤ d) (h1 : d < 26) : atI LT.cps.toList d = some (97 + d.toNat) := at_ofN (show d = ((d.toNat : Nat) : Int) by omega) (lt_all d.toNat (by omega))
theorem ls_one {r : Nat} (h : r < 26) : ls ⟨#[97 + r]⟩ := fun c hc => by
  have e : c = 97 + r := by simpa using hc
  omega
theorem ls_app {x y : Str} (hx : ls x) (hy : ls y) : ls (x ++ y) := fun c hc => by
  have e : (x ++ y).cps.toList = x.cps.toList ++ y.cps.toList := Array.toList_append
  rw [e] at hc
  rcases List.mem_append.mp hc with h | h
  · exact hx c h
  · exact hy c h
theorem ls_cut {z : Str} (h : ls z) (lo hi : Option Int) : ls (cutS z lo hi) := fun c hc => by
  have hc' : c ∈ ((z.cps.toList.drop (HT.sIx z.length 0 lo)).take (HT.sIx z.length z.length hi - HT.sIx z.length 0 lo)).toArray.toList := hc
  rw [List.toList_toArray] at hc'
  exact h c (List.mem_of_mem_drop (List.mem_of_mem_take hc'))
theorem ls_join : ∀ {ys : List Str}, (∀ y ∈ ys, ls y) → ls (Str.join (Str.ofString "") ys)
  | [], _ => fun c hc => by
    have e : (Str.join (Str.ofString "") []).cps.toList = [] := rfl
    rw [e] at hc
    cases hc
  | [x], h => h x List.mem_cons_self
  | x :: y :: r, h => by
    have e0 : ls (Str.ofString "") := fun c hc => by
      have e : (Str.ofString "").cps.toList = [] := by decide +kernel
      rw [e] at hc
      cases hc
    show ls (x ++ Str.ofString "" ++ Str.join (Str.ofString "") (y :: r))
    exact ls_app (ls_app (h x List.mem_cons_self) e0) (ls_join fun z hz => h z (List.mem_cons_of_mem _ hz))
theorem ls_joinT {ys : List Str} (h : ∀ y ∈ ys, ls y) : ls (Txt.join (Str.ofString "") ys) := by
  have e : Txt.join (Str.ofString "") ys = Str.join (Str.ofString "") ys := StrLaws.glued_eq_join _ _
  rw [e]
  exact ls_join h
theorem cut_pre {z : Str} {k : Int} {n : Nat} (e : k = (n : Int)) : (cutS z none (some k)).length = min n z.length ∧ (cutS z none (some k)).cps.toList = z.cps.toList.take n := by
  subst e
  have e1 : (cutS z none (some (n : Int))).cps.toList = z.cps.toList.take n := by
    show ((z.cps.toList.drop (HT.sIx z.length 0 none)).take (HT.sIx z.length z.length (some (n : Int)) - HT.sIx z.length 0 none)).toArray.toList = _
    rw [HT.sIx_none, HT.sIx_nat, List.drop_zero, Nat.sub_zero, List.toList_toArray]
    rcases Nat.le_total n z.length with h | h
    · rw [Nat.min_eq_left h]
    · rw [Nat.min_eq_right h]
      have hz : z.length = z.cps.toList.length := rfl
      rw [List.take_of_length_le (by rw [hz]; exact Nat.le_refl _), List.take_of_length_le (by rw [← hz]; exact h)]
  refine ⟨?_, e1⟩
  show (cutS z none (some (n : Int))).cps.toList.length = _
  rw [e1, List.length_take]
  rfl
theorem cut_post {z : Str} {k : Int} {n : Nat} (e : k = (n : Int)) (hn : n ≤ z.length) : (cutS z (some k) none).cps.toList = z.cps.toList.drop n := by
  subst e
  show ((z.cps.toList.drop (HT.sIx z.length 0 (some (n : Int)))).take (HT.sIx z.length z.length none - HT.sIx z.length 0 (some (n : Int)))).toArray.toList = _
  rw [HT.sIx_none, HT.sIx_nat, List.toList_toArray, Nat.min_eq_left hn]
  refine List.take_of_length_le ?_
  rw [List.length_drop]
  exact Nat.le_refl _
theorem nodup_map {f : Nat → Str} {m : Nat} (h : ∀ i j, i < m → j < m → f i = f j → i = j) : ((List.range m).map f).Nodup := by
  rw [List.nodup_iff_pairwise_ne, List.pairwise_map]
  refine List.Pairwise.imp_of_mem (fun {a b} ha hb hab e => ?_) (List.nodup_iff_pairwise_ne.mp (List.nodup_range (n := m)))
  exact hab (h a b (List.mem_range.mp ha) (List.mem_range.mp hb) e)
theorem more_map {H : Hp} {D : Addr} {f : Nat → Str} {i : Nat} {y : V} (e : y = .str (f i)) : (upd H D (.lst (((List.range i).map f).map V.str ++ [y]))) D = some (.lst (((List.range (i + 1)).map f).map V.str)) := by
  rw [upd_same, e, List.range_succ, List.map_append, List.map_append]
  rfl
theorem room_map {f : Nat → Str} {i : Nat} (h : i ≤ 1000) : (((List.range i).map f).map V.str).length < sizeLine := by
  rw [List.length_map, List.length_map, List.length_range]
  exact Nat.lt_of_le_of_lt h (by decide)
theorem menu_ok : ∀ z ∈ menuT, 1 ≤ z.length ∧ z.length ≤ 8 ∧ z.cps.toList.all (fun c => decide (97 ≤ c ∧ c ≤ 122)) = true := by decide +kernel
theorem menu_name {z : Str} (h : z ∈ menuT) : okName z := by
  obtain ⟨h1, h2, h3⟩ := menu_ok z h
  exact ⟨h1, h2, fun c hc => of_decide_eq_true (List.all_eq_true.mp h3 c hc)⟩
theorem menu_inj : ∀ i, i < 14 → ∀ j, j < 14 → menuT.getD i Str.empty = menuT.getD j Str.empty → i = j := by decide +kernel
theorem menu_at {d : Int} (h0 : 0 ≤ d) (h1 : d < 14) : atI (menuT.map V.str) d = some (.str (menuT.getD d.toNat Str.empty)) ∧ menuT.getD d.toNat Str.empty ∈ menuT := by
  have hl : menuT.length = 14 := rfl
  have hd : d.toNat < menuT.length := by omega
  have e : menuT.getD d.toNat Str.empty = menuT[d.toNat] := by
    rw [List.getD_eq_getElem?_getD, List.getElem?_eq_getElem hd]
    rfl
  refine ⟨at_ofN (show d = ((d.toNat : Nat) : Int) by omega) ?_, by rw [e]; exact List.getElem_mem hd⟩
  rw [List.getElem?_map, List.getElem?_eq_getElem hd, e]
  rfl
theorem same_put {H H' : Hp} {a : Addr} {o : HO} (s : Same H H') (ha : H a = none) : Same H (upd H' a o) := fun b u e => by
  rw [upd_ne (ne_of_none e ha)]
  exact s b u e
/-- one more text behind a list of texts -/
theorem more_str {H : Hp} {D : Addr} {ys : List Str} {z : Str} : (upd H D (.lst (ys.map V.str ++ [.str z]))) D = some (.lst ((ys ++ [z]).map V.str)) := by
  rw [upd_same, List.map_append]
  rfl
theorem all_more {ys : List Str} {z : Str} {n : Nat} (h : ∀ y ∈ ys, y.length ≤ n) (hz : z.length ≤ n) : ∀ y ∈ ys ++ [z], y.length ≤ n := fun y hy => by
  rcases List.mem_append.mp hy with hy | hy
  · exact h y hy
  · rw [List.mem_singleton.mp hy]
    exact hz
theorem len_more {ys : List Str} {z : Str} {i : Nat} (h : ys.length = i) : (ys ++ [z]).length = i + 1 := by
  rw [List.length_append, h]
  rfl
theorem room_more {ys : List Str} {n : Nat} (h : ys.length ≤ n) (hn : n ≤ 1000) : (ys.map V.str).length < sizeLine := by
  rw [List.length_map]
  exact Nat.lt_of_lt_of_le (show ys.length < 1001 by omega) (by decide)
theorem only_one {ys : List Str} (h : ys.length = 1) : ∃ z, ys = [z] := by
  match ys, h with
  | [z], _ => exact ⟨z, rfl⟩
theorem two_at {x y : Str} {d : Int} {n : Nat} (h0 : 0 ≤ d) (h1 : d < 2) (hx : x.length ≤ n) (hy : y.length ≤ n) : ∃ z : Str, atI [V.str x, V.str y] d = some (.str z) ∧ z.length ≤ n := by
  have e : d = ((0 : Nat) : Int) ∨ d = ((1 : Nat) : Int) := by omega
  rcases e with e | e
  · exact ⟨x, at_ofN e rfl, hx⟩
  · exact ⟨y, at_ofN e rfl, hy⟩
theorem cut_one (ys : List Str) : cutV (ys.map V.str) none (some 1) = (ys.take 1).map V.str := by
  have e : cutV (ys.map V.str) none (some ((1 : Nat) : Int)) = (ys.take 1).map V.str := by
    unfold cutV
    rw [HT.sIx_none, HT.sIx_nat, List.drop_zero, Nat.sub_zero, List.map_take]
    cases ys with
    | nil => rfl
    | cons y r => rfl
  exact e
theorem cut_many (ys : List Str) (m : Nat) : cutV (ys.map V.str) none (some (m : Int)) = (ys.take m).map V.str := by
  unfold cutV
  rw [HT.sIx_none, HT.sIx_nat, List.drop_zero, Nat.sub_zero, List.map_take]
  rcases Nat.le_total m (ys.map V.str).length with h | h
  · rw [Nat.min_eq_left h]
  · rw [Nat.min_eq_right h, List.take_of_length_le (Nat.le_refl _), List.take_of_length_le h]
theorem small100 {n : Nat} (h : n ≤ 1000) : n ≤ sizeLine := Nat.le_trans h (by decide)
theorem lst_ne {xs ys : List V} (h : xs ≠ ys) : HO.lst xs ≠ HO.lst ys := fun e => h (HO.lst.inj e)
/-- [letters[_law_coin(purse, 26)] for turn in range(m)], the loop alone -/
theorem letters_go {σ : L2.St} {H0 H : Hp} {p D : Addr} {c m : Nat} {Qd : Hp → Prop} (h0 : ∀ v, ((wipe σ [14]).set 14 (some v))[0]? = some (some (.ref p))) (h2 : ∀ v, ((wipe σ [14]).set 14 (some v))[2]? = some (some (.str LT)))
    (hw : ∀ v, wipe ((wipe σ [14]).set 14 (some v)) [14] = wipe σ [14]) (hA : Around1 H0 p c H) (hc : c + m < 10 ^ 60) (hm : m ≤ 1000) (hD : H D = none)
    (hd : ∀ (ys : List Str) H', Around1 H p (c + m) H' → H' D = some (.lst (ys.map V.str)) → ys.length = m → (∀ y ∈ ys, y.length = 1) → (∀ y ∈ ys, ls y) → Qd H') :
    ∃ W : Nat → Nat → Hp → Prop, (∃ m, W 0 m (upd H D (.lst []))) ∧ ∀ i k H1, W i k H1 →
      ((Itr 0 m).stop i H1 ∧ Qd H1) ∨ ((Itr 0 m).go i H1 ∧ ∃ Nx : Hp → Prop, (∀ H', Nx H' → ∃ m', m' < k ∧ W (i + 1) m' H') ∧ ∀ x H', (Itr 0 m).yld i H1 x H' → gName 14 x (wipe σ [14]) H' fun σ2 H2 => wipe σ2 [14] = wipe σ [14] ∧ tYes σ2 H2 fun b H3 =>
        if b = true then tOp rIxS (tVar 2) (tCall spCoin [] E0 (tCons (tVar 0) (tCons (tC (.int 26)) tNil))) σ2 H3 fun y H4 => ∃ acc, H4 D = some (.lst acc) ∧ acc.length < sizeLine ∧ Nx (upd H4 D (.lst (acc ++ [y]))) else Nx H3) := by
  have hDp : D ≠ p := hA.2.ne hD
  refine lc_range (lo := 0) (n := m) (fun i H' => ∃ ys : List Str, Around1 H p (c + i) H' ∧ H' D = some (.lst (ys.map V.str)) ∧ ys.length = i ∧ (∀ y ∈ ys, y.length = 1) ∧ ∀ y ∈ ys, ls y)
    ⟨[], ⟨.of (same_new hD _), hA.2.same (same_new hD _)⟩, upd_same, rfl, (fun _ h => nomatch h), fun _ h => nomatch h⟩ ?_ ?_
  · rintro i H1 hi ⟨ys, hA1, hD1, hl, h1, hs1⟩
    refine ⟨hw _, ?_⟩
    show tOp rIxS (tVar 2) (tCall spCoin [] E0 (tCons (tVar 0) (tCons (tC (.int 26)) tNil))) _ H1 _
    refine ⟨_, h2 _, _, h0 _, p, 26, c + i, rfl, hA1.2, by omega, by decide, by decide, fun d H2 d0 d1 hb hp2 => ?_⟩
    refine ⟨LT, d, _, rfl, rfl, by decide +kernel, lt_at d0 d1, ?_⟩
    have hD2 : H2 D = some (.lst (ys.map V.str)) := hb _ _ hDp hD1
    refine ⟨_, hD2, by rw [List.length_map]; exact Nat.lt_of_lt_of_le (show ys.length < 1000 by omega) (by decide), ys ++ [⟨#[97 + d.toNat]⟩], ?_, ?_, ?_, ?_, ?_⟩
    · exact (hA1.draw hb hp2).put hD hDp
    · rw [upd_same, List.map_append]
      rfl
    · rw [List.length_append, hl]
      rfl
    · intro y hy
      rcases List.mem_append.mp hy with hy | hy
      · exact h1 y hy
      · rw [List.mem_singleton.mp hy]
        rfl
    · intro y hy
      rcases List.mem_append.mp hy with hy | hy
      · exact hs1 y hy
      · rw [List.mem_singleton.mp hy]
        exact ls_one (by omega)
  · rintro H1 ⟨ys, hA1, hD1, hl, h1, hs1⟩
    exact hd ys H1 hA1 hD1 hl h1 hs1
section
variable {P : Program} {w : World} {K : PySem.W.Frag} {mg : Str → Option Value} {base : Heap}
theorem scW : FnScope nW ["purse", "many"] (defScope sWords) := ⟨rfl, rfl, rfl, by decide +kernel, rfl, by decide +kernel, by decide +kernel⟩
theorem ok_words {f fC : Addr} {fd fdC : FuncData} (F : Fun K "_law_words" "_law_words" sWords f fd) (T : Txt K mg) (FC : Fun K "_law_coin" "_law_coin" sCoin fC fdC) (bC : Binds K fdC ["purse", "many"] []) (mC : mg "_law_coin" = some (.ref fC)) :
    FnOk P w K mg base CX0 2 f fd ["purse", "many"] spWords := by
  have GC : FnOk P w K mg base CX0 1 fC fdC ["purse", "many"] spCoin := ok_coin FC T
  refine F.ok scW (fun vs H Q E h => ?_) (fun cdv A outer s H vs Q E hr h => ?_)
  · obtain ⟨p, m, n, rfl, _⟩ := h
    rfl
  obtain ⟨p, m, n, rfl, hm1, hm26, hp, hn, k⟩ := h
  refine ⟨_, Evl.pss_cut (ps_asg (pe_tup (pa_cons pe_str (pa_cons (pe_call GC hr rfl mC FC.kp bC .nil pass0 (pa_cons (pv 0) (pa_cons pe_int pa_nil))) pa_nil))) (pg_tup rfl (pgs_cons (pg_name (i := 2) scW.nd rfl (.inr rfl)) (pgs_cons (pg_name (i := 3) scW.nd rfl (.inl rfl)) pgs_nil))))
    (Evl.pss_cut (ps_set (i := 4) scW.nd rfl (Or.inr rfl) (pe_lst (pa_cons pe_str (pa_cons pe_str (pa_cons pe_str (pa_cons pe_str (pa_cons pe_str (pa_cons pe_str (pa_cons pe_str pa_nil)))))))))
    (Evl.pss_cut (ps_set (i := 4) scW.nd rfl (Or.inr rfl) (pe_op op_cat (pv 4) (pe_lst (pa_cons pe_str (pa_cons pe_str (pa_cons pe_str (pa_cons pe_str (pa_cons pe_str (pa_cons pe_str (pa_cons pe_str pa_nil))))))))))
    (Evl.pss_cut (ps_set (i := 5) scW.nd rfl (Or.inr rfl) (pe_bm PySem.F.plainAttrs_str PySem.F.slot_str_join PySem.F.type_str_join mt_join pe_str (pa_cons (pe_lc (own := [("turn", 14)]) (g := gName 14) (tt := tYes) rfl scW.nd (pi_range1 rfl T.range (pa_cons pe_int pa_nil)) (blkOk_by (N := nW) (sc := defScope sWords) (by decide +kernel)) (fun _ _ _ _ _ => pg_name (i := 14) scW.nd rfl (Or.inl rfl)) (fun _ _ _ _ _ => pts_nil)
        (fun _ _ _ _ _ => pe_ix ix_str (pv 2) (pe_call GC hr rfl mC FC.kp bC .nil pass0 (pa_cons (pv 0) (pa_cons pe_int pa_nil))) (fun _ _ => rfl))) pa_nil)))
    (Evl.pss_cut (ps_if (pw_and (pt_cmpR op_eq (pv 3) pe_int (nomark _)) (pw_and1 (pt_cmpR op_lt (pv 1) pe_int (nomark _)))).pt
        (pss_cons (ps_set (i := 6) scW.nd rfl (Or.inr rfl) (pe_call GC hr rfl mC FC.kp bC .nil pass0 (pa_cons (pv 0) (pa_cons pe_int pa_nil))))
        (pss_one (ps_ret (pe_lc (own := [("rank", 7)]) (g := gName 7) (tt := tYes) rfl scW.nd (pi_range1 rfl T.range (pa_cons (pv 1) pa_nil)) (blkOk_by (N := nW) (sc := defScope sWords) (by decide +kernel)) (fun _ _ _ _ _ => pg_name (i := 7) scW.nd rfl (Or.inl rfl)) (fun _ _ _ _ _ => pts_nil)
          (fun _ _ _ _ _ => pe_ix (show IxR _ (rIxL K) from ix_list) (pv 4) (pe_op op_mod (pe_callTy call_int1 (by rfl) T.int boot_int (pa_cons (pe_op op_add (pv 6) (pe_op op_mul pe_int (pv 7))) pa_nil)) pe_int) (fun _ _ => rfl)))))) pss_nil)
    (Evl.pss_cut (ps_if (pw_and (pt_cmpR op_eq (pv 3) pe_int (nomark _)) (pw_and1 (pt_cmpR op_lt (pv 1) pe_int (nomark _)))).pt
        (pss_cons (ps_set (i := 6) scW.nd rfl (Or.inr rfl) (pe_call GC hr rfl mC FC.kp bC .nil pass0 (pa_cons (pv 0) (pa_cons (pe_op op_sub pe_int (pv 1)) pa_nil))))
        (pss_one (ps_ret (pe_lc (own := [("rank", 7)]) (g := gName 7) (tt := tYes) rfl scW.nd (pi_range1 rfl T.range (pa_cons (pv 1) pa_nil)) (blkOk_by (N := nW) (sc := defScope sWords) (by decide +kernel)) (fun _ _ _ _ _ => pg_name (i := 7) scW.nd rfl (Or.inl rfl)) (fun _ _ _ _ _ => pts_nil)
          (fun _ _ _ _ _ => pe_slice sl_str (pv 5) po_none (po_some (pe_op op_add (pe_op op_add (pv 6) (pv 7)) pe_int))))))) pss_nil)
    (Evl.pss_cut (ps_set (i := 8) scW.nd rfl (Or.inl rfl) (pe_lst pa_nil))
    (Evl.pss_cut (ps_if (pt_cmpR op_eq (pv 3) pe_int (nomark _)) (pss_one (ps_for PassesOwn.never rfl (pi_range1 rfl T.range (pa_cons (pv 1) pa_nil)) (pg_name (i := 7) scW.nd rfl (Or.inl rfl))
        (pss_cons (ps_set (i := 9) scW.nd rfl (Or.inl rfl) (pe_op op_add pe_int (pe_call GC hr rfl mC FC.kp bC .nil pass0 (pa_cons (pv 0) (pa_cons pe_int pa_nil)))))
        (pss_one (ps_expr (pe_bm PySem.F.plainAttrs_list PySem.F.slot_list_append PySem.F.type_list_append mt_append (pv 8) (pa_cons
          (pe_bm PySem.F.plainAttrs_str PySem.F.slot_str_join PySem.F.type_str_join mt_join pe_str (pa_cons (pe_lc (own := [("turn", 14)]) (g := gName 14) (tt := tYes) rfl scW.nd (pi_range1 rfl T.range (pa_cons (pv 9) pa_nil)) (blkOk_by (N := nW) (sc := defScope sWords) (by decide +kernel)) (fun _ _ _ _ _ => pg_name (i := 14) scW.nd rfl (Or.inl rfl)) (fun _ _ _ _ _ => pts_nil)
            (fun _ _ _ _ _ => pe_ix ix_str (pv 2) (pe_call GC hr rfl mC FC.kp bC .nil pass0 (pa_cons (pv 0) (pa_cons pe_int pa_nil))) (fun _ _ => rfl))) pa_nil)) pa_nil))))))) pss_nil)
    (Evl.pss_cut (ps_if (pt_cmpR op_eq (pv 3) pe_int (nomark _))
        (pss_cons (ps_set (i := 10) scW.nd rfl (Or.inl rfl) (pe_slice sl_str (pv 5) po_none (po_some (pe_op op_add pe_int (pe_call GC hr rfl mC FC.kp bC .nil pass0 (pa_cons (pv 0) (pa_cons pe_int pa_nil)))))))
        (pss_cons (ps_set (i := 8) scW.nd rfl (Or.inl rfl) (pe_lst (pa_cons (pv 10) pa_nil)))
        (pss_cons (ps_for PassesOwn.never rfl (pi_list (pv 4)) (pg_name (i := 11) scW.nd rfl (Or.inl rfl))
          (pss_one (ps_expr (pe_bm PySem.F.plainAttrs_list PySem.F.slot_list_append PySem.F.type_list_append mt_append (pv 8) (pa_cons
            (pe_ix ix_list (pe_lst (pa_cons (pe_op op_add_str (pe_slice sl_str (pv 11) po_none (po_some pe_int)) (pv 10)) (pa_cons (pe_op op_add_str (pv 10) (pe_slice sl_str (pv 11) po_none (po_some pe_int))) pa_nil)))
              (pe_call GC hr rfl mC FC.kp bC .nil pass0 (pa_cons (pv 0) (pa_cons pe_int pa_nil))) (fun _ _ => rfl)) pa_nil)))))
        (pss_one (ps_set (i := 8) scW.nd rfl (Or.inl rfl) (pe_slice sl_list (pv 8) po_none (po_some (pv 1)))))))) pss_nil)
    (Evl.pss_cut (ps_if (pt_cmpR op_eq (pe_lenSetT rfl (by rfl) T.len (by rfl) T.set (pv 8)) (pv 1) (nomark _)) (pss_one (ps_ret (pv 8))) pss_nil)
    (Evl.pss_cut (ps_asg (pe_tup (pa_cons (pe_call GC hr rfl mC FC.kp bC .nil pass0 (pa_cons (pv 0) (pa_cons pe_int pa_nil))) (pa_cons (pe_slice sl_str (pv 5) po_none (po_some (pe_call GC hr rfl mC FC.kp bC .nil pass0 (pa_cons (pv 0) (pa_cons pe_int pa_nil))))) pa_nil)))
        (pg_tup rfl (pgs_cons (pg_name (i := 6) scW.nd rfl (.inr rfl)) (pgs_cons (pg_name (i := 12) scW.nd rfl (.inl rfl)) pgs_nil))))
    (Evl.pss_cut (ps_par (i := 13) (j := 8) rfl scW.nd rfl rfl (by decide) rfl rfl (pa_cons (pe_call GC hr rfl mC FC.kp bC .nil pass0 (pa_cons (pv 0) (pa_cons (pe_op op_add (pe_callB call_len (by rfl) T.len PySem.boot_len (pa_cons (pv 12) pa_nil)) pe_int) pa_nil))) (pa_cons (pe_lst pa_nil) pa_nil)) (by rfl))
    (Evl.pss_cut (ps_for PassesOwn.never rfl (pi_range1 rfl T.range (pa_cons (pv 1) pa_nil)) (pg_name (i := 7) scW.nd rfl (Or.inl rfl))
        (pss_one (ps_expr (pe_bm PySem.F.plainAttrs_list PySem.F.slot_list_append PySem.F.type_list_append mt_append (pv 8) (pa_cons
          (pe_op op_add_str (pe_op op_add_str (pe_slice sl_str (pv 12) po_none (po_some (pv 13))) (pe_ix ix_str (pv 2) (pe_op op_mod (pe_callTy call_int1 (by rfl) T.int boot_int (pa_cons (pe_op op_add (pv 6) (pv 7)) pa_nil)) pe_int) (fun _ _ => rfl)))
            (pe_slice sl_str (pv 12) (po_some (pv 13)) po_none)) pa_nil)))))
    (pss_one (ps_ret (pv 8))))))))))))))), ?_⟩
  -- letters, sort_here
  refine ⟨fun σ' H' => Around1 H p (n + 1) H' ∧ ∃ sh : Int, σ' = [some (.ref p), some (.int (m : Int)), some (.str LT), some (.int sh), none, none, none, none, none, none, none, none, none, none, none], ?_, ?_⟩
  · refine ⟨_, rfl, p, 5, n, rfl, hp, by omega, by decide, by decide, fun d H1 d0 d1 hb hp1 => ?_⟩
    refine ⟨by show 2 ≤ sizeLine; decide, fun t ht => ?_⟩
    refine ⟨t, _, rfl, SqT.of upd_same, rfl, _, _, rfl, _, _, rfl, rfl, ?_⟩
    exact ⟨Around1.same ⟨hb, hp1⟩ (same_new ht _), d, rfl⟩
  rintro _ H1 ⟨hA1, sh, rfl⟩
  -- menu
  refine ⟨fun σ' H' => Around1 H p (n + 1) H' ∧ ∃ w : Addr, H' w = some (.lst ((menuT.take 7).map V.str)) ∧ σ' = [some (.ref p), some (.int (m : Int)), some (.str LT), some (.int sh), some (.ref w), none, none, none, none, none, none, none, none, none, none], ?_, ?_⟩
  · refine ⟨by show 7 ≤ sizeLine; decide, fun w hw => ?_⟩
    exact ⟨hA1.new hw, w, upd_same, rfl⟩
  rintro _ H2 ⟨hA2, w, hw, rfl⟩
  refine ⟨fun σ' H' => Around1 H p (n + 1) H' ∧ ∃ w : Addr, w ≠ p ∧ H' w = some (.lst (menuT.map V.str)) ∧ σ' = [some (.ref p), some (.int (m : Int)), some (.str LT), some (.int sh), some (.ref w), none, none, none, none, none, none, none, none, none, none], ?_, ?_⟩
  · refine ⟨_, rfl, by show 7 ≤ sizeLine; decide, fun w2 hw2 => ?_⟩
    refine ⟨w, w2, _, _, rfl, rfl, same_new hw2 _ _ _ hw, upd_same, by show 7 + 7 ≤ sizeLine; decide, fun w3 hw3 => ?_⟩
    have hA3 := (hA2.new (o := .lst ((menuT.drop 7).map V.str)) hw2)
    exact ⟨hA3.new hw3, w3, hA3.2.ne hw3, upd_same, rfl⟩
  clear hw w
  rintro _ H3 ⟨hA3, w, hwp, hw, rfl⟩
  -- stem
  refine ⟨fun σ' H' => Around1 H p (n + 9) H' ∧ H' w = some (.lst (menuT.map V.str)) ∧ ∃ st : Str, st.length = 8 ∧ ls st ∧ σ' = [some (.ref p), some (.int (m : Int)), some (.str LT), some (.int sh), some (.ref w), some (.str st), none, none, none, none, none, none, none, none, none], ?_, ?_⟩
  · refine ⟨rfl, 8, rfl, by decide, by decide, fun D hD => ?_⟩
    refine letters_go (m := 8) (fun _ => rfl) (fun _ => rfl) (fun _ => rfl) hA3 (by omega) (by decide) hD fun ys H' hA hys hl h1 hs => ?_
    have hj : (Txt.join (Str.ofString "") ys).length = 8 := (PySem.W.KT.join_ones ys h1).trans hl
    refine ⟨_, D, ys, rfl, rfl, .inl (SqL.of hys), join_room h1 (by omega), ?_⟩
    exact ⟨hA3.trans hA, hA.1 w _ hwp hw, _, hj, ls_joinT hs, rfl⟩
  clear hw hA1 hA2 hA3
  rintro _ H4 ⟨hA4, hw4, st, hst, hls, rfl⟩
  -- the menu's words
  refine ⟨fun σ' H' => Around1 H p (n + 9) H' ∧ H' w = some (.lst (menuT.map V.str)) ∧ σ' = [some (.ref p), some (.int (m : Int)), some (.str LT), some (.int sh), some (.ref w), some (.str st), none, none, none, none, none, none, none, none, none], ?_, ?_⟩
  · refine ⟨_, rfl, rfl, _, rfl, ?_⟩
    refine ite2 (fun c0 => ?_) (fun _ => ⟨hA4, hw4, rfl⟩)
    refine ⟨_, rfl, _, _, rfl, rfl, _, rfl, ?_⟩
    refine ite2 (fun c1 => ?_) (fun _ => ⟨hA4, hw4, rfl⟩)
    have hm14 : (m : Int) < 15 := of_decide_eq_true c1
    refine ⟨_, rfl, p, 14, n + 9, rfl, hA4.2, by omega, by decide, by decide, fun d H5 d0 d1 hb hp5 => ?_⟩
    have hA5 := hA4.draw hb hp5
    have hw5 := hb w _ hwp hw4
    refine ⟨_, rfl, (m : Int), rfl, by omega, by omega, fun D hD => ?_⟩
    refine lc_range (lo := 0) (fun i H' => Same H5 H' ∧ H' D = some (.lst (((List.range i).map fun (r : Nat) => menuT.getD ((d + 3 * (0 + (r : Int))) % 14).toNat Str.empty).map V.str))) ⟨same_new hD _, upd_same⟩ ?_ ?_
    · rintro i H6 hi ⟨hs6, hD6⟩
      refine ⟨rfl, ?_⟩
      show tOp (rIxL K) (tVar 4) _ _ H6 _
      refine ⟨_, rfl, _, rfl, _, rfl, _, _, rfl, rfl, .inl ⟨by decide, by decide⟩, _, _, rfl, rfl, .inl ⟨_, rfl, _, _, rfl, rfl, (by show (0 : Int) < 14; decide), ?_⟩⟩
      have z := menu_at (d := (d + 3 * (0 + (i : Int))) % 14) (Int.emod_nonneg _ (by decide)) (Int.emod_lt_of_pos _ (by decide))
      refine ⟨w, _, _, _, rfl, rfl, SqL.of (hs6 w _ hw5), z.1, _, hD6, room_map (by omega), same_put hs6 hD, more_map rfl⟩
    · rintro H6 ⟨hs6, hD6⟩
      have hA6 := (hA5.same hs6).mono (show n + 9 + 1 ≤ n + 400 by omega)
      rw [Int.toNat_natCast] at hD6
      refine k D _ H6 hA6 (hA5.free hp hD) hD6 (by rw [List.length_map, List.length_range]) (nodup_map fun i j hi hj e => ?_) (fun z hz => ?_)
      · have z := menu_inj _ (by omega) _ (by omega) e
        omega
      · obtain ⟨r, _, rfl⟩ := List.mem_map.mp hz
        exact menu_name (menu_at (d := (d + 3 * (0 + (r : Int))) % 14) (Int.emod_nonneg _ (by decide)) (Int.emod_lt_of_pos _ (by decide))).2
  clear hA4 hw4
  rintro _ H4 ⟨hA4, hw4, rfl⟩
  -- the stem's beginnings
  refine ⟨fun σ' H' => Around1 H p (n + 9) H' ∧ H' w = some (.lst (menuT.map V.str)) ∧ σ' = [some (.ref p), some (.int (m : Int)), some (.str LT), some (.int sh), some (.ref w), some (.str st), none, none, none, none, none, none, none, none, none], ?_, ?_⟩
  · refine ⟨_, rfl, rfl, _, rfl, ?_⟩
    refine ite2 (fun c0 => ?_) (fun _ => ⟨hA4, hw4, rfl⟩)
    refine ⟨_, rfl, _, _, rfl, rfl, _, rfl, ?_⟩
    refine ite2 (fun c1 => ?_) (fun _ => ⟨hA4, hw4, rfl⟩)
    have hm9 : (m : Int) < 9 := of_decide_eq_true c1
    refine ⟨_, rfl, _, rfl, _, _, rfl, rfl, p, 9 - (m : Int), n + 9, rfl, hA4.2, by omega, by omega, by omega, fun d H5 d0 d1 hb hp5 => ?_⟩
    obtain ⟨d', rfl⟩ : ∃ d' : Nat, d = (d' : Int) := ⟨d.toNat, by omega⟩
    have hA5 := hA4.draw hb hp5
    have pre : ∀ r : Nat, (cutS st none (some ((d' : Int) + (0 + (r : Int)) + 1))).length = min (d' + r + 1) 8 := fun r => by
      rw [(cut_pre (n := d' + r + 1) (by omega)).1, hst]
    refine ⟨_, rfl, (m : Int), rfl, by omega, by omega, fun D hD => ?_⟩
    refine lc_range (lo := 0) (fun i H' => Same H5 H' ∧ H' D = some (.lst (((List.range i).map fun (r : Nat) => cutS st none (some ((d' : Int) + (0 + (r : Int)) + 1))).map V.str))) ⟨same_new hD _, upd_same⟩ ?_ ?_
    · rintro i H6 hi ⟨hs6, hD6⟩
      refine ⟨rfl, ?_⟩
      show tSl rSlS (tVar 5) _ _ _ H6 _
      refine ⟨_, rfl, _, rfl, _, rfl, _, _, rfl, rfl, _, _, rfl, rfl, _, rfl, _, rfl, small100 (by omega), _, hD6, room_map (by omega), same_put hs6 hD, more_map rfl⟩
    · rintro H6 ⟨hs6, hD6⟩
      have hA6 := (hA5.same hs6).mono (show n + 9 + 1 ≤ n + 400 by omega)
      rw [Int.toNat_natCast] at hD6
      refine k D _ H6 hA6 (hA5.free hp hD) hD6 (by rw [List.length_map, List.length_range]) (nodup_map fun i j hi hj e => ?_) (fun z hz => ?_)
      · have z := congrArg Str.length e
        rw [pre, pre] at z
        omega
      · obtain ⟨r, hr', rfl⟩ := List.mem_map.mp hz
        have hr2 := List.mem_range.mp hr'
        have z := pre r
        exact ⟨by omega, by omega, ls_cut hls _ _⟩
  clear hA4 hw4
  rintro _ H4 ⟨hA4, hw4, rfl⟩
  -- found = []
  refine ⟨fun σ' H' => Around1 H p (n + 9) H' ∧ H' w = some (.lst (menuT.map V.str)) ∧ ∃ fd : Addr, fd ≠ p ∧ fd ≠ w ∧ H fd = none ∧ H' fd = some (.lst []) ∧ σ' = [some (.ref p), some (.int (m : Int)), some (.str LT), some (.int sh), some (.ref w), some (.str st), none, none, some (.ref fd), none, none, none, none, none, none], ?_, ?_⟩
  · refine ⟨by show 0 ≤ sizeLine; decide, fun fd hfd => ?_⟩
    exact ⟨hA4.new hfd, same_new hfd _ _ _ hw4, fd, hA4.2.ne hfd, (ne_of_none hw4 hfd).symm, hA4.free hp hfd, upd_same, rfl⟩
  clear hA4 hw4
  rintro _ H4 ⟨hA4, hw4, fd, hfp, hfw, hf0, hf4, rfl⟩
  -- any words
  refine ⟨fun σ' H' => Around1 H p (n + 260) H' ∧ H' w = some (.lst (menuT.map V.str)) ∧ ∃ (ys : List Str) (v7 v9 : Option V), H' fd = some (.lst (ys.map V.str)) ∧ ys.length ≤ m ∧ (∀ y ∈ ys, okName y) ∧ σ' = [some (.ref p), some (.int (m : Int)), some (.str LT), some (.int sh), some (.ref w), some (.str st), none, v7, some (.ref fd), v9, none, none, none, none, none], ?_, ?_⟩
  · refine ⟨_, rfl, rfl, _, rfl, ?_⟩
    refine ite2 (fun c0 => ?_) (fun _ => ⟨hA4.mono (by omega), hw4, [], none, none, hf4, Nat.zero_le _, (fun _ h => nomatch h), rfl⟩)
    refine ⟨_, rfl, (m : Int), rfl, by omega, by omega, ?_⟩
    refine for_range (lo := 0) (fun i σ' H' => Around1 H p (n + 9 + i * 9) H' ∧ H' w = some (.lst (menuT.map V.str)) ∧ ∃ (ys : List Str) (v7 v9 : Option V), H' fd = some (.lst (ys.map V.str)) ∧ ys.length = i ∧ (∀ y ∈ ys, okName y) ∧ σ' = [some (.ref p), some (.int (m : Int)), some (.str LT), some (.int sh), some (.ref w), some (.str st), none, v7, some (.ref fd), v9, none, none, none, none, none])
      ⟨hA4, hw4, [], none, none, hf4, rfl, (fun _ h => nomatch h), rfl⟩ ?_ ?_
    · rintro i σ' H5 hi ⟨hA5, hw5, ys, v7, v9, hf5, hl, h1, rfl⟩
      have him : i < m := by omega
      have hi9 : i * 9 ≤ 25 * 9 := Nat.mul_le_mul_right 9 (by omega)
      refine ⟨_, rfl, p, 8, n + 9 + i * 9, rfl, hA5.2, by omega, by decide, by decide, fun d H6 d0 d1 hb hp6 => ?_⟩
      have hA6 := hA5.draw hb hp6
      have hw6 := hb w _ hwp hw5
      have hf6 := hb fd _ hfp hf5
      refine ⟨_, _, rfl, rfl, ?_⟩
      refine ⟨_, rfl, .inl ⟨rfl, _, SqL.of hf6⟩, rfl, _, rfl, 1 + d, rfl, by omega, by omega, fun D hD => ?_⟩
      refine letters_go (m := (1 + d).toNat) (fun _ => rfl) (fun _ => rfl) (fun _ => rfl) hA6 (by omega) (by omega) hD fun zs H7 hA7 hzs hl7 h17 hs17 => ?_
      have hj : (Txt.join (Str.ofString "") zs).length = (1 + d).toNat := (PySem.W.KT.join_ones zs h17).trans hl7
      refine ⟨_, D, zs, rfl, rfl, .inl (SqL.of hzs), join_room h17 (by omega), ?_⟩
      have hw7 := hA7.1 w _ hwp hw6
      have hf7 := hA7.1 fd _ hfp hf6
      refine ⟨fd, _, _, rfl, rfl, hf7, room_more (n := 26) (by omega) (by decide), ?_⟩
      refine ⟨?_, (by rw [upd_ne hfw.symm]; exact hw7), ys ++ [Txt.join (Str.ofString "") zs], _, _, more_str, len_more hl, fun y hy => ?_, rfl⟩
      · exact ((hA6.trans hA7).mono (by rw [Nat.succ_mul]; omega)).put hf0 hfp
      · rcases List.mem_append.mp hy with hy | hy
        · exact h1 y hy
        · rw [List.mem_singleton.mp hy]
          exact ⟨by omega, by omega, ls_joinT hs17⟩
    · rintro σ' H5 ⟨hA5, hw5, ys, v7, v9, hf5, hl, h1, rfl⟩
      rw [Int.toNat_natCast] at hA5 hl
      have hm9 : m * 9 ≤ 26 * 9 := Nat.mul_le_mul_right 9 hm26
      exact ⟨hA5.mono (by omega), hw5, ys, v7, v9, hf5, Nat.le_of_eq hl, h1, rfl⟩
  clear hA4 hw4 hf4
  rintro _ H4 ⟨hA4, hw4, ys4, v7, v9, hf4, hl4, h14, rfl⟩
  -- a beginning with the menu's words
  refine ⟨fun σ' H' => Around1 H p (n + 290) H' ∧ ∃ (fe : Addr) (ys : List Str) (v10 v11 : Option V), H fe = none ∧ H' fe = some (.lst (ys.map V.str)) ∧ ys.length ≤ m ∧ (∀ y ∈ ys, okName y) ∧ σ' = [some (.ref p), some (.int (m : Int)), some (.str LT), some (.int sh), some (.ref w), some (.str st), none, v7, some (.ref fe), v9, v10, v11, none, none, none], ?_, ?_⟩
  · refine ⟨_, rfl, rfl, _, rfl, ?_⟩
    refine ite2 (fun c0 => ?_) (fun _ => ⟨hA4.mono (by omega), fd, ys4, none, none, hf0, hf4, hl4, h14, rfl⟩)
    refine ⟨_, rfl, _, rfl, p, 5, n + 260, rfl, hA4.2, by omega, by decide, by decide, fun d H5 d0 d1 hb hp5 => ?_⟩
    have hA5 := hA4.draw hb hp5
    have hw5 := hb w _ hwp hw4
    refine ⟨_, _, rfl, rfl, _, rfl, st, rfl, small100 (by omega), ?_⟩
    have hbl : (cutS st none (some (1 + d))).length = min (1 + d).toNat 8 := by
      rw [(cut_pre (n := (1 + d).toNat) (by omega)).1, hst]
    have hbs : ls (cutS st none (some (1 + d))) := ls_cut hls _ _
    generalize cutS st none (some (1 + d)) = base at hbl hbs
    refine ⟨_, rfl, by show 1 ≤ sizeLine; decide, fun fe hfe => ?_⟩
    have hfe0 : H fe = none := hA5.free hp hfe
    have hfep : fe ≠ p := hA5.2.ne hfe
    have hfew : w ≠ fe := ne_of_none hw5 hfe
    refine ⟨_, rfl, w, rfl, ⟨_, SqL.of (same_new hfe _ _ _ hw5)⟩, ?_⟩
    refine for_list (K := K) (a := w) (xs := menuT.map V.str) (fun i σ' H' => Around1 H p (n + 261 + i) H' ∧ H' w = some (.lst (menuT.map V.str)) ∧ ∃ (ys : List Str) (v11 : Option V), H' fe = some (.lst (ys.map V.str)) ∧ ys.length = i + 1 ∧ (∀ y ∈ ys, okName y) ∧ σ' = [some (.ref p), some (.int (m : Int)), some (.str LT), some (.int sh), some (.ref w), some (.str st), none, v7, some (.ref fe), v9, some (.str base), v11, none, none, none])
      ⟨hA5.new hfe, same_new hfe _ _ _ hw5, [base], none, upd_same, rfl, (fun y hy => by rw [List.mem_singleton.mp hy]; exact ⟨by omega, by omega, hbs⟩), rfl⟩ (fun i σ' H' _ ⟨_, h, _⟩ => SqL.of h) ?_ ?_
    · rintro i y σ' H6 hi ⟨hA6, hw6, ys, v11, hf6, hl, h1, rfl⟩
      have hi14 : i < 14 := by
        have q := (List.getElem?_eq_some_iff.mp hi).1
        rw [List.length_map] at q
        exact q
      obtain ⟨z, rfl, hzn⟩ : ∃ z, y = V.str z ∧ okName z := by
        rw [List.getElem?_map] at hi
        cases e : menuT[i]? with
        | none =>
          rw [e] at hi
          cases hi
        | some z =>
          rw [e] at hi
          exact ⟨z, (Option.some.inj hi).symm, menu_name (List.mem_of_getElem? e)⟩
      obtain ⟨hz1, hz8, hzl⟩ := hzn
      have hz3 : (cutS z none (some 3)).length = min 3 z.length := (cut_pre (n := 3) rfl).1
      have hz3l : ls (cutS z none (some 3)) := ls_cut hzl _ _
      refine ⟨_, rfl, .inl ⟨rfl, _, SqL.of hf6⟩, _, rfl, _, rfl, z, rfl, small100 (by omega), _, rfl, _, _, rfl, rfl, small100 (by omega), ?_⟩
      refine ⟨_, rfl, _, rfl, _, rfl, z, rfl, small100 (by omega), _, _, rfl, rfl, small100 (by omega), by show 2 ≤ sizeLine; decide, fun q hq => ?_⟩
      have hA7 := hA6.new (o := .lst [.str (cutS z none (some 3) ++ base), .str (base ++ cutS z none (some 3))]) hq
      refine ⟨_, rfl, p, 2, n + 261 + i, rfl, hA7.2, by omega, by decide, by decide, fun d H8 d0 d1 hb hp8 => ?_⟩
      have hA8 := hA7.draw hb hp8
      have hw8 := hb w _ hwp (same_new hq _ _ _ hw6)
      have hf8 := hb fe _ hfep (same_new hq _ _ _ hf6)
      have hqp : q ≠ p := hA6.2.ne hq
      obtain ⟨t, ht, htn⟩ : ∃ t : Str, atI [V.str (cutS z none (some 3) ++ base), V.str (base ++ cutS z none (some 3))] d = some (.str t) ∧ okName t := by
        have e : d = ((0 : Nat) : Int) ∨ d = ((1 : Nat) : Int) := by omega
        rcases e with e | e
        · exact ⟨_, at_ofN e rfl, by rw [Str.length_append]; omega, by rw [Str.length_append]; omega, ls_app hz3l hbs⟩
        · exact ⟨_, at_ofN e rfl, by rw [Str.length_append]; omega, by rw [Str.length_append]; omega, ls_app hbs hz3l⟩
      refine ⟨q, _, _, _, rfl, rfl, SqL.of (hb q _ hqp upd_same), ht, fe, _, _, rfl, rfl, hf8, room_more (n := 20) (by omega) (by decide), ?_⟩
      refine ⟨hA8.put hfe0 hfep, (by rw [upd_ne hfew]; exact hw8), ys ++ [t], _, more_str, len_more hl, fun y hy => ?_, rfl⟩
      rcases List.mem_append.mp hy with hy | hy
      · exact h1 y hy
      · rw [List.mem_singleton.mp hy]
        exact htn
    · rintro σ' H6 ⟨hA6, hw6, ys, v11, hf6, hl, h1, rfl⟩
      refine ⟨_, rfl, _, rfl, _, rfl, fe, _, rfl, SqL.of hf6, fun fg hfg => ?_⟩
      refine ⟨(hA6.new hfg).mono (by rw [List.length_map]; show n + 261 + 14 ≤ n + 290; omega), fg, ys.take m, _, _, hA6.free hp hfg, (by rw [upd_same, cut_many]), List.length_take_le m ys, (fun y hy => h1 y (List.mem_of_mem_take hy)), rfl⟩
  clear hA4 hw4 hf4
  rintro _ H4 ⟨hA4, fe, ys, v10, v11, hfe0, hf4, hl4, h14, rfl⟩
  -- are they as many?
  refine ⟨fun σ' H' => Around1 H p (n + 290) H' ∧ σ' = [some (.ref p), some (.int (m : Int)), some (.str LT), some (.int sh), some (.ref w), some (.str st), none, v7, some (.ref fe), v9, v10, v11, none, none, none], ?_, ?_⟩
  · refine ⟨_, rfl, fe, ys, rfl, SqL.of hf4, by omega, _, rfl, rfl, _, rfl, ?_⟩
    refine ite2 (fun c => ?_) (fun _ => ⟨hA4, rfl⟩)
    have c1 : V.int (((TxSet.dd ys).length : Nat) : Int) = V.int (m : Int) := of_decide_eq_true c
    have c2 : (TxSet.dd ys).length = m := by
      have z := V.int.inj c1
      omega
    have c3 := TxSet.dd_len ys
    have c4 : ys.length = m := by omega
    have hA6 := hA4.mono (show n + 290 ≤ n + 400 by omega)
    exact ⟨_, rfl, k fe ys H4 hA6 hfe0 hf4 c4 ((TxSet.dd_full ys).mp (c2.trans c4.symm)) h14⟩
  clear hA4 hf4
  rintro _ H4 ⟨hA4, rfl⟩
  -- start, tail
  refine ⟨fun σ' H' => Around1 H p (n + 292) H' ∧ ∃ (i0 : Int) (tl : Str), 0 ≤ i0 ∧ i0 < 26 ∧ tl.length ≤ 7 ∧ ls tl ∧ σ' = [some (.ref p), some (.int (m : Int)), some (.str LT), some (.int sh), some (.ref w), some (.str st), some (.int i0), v7, some (.ref fe), v9, v10, v11, some (.str tl), none, none], ?_, ?_⟩
  · refine ⟨_, rfl, p, 26, n + 290, rfl, hA4.2, by omega, by decide, by decide, fun d H5 d0 d1 hb hp5 => ?_⟩
    have hA5 := hA4.draw hb hp5
    refine ⟨_, rfl, _, rfl, p, 8, n + 291, rfl, hA5.2, by omega, by decide, by decide, fun d2 H6 d20 d21 hb6 hp6 => ?_⟩
    have hA6 := hA5.draw hb6 hp6
    refine ⟨_, rfl, st, rfl, small100 (by omega), by show 2 ≤ sizeLine; decide, fun t ht => ?_⟩
    refine ⟨t, _, rfl, SqT.of upd_same, rfl, _, _, rfl, _, _, rfl, rfl, ?_⟩
    have e7 : (cutS st none (some d2)).length = min d2.toNat st.length := (cut_pre (n := d2.toNat) (by omega)).1
    exact ⟨hA6.new ht, d, _, d0, d1, by omega, ls_cut hls _ _, rfl⟩
  clear hA4
  rintro _ H4 ⟨hA4, i0, tl, hi0, hi1, htl, htls, rfl⟩
  -- at, found
  refine ⟨fun σ' H' => Around1 H p (n + 293) H' ∧ ∃ (at' : Nat) (ff : Addr), at' ≤ tl.length ∧ H ff = none ∧ H' ff = some (.lst []) ∧ σ' = [some (.ref p), some (.int (m : Int)), some (.str LT), some (.int sh), some (.ref w), some (.str st), some (.int i0), v7, some (.ref ff), v9, v10, v11, some (.str tl), some (.int (at' : Int)), none], ?_, ?_⟩
  · refine ⟨_, rfl, _, rfl, .str tl, tl.length, rfl, ⟨small100 (by omega), rfl⟩, _, _, rfl, rfl, p, _, n + 292, rfl, hA4.2, by omega, by omega, by omega, fun d H5 d0 d1 hb hp5 => ?_⟩
    obtain ⟨at', rfl⟩ : ∃ at' : Nat, d = (at' : Int) := ⟨d.toNat, by omega⟩
    have hA5 := hA4.draw hb hp5
    refine ⟨by show 0 ≤ sizeLine; decide, fun ff hff => ?_⟩
    refine ⟨_, _, rfl, hA5.new hff, at', ff, by omega, hA5.free hp hff, upd_same, rfl⟩
  clear hA4
  rintro _ H4 ⟨hA4, at', ff, hat, hff0, hff, rfl⟩
  have hfp' := hp.ne hff0
  have wd : ∀ r : Nat, ((cutS tl none (some (at' : Int)) ++ (⟨#[97 + ((i0 + (0 + (r : Int))) % 26).toNat]⟩ : Str)) ++ cutS tl (some (at' : Int)) none).cps.toList = (tl.cps.toList.take at' ++ [97 + ((i0 + (0 + (r : Int))) % 26).toNat]) ++ tl.cps.toList.drop at' := fun r => by
    have e1 := (cut_pre (z := tl) (k := (at' : Int)) (n := at') rfl).2
    have e2 := cut_post (z := tl) (k := (at' : Int)) (n := at') rfl hat
    rw [show ∀ x y : Str, (x ++ y).cps.toList = x.cps.toList ++ y.cps.toList from fun x y => Array.toList_append, show ∀ x y : Str, (x ++ y).cps.toList = x.cps.toList ++ y.cps.toList from fun x y => Array.toList_append, e1, e2]
  -- the last loop
  refine ⟨fun σ' H' => Around1 H p (n + 293) H' ∧ ∃ v7' : Option V, H' ff = some (.lst (((List.range m).map fun (r : Nat) => (cutS tl none (some (at' : Int)) ++ (⟨#[97 + ((i0 + (0 + (r : Int))) % 26).toNat]⟩ : Str)) ++ cutS tl (some (at' : Int)) none).map V.str)) ∧ σ' = [some (.ref p), some (.int (m : Int)), some (.str LT), some (.int sh), some (.ref w), some (.str st), some (.int i0), v7', some (.ref ff), v9, v10, v11, some (.str tl), some (.int (at' : Int)), none], ?_, ?_⟩
  · refine ⟨_, rfl, (m : Int), rfl, by omega, by omega, ?_⟩
    refine for_range (lo := 0) (fun i σ' H' => Around1 H p (n + 293) H' ∧ ∃ v7' : Option V, H' ff = some (.lst (((List.range i).map fun (r : Nat) => (cutS tl none (some (at' : Int)) ++ (⟨#[97 + ((i0 + (0 + (r : Int))) % 26).toNat]⟩ : Str)) ++ cutS tl (some (at' : Int)) none).map V.str)) ∧ σ' = [some (.ref p), some (.int (m : Int)), some (.str LT), some (.int sh), some (.ref w), some (.str st), some (.int i0), v7', some (.ref ff), v9, v10, v11, some (.str tl), some (.int (at' : Int)), none])
      ⟨hA4, v7, hff, rfl⟩ ?_ ?_
    · rintro i σ' H5 hi ⟨hA5, v7', hf5, rfl⟩
      refine ⟨_, rfl, .inl ⟨rfl, _, SqL.of hf5⟩, _, rfl, _, rfl, _, rfl, tl, rfl, small100 (by omega), _, rfl, _, rfl, _, rfl, _, _, rfl, rfl, .inl ⟨_, rfl, _, _, rfl, rfl, (by show (0 : Int) < 26; decide), ?_⟩⟩
      have b1 : (cutS tl none (some (at' : Int))).length ≤ 7 := Nat.le_trans (cutS_length _ _ _) htl
      have b2 : (cutS tl (some (at' : Int)) none).length ≤ 7 := Nat.le_trans (cutS_length _ _ _) htl
      refine ⟨LT, _, _, rfl, rfl, by decide +kernel, lt_at (d := (i0 + (0 + (i : Int))) % 26) (Int.emod_nonneg _ (by decide)) (Int.emod_lt_of_pos _ (by decide)), _, _, rfl, rfl, small100 (show _ + 1 ≤ 1000 by omega), _, rfl, _, rfl, _, rfl, tl, rfl, small100 (by omega), _, _, rfl, rfl, ?_, ?_⟩
      · rw [Str.length_append]
        exact small100 (show _ + 1 + _ ≤ 1000 by omega)
      refine ⟨ff, _, _, rfl, rfl, hf5, room_map (by omega), hA5.put hff0 hfp', _, more_map rfl, rfl⟩
    · rintro σ' H5 ⟨hA5, v7', hf5, rfl⟩
      rw [Int.toNat_natCast] at hf5
      exact ⟨hA5, v7', hf5, rfl⟩
  clear hA4
  rintro _ H4 ⟨hA4, v7', hf4, rfl⟩
  have hA6 := hA4.mono (show n + 293 ≤ n + 400 by omega)
  refine ⟨_, rfl, k ff _ H4 hA6 hff0 hf4 (by rw [List.length_map, List.length_range]) (nodup_map fun i j hi hj e => ?_) (fun z hz => ?_)⟩
  · have e2 := congrArg (fun z : Str => z.cps.toList) e
    rw [wd, wd] at e2
    have e3 := List.append_cancel_right e2
    have e4 := List.append_cancel_left e3
    have e5 := (List.cons.inj e4).1
    omega
  · obtain ⟨r, _, rfl⟩ := List.mem_map.mp hz
    have b0 : ((i0 + (0 + (r : Int))) % 26).toNat < 26 := by omega
    refine ⟨?_, ?_, ls_app (ls_app (ls_cut htls _ _) (ls_one b0)) (ls_cut htls _ _)⟩
    · rw [Str.length_append, Str.length_append]
      show 1 ≤ _ + 1 + _
      omega
    · show (List.length _) ≤ 8
      have z := congrArg List.length (wd r)
      rw [List.length_append, List.length_append, List.length_take, List.length_drop] at z
      have hz' : tl.length = tl.cps.toList.length := rfl
      have hz2 : ([97 + ((i0 + (0 + (r : Int))) % 26).toNat] : List Nat).length = 1 := rfl
      omega
end
end K03
set_option Elab.async false
set_option linter.all false
set_option maxRecDepth 100000
set_option maxHeartbeats 4000000
namespace K03
open PySem L2 PyProof.Rows
/-! ### data, apart from where it lies -/
inductive D where
  | leaf (v : V)
  | lst (ds : List D)
  | tup (ds : List D)
def Leaf (v : V) : Prop := v = .non ∨ (∃ b, v = .bl b) ∨ (∃ i, v = .int i) ∨ ∃ z, v = .str z
/-- depth and width -/
def Fits (c : Nat) : Nat → D → Prop
  | 0, d => ∃ v, d = .leaf v
  | _ + 1, .leaf _ => True
  | n + 1, .lst ds => ds.length ≤ c ∧ ∀ d ∈ ds, Fits c n d
  | n + 1, .tup ds => ds.length ≤ c ∧ ∀ d ∈ ds, Fits c n d
theorem Fits.leaf {c n : Nat} {v : V} : Fits c n (.leaf v) := by
  cases n with
  | zero => exact ⟨v, rfl⟩
  | succ n => trivial
mutual
/-- v is d in the heap; the lists of it stand at F, each in one place -/
def Rep (H : Hp) : D → V → List Addr → Prop
  | .leaf w, u, F => u = w ∧ Leaf w ∧ F = []
  | .lst ds, u, F => ∃ a xs G, u = .ref a ∧ H a = some (.lst xs) ∧ Reps H ds xs G ∧ a ∉ G ∧ F = a :: G
  | .tup ds, u, F => ∃ a xs, u = .ref a ∧ H a = some (.tup xs) ∧ Reps H ds xs F
def Reps (H : Hp) : List D → List V → List Addr → Prop
  | [], xs, F => xs = [] ∧ F = []
  | d :: ds, xs, F => ∃ x ys F1 F2, xs = x :: ys ∧ Rep H d x F1 ∧ Reps H ds ys F2 ∧ (∀ a ∈ F1, a ∉ F2) ∧ F = F1 ++ F2
end
/-- lists of S may change; all else that was tracked stands -/
def Kp (S : Addr → Prop) (H H' : Hp) : Prop := ∀ b o, H b = some o → (¬ S b ∨ ∀ xs, o ≠ HO.lst xs) → H' b = some o
section
variable {S T : Addr → Prop} {H H1 H2 : Hp}
theorem Kp.same (s : Same H H1) : Kp S H H1 := fun b o e _ => s b o e
theorem Kp.trans (h : Kp S H H1) (k : Kp S H1 H2) : Kp S H H2 := fun b o e n => k b o (h b o e n) n
theorem Kp.wide (h : Kp S H H1) (hs : ∀ a, S a → T a) : Kp T H H1 := fun b o e n => h b o e (n.imp (fun z y => z (hs b y)) id)
theorem Kp.toSame (h : Kp S H H1) (hs : ∀ a, S a → H a = none) : Same H H1 := fun b o e => h b o e (.inl fun z => by
  rw [hs b z] at e
  cases e)
theorem Kp.set {a : Addr} {xs ys : List V} (ha : H a = some (.lst xs)) (hs : S a) : Kp S H (upd H a (.lst ys)) := fun b o e n => by
  by_cases hb : b = a
  · subst hb
    rw [ha] at e
    rcases n with n | n
    · exact absurd hs n
    · exact absurd (Option.some.inj e).symm (n xs)
  · rw [upd_ne hb]
    exact e
theorem Kp.new {a : Addr} {o : HO} (ha : H a = none) : Kp S H (upd H a o) := .same (same_new ha o)
/-- a new object may change behind -/
theorem Kp.put {a : Addr} {o : HO} (h : Kp S H H1) (ha : H a = none) : Kp S H (upd H1 a o) := fun b u e n => by
  rw [upd_ne (ne_of_none e ha)]
  exact h b u e n
theorem Kp.there (h : Kp S H H1) {b : Addr} {o : HO} (e : H b = some o) (n : ∀ xs, o ≠ HO.lst xs) : H1 b = some o := h b o e (.inr n)
end
mutual
theorem Rep.kp {S : Addr → Prop} {H H1 : Hp} (k : Kp S H H1) : ∀ {d : D} {v : V} {F : List Addr}, Rep H d v F → (∀ a ∈ F, ¬ S a) → Rep H1 d v F
  | .leaf w, u, F, h, _ => h
  | .lst ds, u, F, h, n => by
    obtain ⟨a, xs, G, e, ha, hr, hn, rfl⟩ := h
    exact ⟨a, xs, G, e, k _ _ ha (.inl (n a List.mem_cons_self)), Reps.kp k hr fun b hb => n b (List.mem_cons_of_mem _ hb), hn, rfl⟩
  | .tup ds, u, F, h, n => by
    obtain ⟨a, xs, e, ha, hr⟩ := h
    exact ⟨a, xs, e, k _ _ ha (.inr fun _ z => nomatch z), Reps.kp k hr n⟩
theorem Reps.kp {S : Addr → Prop} {H H1 : Hp} (k : Kp S H H1) : ∀ {ds : List D} {xs : List V} {F : List Addr}, Reps H ds xs F → (∀ a ∈ F, ¬ S a) → Reps H1 ds xs F
  | [], xs, F, h, _ => h
  | d :: ds, xs, F, h, n => by
    obtain ⟨x, ys, F1, F2, e, h1, h2, hd, rfl⟩ := h
    exact ⟨x, ys, F1, F2, e, Rep.kp k h1 fun a ha => n a (List.mem_append_left _ ha), Reps.kp k h2 fun a ha => n a (List.mem_append_right _ ha), hd, rfl⟩
end
theorem Rep.same {H H1 : Hp} {d : D} {v : V} {F : List Addr} (h : Rep H d v F) (s : Same H H1) : Rep H1 d v F := h.kp (S := fun _ => False) (.same s) fun _ _ z => z
theorem Reps.same {H H1 : Hp} {ds : List D} {xs : List V} {F : List Addr} (h : Reps H ds xs F) (s : Same H H1) : Reps H1 ds xs F := Reps.kp (S := fun _ => False) (.same s) h fun _ _ z => z
mutual
/-- where its lists stand something stands -/
theorem Rep.at_ {H : Hp} : ∀ {d : D} {v : V} {F : List Addr}, Rep H d v F → ∀ a ∈ F, ∃ xs, H a = some (.lst xs)
  | .leaf w, u, F, h, a, ha => by
    obtain ⟨_, _, rfl⟩ := h
    cases ha
  | .lst ds, u, F, h, a, ha => by
    obtain ⟨b, xs, G, e, hb, hr, hn, rfl⟩ := h
    rcases List.mem_cons.mp ha with z | z
    · exact ⟨xs, z ▸ hb⟩
    · exact Reps.at_ hr a z
  | .tup ds, u, F, h, a, ha => by
    obtain ⟨b, xs, e, hb, hr⟩ := h
    exact Reps.at_ hr a ha
theorem Reps.at_ {H : Hp} : ∀ {ds : List D} {xs : List V} {F : List Addr}, Reps H ds xs F → ∀ a ∈ F, ∃ xs, H a = some (.lst xs)
  | [], xs, F, h, a, ha => by
    obtain ⟨_, rfl⟩ := h
    cases ha
  | d :: ds, xs, F, h, a, ha => by
    obtain ⟨x, ys, F1, F2, e, h1, h2, hd, rfl⟩ := h
    rcases List.mem_append.mp ha with z | z
    · exact Rep.at_ h1 a z
    · exact Reps.at_ h2 a z
end
theorem Reps.len {H : Hp} : ∀ {ds : List D} {xs : List V} {F : List Addr}, Reps H ds xs F → xs.length = ds.length
  | [], xs, F, h => by
    obtain ⟨rfl, _⟩ := h
    rfl
  | d :: ds, xs, F, h => by
    obtain ⟨x, ys, F1, F2, rfl, h1, h2, hd, rfl⟩ := h
    rw [List.length_cons, List.length_cons, h2.len]
/-- the item at a place, and what a change of it makes of the whole -/
theorem Reps.item {H : Hp} : ∀ {ds : List D} {xs : List V} {F : List Addr} {i : Nat} {x : V}, Reps H ds xs F → xs[i]? = some x →
    ∃ d G, ds[i]? = some d ∧ Rep H d x G ∧ (∀ a ∈ G, a ∈ F) ∧ ∀ (t : Addr) (H1 : Hp) (d' : D), t ∉ F → Kp (fun a => a ∈ G ∨ a = t) H H1 → Rep H1 d' x G → Reps H1 (ds.set i d') xs F
  | [], xs, F, i, x, h, e => by
    obtain ⟨rfl, _⟩ := h
    simp at e
  | d :: ds, xs, F, 0, x, h, e => by
    obtain ⟨y, ys, F1, F2, rfl, h1, h2, hd, rfl⟩ := h
    have ey : y = x := Option.some.inj e
    subst ey
    refine ⟨d, F1, rfl, h1, fun a ha => List.mem_append_left _ ha, fun t H1 d' ht k hr => ⟨y, ys, F1, F2, rfl, hr, h2.kp k (fun a ha z => ?_), hd, rfl⟩⟩
    rcases z with z | z
    · exact hd a z ha
    · exact ht (z ▸ List.mem_append_right _ ha)
  | d :: ds, xs, F, i + 1, x, h, e => by
    obtain ⟨y, ys, F1, F2, rfl, h1, h2, hd, rfl⟩ := h
    have e' : ys[i]? = some x := e
    obtain ⟨d0, G, e1, hr, hG, hset⟩ := Reps.item h2 e'
    refine ⟨d0, G, e1, hr, fun a ha => List.mem_append_right _ (hG a ha), fun t H1 d' ht k hr' => ⟨y, ys, F1, F2, rfl, h1.kp k (fun a ha z => ?_), hset t H1 d' (fun z => ht (List.mem_append_right _ z)) k hr', hd, rfl⟩⟩
    rcases z with z | z
    · exact hd a ha (hG a z)
    · exact ht (z ▸ List.mem_append_left _ ha)
/-- one more behind -/
theorem Reps.snoc {H : Hp} : ∀ {ds : List D} {xs : List V} {F G : List Addr} {d : D} {x : V}, Reps H ds xs F → Rep H d x G → (∀ a ∈ F, a ∉ G) → Reps H (ds ++ [d]) (xs ++ [x]) (F ++ G)
  | [], xs, F, G, d, x, h, hr, hn => by
    obtain ⟨rfl, rfl⟩ := h
    exact ⟨x, [], G, [], rfl, hr, ⟨rfl, rfl⟩, (fun _ _ z => nomatch z), by rw [List.append_nil]; rfl⟩
  | d0 :: ds, xs, F, G, d, x, h, hr, hn => by
    obtain ⟨y, ys, F1, F2, rfl, h1, h2, hd, rfl⟩ := h
    refine ⟨y, ys ++ [x], F1, F2 ++ G, rfl, h1, Reps.snoc h2 hr (fun a ha => hn a (List.mem_append_right _ ha)), fun a ha z => ?_, by rw [List.append_assoc]⟩
    rcases List.mem_append.mp z with z | z
    · exact hd a ha z
    · exact hn a (List.mem_append_left _ ha) z
/-! ### the marks -/
mutual
def mark : D → Int → D × Int
  | .leaf v, k => (.leaf v, k + 1)
  | .lst ds, k => (.lst ((marks ds k).1 ++ [.leaf (.int ((marks ds k).2 + 1))]), (marks ds k).2 + 1)
  | .tup ds, k => (.tup (marks ds k).1, (marks ds k).2 + 1)
def marks : List D → Int → List D × Int
  | [], k => ([], k)
  | d :: ds, k => ((mark d k).1 :: (marks ds (mark d k).2).1, (marks ds (mark d k).2).2)
end
theorem marks_len : ∀ (ds : List D) (k : Int), (marks ds k).1.length = ds.length
  | [], _ => rfl
  | d :: ds, k => by
    show (marks ds (mark d k).2).1.length + 1 = ds.length + 1
    rw [marks_len ds]
theorem marks_snoc : ∀ (ds : List D) (d : D) (k : Int), marks (ds ++ [d]) k = ((marks ds k).1 ++ [(mark d (marks ds k).2).1], (mark d (marks ds k).2).2)
  | [], d, k => rfl
  | c :: ds, d, k => by
    have h := marks_snoc ds d (mark c k).2
    show ((mark c k).1 :: (marks (ds ++ [d]) (mark c k).2).1, (marks (ds ++ [d]) (mark c k).2).2) = _
    rw [h]
    rfl
/-- behind i marks: the first i marked, the others as they were -/
theorem marks_step {ds : List D} {i : Nat} {d : D} (h : ds[i]? = some d) (k : Int) :
    ((marks (ds.take i) k).1 ++ ds.drop i)[i]? = some d ∧ ((marks (ds.take i) k).1 ++ ds.drop i).set i (mark d (marks (ds.take i) k).2).1 = (marks (ds.take (i + 1)) k).1 ++ ds.drop (i + 1) ∧ (marks (ds.take (i + 1)) k).2 = (mark d (marks (ds.take i) k).2).2 := by
  have hi := (List.getElem?_eq_some_iff.mp h).1
  have hl : (marks (ds.take i) k).1.length = i := by
    rw [marks_len, List.length_take]
    omega
  have e1 : ds.take (i + 1) = ds.take i ++ [d] := by
    rw [List.take_add_one, h]
    rfl
  have e2 : ds.drop i = d :: ds.drop (i + 1) := by
    have z := List.drop_eq_getElem_cons hi
    have y := (List.getElem?_eq_some_iff.mp h).2
    rw [y] at z
    exact z
  rw [e1, marks_snoc, e2]
  refine ⟨?_, ?_, rfl⟩
  · rw [List.getElem?_append_right (by omega), hl, Nat.sub_self]
    rfl
  · rw [List.set_append_right _ _ (by omega), hl, Nat.sub_self, List.append_assoc]
    rfl
/-! ### what isinstance tells of them -/
theorem leaf_ty {K : PySem.W.Frag} {H : Hp} {v : V} (h : Leaf v) : ∃ s : String, TyX K H v (.type s) ∧ (s = "NoneType" ∧ v = .non ∨ s = "bool" ∧ (∃ b, v = .bl b) ∨ s = "int" ∧ (∃ i, v = .int i) ∨ s = "str" ∧ ∃ z, v = .str z) := by
  rcases h with rfl | ⟨b, rfl⟩ | ⟨i, rfl⟩ | ⟨z, rfl⟩
  · exact ⟨_, .base .non, .inl ⟨rfl, rfl⟩⟩
  · exact ⟨_, .base (.bl b), .inr (.inl ⟨rfl, b, rfl⟩)⟩
  · exact ⟨_, .base (.int i), .inr (.inr (.inl ⟨rfl, i, rfl⟩))⟩
  · exact ⟨_, .base (.str z), .inr (.inr (.inr ⟨rfl, z, rfl⟩))⟩
/-- the kind of a datum: its type's name, whether it is a list, a tuple -/
def D.isL : D → Bool
  | .lst _ => true
  | _ => false
def D.isT : D → Bool
  | .tup _ => true
  | _ => false
def D.its : D → List D
  | .lst ds => ds
  | .tup ds => ds
  | .leaf _ => []
theorem Rep.ty {K : PySem.W.Frag} {H : Hp} {d : D} {v : V} {F : List Addr} (h : Rep H d v F) : ∃ s : String, TyX K H v (.type s) ∧ kitB s "list" = some d.isL ∧ kitB s "tuple" = some d.isT ∧ kitB s "dict" = some false := by
  cases d with
  | leaf w =>
    obtain ⟨rfl, hl, _⟩ := h
    obtain ⟨s, ht, hs⟩ := leaf_ty (K := K) (H := H) hl
    refine ⟨s, ht, ?_⟩
    rcases hs with ⟨rfl, _⟩ | ⟨rfl, _⟩ | ⟨rfl, _⟩ | ⟨rfl, _⟩ <;> exact ⟨(by show kitB _ _ = some false; decide +kernel), (by show kitB _ _ = some false; decide +kernel), by decide +kernel⟩
  | lst ds =>
    obtain ⟨a, xs, G, rfl, ha, _⟩ := h
    exact ⟨"list", .base (.lst ha), (by show kitB _ _ = some true; decide +kernel), (by show kitB _ _ = some false; decide +kernel), by decide +kernel⟩
  | tup ds =>
    obtain ⟨a, xs, rfl, ha, _⟩ := h
    exact ⟨"tuple", .base (.tup ha), (by show kitB _ _ = some false; decide +kernel), (by show kitB _ _ = some true; decide +kernel), by decide +kernel⟩
theorem kit_two {K : PySem.W.Frag} {s : String} {x y : Bool} (h1 : kitB s "list" = some x) (h2 : kitB s "tuple" = some y) : PySem.W.kitAny K (.type s) [.type "list", .type "tuple"] = some (x || y) := by
  refine kitAny_cons (kit_ty h1) (fun e => ?_) (fun e => by rw [e]; rfl)
  refine kitAny_cons (kit_ty h2) (fun e2 => ?_) (fun e2 => by rw [e2, Bool.or_true])
  rw [e, e2]
  exact kitAny_nil
theorem ifT {c : Bool} {A B : Prop} (hc : c = true) (h : A) : if c = true then A else B := by
  rw [hc]
  exact iteT h
theorem ifF {c : Bool} {A B : Prop} (hc : c = false) (h : B) : if c = true then A else B := by
  rw [hc]
  exact iteF h
theorem one_at {x : V} : atI [x] 0 = some x := atI_nat (j := 0) rfl
end K03
set_option Elab.async false
set_option linter.all false
set_option maxRecDepth 100000
set_option maxHeartbeats 4000000
namespace K03
open PySem L2 PyProof.Rows
mutual
/-- v is d in the heap, wherever its lists stand -/
def RW (H : Hp) : D → V → Prop
  | .leaf w, u => u = w ∧ Leaf w
  | .lst ds, u => ∃ a xs, u = .ref a ∧ H a = some (.lst xs) ∧ RWs H ds xs
  | .tup ds, u => ∃ a xs, u = .ref a ∧ H a = some (.tup xs) ∧ RWs H ds xs
def RWs (H : Hp) : List D → List V → Prop
  | [], xs => xs = []
  | d :: ds, xs => ∃ x ys, xs = x :: ys ∧ RW H d x ∧ RWs H ds ys
end
mutual
theorem RW.same {H H1 : Hp} (s : Same H H1) : ∀ {d : D} {v : V}, RW H d v → RW H1 d v
  | .leaf w, u, h => h
  | .lst ds, u, h => by
    obtain ⟨a, xs, e, ha, hr⟩ := h
    exact ⟨a, xs, e, s _ _ ha, RWs.same s hr⟩
  | .tup ds, u, h => by
    obtain ⟨a, xs, e, ha, hr⟩ := h
    exact ⟨a, xs, e, s _ _ ha, RWs.same s hr⟩
theorem RWs.same {H H1 : Hp} (s : Same H H1) : ∀ {ds : List D} {xs : List V}, RWs H ds xs → RWs H1 ds xs
  | [], xs, h => h
  | d :: ds, xs, h => by
    obtain ⟨x, ys, e, h1, h2⟩ := h
    exact ⟨x, ys, e, RW.same s h1, RWs.same s h2⟩
end
mutual
theorem Rep.rw {H : Hp} : ∀ {d : D} {v : V} {F : List Addr}, Rep H d v F → RW H d v
  | .leaf w, u, F, h => ⟨h.1, h.2.1⟩
  | .lst ds, u, F, h => by
    obtain ⟨a, xs, G, e, ha, hr, _⟩ := h
    exact ⟨a, xs, e, ha, Reps.rw hr⟩
  | .tup ds, u, F, h => by
    obtain ⟨a, xs, e, ha, hr⟩ := h
    exact ⟨a, xs, e, ha, Reps.rw hr⟩
theorem Reps.rw {H : Hp} : ∀ {ds : List D} {xs : List V} {F : List Addr}, Reps H ds xs F → RWs H ds xs
  | [], xs, F, h => h.1
  | d :: ds, xs, F, h => by
    obtain ⟨x, ys, F1, F2, e, h1, h2, _⟩ := h
    exact ⟨x, ys, e, Rep.rw h1, Reps.rw h2⟩
end
theorem RWs.len {H : Hp} : ∀ {ds : List D} {xs : List V}, RWs H ds xs → xs.length = ds.length
  | [], xs, h => by
    have e : xs = [] := h
    rw [e]
    rfl
  | d :: ds, xs, h => by
    obtain ⟨x, ys, rfl, h1, h2⟩ := h
    rw [List.length_cons, List.length_cons, h2.len]
theorem RWs.item {H : Hp} : ∀ {ds : List D} {xs : List V} {i : Nat} {x : V}, RWs H ds xs → xs[i]? = some x → ∃ d, ds[i]? = some d ∧ RW H d x
  | [], xs, i, x, h, e => by
    have z : xs = [] := h
    rw [z] at e
    simp at e
  | d :: ds, xs, 0, x, h, e => by
    obtain ⟨y, ys, rfl, h1, h2⟩ := h
    have ey : y = x := Option.some.inj e
    exact ⟨d, rfl, ey ▸ h1⟩
  | d :: ds, xs, i + 1, x, h, e => by
    obtain ⟨y, ys, rfl, h1, h2⟩ := h
    exact RWs.item h2 (i := i) e
theorem RW.ty {K : PySem.W.Frag} {H : Hp} {d : D} {v : V} (h : RW H d v) : ∃ s : String, TyX K H v (.type s) ∧ kitB s "list" = some d.isL ∧ kitB s "tuple" = some d.isT ∧ kitB s "dict" = some false := by
  cases d with
  | leaf w =>
    obtain ⟨rfl, hl⟩ := h
    obtain ⟨s, ht, hs⟩ := leaf_ty (K := K) (H := H) hl
    refine ⟨s, ht, ?_⟩
    rcases hs with ⟨rfl, _⟩ | ⟨rfl, _⟩ | ⟨rfl, _⟩ | ⟨rfl, _⟩ <;> exact ⟨(by show kitB _ _ = some false; decide +kernel), (by show kitB _ _ = some false; decide +kernel), by decide +kernel⟩
  | lst ds =>
    obtain ⟨a, xs, rfl, ha, _⟩ := h
    exact ⟨"list", .base (.lst ha), (by show kitB _ _ = some true; decide +kernel), (by show kitB _ _ = some false; decide +kernel), by decide +kernel⟩
  | tup ds =>
    obtain ⟨a, xs, rfl, ha, _⟩ := h
    exact ⟨"tuple", .base (.tup ha), (by show kitB _ _ = some false; decide +kernel), (by show kitB _ _ = some true; decide +kernel), by decide +kernel⟩
/-- a copy: the same datum, all its lists new -/
def spCopy (n : Nat) : Sp := fun vs H Q _ => ∃ (v : V) (d : D) (m : Nat), vs = [v] ∧ m + 1 ≤ n ∧ RW H d v ∧ Fits 1000 m d ∧
  ∀ u H' G, Same H H' → Rep H' d u G → (∀ a ∈ G, H a = none) → Q u H'
def spMark (n : Nat) : Sp := fun vs H Q _ => ∃ (v : V) (t : Addr) (d : D) (F : List Addr) (m : Nat) (k : Int), vs = [v, .ref t] ∧ m + 1 ≤ n ∧ Rep H d v F ∧ Fits 1000 m d ∧ H t = some (.lst [.int k]) ∧ t ∉ F ∧
  ∀ H', Kp (fun a => a ∈ F ∨ a = t) H H' → Rep H' (mark d k).1 v F → H' t = some (.lst [.int (mark d k).2]) → Q .non H'
def spSame (n : Nat) : Sp := fun vs H Q _ => ∃ (v u : V) (d : D) (m : Nat), vs = [v, u] ∧ m + 1 ≤ n ∧ RW H d v ∧ RW H d u ∧ Fits 1000 m d ∧ ∀ H', Same H H' → Q (.bl true) H'
theorem Fits.its {c m : Nat} {d : D} (h : Fits c m d) (hd : d.isL = true ∨ d.isT = true) : ∃ m', m = m' + 1 ∧ d.its.length ≤ c ∧ ∀ e ∈ d.its, Fits c m' e := by
  cases m with
  | zero =>
    obtain ⟨v, rfl⟩ := h
    rcases hd with z | z <;> cases z
  | succ m =>
    cases d with
    | leaf v => rcases hd with z | z <;> cases z
    | lst ds => exact ⟨m, rfl, h.1, h.2⟩
    | tup ds => exact ⟨m, rfl, h.1, h.2⟩
/-- a list or a tuple, with its items -/
theorem Rep.seq {H : Hp} {d : D} {v : V} {F : List Addr} (h : Rep H d v F) (hd : d.isL = true ∨ d.isT = true) : ∃ a xs G, v = .ref a ∧ (d.isL = true ∧ H a = some (.lst xs) ∧ a ∉ G ∧ F = a :: G ∨ d.isT = true ∧ H a = some (.tup xs) ∧ F = G) ∧ Reps H d.its xs G := by
  cases d with
  | leaf w => rcases hd with z | z <;> cases z
  | lst ds =>
    obtain ⟨a, xs, G, e, ha, hr, hn, eF⟩ := h
    exact ⟨a, xs, G, e, .inl ⟨rfl, ha, hn, eF⟩, hr⟩
  | tup ds =>
    obtain ⟨a, xs, e, ha, hr⟩ := h
    exact ⟨a, xs, F, e, .inr ⟨rfl, ha, rfl⟩, hr⟩
section
variable {P : Program} {w : World} {K : PySem.W.Frag} {mg : Str → Option Value} {base : Heap}
theorem none_of {f : Addr} {fd : FuncData} {ps : List Str} {sp : Sp} (h : ∀ vs H Q E, ¬ sp vs H Q E) : FnOk P w K mg base CX0 0 f fd ps sp :=
  ⟨fun vs H Q E x => absurd x (h vs H Q E), fun A outer s H args us vs Q E _ _ _ _ x => absurd x (h vs H Q E)⟩
theorem copy_none {f : Addr} {fd : FuncData} {ps : List Str} : FnOk P w K mg base CX0 0 f fd ps (spCopy 0) := none_of fun vs H Q E h => by
  obtain ⟨v, d, m, _, h1, _⟩ := h
  omega
theorem mark_none {f : Addr} {fd : FuncData} {ps : List Str} : FnOk P w K mg base CX0 0 f fd ps (spMark 0) := none_of fun vs H Q E h => by
  obtain ⟨v, t, d, F, m, k, _, h1, _⟩ := h
  omega
theorem same_none {f : Addr} {fd : FuncData} {ps : List Str} : FnOk P w K mg base CX0 0 f fd ps (spSame 0) := none_of fun vs H Q E h => by
  obtain ⟨v, u, d, m, _, h1, _⟩ := h
  omega
/-- the turns of [copy(one) for one in thing], D the new list -/
theorem copies_go {te : TE} {σ2 : V → L2.St} {n : Nat} {H1 : Hp} {D0 : Addr} {ds : List D} {xs : List V} {m : Nat} (hte : ∀ x H Q, spCopy n [x] H Q E0 → te (σ2 x) H Q) (hR : RWs H1 ds xs) (hf : ∀ e ∈ ds, Fits 1000 m e) (hm : m + 1 ≤ n) (hD : H1 D0 = none) (hl : ds.length ≤ 1000) :
    (∃ ys G, Same H1 (upd H1 D0 (.lst [])) ∧ (upd H1 D0 (.lst [])) D0 = some (.lst ys) ∧ Reps (upd H1 D0 (.lst [])) (ds.take 0) ys G ∧ (∀ a ∈ G, H1 a = none ∧ a ≠ D0)) ∧
    ∀ i x H2, xs[i]? = some x → (∃ ys G, Same H1 H2 ∧ H2 D0 = some (.lst ys) ∧ Reps H2 (ds.take i) ys G ∧ (∀ a ∈ G, H1 a = none ∧ a ≠ D0)) →
      te (σ2 x) H2 fun y H4 => ∃ acc, H4 D0 = some (.lst acc) ∧ acc.length < sizeLine ∧ ∃ ys G, Same H1 (upd H4 D0 (.lst (acc ++ [y]))) ∧ (upd H4 D0 (.lst (acc ++ [y]))) D0 = some (.lst ys) ∧ Reps (upd H4 D0 (.lst (acc ++ [y]))) (ds.take (i + 1)) ys G ∧ (∀ a ∈ G, H1 a = none ∧ a ≠ D0) := by
  refine ⟨⟨[], [], same_new hD _, upd_same, ⟨rfl, rfl⟩, fun _ z => nomatch z⟩, ?_⟩
  rintro i x H2 hi ⟨ys, G, hs2, hD2, hr, hG⟩
  obtain ⟨e, he, hrep⟩ := RWs.item (hR.same hs2) hi
  have hil := (List.getElem?_eq_some_iff.mp he).1
  refine hte x H2 _ ⟨x, e, m, rfl, hm, hrep, hf e (List.mem_of_getElem? he), fun u H3 G3 hs3 hr3 hG3 => ?_⟩
  have hD3 := hs3 _ _ hD2
  have hyl : ys.length = i := by
    rw [hr.len, List.length_take]
    omega
  have nD : ∀ a ∈ G3, a ≠ D0 := fun a ha z => by
    rw [← z, hG3 a ha] at hD2
    cases hD2
  have n1 : ∀ a ∈ G3, H1 a = none := fun a ha => hs2.free (hG3 a ha)
  have kp : Kp (fun a => a = D0) H3 (upd H3 D0 (.lst (ys ++ [u]))) := Kp.set hD3 rfl
  refine ⟨ys, hD3, Nat.lt_of_le_of_lt (show ys.length ≤ 1000 by omega) (by decide), ys ++ [u], G ++ G3, same_put (hs2.trans hs3) hD, upd_same, ?_, fun a ha => ?_⟩
  · have et : ds.take (i + 1) = ds.take i ++ [e] := by
      rw [List.take_add_one, he]
      rfl
    rw [et]
    refine Reps.snoc ((hr.same hs3).kp kp fun a ha => (hG a ha).2) (hr3.kp kp nD) fun a ha z => ?_
    obtain ⟨zs, hz⟩ := hr.at_ a ha
    rw [hG3 a z] at hz
    cases hz
  · rcases List.mem_append.mp ha with z | z
    · exact hG a z
    · exact ⟨n1 a z, nD a z⟩
theorem scC1 : FnScope ["thing", "one"] ["thing"] (defScope sCopied) := ⟨rfl, rfl, rfl, by decide +kernel, rfl, by decide +kernel, by decide +kernel⟩
theorem ok_copied {f : Addr} {fd : FuncData} {n : Nat} (F : Fun K "_law_copied" "_law_copied" sCopied f fd) (T : Txt K mg) (G : FnOk P w K mg base CX0 n f fd ["thing"] (spCopy n)) (b : Binds K fd ["thing"] []) (m : mg "_law_copied" = some (.ref f)) :
    FnOk P w K mg base CX0 (n + 1) f fd ["thing"] (spCopy (n + 1)) := by
  refine F.ok scC1 (fun vs H Q E h => ?_) (fun cdv A outer s H vs Q E hr h => ?_)
  · obtain ⟨v, d, m0, rfl, _⟩ := h
    rfl
  obtain ⟨v, d, m0, rfl, hm, hR, hF, kk⟩ := h
  refine ⟨_, pss_cons (ps_if (pt_val (pe_callB call_isi (by rfl) T.isi boot_isinstance (pa_cons (pv 0) (pa_cons (pe_bltn (v := .ty "list") (by rfl) T.list boot_list rfl) pa_nil))))
      (pss_one (ps_ret (pe_lc (own := [("one", 1)]) (g := gName 1) (tt := tYes) rfl scC1.nd (pi_list (pv 0)) (blkOk_by (N := ["thing", "one"]) (sc := defScope sCopied) (by decide +kernel)) (fun _ _ _ _ _ => pg_name (i := 1) scC1.nd rfl (Or.inl rfl)) (fun _ _ _ _ _ => pts_nil)
        (fun _ _ _ _ _ => pe_call G hr rfl m F.kp b .nil pass0 (pa_cons (pv 1) pa_nil))))) pss_nil)
    (pss_cons (ps_if (pt_val (pe_callB call_isi (by rfl) T.isi boot_isinstance (pa_cons (pv 0) (pa_cons (pe_bltn (v := .ty "tuple") (by rfl) T.tuple boot_tuple rfl) pa_nil))))
      (pss_one (ps_ret (pe_callTy call_tuple_of (by rfl) T.tuple boot_tuple (pa_cons (pe_lc (own := [("one", 1)]) (g := gName 1) (tt := tYes) rfl scC1.nd (pi_tup (pv 0)) (blkOk_by (N := ["thing", "one"]) (sc := defScope sCopied) (by decide +kernel)) (fun _ _ _ _ _ => pg_name (i := 1) scC1.nd rfl (Or.inl rfl)) (fun _ _ _ _ _ => pts_nil)
        (fun _ _ _ _ _ => pe_call G hr rfl m F.kp b .nil pass0 (pa_cons (pv 1) pa_nil))) pa_nil)))) pss_nil)
    (pss_one (ps_ret (pv 0)))), ?_⟩
  obtain ⟨sT, hty, k1, k2, k3⟩ := hR.ty (K := K)
  refine ⟨_, rfl, v, _, _, _, _, rfl, .ty _, hty, kit_ty k1, _, rfl, ?_⟩
  cases d with
  | leaf w0 =>
    refine iteF ⟨_, rfl, v, _, _, _, _, rfl, .ty _, hty, kit_ty k2, _, rfl, iteF ⟨_, rfl, ?_⟩⟩
    obtain ⟨rfl, hl⟩ := hR
    exact kk _ H [] (Same.refl H) ⟨rfl, hl, rfl⟩ fun _ z => nomatch z
  | lst ds =>
    refine iteT ?_
    obtain ⟨a, xs, rfl, ha, hr0⟩ := hR
    obtain ⟨m', rfl, hl, hf⟩ := hF.its (.inl rfl)
    refine ⟨_, rfl, a, rfl, ⟨_, SqL.of ha⟩, fun D0 hD => ?_⟩
    obtain ⟨g0, g1⟩ := copies_go (te := tCall (spCopy n) [] E0 (tCons (tVar 1) tNil)) (σ2 := fun x => [some (.ref a), some x]) (m := m') (fun x H Q h => ⟨x, rfl, h⟩) hr0 hf (by omega) hD hl
    refine lc_list (K := K) (a := a) (xs := xs) (fun i H2 => ∃ ys G, Same H H2 ∧ H2 D0 = some (.lst ys) ∧ Reps H2 (ds.take i) ys G ∧ (∀ a ∈ G, H a = none ∧ a ≠ D0)) g0 (fun i H2 _ ⟨_, _, h, _⟩ => SqL.of (h _ _ ha)) ?_ ?_
    · rintro i x H2 hi h
      exact ⟨rfl, g1 i x H2 hi h⟩
    · rintro H2 ⟨ys, G, hs, hD2, hr2, hG⟩
      rw [hr0.len, List.take_length] at hr2
      exact kk _ H2 (D0 :: G) hs ⟨D0, ys, G, rfl, hD2, hr2, fun z => (hG _ z).2 rfl, rfl⟩ fun b hb => by
        rcases List.mem_cons.mp hb with z | z
        · exact z ▸ hD
        · exact (hG b z).1
  | tup ds =>
    refine iteF ⟨_, rfl, v, _, _, _, _, rfl, .ty _, hty, kit_ty k2, _, rfl, iteT ?_⟩
    obtain ⟨a, xs, rfl, ha, hr0⟩ := hR
    obtain ⟨m', rfl, hl, hf⟩ := hF.its (.inr rfl)
    refine ⟨_, rfl, a, rfl, ⟨_, SqT.of ha⟩, fun D0 hD => ?_⟩
    obtain ⟨g0, g1⟩ := copies_go (te := tCall (spCopy n) [] E0 (tCons (tVar 1) tNil)) (σ2 := fun x => [some (.ref a), some x]) (m := m') (fun x H Q h => ⟨x, rfl, h⟩) hr0 hf (by omega) hD hl
    refine lc_tup (K := K) (a := a) (xs := xs) (fun i H2 => ∃ ys G, Same H H2 ∧ H2 D0 = some (.lst ys) ∧ Reps H2 (ds.take i) ys G ∧ (∀ a ∈ G, H a = none ∧ a ≠ D0)) g0 (fun i H2 _ ⟨_, _, h, _⟩ => SqT.of (h _ _ ha)) ?_ ?_
    · rintro i x H2 hi h
      exact ⟨rfl, g1 i x H2 hi h⟩
    · rintro H2 ⟨ys, G, hs, hD2, hr2, hG⟩
      rw [hr0.len, List.take_length] at hr2
      refine ⟨D0, ys, rfl, .inl ⟨SqL.of hD2, fun l hl2 => ?_⟩⟩
      have s3 := same_new hl2 (.tup ys)
      exact kk _ _ G (hs.trans s3) ⟨l, ys, rfl, upd_same, hr2.same s3⟩ fun b hb => (hG b hb).1
end
end K03
set_option Elab.async false
set_option linter.all false
set_option maxRecDepth 100000
set_option maxHeartbeats 4000000
namespace K03
open PySem L2 PyProof.Rows
/-- a datum, its items, where their lists stand -/
inductive Shp (H : Hp) : D → V → List Addr → List V → List Addr → Prop where
  | leaf {v : V} (h : Leaf v) : Shp H (.leaf v) v [] [] []
  | lst {ds : List D} {a : Addr} {xs : List V} {G : List Addr} (h : H a = some (.lst xs)) (r : Reps H ds xs G) (n : a ∉ G) : Shp H (.lst ds) (.ref a) (a :: G) xs G
  | tup {ds : List D} {a : Addr} {xs : List V} {G : List Addr} (h : H a = some (.tup xs)) (r : Reps H ds xs G) : Shp H (.tup ds) (.ref a) G xs G
theorem Rep.shp {H : Hp} {d : D} {v : V} {F : List Addr} (h : Rep H d v F) : ∃ xs G, Shp H d v F xs G := by
  cases d with
  | leaf w =>
    obtain ⟨rfl, hl, rfl⟩ := h
    exact ⟨_, _, .leaf hl⟩
  | lst ds =>
    obtain ⟨a, xs, G, rfl, ha, hr, hn, rfl⟩ := h
    exact ⟨_, _, .lst ha hr hn⟩
  | tup ds =>
    obtain ⟨a, xs, rfl, ha, hr⟩ := h
    exact ⟨_, _, .tup ha hr⟩
theorem Shp.reps {H : Hp} {d : D} {v : V} {F G : List Addr} {xs : List V} (h : Shp H d v F xs G) : Reps H d.its xs G ∧ ∀ a ∈ G, a ∈ F := by
  cases h with
  | leaf h => exact ⟨⟨rfl, rfl⟩, fun _ z => z⟩
  | lst h r n => exact ⟨r, fun _ z => List.mem_cons_of_mem _ z⟩
  | tup h r => exact ⟨r, fun _ z => z⟩
theorem Fits.its0 {c m : Nat} {d : D} (h : Fits c m d) : d.its.length ≤ c ∧ ∀ e ∈ d.its, ∃ m', m = m' + 1 ∧ Fits c m' e := by
  cases d with
  | leaf v => exact ⟨Nat.zero_le _, fun _ z => nomatch z⟩
  | lst ds =>
    obtain ⟨m', rfl, a, b⟩ := h.its (.inl rfl)
    exact ⟨a, fun e he => ⟨m', rfl, b e he⟩⟩
  | tup ds =>
    obtain ⟨m', rfl, a, b⟩ := h.its (.inr rfl)
    exact ⟨a, fun e he => ⟨m', rfl, b e he⟩⟩
section
variable {P : Program} {w : World} {K : PySem.W.Frag} {mg : Str → Option Value} {base : Heap}
theorem scFr : FnScope ["thing", "each", "key"] ["thing"] (defScope sFresh) := ⟨rfl, rfl, rfl, by decide +kernel, rfl, by decide +kernel, by decide +kernel⟩
theorem ok_fresh {f : Addr} {fd : FuncData} {n : Nat} (F : Fun K "fresh" "fresh" sFresh f fd) (T : Txt K mg) (G : FnOk P w K mg base CX0 n f fd ["thing"] (spCopy n)) (b : Binds K fd ["thing"] []) (m : mg "fresh" = some (.ref f)) (zD : mg "dict" = none) :
    FnOk P w K mg base CX0 (n + 1) f fd ["thing"] (spCopy (n + 1)) := by
  refine F.ok scFr (fun vs H Q E h => ?_) (fun cdv A outer s H vs Q E hr h => ?_)
  · obtain ⟨v, d, m0, rfl, _⟩ := h
    rfl
  obtain ⟨v, d, m0, rfl, hm, hR, hF, kk⟩ := h
  refine ⟨_, pss_cons (ps_if (pt_val (pe_callB call_isi (by rfl) T.isi boot_isinstance (pa_cons (pv 0) (pa_cons (pe_bltn (v := .ty "list") (by rfl) T.list boot_list rfl) pa_nil))))
      (pss_one (ps_ret (pe_lc (own := [("each", 1)]) (g := gName 1) (tt := tYes) rfl scFr.nd (pi_list (pv 0)) (blkOk_by (N := ["thing", "each", "key"]) (sc := defScope sFresh) (by decide +kernel)) (fun _ _ _ _ _ => pg_name (i := 1) scFr.nd rfl (Or.inl rfl)) (fun _ _ _ _ _ => pts_nil)
        (fun _ _ _ _ _ => pe_call G hr rfl m F.kp b .nil pass0 (pa_cons (pv 1) pa_nil))))) pss_nil)
    (pss_cons (ps_if (pt_val (pe_callB call_isi (by rfl) T.isi boot_isinstance (pa_cons (pv 0) (pa_cons (pe_bltn (v := .ty "tuple") (by rfl) T.tuple boot_tuple rfl) pa_nil))))
      (pss_one (ps_ret (pe_callTy call_tuple_of (by rfl) T.tuple boot_tuple (pa_cons (pe_lc (own := [("each", 1)]) (g := gName 1) (tt := tYes) rfl scFr.nd (pi_tup (pv 0)) (blkOk_by (N := ["thing", "each", "key"]) (sc := defScope sFresh) (by decide +kernel)) (fun _ _ _ _ _ => pg_name (i := 1) scFr.nd rfl (Or.inl rfl)) (fun _ _ _ _ _ => pts_nil)
        (fun _ _ _ _ _ => pe_call G hr rfl m F.kp b .nil pass0 (pa_cons (pv 1) pa_nil))) pa_nil)))) pss_nil)
    (pss_cons (ps_if (pt_val (pe_callB call_isi (by rfl) T.isi boot_isinstance (pa_cons (pv 0) (pa_cons (pe_bltn (v := .ty "dict") (by rfl) zD boot_dict rfl) pa_nil)))) pss_never pss_nil)
    (pss_one (ps_ret (pv 0))))), ?_⟩
  obtain ⟨sT, hty, k1, k2, k3⟩ := hR.ty (K := K)
  refine ⟨_, rfl, v, _, _, _, _, rfl, .ty _, hty, kit_ty k1, _, rfl, ?_⟩
  cases d with
  | leaf w0 =>
    refine iteF ⟨_, rfl, v, _, _, _, _, rfl, .ty _, hty, kit_ty k2, _, rfl, iteF ⟨_, rfl, v, _, _, _, _, rfl, .ty _, hty, kit_ty k3, _, rfl, iteF ⟨_, rfl, ?_⟩⟩⟩
    obtain ⟨rfl, hl⟩ := hR
    exact kk _ H [] (Same.refl H) ⟨rfl, hl, rfl⟩ fun _ z => nomatch z
  | lst ds =>
    refine iteT ?_
    obtain ⟨a, xs, rfl, ha, hr0⟩ := hR
    obtain ⟨m', rfl, hl, hf⟩ := hF.its (.inl rfl)
    refine ⟨_, rfl, a, rfl, ⟨_, SqL.of ha⟩, fun D0 hD => ?_⟩
    obtain ⟨g0, g1⟩ := copies_go (te := tCall (spCopy n) [] E0 (tCons (tVar 1) tNil)) (σ2 := fun x => [some (.ref a), some x, none]) (m := m') (fun x H Q h => ⟨x, rfl, h⟩) hr0 hf (by omega) hD hl
    refine lc_list (K := K) (a := a) (xs := xs) (fun i H2 => ∃ ys G, Same H H2 ∧ H2 D0 = some (.lst ys) ∧ Reps H2 (ds.take i) ys G ∧ (∀ a ∈ G, H a = none ∧ a ≠ D0)) g0 (fun i H2 _ ⟨_, _, h, _⟩ => SqL.of (h _ _ ha)) ?_ ?_
    · rintro i x H2 hi h
      exact ⟨rfl, g1 i x H2 hi h⟩
    · rintro H2 ⟨ys, G, hs, hD2, hr2, hG⟩
      rw [hr0.len, List.take_length] at hr2
      exact kk _ H2 (D0 :: G) hs ⟨D0, ys, G, rfl, hD2, hr2, fun z => (hG _ z).2 rfl, rfl⟩ fun b hb => by
        rcases List.mem_cons.mp hb with z | z
        · exact z ▸ hD
        · exact (hG b z).1
  | tup ds =>
    refine iteF ⟨_, rfl, v, _, _, _, _, rfl, .ty _, hty, kit_ty k2, _, rfl, iteT ?_⟩
    obtain ⟨a, xs, rfl, ha, hr0⟩ := hR
    obtain ⟨m', rfl, hl, hf⟩ := hF.its (.inr rfl)
    refine ⟨_, rfl, a, rfl, ⟨_, SqT.of ha⟩, fun D0 hD => ?_⟩
    obtain ⟨g0, g1⟩ := copies_go (te := tCall (spCopy n) [] E0 (tCons (tVar 1) tNil)) (σ2 := fun x => [some (.ref a), some x, none]) (m := m') (fun x H Q h => ⟨x, rfl, h⟩) hr0 hf (by omega) hD hl
    refine lc_tup (K := K) (a := a) (xs := xs) (fun i H2 => ∃ ys G, Same H H2 ∧ H2 D0 = some (.lst ys) ∧ Reps H2 (ds.take i) ys G ∧ (∀ a ∈ G, H a = none ∧ a ≠ D0)) g0 (fun i H2 _ ⟨_, _, h, _⟩ => SqT.of (h _ _ ha)) ?_ ?_
    · rintro i x H2 hi h
      exact ⟨rfl, g1 i x H2 hi h⟩
    · rintro H2 ⟨ys, G, hs, hD2, hr2, hG⟩
      rw [hr0.len, List.take_length] at hr2
      refine ⟨D0, ys, rfl, .inl ⟨SqL.of hD2, fun l hl2 => ?_⟩⟩
      have s3 := same_new hl2 (.tup ys)
      exact kk _ _ G (hs.trans s3) ⟨l, ys, rfl, upd_same, hr2.same s3⟩ fun b hb => (hG b hb).1
/-! ### marks -/
theorem scM : FnScope ["thing", "tally", "inner", "name", "one"] ["thing", "tally"] (defScope sMark) := ⟨rfl, rfl, rfl, by decide +kernel, rfl, by decide +kernel, by decide +kernel⟩
theorem ok_mark {f : Addr} {fd : FuncData} {n : Nat} (F : Fun K "_law_ta_mark" "_law_ta_mark" sMark f fd) (T : Txt K mg) (G : FnOk P w K mg base CX0 n f fd ["thing", "tally"] (spMark n)) (b : Binds K fd ["thing", "tally"] []) (m : mg "_law_ta_mark" = some (.ref f)) (zD : mg "dict" = none) :
    FnOk P w K mg base CX0 (n + 1) f fd ["thing", "tally"] (spMark (n + 1)) := by
  refine F.ok scM (fun vs H Q E h => ?_) (fun cdv A outer s H vs Q E hr h => ?_)
  · obtain ⟨v, t, d, F0, m0, k, rfl, _⟩ := h
    rfl
  obtain ⟨v, t, d, F0, m0, k, rfl, hm, hR, hF, ht, htF, kk⟩ := h
  refine ⟨_, Evl.pss_cut (ps_set (i := 2) scM.nd rfl (Or.inl rfl) (pe_ifExp (pt_val (pe_callB call_isiT (by rfl) T.isi boot_isinstance (pa_cons (pv 0) (pa_cons (pe_tup (pa_cons (pe_bltn (v := .ty "list") (by rfl) T.list boot_list rfl) (pa_cons (pe_bltn (v := .ty "tuple") (by rfl) T.tuple boot_tuple rfl) pa_nil))) pa_nil))))
      (pe_callTy call_list_of (by rfl) T.list boot_list (pa_cons (pv 0) pa_nil)) (pe_lst pa_nil)))
    (pss_cons (ps_if (pt_val (pe_callB call_isi (by rfl) T.isi boot_isinstance (pa_cons (pv 0) (pa_cons (pe_bltn (v := .ty "dict") (by rfl) zD boot_dict rfl) pa_nil)))) pss_never pss_nil)
    (Evl.pss_cut (ps_for PassesOwn.never rfl (pi_list (pv 2)) (pg_name (i := 4) scM.nd rfl (Or.inl rfl)) (pss_one (ps_expr (pe_call G hr rfl m F.kp b .nil pass0 (pa_cons (pv 4) (pa_cons (pv 1) pa_nil))))))
    (pss_cons (ps_asg (pe_op op_add (pe_ix ix_list (pv 1) pe_int (fun _ _ => rfl)) pe_int) (pg_sub (pv 1) pe_int set_list))
    (pss_cons (ps_if (pt_val (pe_callB call_isi (by rfl) T.isi boot_isinstance (pa_cons (pv 0) (pa_cons (pe_bltn (v := .ty "list") (by rfl) T.list boot_list rfl) pa_nil))))
      (pss_one (ps_expr (pe_bm PySem.F.plainAttrs_list PySem.F.slot_list_append PySem.F.type_list_append mt_append (pv 0) (pa_cons (pe_ix ix_list (pv 1) pe_int (fun _ _ => rfl)) pa_nil)))) pss_nil)
    (pss_one (ps_if (pt_val (pe_callB call_isi (by rfl) T.isi boot_isinstance (pa_cons (pv 0) (pa_cons (pe_bltn (v := .ty "dict") (by rfl) zD boot_dict rfl) pa_nil)))) pss_never pss_nil)))))), ?_⟩
  obtain ⟨xs, G0, hS⟩ := hR.shp
  obtain ⟨hr0, hGF⟩ := hS.reps
  obtain ⟨hlen, hits⟩ := hF.its0
  have htG : t ∉ G0 := fun z => htF (hGF t z)
  have hxl : xs.length = d.its.length := hr0.len
  -- inner
  refine ⟨fun σ' H' => Same H H' ∧ ∃ l, H l = none ∧ H' l = some (.lst xs) ∧ σ' = [some v, some (.ref t), some (.ref l), none, none], ?_, ?_⟩
  · refine ⟨_, rfl, by show 2 ≤ sizeLine; decide, fun tp htp => ?_⟩
    have hs1 := same_new htp (.tup [V.ty "list", V.ty "tuple"])
    obtain ⟨sT, hty, k1, k2, k3⟩ := (hR.same hs1).ty (K := K)
    refine ⟨v, tp, _, _, _, _, rfl, upd_same, .cons (.ty _) (.cons (.ty _) .nil), hty, kit_two k1 k2, _, rfl, ?_⟩
    cases hS with
    | leaf h =>
      refine iteF ⟨by show 0 ≤ sizeLine; decide, fun l hl => ?_⟩
      exact ⟨hs1.trans (same_new hl _), l, hs1.free hl, upd_same, rfl⟩
    | @lst ds a xs G0 h r n =>
      refine iteT ⟨_, rfl, a, xs, rfl, .inl (SqL.of (hs1 _ _ h)), fun l hl => ?_⟩
      exact ⟨hs1.trans (same_new hl _), l, hs1.free hl, upd_same, rfl⟩
    | @tup ds a xs G0 h r =>
      refine iteT ⟨_, rfl, a, xs, rfl, .inr (SqT.of (hs1 _ _ h)), fun l hl => ?_⟩
      exact ⟨hs1.trans (same_new hl _), l, hs1.free hl, upd_same, rfl⟩
  rintro _ H1 ⟨hs1, l, hl0, hl1, rfl⟩
  obtain ⟨sT, hty, k1, k2, k3⟩ := (hR.same hs1).ty (K := K)
  refine ⟨_, rfl, v, _, _, _, _, rfl, .ty _, hty, kit_ty k3, _, rfl, iteF ?_⟩
  clear hty k1 k2 k3 sT
  have hlt : l ≠ t := (ne_of_none ht hl0).symm
  have hlG : l ∉ G0 := fun z => by
    obtain ⟨ys, e⟩ := hr0.at_ l z
    rw [hl0] at e
    cases e
  -- the things within
  refine ⟨fun σ' H' => Kp (fun a => a ∈ G0 ∨ a = t) H H' ∧ Reps H' (marks d.its k).1 xs G0 ∧ H' t = some (.lst [.int (marks d.its k).2]) ∧ ∃ v4, σ' = [some v, some (.ref t), some (.ref l), none, v4], ?_, ?_⟩
  · refine ⟨_, rfl, l, rfl, ⟨_, SqL.of hl1⟩, ?_⟩
    refine for_list (K := K) (a := l) (xs := xs) (fun i σ' H' => Kp (fun a => a ∈ G0 ∨ a = t) H H' ∧ Kp (fun a => a ∈ G0 ∨ a = t) H1 H' ∧ Reps H' ((marks (d.its.take i) k).1 ++ d.its.drop i) xs G0 ∧ H' t = some (.lst [.int (marks (d.its.take i) k).2]) ∧ ∃ v4, σ' = [some v, some (.ref t), some (.ref l), none, v4])
      ⟨.same hs1, .same (Same.refl _), hr0.same hs1, hs1 _ _ ht, none, rfl⟩ (fun i σ' H' _ ⟨_, h, _⟩ => SqL.of (h _ _ hl1 (.inl fun z => ?_))) ?_ ?_
    · rcases z with z | z
      · exact hlG z
      · exact hlt z
    · rintro i y σ' H2 hi ⟨hg2, hg1, hr2, ht2, v4, rfl⟩
      obtain ⟨e0, G1, he0, hrep, hG1, hset⟩ := hr2.item hi
      have hil : i < d.its.length := by
        have := (List.getElem?_eq_some_iff.mp hi).1
        omega
      obtain ⟨s1, s2, s3⟩ := marks_step (List.getElem?_eq_getElem hil) k
      rw [s1] at he0
      cases he0
      obtain ⟨m', rfl, hf⟩ := hits _ (List.getElem_mem hil)
      refine ⟨_, rfl, _, rfl, y, t, _, G1, m', _, rfl, by omega, hrep, hf, ht2, fun z => htG (hG1 t z), fun H3 hk hr3 ht3 => ?_⟩
      have hw : Kp (fun a => a ∈ G0 ∨ a = t) H2 H3 := hk.wide fun a z => z.imp (hG1 a) id
      rw [← s2]
      rw [← s3] at ht3
      exact ⟨hg2.trans hw, hg1.trans hw, hset t H3 _ htG hk hr3, ht3, _, rfl⟩
    · rintro σ' H2 ⟨hg2, _, hr2, ht2, r⟩
      rw [hxl, List.take_length, List.drop_length, List.append_nil] at hr2
      rw [hxl, List.take_length] at ht2
      exact ⟨hg2, hr2, ht2, r⟩
  rintro _ H2 ⟨hg2, hr2, ht2, v4, rfl⟩
  generalize hk' : (marks d.its k).2 = k' at ht2
  generalize hds' : (marks d.its k).1 = ds' at hr2
  -- the number
  refine ⟨_, rfl, t, _, _, _, rfl, rfl, SqL.of ht2, one_at, _, _, rfl, rfl, _, rfl, t, _, _, 0, rfl, rfl, ht2, rfl, ?_⟩
  have kp3 : Kp (fun a => a = t) H2 (upd H2 t (.lst [.int (k' + 1)])) := Kp.set ht2 rfl
  generalize hH3 : upd H2 t (.lst [.int (k' + 1)]) = H3 at kp3
  have hg3 : Kp (fun a => a ∈ G0 ∨ a = t) H H3 := hg2.trans (kp3.wide fun a z => .inr z)
  have hr3 : Reps H3 ds' xs G0 := hr2.kp kp3 fun a ha z => htG (z ▸ ha)
  have ht3 : H3 t = some (.lst [.int (k' + 1)]) := by
    rw [← hH3]
    exact upd_same
  have e3 : upd H2 t (.lst (([V.int k'] : List V).set 0 (.int (k' + 1)))) = H3 := hH3
  show tSeq _ _ _ _ (upd H2 t (.lst (([V.int k'] : List V).set 0 (.int (k' + 1)))))
  rw [e3]
  cases hS with
  | leaf h =>
    obtain ⟨sT, hty, k1, k2, k3⟩ := (show Rep H3 (.leaf v) v [] from ⟨rfl, h, rfl⟩).ty (K := K)
    refine ⟨_, rfl, v, _, _, _, _, rfl, .ty _, hty, kit_ty k1, _, rfl, iteF ?_⟩
    refine ⟨_, rfl, v, _, _, _, _, rfl, .ty _, hty, kit_ty k3, _, rfl, iteF ?_⟩
    refine kk H3 hg3 ⟨rfl, h, rfl⟩ ?_
    rw [ht3, ← hk']
    rfl
  | @lst ds a xs G0 h r n =>
    have hat : a ≠ t := fun z => htF (z ▸ List.mem_cons_self)
    have ha3 : H3 a = some (.lst xs) := hg3 _ _ h (.inl fun z => z.elim n hat)
    obtain ⟨sT, hty, k1, k2, k3⟩ := (show Rep H3 (.lst ds') (.ref a) (a :: G0) from ⟨a, xs, G0, rfl, ha3, hr3, n, rfl⟩).ty (K := K)
    refine ⟨_, rfl, _, _, _, _, _, rfl, .ty _, hty, kit_ty k1, _, rfl, iteT ?_⟩
    refine ⟨_, rfl, .inl ⟨rfl, _, SqL.of ha3⟩, _, rfl, t, _, _, _, rfl, rfl, SqL.of ht3, one_at, a, _, _, rfl, rfl, ha3, Nat.lt_of_le_of_lt (show xs.length ≤ 1000 by rw [hxl]; exact hlen) (by decide), ?_⟩
    have kp4 : Kp (fun b => b = a) H3 (upd H3 a (.lst (xs ++ [.int (k' + 1)]))) := Kp.set ha3 rfl
    generalize hH4 : upd H3 a (.lst (xs ++ [.int (k' + 1)])) = H4 at kp4
    have ha4 : H4 a = some (.lst (xs ++ [.int (k' + 1)])) := by
      rw [← hH4]
      exact upd_same
    have hr4 : Reps H4 ds' xs G0 := hr3.kp kp4 fun b hb z => n (z ▸ hb)
    have hs4 := hr4.snoc (d := .leaf (.int (k' + 1))) (x := .int (k' + 1)) (G := []) ⟨rfl, .inr (.inr (.inl ⟨_, rfl⟩)), rfl⟩ (fun _ _ z => nomatch z)
    rw [List.append_nil] at hs4
    have R4 : Rep H4 (.lst (ds' ++ [.leaf (.int (k' + 1))])) (.ref a) (a :: G0) := ⟨a, _, G0, rfl, ha4, hs4, n, rfl⟩
    obtain ⟨s4, hty4, q1, q2, q3⟩ := R4.ty (K := K)
    refine ⟨_, rfl, _, _, _, _, _, rfl, .ty _, hty4, kit_ty q3, _, rfl, iteF ?_⟩
    refine kk H4 ((hg3.wide fun b z => z.imp (fun y => List.mem_cons_of_mem _ y) id).trans (kp4.wide fun b z => .inl (z ▸ List.mem_cons_self))) ?_ ?_
    · rw [← hds', ← hk'] at R4
      exact R4
    · rw [← hH4, upd_ne (Ne.symm hat), ht3, ← hk']
      rfl
  | @tup ds a xs G0 h r =>
    have ha3 : H3 a = some (.tup xs) := hg3 _ _ h (.inr fun _ z => nomatch z)
    have R3 : Rep H3 (.tup ds') (.ref a) F0 := ⟨a, xs, rfl, ha3, hr3⟩
    obtain ⟨sT, hty, k1, k2, k3⟩ := R3.ty (K := K)
    refine ⟨_, rfl, _, _, _, _, _, rfl, .ty _, hty, kit_ty k1, _, rfl, iteF ?_⟩
    refine ⟨_, rfl, _, _, _, _, _, rfl, .ty _, hty, kit_ty k3, _, rfl, iteF ?_⟩
    refine kk H3 hg3 ?_ ?_
    · rw [← hds'] at R3
      exact R3
    · rw [ht3, ← hk']
      rfl
end
end K03
set_option Elab.async false
set_option linter.all false
set_option maxRecDepth 100000
set_option maxHeartbeats 4000000
namespace K03
open PySem L2 PyProof.Rows
section
variable {P : Program} {w : World} {K : PySem.W.Frag} {mg : Str → Option Value} {base : Heap}
theorem scS : FnScope ["told", "owed", "name", "at"] ["told", "owed"] (defScope sSame) := ⟨rfl, rfl, rfl, by decide +kernel, rfl, by decide +kernel, by decide +kernel⟩
theorem RW.seq {H : Hp} {d : D} {v : V} (h : RW H d v) (hd : (d.isL || d.isT) = true) : ∃ a xs, v = .ref a ∧ (H a = some (.lst xs) ∨ H a = some (.tup xs)) ∧ RWs H d.its xs := by
  cases d with
  | leaf w => cases hd
  | lst ds =>
    obtain ⟨a, xs, e, ha, hr⟩ := h
    exact ⟨a, xs, e, .inl ha, hr⟩
  | tup ds =>
    obtain ⟨a, xs, e, ha, hr⟩ := h
    exact ⟨a, xs, e, .inr ha, hr⟩
theorem RW.leafs {H : Hp} {d : D} {v : V} (h : RW H d v) (hd : (d.isL || d.isT) = false) : d = .leaf v ∧ Leaf v := by
  cases d with
  | leaf w =>
    obtain ⟨rfl, hl⟩ := h
    exact ⟨rfl, hl⟩
  | lst ds => cases hd
  | tup ds => cases hd
theorem ok_same {f : Addr} {fd : FuncData} {n : Nat} (F : Fun K "_law_ta_same" "_law_ta_same" sSame f fd) (T : Txt K mg) (G : FnOk P w K mg base CX0 n f fd ["told", "owed"] (spSame n)) (b : Binds K fd ["told", "owed"] []) (m : mg "_law_ta_same" = some (.ref f)) (zD : mg "dict" = none) (zB : mg "bool" = none) (zS : mg "str" = none) :
    FnOk P w K mg base CX0 (n + 1) f fd ["told", "owed"] (spSame (n + 1)) := by
  refine F.ok scS (fun vs H Q E h => ?_) (fun cdv A outer s H vs Q E hr h => ?_)
  · obtain ⟨v, u, d, m0, rfl, _⟩ := h
    rfl
  obtain ⟨v, u, d, m0, rfl, hm, hv, hu, hF, kk⟩ := h
  refine ⟨_, pss_cons (ps_if (pt_val (pe_callB call_isi (by rfl) T.isi boot_isinstance (pa_cons (pv 1) (pa_cons (pe_bltn (v := .ty "dict") (by rfl) zD boot_dict rfl) pa_nil)))) pss_never pss_nil)
    (pss_cons (ps_if (pt_val (pe_callB call_isiT (by rfl) T.isi boot_isinstance (pa_cons (pv 1) (pa_cons (pe_tup (pa_cons (pe_bltn (v := .ty "list") (by rfl) T.list boot_list rfl) (pa_cons (pe_bltn (v := .ty "tuple") (by rfl) T.tuple boot_tuple rfl) pa_nil))) pa_nil))))
      (pss_cons (ps_if (pw_or (pt_cmpR op_ne (pe_callB call_isi (by rfl) T.isi boot_isinstance (pa_cons (pv 0) (pa_cons (pe_bltn (v := .ty "list") (by rfl) T.list boot_list rfl) pa_nil))) (pe_callB call_isi (by rfl) T.isi boot_isinstance (pa_cons (pv 1) (pa_cons (pe_bltn (v := .ty "list") (by rfl) T.list boot_list rfl) pa_nil))) (nomark _))
          (pw_or1 (pt_cmpR op_ne (pe_callB call_isi (by rfl) T.isi boot_isinstance (pa_cons (pv 0) (pa_cons (pe_bltn (v := .ty "tuple") (by rfl) T.tuple boot_tuple rfl) pa_nil))) (pe_callB call_isi (by rfl) T.isi boot_isinstance (pa_cons (pv 1) (pa_cons (pe_bltn (v := .ty "tuple") (by rfl) T.tuple boot_tuple rfl) pa_nil))) (nomark _)))).pt pss_never pss_nil)
      (pss_one (ps_ret (pe_and (pe_cmpR op_eq (pe_callB call_len_seq (by rfl) T.len PySem.boot_len (pa_cons (pv 0) pa_nil)) (pe_callB call_len_seq (by rfl) T.len PySem.boot_len (pa_cons (pv 1) pa_nil)) (nomark _))
        (pe_one (pe_callB (cr_all rfl) (by rfl) T.all (by decide +kernel) (pa_cons (pe_lc (own := [("at", 3)]) (g := gName 3) (tt := tYes) rfl scS.nd (pi_range1 rfl T.range (pa_cons (pe_callB call_len_seq (by rfl) T.len PySem.boot_len (pa_cons (pv 1) pa_nil)) pa_nil)) (blkOk_by (N := ["told", "owed", "name", "at"]) (sc := defScope sSame) (by decide +kernel)) (fun _ _ _ _ _ => pg_name (i := 3) scS.nd rfl (Or.inl rfl)) (fun _ _ _ _ _ => pts_nil)
          (fun _ _ _ _ _ => pe_call G hr rfl m F.kp b .nil pass0 (pa_cons (pe_ix (show IxR _ (rIx K) from ix_seq) (pv 0) (pv 3) (fun _ _ => rfl)) (pa_cons (pe_ix (show IxR _ (rIx K) from ix_seq) (pv 1) (pv 3) (fun _ _ => rfl)) pa_nil)))) pa_nil))))))) pss_nil)
    (pss_cons (ps_if (pw_or (pt_cmpR op_isN (pv 1) pe_non (nomark _)) (pw_or1 (pt_val (pe_callB call_isi (by rfl) T.isi boot_isinstance (pa_cons (pv 1) (pa_cons (pe_bltn (v := .ty "bool") (by rfl) zB boot_bool rfl) pa_nil)))))).pt
      (pss_one (ps_ret (pe_cmpR op_eq (pe_callB call_reprNB (by rfl) T.repr boot_repr (pa_cons (pv 0) pa_nil)) (pe_callB call_reprNB (by rfl) T.repr boot_repr (pa_cons (pv 1) pa_nil)) (nomark _)))) pss_nil)
    (pss_cons (ps_if (pt_val (pe_callB call_isi (by rfl) T.isi boot_isinstance (pa_cons (pv 1) (pa_cons (pe_bltn (v := .ty "int") (by rfl) T.int boot_int rfl) pa_nil))))
      (pss_one (ps_ret (pe_and (pe_callB call_isi (by rfl) T.isi boot_isinstance (pa_cons (pv 0) (pa_cons (pe_bltn (v := .ty "int") (by rfl) T.int boot_int rfl) pa_nil)))
        (pe_and (pe_not (pe_callB call_isi (by rfl) T.isi boot_isinstance (pa_cons (pv 0) (pa_cons (pe_bltn (v := .ty "bool") (by rfl) zB boot_bool rfl) pa_nil)))) (pe_one (pe_cmpR op_eq (pv 0) (pv 1) (nomark _))))))) pss_nil)
    (pss_one (ps_ret (pe_and (pe_callB call_isi (by rfl) T.isi boot_isinstance (pa_cons (pv 0) (pa_cons (pe_bltn (v := .ty "str") (by rfl) zS boot_str rfl) pa_nil))) (pe_one (pe_cmpR op_eq (pv 0) (pv 1) (nomark _))))))))), ?_⟩
  obtain ⟨sT, hty, k1, k2, k3⟩ := hu.ty (K := K)
  refine ⟨_, rfl, u, _, _, _, _, rfl, .ty _, hty, kit_ty k3, _, rfl, iteF ?_⟩
  refine ⟨_, rfl, by show 2 ≤ sizeLine; decide, fun tp htp => ?_⟩
  have hs1 := same_new htp (.tup [V.ty "list", V.ty "tuple"])
  have hv1 := hv.same hs1
  have hu1 := hu.same hs1
  obtain ⟨s1, hty1, q1, q2, q3⟩ := hu1.ty (K := K)
  refine ⟨u, tp, _, _, _, _, rfl, upd_same, .cons (.ty _) (.cons (.ty _) .nil), hty1, kit_two q1 q2, _, rfl, ?_⟩
  clear hty hty1
  generalize hH1 : upd H tp (.tup [V.ty "list", V.ty "tuple"]) = H1 at hs1 hv1 hu1
  refine ite2 (fun e => ?_) (fun e => ?_)
  · -- a list or a tuple
    obtain ⟨sa, hta, a1, a2, a3⟩ := hv1.ty (K := K)
    obtain ⟨sb, htb, b1, b2, b3⟩ := hu1.ty (K := K)
    refine ⟨_, rfl, v, _, _, _, _, rfl, .ty _, hta, kit_ty a1, _, rfl, u, _, _, _, _, rfl, .ty _, htb, kit_ty b1, rfl, _, rfl, ?_⟩
    have nx : (!decide (V.bl d.isL = V.bl d.isL)) = false := by simp
    have ny : (!decide (V.bl d.isT = V.bl d.isT)) = false := by simp
    show if (!decide (V.bl d.isL = V.bl d.isL)) = true then _ else _
    rw [nx]
    refine iteF ?_
    refine ⟨_, rfl, v, _, _, _, _, rfl, .ty _, hta, kit_ty a2, _, rfl, u, _, _, _, _, rfl, .ty _, htb, kit_ty b2, rfl, _, rfl, ?_⟩
    show if (!decide (V.bl d.isT = V.bl d.isT)) = true then _ else _
    rw [ny]
    refine iteF ?_
    clear hta htb
    obtain ⟨m', rfl, hlen, hf⟩ := hF.its (show d.isL = true ∨ d.isT = true by simpa using e)
    obtain ⟨a, xs, rfl, ha, ra⟩ := hv1.seq e
    obtain ⟨c, ys, rfl, hc, rc⟩ := hu1.seq e
    have hlx := ra.len
    have hly := rc.len
    have sq : ∀ {a : Addr} {xs : List V} {H : Hp}, (H a = some (.lst xs) ∨ H a = some (.tup xs)) → SqL K H a xs ∨ SqT K H a xs := fun h => by
      rcases h with h | h
      · exact .inl (SqL.of h)
      · exact .inr (SqT.of h)
    refine ⟨_, rfl, a, xs, rfl, sq ha, _, rfl, c, ys, rfl, sq hc, rfl, _, rfl, ?_⟩
    rw [hlx, hly, decide_eq_true rfl]
    refine iteT ?_
    refine ⟨_, rfl, c, ys, rfl, sq hc, _, rfl, by omega, by omega, fun D hD => ?_⟩
    have hat : ∀ (a : Addr) (xs : List V), (H1 a = some (.lst xs) ∨ H1 a = some (.tup xs)) → ∀ (i : Nat) (y : V), xs[i]? = some y → ∀ H' : Hp, Same H1 H' → ∀ Q : VK, Q y H' → rIx K (.ref a) (.int (0 + (i : Int))) H' Q := fun a xs ha i y hy H' hs Q q => by
      have e0 : atI xs (0 + (i : Int)) = some y := by
        rw [Int.zero_add]
        exact atI_nat hy
      rcases ha with ha | ha
      · exact .inl ⟨a, xs, _, y, rfl, rfl, SqL.of (hs _ _ ha), e0, q⟩
      · exact .inr (.inl ⟨a, xs, _, y, rfl, rfl, SqT.of (hs _ _ ha), e0, q⟩)
    refine lc_range (lo := 0) (fun i H' => Same H1 H' ∧ H' D = some (.lst ((List.replicate i true).map V.bl))) ⟨same_new hD _, upd_same⟩ ?_ ?_
    · rintro i H2 hi ⟨hs2, hD2⟩
      have hi2 : i < d.its.length := by omega
      refine ⟨rfl, ?_⟩
      show tCall (spSame n) [] E0 (tCons (tOp (rIx K) (tVar 0) (tVar 3)) (tCons (tOp (rIx K) (tVar 1) (tVar 3)) tNil)) _ H2 _
      have hx := List.getElem?_eq_getElem (show i < xs.length by omega)
      have hy := List.getElem?_eq_getElem (show i < ys.length by omega)
      generalize xs[i] = x at hx
      generalize ys[i] = y at hy
      obtain ⟨e1, he1, hr1⟩ := ra.item hx
      obtain ⟨e2, he2, hr2⟩ := rc.item hy
      have ee : e1 = e2 := Option.some.inj (he1.symm.trans he2)
      subst ee
      refine ⟨_, rfl, _, rfl, hat a xs ha i x hx H2 hs2 _ ⟨_, rfl, _, rfl, hat c ys hc i y hy H2 hs2 _ ?_⟩⟩
      refine ⟨x, y, e1, m', rfl, by omega, hr1.same hs2, hr2.same hs2, hf e1 (List.mem_of_getElem? he1), fun H3 hs3 => ?_⟩
      refine ⟨_, hs3 _ _ hD2, ?_, same_put (hs2.trans hs3) hD, ?_⟩
      · rw [List.length_map, List.length_replicate]
        exact Nat.lt_of_lt_of_le (show i < 1000 by omega) (by decide)
      · rw [upd_same, List.replicate_succ', List.map_append]
        rfl
    · rintro H2 ⟨hs2, hD2⟩
      refine ⟨D, _, rfl, SqL.of hD2, ?_⟩
      have ea : (List.replicate (((ys.length : Nat) : Int).toNat) true).all id = true := by simp
      rw [ea]
      exact kk H2 (hs1.trans hs2)
  · -- a leaf
    obtain ⟨rfl, hl⟩ := hu.leafs (by simpa using e)
    obtain ⟨rfl, _⟩ := hv
    rcases hl with rfl | ⟨b0, rfl⟩ | ⟨i0, rfl⟩ | ⟨z0, rfl⟩
    · refine ⟨_, rfl, rfl, _, rfl, ifT (decide_eq_true rfl) (iteT ?_)⟩
      refine ⟨_, rfl, .inl ⟨rfl, _, rfl, .inl ⟨rfl, rfl, ?_⟩⟩⟩
      rw [decide_eq_true rfl]
      exact kk _ hs1
    · refine ⟨_, rfl, rfl, _, rfl, ifF (decide_eq_false (fun z => nomatch z)) ?_⟩
      refine ⟨_, rfl, .bl b0, _, _, _, _, rfl, .ty _, .base (.bl b0), kit_ty (a := "bool") (b := "bool") (r := true) (by decide +kernel), _, rfl, iteT ?_⟩
      refine ⟨_, rfl, .inr ⟨b0, rfl, _, rfl, .inr ⟨b0, rfl, rfl, ?_⟩⟩⟩
      rw [decide_eq_true rfl]
      exact kk _ hs1
    · refine ⟨_, rfl, rfl, _, rfl, ifF (decide_eq_false (fun z => nomatch z)) ?_⟩
      refine ⟨_, rfl, .int i0, _, _, _, _, rfl, .ty _, .base (.int i0), kit_ty (a := "int") (b := "bool") (r := false) (by decide +kernel), _, rfl, iteF ?_⟩
      refine ⟨_, rfl, .int i0, _, _, _, _, rfl, .ty _, .base (.int i0), kit_ty (a := "int") (b := "int") (r := true) (by decide +kernel), _, rfl, iteT ?_⟩
      refine ⟨_, rfl, .int i0, _, _, _, _, rfl, .ty _, .base (.int i0), kit_ty (a := "int") (b := "int") (r := true) (by decide +kernel), _, rfl, iteT ?_⟩
      refine ⟨_, rfl, .int i0, _, _, _, _, rfl, .ty _, .base (.int i0), kit_ty (a := "int") (b := "bool") (r := false) (by decide +kernel), _, rfl, _, rfl, iteT ?_⟩
      refine ⟨_, rfl, _, rfl, rfl, ?_⟩
      rw [decide_eq_true rfl]
      exact kk _ hs1
    · refine ⟨_, rfl, rfl, _, rfl, ifF (decide_eq_false (fun z => nomatch z)) ?_⟩
      refine ⟨_, rfl, .str z0, _, _, _, _, rfl, .ty _, .base (.str z0), kit_ty (a := "str") (b := "bool") (r := false) (by decide +kernel), _, rfl, iteF ?_⟩
      refine ⟨_, rfl, .str z0, _, _, _, _, rfl, .ty _, .base (.str z0), kit_ty (a := "str") (b := "int") (r := false) (by decide +kernel), _, rfl, iteF ?_⟩
      refine ⟨_, rfl, .str z0, _, _, _, _, rfl, .ty _, .base (.str z0), kit_ty (a := "str") (b := "str") (r := true) (by decide +kernel), _, rfl, iteT ?_⟩
      refine ⟨_, rfl, _, rfl, rfl, ?_⟩
      rw [decide_eq_true rfl]
      exact kk _ hs1
end
end K03
set_option Elab.async false
set_option linter.all false
set_option maxRecDepth 100000
set_option maxHeartbeats 4000000
namespace K03
open PySem L2 PyProof.Rows
theorem leaf_str {z : Str} : Leaf (.str z) := .inr (.inr (.inr ⟨z, rfl⟩))
theorem leaf_int {i : Int} : Leaf (.int i) := .inr (.inr (.inl ⟨i, rfl⟩))
theorem leaf_non : Leaf .non := .inl rfl
theorem rep_leaf {H : Hp} {v : V} (h : Leaf v) : Rep H (.leaf v) v [] := ⟨rfl, h, rfl⟩
theorem reps_nil {H : Hp} : Reps H [] [] [] := ⟨rfl, rfl⟩
theorem reps_leaf {H : Hp} {v : V} {ds : List D} {xs : List V} {F : List Addr} (h : Leaf v) (r : Reps H ds xs F) : Reps H (.leaf v :: ds) (v :: xs) F := ⟨v, xs, [], F, rfl, rep_leaf h, r, (fun _ z => nomatch z), rfl⟩
theorem rep_tup {H : Hp} {a : Addr} {ds : List D} {xs : List V} {F : List Addr} (h : H a = some (.tup xs)) (r : Reps H ds xs F) : Rep H (.tup ds) (.ref a) F := ⟨a, xs, rfl, h, r⟩
theorem rep_lst {H : Hp} {a : Addr} {ds : List D} {xs : List V} {F : List Addr} (h : H a = some (.lst xs)) (r : Reps H ds xs F) (n : a ∉ F) : Rep H (.lst ds) (.ref a) (a :: F) := ⟨a, xs, F, rfl, h, r, n, rfl⟩
theorem reps_one {H : Hp} {d : D} {v : V} {F : List Addr} (h : Rep H d v F) : Reps H [d] [v] F := ⟨v, [], F, [], rfl, h, reps_nil, (fun _ _ z => nomatch z), (List.append_nil F).symm⟩
theorem reps_cons {H : Hp} {d : D} {v : V} {ds : List D} {xs : List V} {F G : List Addr} (h : Rep H d v F) (r : Reps H ds xs G) (n : ∀ a ∈ F, a ∉ G) : Reps H (d :: ds) (v :: xs) (F ++ G) := ⟨v, xs, F, G, rfl, h, r, n, rfl⟩
theorem reps_app {H : Hp} : ∀ {ds es : List D} {xs ys : List V} {F G : List Addr}, Reps H ds xs F → Reps H es ys G → (∀ a ∈ F, a ∉ G) → Reps H (ds ++ es) (xs ++ ys) (F ++ G)
  | [], es, xs, ys, F, G, h, k, n => by
    obtain ⟨rfl, rfl⟩ := h
    exact k
  | d :: ds, es, xs, ys, F, G, h, k, n => by
    obtain ⟨x, zs, F1, F2, rfl, h1, h2, h3, rfl⟩ := h
    refine ⟨x, zs ++ ys, F1, F2 ++ G, rfl, h1, reps_app h2 k fun a ha => n a (List.mem_append_right _ ha), fun a ha z => ?_, List.append_assoc _ _ _⟩
    rcases List.mem_append.mp z with z | z
    · exact h3 a ha z
    · exact n a (List.mem_append_left _ ha) z
theorem Rep.apart {H : Hp} {d : D} {v : V} {F G : List Addr} (r : Rep H d v F) (hG : ∀ a ∈ G, H a = none) : ∀ a ∈ F, a ∉ G := fun a ha z => by
  obtain ⟨xs, e⟩ := r.at_ a ha
  rw [hG a z] at e
  cases e
theorem Reps.apart {H : Hp} {ds : List D} {xs : List V} {F G : List Addr} (r : Reps H ds xs F) (hG : ∀ a ∈ G, H a = none) : ∀ a ∈ F, a ∉ G := fun a ha z => by
  obtain ⟨xs, e⟩ := r.at_ a ha
  rw [hG a z] at e
  cases e
/-! ### written data -/
theorem weakE {X : Cx} {e : Expr} {t t' : TE} (h : PE X e t) (k : ∀ σ H Q, t' σ H Q → t σ H Q) : PE X e t' := ⟨fun pins s σ H Q I q => h.run pins s σ H Q I (k σ H Q q)⟩
theorem weakA {X : Cx} {es : List Expr} {t t' : TA} (h : PA X es t) (k : ∀ σ H Q, t' σ H Q → t σ H Q) : PA X es t' := ⟨fun pos pins s σ H Q I q => h.run pos pins s σ H Q I (k σ H Q q)⟩
def tLit (d : D) : TE := fun _ H Q => ∀ u H' G, Same H H' → Rep H' d u G → (∀ a ∈ G, H a = none) → Q u H'
def tLits (ds : List D) : TA := fun _ H Q => ∀ us H' G, Same H H' → Reps H' ds us G → (∀ a ∈ G, H a = none) → Q us H'
section
variable {X : Cx} {e : Expr} {es : List Expr} {pos : Pos} {d : D} {ds : List D}
theorem pl_str {z : Str} {j} : PE X (.Constant (.str z) j pos) (tLit (.leaf (.str z))) := weakE pe_str fun _ H _ q => q _ H [] (Same.refl H) (rep_leaf leaf_str) fun _ z => nomatch z
theorem pl_int {i : Int} {j} : PE X (.Constant (.int i) j pos) (tLit (.leaf (.int i))) := weakE pe_int fun _ H _ q => q _ H [] (Same.refl H) (rep_leaf leaf_int) fun _ z => nomatch z
theorem pl_non {j} : PE X (.Constant .none j pos) (tLit (.leaf .non)) := weakE pe_non fun _ H _ q => q _ H [] (Same.refl H) (rep_leaf leaf_non) fun _ z => nomatch z
theorem pl_nil : PA X [] (tLits []) := weakA pa_nil fun _ H _ q => q [] H [] (Same.refl H) reps_nil fun _ z => nomatch z
theorem pl_cons (ha : PE X e (tLit d)) (hr : PA X es (tLits ds)) (hs : starEach (e :: es) X.env = (false, eval e X.env) :: starEach es X.env := by rfl) : PA X (e :: es) (tLits (d :: ds)) :=
  weakA (pa_cons ha hr hs) fun _ H _ q => fun u H1 G s1 r1 n1 us H2 G2 s2 r2 n2 => q (u :: us) H2 (G ++ G2) (s1.trans s2) (reps_cons (r1.same s2) r2 (r1.apart n2)) fun a ha => by
    rcases List.mem_append.mp ha with z | z
    · exact n1 a z
    · exact s1.free (n2 a z)
theorem pl_tup {x1} (h : PA X es (tLits ds)) (hl : ds.length ≤ 1000 := by decide) : PE X (.Tuple es x1 pos) (tLit (.tup ds)) :=
  weakE (pe_tup h) fun _ H _ q => fun us H1 G s1 r1 n1 => ⟨Nat.le_trans (show us.length ≤ 1000 by rw [r1.len]; exact hl) (by decide), fun p hp => q (.ref p) _ G (s1.trans (same_new hp _)) (rep_tup upd_same (r1.same (same_new hp _))) n1⟩
theorem pl_lst (h : PA X es (tLits ds)) (hl : ds.length ≤ 1000 := by decide) : PE X (.List es pos) (tLit (.lst ds)) :=
  weakE (pe_lst h) fun _ H _ q => fun us H1 G s1 r1 n1 => ⟨Nat.le_trans (show us.length ≤ 1000 by rw [r1.len]; exact hl) (by decide), fun p hp => q (.ref p) _ (p :: G) (s1.trans (same_new hp _)) (rep_lst upd_same (r1.same (same_new hp _)) fun z => by
      obtain ⟨xs, e⟩ := r1.at_ p z
      rw [hp] at e
      cases e) fun a ha => by
    rcases List.mem_cons.mp ha with z | z
    · exact z ▸ s1.free hp
    · exact n1 a z⟩
end
/-- two written lists, one behind the other -/
theorem rep_cat {H H1 H2 : Hp} {ds es : List D} {u v : V} {F G : List Addr} (r1 : Rep H1 (.lst ds) u F) (n1 : ∀ a ∈ F, H a = none) (s : Same H H1) (s2 : Same H1 H2) (r2 : Rep H2 (.lst es) v G) (n2 : ∀ a ∈ G, H1 a = none) :
    ∃ l b xs zs, u = .ref l ∧ v = .ref b ∧ H2 l = some (.lst xs) ∧ H2 b = some (.lst zs) ∧ xs.length = ds.length ∧ zs.length = es.length ∧ ∀ p, H2 p = none → ∃ F', Rep (upd H2 p (.lst (xs ++ zs))) (.lst (ds ++ es)) (.ref p) F' ∧ Same H (upd H2 p (.lst (xs ++ zs))) ∧ ∀ a ∈ F', H a = none := by
  obtain ⟨l, xs, G1, rfl, hl1, c1, a2, rfl⟩ := r1
  have hl := s2 _ _ hl1
  have a1 := c1.same s2
  obtain ⟨b, zs, G2, rfl, hb, b1, b2, rfl⟩ := r2
  refine ⟨l, b, xs, zs, rfl, rfl, hl, hb, a1.len, b1.len, fun p hp => ?_⟩
  have st := same_new hp (.lst (xs ++ zs))
  have m1 : ∀ a ∈ G1, H a = none := fun a ha => n1 a (List.mem_cons_of_mem _ ha)
  have m2 : ∀ a ∈ G2, H a = none := fun a ha => s.free (n2 a (List.mem_cons_of_mem _ ha))
  have ap : ∀ a ∈ G1, a ∉ G2 := c1.apart fun a ha => n2 a (List.mem_cons_of_mem _ ha)
  refine ⟨p :: (G1 ++ G2), rep_lst upd_same ((reps_app a1 b1 ap).same st) (fun z => ?_), (s.trans s2).trans st, fun a ha => ?_⟩
  · rcases List.mem_append.mp z with z | z
    · obtain ⟨ys, e⟩ := a1.at_ p z
      rw [hp] at e
      cases e
    · obtain ⟨ys, e⟩ := b1.at_ p z
      rw [hp] at e
      cases e
  · rcases List.mem_cons.mp ha with z | z
    · exact z ▸ (s.trans s2).free hp
    · rcases List.mem_append.mp z with z | z
      · exact m1 a z
      · exact m2 a z
/-- an item of it -/
theorem rep_pick {H : Hp} {ds : List D} {u : V} {F : List Addr} (r : Rep H (.lst ds) u F) : ∃ l xs, u = .ref l ∧ H l = some (.lst xs) ∧ xs.length = ds.length ∧ l ∈ F ∧ ∀ i : Int, 0 ≤ i → i < (ds.length : Int) → ∃ x d G, atI xs i = some x ∧ d ∈ ds ∧ Rep H d x G ∧ ∀ a ∈ G, a ∈ F := by
  obtain ⟨l, xs, G, rfl, hl, a1, a2, rfl⟩ := r
  refine ⟨l, xs, rfl, hl, a1.len, List.mem_cons_self, fun i h0 h1 => ?_⟩
  obtain ⟨j, rfl⟩ : ∃ j : Nat, i = (j : Int) := ⟨i.toNat, by omega⟩
  have hj : j < xs.length := by
    rw [a1.len]
    omega
  have e := List.getElem?_eq_getElem hj
  obtain ⟨d, G1, e1, r1, m1, _⟩ := a1.item e
  exact ⟨xs[j], d, G1, atI_nat e, List.mem_of_getElem? e1, r1, fun a ha => List.mem_cons_of_mem _ (m1 a ha)⟩
/-! ### texts -/
def Tx (n : Nat) (z : Str) : Prop := z.length ≤ n ∧ ∀ c ∈ z.cps.toList, c < 1114112
theorem Tx.mono {m n : Nat} {z : Str} (h : Tx m z) (hm : m ≤ n) : Tx n z := ⟨Nat.le_trans h.1 hm, h.2⟩
theorem tx_app {m n : Nat} {x y : Str} (hx : Tx m x) (hy : Tx n y) : Tx (m + n) (x ++ y) := by
  refine ⟨by rw [Str.length_append]; exact Nat.add_le_add hx.1 hy.1, fun c hc => ?_⟩
  rw [show (x ++ y).cps.toList = x.cps.toList ++ y.cps.toList from Array.toList_append] at hc
  rcases List.mem_append.mp hc with h | h
  · exact hx.2 c h
  · exact hy.2 c h
theorem cut_list (z : Str) (lo hi : Option Int) : (cutS z lo hi).cps.toList = (z.cps.toList.drop (HT.sIx z.length 0 lo)).take (HT.sIx z.length z.length hi - HT.sIx z.length 0 lo) := List.toList_toArray
theorem tx_cut {n : Nat} {z : Str} (h : Tx n z) (lo hi : Option Int) : Tx n (cutS z lo hi) := by
  refine ⟨?_, fun c hc => ?_⟩
  · show (cutS z lo hi).cps.toList.length ≤ n
    rw [cut_list, List.length_take, List.length_drop]
    have e : z.cps.toList.length ≤ n := h.1
    omega
  · rw [cut_list] at hc
    exact h.2 c (List.mem_of_mem_drop (List.mem_of_mem_take hc))
def txB (n : Nat) (z : Str) : Bool := decide (z.length ≤ n) && z.cps.toList.all fun c => decide (c < 1114112)
theorem tx_of {n : Nat} {z : Str} (h : txB n z = true) : Tx n z := by
  obtain ⟨a, b⟩ := Bool.and_eq_true_iff.mp h
  exact ⟨of_decide_eq_true a, fun c hc => of_decide_eq_true (List.all_eq_true.mp b c hc)⟩
theorem tx_name {z : Str} (h : okName z) : Tx 8 z := ⟨h.2.1, fun c hc => Nat.lt_of_le_of_lt (h.2.2 c hc).2 (by decide)⟩
theorem tx_upper {z : Str} (h : okName z) : Tx 8 (Txt.upper z) := by
  have e := PyProof.Rows.upper_ascii (x := z) fun c hc => Nat.lt_of_le_of_lt (h.2.2 c hc).2 (by decide)
  rw [e]
  refine ⟨?_, fun c hc => ?_⟩
  · show (z.cps.map PyProof.Rows.up1).toList.length ≤ 8
    rw [Array.toList_map, List.length_map]
    exact h.2.1
  · have hc' : c ∈ (z.cps.map PyProof.Rows.up1).toList := hc
    rw [Array.toList_map] at hc'
    obtain ⟨b, hb, rfl⟩ := List.mem_map.mp hc'
    have q := (h.2.2 b hb).2
    unfold PyProof.Rows.up1
    split <;> omega
theorem tx_one {c : Nat} (h : c < 1114112) : Tx 1 ⟨#[c]⟩ := ⟨Nat.le_refl 1, fun b hb => by
  have e : b = c := by simpa using hb
  omega⟩
abbrev OkT (z : Str) : Prop := Tx 100 z
theorem tx_ok {z : Str} (h : Tx 100 z) : PyData.strOk z = true := by
  show z.cps.all _ = true
  rw [← Array.all_toList]
  exact List.all_eq_true.mpr fun c hc => decide_eq_true (h.2 c hc)
theorem tx_room {n : Nat} {z : Str} (h : Tx n z) (hn : n ≤ 1000) : z.length ≤ sizeLine := Nat.le_trans h.1 (Nat.le_trans hn (by decide))
end K03
set_option Elab.async false
set_option linter.all false
set_option maxRecDepth 100000
set_option maxHeartbeats 4000000
namespace K03
open PySem L2 PyProof.Rows
theorem pt_never {X : Cx} {e : Expr} : PT X e (fun _ _ _ => False) := ⟨fun _ _ _ _ _ _ h => h.elim⟩
theorem pw_never {X : Cx} {e : Expr} : PW X e (fun _ _ _ => False) := ⟨fun _ _ _ _ _ _ _ h => h.elim⟩
theorem But.kp {p : Addr} {H H' : Hp} {n : Nat} (h : But p H H') (q : Purse H p n) : Kp (fun a => a = p) H H' := fun b o e z => by
  rcases z with z | z
  · exact h b o z e
  · refine h b o (fun y => ?_) e
    obtain ⟨a1, a2, a3, e2, _⟩ := q
    rw [y, e2] at e
    exact z _ (Option.some.inj e).symm
/-- what may still be drawn: parts a, defaults d, items i, wrong things w, of the kinds ks, calls c, levels l -/
structure LeftAt (H : Hp) (p L : Addr) (a d i w c l : Int) (kA : Addr) (ks : List Str) : Prop where
  at_ : H L = some (.lst [.int a, .int d, .int i, .int w, .ref kA, .int c, .int l])
  b : 0 ≤ i ∧ i ≤ 20 ∧ 1 ≤ l ∧ l ≤ 5
  kd : H kA = some (.lst (ks.map V.str))
  np : kA ≠ p
  nL : kA ≠ L
def Left (H : Hp) (p L kA : Addr) (a : Int) : Prop := ∃ (d i w c l : Int) (ks : List Str), LeftAt H p L a d i w c l kA ks
theorem LeftAt.same {H H1 : Hp} {p L : Addr} {a d i w c l : Int} {kA : Addr} {ks : List Str} (h : LeftAt H p L a d i w c l kA ks) (s : Same H H1) : LeftAt H1 p L a d i w c l kA ks := ⟨s _ _ h.at_, h.b, s _ _ h.kd, h.np, h.nL⟩
theorem LeftAt.but {H H1 : Hp} {p L : Addr} {a d i w c l : Int} {kA : Addr} {ks : List Str} (h : LeftAt H p L a d i w c l kA ks) (s : But p H H1) (n : L ≠ p) : LeftAt H1 p L a d i w c l kA ks := ⟨s _ _ n h.at_, h.b, s _ _ h.np h.kd, h.np, h.nL⟩
def Nam (H : Hp) (n : Addr) (z : List Str) : Prop := H n = some (.lst (z.map V.str)) ∧ 1 ≤ z.length ∧ z.length ≤ 26 ∧ ∀ y ∈ z, okName y
def Lbl (H : Hp) (B p L : Addr) : Prop := ∃ n0 n1 n2 z0 z1 z2, H B = some (.lst [.ref n0, .ref n1, .ref n2]) ∧ Nam H n0 z0 ∧ Nam H n1 z1 ∧ Nam H n2 z2 ∧ B ≠ p ∧ B ≠ L ∧ n0 ≠ p ∧ n0 ≠ L ∧ n1 ≠ p ∧ n1 ≠ L ∧ n2 ≠ p ∧ n2 ≠ L
theorem Nam.kp {S : Addr → Prop} {H H1 : Hp} {n : Addr} {z : List Str} (h : Nam H n z) (k : Kp S H H1) (hn : ¬ S n) : Nam H1 n z := ⟨k _ _ h.1 (.inl hn), h.2⟩
theorem Lbl.kp {H H1 : Hp} {B p L : Addr} (h : Lbl H B p L) (k : Kp (fun a => a = p ∨ a = L) H H1) : Lbl H1 B p L := by
  obtain ⟨n0, n1, n2, z0, z1, z2, hB, h0, h1, h2, b1, b2, b3, b4, b5, b6, b7, b8⟩ := h
  have no : ∀ {a : Addr}, a ≠ p → a ≠ L → ¬ (a = p ∨ a = L) := fun x y z => z.elim x y
  exact ⟨n0, n1, n2, z0, z1, z2, k _ _ hB (.inl (no b1 b2)), h0.kp k (no b3 b4), h1.kp k (no b5 b6), h2.kp k (no b7 b8), b1, b2, b3, b4, b5, b6, b7, b8⟩
/-- a generator's surroundings -/
structure Gn (H : Hp) (p L B kA : Addr) (n : Nat) (a : Int) : Prop where
  pu : Purse H p n
  lf : Left H p L kA a
  ne : L ≠ p
  lb : Lbl H B p L
section
variable {H H1 : Hp} {p L B kA : Addr} {n m : Nat} {a b : Int}
theorem Gn.mono (h : Gn H p L B kA n a) (hm : n ≤ m) : Gn H p L B kA m a := ⟨h.pu.mono hm, h.lf, h.ne, h.lb⟩
theorem Gn.same (h : Gn H p L B kA n a) (s : Same H H1) : Gn H1 p L B kA n a := by
  obtain ⟨d, i, w, c, l, ks, e⟩ := h.lf
  exact ⟨h.pu.same s, ⟨d, i, w, c, l, ks, e.same s⟩, h.ne, h.lb.kp (.same s)⟩
theorem Gn.draw (h : Gn H p L B kA n a) (b : But p H H1) (q : Purse H1 p m) : Gn H1 p L B kA m a := by
  obtain ⟨d, i, w, c, l, ks, e⟩ := h.lf
  exact ⟨q, ⟨d, i, w, c, l, ks, e.but b h.ne⟩, h.ne, h.lb.kp ((b.kp h.pu).wide fun _ z => .inl z)⟩
theorem Gn.left (h : Gn H p L B kA n a) {d0 i0 w0 c0 l0 : Int} {ks : List Str} (e : LeftAt H p L a d0 i0 w0 c0 l0 kA ks) {a' d i w c l : Int} (hi : 0 ≤ i ∧ i ≤ 20 ∧ 1 ≤ l ∧ l ≤ 5) :
    Gn (upd H L (.lst [.int a', .int d, .int i, .int w, .ref kA, .int c, .int l])) p L B kA n a' ∧ Kp (fun a => a = p ∨ a = L) H (upd H L (.lst [.int a', .int d, .int i, .int w, .ref kA, .int c, .int l])) ∧
    LeftAt (upd H L (.lst [.int a', .int d, .int i, .int w, .ref kA, .int c, .int l])) p L a' d i w c l kA ks := by
  have k : Kp (fun a => a = p ∨ a = L) H (upd H L (.lst [.int a', .int d, .int i, .int w, .ref kA, .int c, .int l])) := Kp.set e.at_ (.inr rfl)
  have la : LeftAt (upd H L (.lst [.int a', .int d, .int i, .int w, .ref kA, .int c, .int l])) p L a' d i w c l kA ks := ⟨upd_same, hi, by rw [upd_ne e.nL]; exact e.kd, e.np, e.nL⟩
  refine ⟨⟨?_, ⟨d, i, w, c, l, ks, la⟩, h.ne, h.lb.kp k⟩, k, la⟩
  obtain ⟨x, y, z, e2, r⟩ := h.pu
  exact ⟨x, y, z, by rw [upd_ne h.ne.symm]; exact e2, r⟩
theorem Gn.kd (h : Gn H p L B kA n a) (b : But p H H1) : Kp (fun a => a = p ∨ a = L) H H1 := (b.kp h.pu).wide fun _ z => .inl z
theorem Gn.free (h : Gn H p L B kA n a) (k : Kp (fun a => a = p ∨ a = L) H H1) (h1 : Gn H1 p L B kA m b) {x : Addr} (hx : H1 x = none) : H x = none := by
  cases e : H x with
  | none => rfl
  | some o =>
    by_cases hp : x = p
    · obtain ⟨o2, e2⟩ := h1.pu.some
      rw [← hp, hx] at e2
      cases e2
    · by_cases hL : x = L
      · obtain ⟨d, i, w, c, l, ks, e2⟩ := h1.lf
        have e3 := e2.at_
        rw [← hL, hx] at e3
        cases e3
      · rw [k x o e (.inl fun z => z.elim hp hL)] at hx
        cases hx
theorem Gn.neP (h : Gn H p L B kA n a) {x : Addr} (hx : H x = none) : x ≠ p ∧ x ≠ L := by
  refine ⟨h.pu.ne hx, fun z => ?_⟩
  obtain ⟨d, i, w, c, l, ks, e2⟩ := h.lf
  have e3 := e2.at_
  rw [← z, hx] at e3
  cases e3
theorem Gn.noS (h : Gn H p L B kA n a) {x : Addr} (hx : H x = none) : ¬ (x = p ∨ x = L) := fun z => z.elim (h.neP hx).1 (h.neP hx).2
theorem Gn.put (h : Gn H p L B kA n a) (k : Kp (fun a => a = p ∨ a = L) H H1) (h1 : Gn H1 p L B kA m b) {x : Addr} {o : HO} (hx : H x = none) : Gn (upd H1 x o) p L B kA m b := by
  obtain ⟨np, nL⟩ := h.neP hx
  refine ⟨?_, ?_, h.ne, h.lb.kp (k.put hx)⟩
  · obtain ⟨y, z, w, e2, r⟩ := h1.pu
    exact ⟨y, z, w, by rw [upd_ne np.symm]; exact e2, r⟩
  · obtain ⟨d, i, w, c, l, ks, e2⟩ := h1.lf
    obtain ⟨d0, i0, w0, c0, l0, ks0, e0⟩ := h.lf
    exact ⟨d, i, w, c, l, ks, by rw [upd_ne nL.symm]; exact e2.at_, e2.b, by rw [upd_ne (ne_of_none e0.kd hx)]; exact e2.kd, e2.np, e2.nL⟩
end
theorem at7_0 {a b c d e f g : V} : atI [a, b, c, d, e, f, g] 0 = some a := atI_nat (j := 0) rfl
theorem at7_1 {a b c d e f g : V} : atI [a, b, c, d, e, f, g] 1 = some b := atI_nat (j := 1) rfl
theorem at7_2 {a b c d e f g : V} : atI [a, b, c, d, e, f, g] 2 = some c := atI_nat (j := 2) rfl
theorem at7_3 {a b c d e f g : V} : atI [a, b, c, d, e, f, g] 3 = some d := atI_nat (j := 3) rfl
theorem at7_4 {a b c d e f g : V} : atI [a, b, c, d, e, f, g] 4 = some e := atI_nat (j := 4) rfl
theorem at7_5 {a b c d e f g : V} : atI [a, b, c, d, e, f, g] 5 = some f := atI_nat (j := 5) rfl
theorem at7_6 {a b c d e f g : V} : atI [a, b, c, d, e, f, g] 6 = some g := atI_nat (j := 6) rfl
def S (s : String) : D := .leaf (.str (Str.ofString s))
theorem flat_texts (ks : List Str) : (ks.map V.str).all flatV = true := by
  rw [List.all_map]
  exact List.all_eq_true.mpr fun _ _ => rfl
/-- a test, and what is known behind it -/
def tCutT (t : TT) : TT := fun σ H Q => ∃ R : Bool → Hp → Prop, t σ H R ∧ ∀ b H', R b H' → Q b H'
theorem pt_cut {X : Cx} {e : Expr} {t : TT} (h : PT X e t) : PT X e (tCutT t) := ⟨fun pins s σ H Q I ⟨R, h1, h2⟩ => thn (h.run pins s σ H R I h1) fun b s1 ⟨H', I', q⟩ => ⟨H', I', h2 b H' q⟩⟩
theorem only_at {xs : List Str} {i : Int} (h0 : 0 ≤ i) (h1 : i < (xs.length : Int)) : ∃ y, y ∈ xs ∧ atI (xs.map V.str) i = some (.str y) := by
  obtain ⟨j, rfl⟩ : ∃ j : Nat, i = (j : Int) := ⟨i.toNat, by omega⟩
  have hj : j < xs.length := by omega
  exact ⟨xs[j], List.getElem_mem hj, atI_nat (by rw [List.getElem?_map, List.getElem?_eq_getElem hj]; rfl)⟩
abbrev wideT : Str := Str.ofString "ABCDEFGHIJKLMNOPQRSTUVWXYZ0123456789 !#$&'()*+,-./:;<=>?\x40[]^_`{|}~\"\\"
theorem wide_ok : wideT.length = 68 ∧ wideT.cps.toList.all (fun c => decide (c < 1114112)) = true := by decide +kernel
def spName : Sp := fun vs H Q _ => ∃ (p L B kA A : Addr) (z : List Str) (n : Nat) (a : Int), vs = [.ref p, .ref A, .ref L] ∧ Gn H p L B kA n a ∧ n + 5 < 10 ^ 60 ∧ Nam H A z ∧ A ≠ p ∧ A ≠ L ∧
  ∀ y H', OkT y → Gn H' p L B kA (n + 5) a → Kp (fun a => a = p ∨ a = L) H H' → Q (.str y) H'
section
variable {P : Program} {w : World} {K : PySem.W.Frag} {mg : Str → Option Value} {base : Heap}
theorem scNm : FnScope ["purse", "names", "left", "name", "wide", "at", "sign", "menu"] ["purse", "names", "left"] (defScope sName) := ⟨rfl, rfl, rfl, by decide +kernel, rfl, by decide +kernel, by decide +kernel⟩
theorem ok_name {f fC : Addr} {fd fdC : FuncData} (F : Fun K "_law_ta_name" "_law_ta_name" sName f fd) (T : Txt K mg) (FC : Fun K "_law_coin" "_law_coin" sCoin fC fdC) (GC : FnOk P w K mg base CX0 1 fC fdC ["purse", "many"] spCoin) (bC : Binds K fdC ["purse", "many"] []) (mC : mg "_law_coin" = some (.ref fC)) :
    FnOk P w K mg base CX0 2 f fd ["purse", "names", "left"] spName := by
  refine F.ok scNm (fun vs H Q E h => ?_) (fun cdv A outer s H vs Q E hr h => ?_)
  · obtain ⟨p, L, B, kA, A, z, n, a, rfl, _⟩ := h
    rfl
  obtain ⟨p, L, B, kA, A, z, n, a, rfl, hG, hn, hA, hAp, hAL, kk⟩ := h
  refine ⟨_, pss_cons (ps_set (i := 3) scNm.nd rfl (Or.inl rfl) (pe_ix ix_list (pv 1) (pe_call GC hr rfl mC FC.kp bC .nil pass0 (pa_cons (pv 0) (pa_cons (pe_callB call_len_seq (by rfl) T.len PySem.boot_len (pa_cons (pv 1) pa_nil)) pa_nil))) (fun _ _ => rfl)))
    (pss_cons (ps_if (pt_cut (PW.pt (pw_or (pt_cmpR op_lt (pe_ix ix_list (pv 2) pe_int (fun _ _ => rfl)) pe_int (nomark _)) (pw_or (pt_cmpR op_notIn_seq pe_str (pe_ix ix_list (pv 2) pe_int (fun _ _ => rfl)) (by rfl)) (pw_or1 (pt_cmpR op_gt (pe_call GC hr rfl mC FC.kp bC .nil pass0 (pa_cons (pv 0) (pa_cons pe_int pa_nil))) pe_int (nomark _))))))) (pss_one (ps_ret (pv 3))) pss_nil)
    (pss_cons (ps_asg (pe_op op_sub (pe_ix ix_list (pv 2) pe_int (fun _ _ => rfl)) pe_int) (pg_sub (pv 2) pe_int set_list))
    (pss_cons (ps_set (i := 4) scNm.nd rfl (Or.inl rfl) pe_str)
    (Evl.pss_cut (ps_par (i := 5) (j := 6) rfl scNm.nd rfl rfl (by decide) rfl rfl (pa_cons (pe_call GC hr rfl mC FC.kp bC .nil pass0 (pa_cons (pv 0) (pa_cons (pe_op op_add (pe_callB call_len (by rfl) T.len PySem.boot_len (pa_cons (pv 3) pa_nil)) pe_int) pa_nil)))
        (pa_cons (pe_ix ix_str (pv 4) (pe_call GC hr rfl mC FC.kp bC .nil pass0 (pa_cons (pv 0) (pa_cons (pe_callB call_len (by rfl) T.len PySem.boot_len (pa_cons (pv 4) pa_nil)) pa_nil))) (fun _ _ => rfl)) pa_nil)) (by rfl))
    (Evl.pss_cut (ps_set (i := 7) scNm.nd rfl (Or.inl rfl) (pe_lst (pa_cons pe_str (pa_cons (pe_op op_add_str (pv 3) pe_str) (pa_cons (pe_op op_add_str (pe_op op_add_str (pe_slice sl_str (pv 3) po_none (po_some (pv 5))) (pv 6)) (pe_slice sl_str (pv 3) (po_some (pv 5)) po_none))
        (pa_cons (pe_upper (pv 3)) (pa_cons (pe_op op_add_str (pv 3) pe_str) (pa_cons (pe_op op_add_str pe_str (pv 3)) (pa_cons pe_str pa_nil)))))))))
    (Evl.pss_cut (ps_set (i := 7) scNm.nd rfl (Or.inl rfl) (pe_op op_cat (pv 7) (pe_lst (pa_cons pe_str (pa_cons (pe_op op_add_str (pe_op op_add_str (pe_slice sl_str (pv 3) po_none (po_some (pv 5))) (pv 6)) (pe_slice sl_str (pv 3) (po_some (pe_op op_add (pv 5) pe_int)) po_none))
        (pa_cons pe_str (pa_cons (pe_op op_add_str (pv 3) (pv 3)) (pa_cons pe_str pa_nil))))))))
    (pss_one (ps_ret (pe_ix ix_list (pv 7) (pe_call GC hr rfl mC FC.kp bC .nil pass0 (pa_cons (pv 0) (pa_cons (pe_callB call_len_seq (by rfl) T.len PySem.boot_len (pa_cons (pv 7) pa_nil)) pa_nil))) (fun _ _ => rfl)))))))))), ?_⟩
  obtain ⟨hz, hz1, hz26, hzn⟩ := hA
  refine ⟨_, rfl, _, rfl, _, rfl, A, _, rfl, .inl (SqL.of hz), p, _, n, rfl, hG.pu, by omega, (by rw [List.length_map]; omega), (by rw [List.length_map]; omega), fun dr H1 d0 d1 hb hp1 => ?_⟩
  rw [List.length_map] at d1
  have hG1 := hG.draw hb hp1
  have hk1 := hG.kd hb
  obtain ⟨y, hy, hat⟩ := only_at (xs := z) d0 d1
  refine ⟨A, _, _, _, rfl, rfl, SqL.of (hb _ _ hAp hz), hat, ?_⟩
  have hyn := hzn y hy
  clear hz hat hb hp1
  -- is anything wrong
  refine ⟨fun b H2 => Gn H2 p L B kA (n + 2) a ∧ Kp (fun a => a = p ∨ a = L) H H2, ?_, ?_⟩
  · obtain ⟨d, i, w0, c, l, ks, hl⟩ := hG1.lf
    refine ⟨_, rfl, L, _, _, _, rfl, rfl, SqL.of hl.at_, at7_3, _, _, rfl, rfl, _, rfl, ?_⟩
    refine ite2 (fun _ => ⟨hG1.mono (by omega), hk1⟩) (fun _ => ?_)
    refine ⟨_, rfl, L, _, _, _, rfl, rfl, SqL.of hl.at_, at7_4, kA, _, rfl, .inl (SqL.of hl.kd), rfl, flat_texts ks, _, rfl, ?_⟩
    refine ite2 (fun _ => ⟨hG1.mono (by omega), hk1⟩) (fun _ => ?_)
    refine ⟨_, rfl, p, 3, n + 1, rfl, hG1.pu, by omega, by decide, by decide, fun d3 H3 d30 d31 hb3 hp3 => ⟨_, _, rfl, rfl, _, rfl, hG1.draw hb3 hp3, hk1.trans (hG1.kd hb3)⟩⟩
  rintro b H2 ⟨hG2, hk2⟩
  clear hG1 hk1
  refine ite2 (fun _ => ⟨_, rfl, kk y H2 ((tx_name hyn).mono (by decide)) (hG2.mono (by omega)) hk2⟩) (fun _ => ?_)
  -- one wrong thing less
  obtain ⟨d, i, w0, c, l, ks, hl⟩ := hG2.lf
  refine ⟨_, rfl, L, _, _, _, rfl, rfl, SqL.of hl.at_, at7_3, _, _, rfl, rfl, _, rfl, L, _, _, 3, rfl, rfl, hl.at_, rfl, ?_⟩
  obtain ⟨hG3, hk3, _⟩ := hG2.left hl (a' := a) (d := d) (i := i) (w := w0 - 1) (c := c) (l := l) hl.b
  show tSeq _ _ _ _ (upd H2 L (.lst [.int a, .int d, .int i, .int (w0 - 1), .ref kA, .int c, .int l]))
  generalize upd H2 L (.lst [.int a, .int d, .int i, .int (w0 - 1), .ref kA, .int c, .int l]) = H3 at hG3 hk3
  replace hk3 := hk2.trans hk3
  clear hl hG2 hk2
  have t8 := tx_name hyn
  have r8 : y.length ≤ sizeLine := tx_room t8 (by decide)
  -- at, sign
  refine ⟨fun σ' H' => Gn H' p L B kA (n + 4) a ∧ Kp (fun a => a = p ∨ a = L) H H' ∧ ∃ (at_ : Nat) (sg : Str), Tx 1 sg ∧ σ' = [some (.ref p), some (.ref A), some (.ref L), some (.str y), some (.str wideT), some (.int (at_ : Int)), some (.str sg), none], ?_, ?_⟩
  · refine ⟨_, rfl, _, rfl, .str y, y.length, rfl, ⟨small100 (Nat.le_trans t8.1 (by decide)), rfl⟩, _, _, rfl, rfl, p, _, n + 2, rfl, hG3.pu, by omega, by omega, by have := t8.1; omega, fun d4 H4 d40 d41 hb4 hp4 => ?_⟩
    have hG4 := hG3.draw hb4 hp4
    have hk4 := hk3.trans (hG3.kd hb4)
    obtain ⟨w1, w2⟩ := wide_ok
    refine ⟨_, rfl, _, rfl, _, rfl, .str wideT, wideT.length, rfl, ⟨small100 (by rw [w1]; decide), rfl⟩, p, _, n + 3, rfl, hp4, by omega, by rw [w1]; decide, by rw [w1]; decide, fun d5 H5 d50 d51 hb5 hp5 => ?_⟩
    obtain ⟨j, rfl⟩ : ∃ j : Nat, d5 = (j : Int) := ⟨d5.toNat, by omega⟩
    have hj : j < wideT.cps.toList.length := by
      have e : wideT.cps.toList.length = 68 := w1
      rw [w1] at d51
      omega
    refine ⟨_, (j : Int), wideT.cps.toList[j], rfl, rfl, small100 (by rw [w1]; decide), atI_nat (List.getElem?_eq_getElem hj), _, _, rfl, hG4.draw hb5 hp5, hk4.trans (hG4.kd hb5), d4.toNat, _, tx_one (of_decide_eq_true (List.all_eq_true.mp w2 _ (List.getElem_mem hj))), ?_⟩
    rw [show ((d4.toNat : Nat) : Int) = d4 by omega]
    rfl
  clear hG3 hk3
  rintro _ H3 ⟨hG3, hk3, at_, sg, hsg, rfl⟩
  have rm : ∀ {m n : Nat} {x y : Str}, Tx m x → Tx n y → m + n ≤ 1000 → x.length + y.length ≤ sizeLine := fun hx hy h => Nat.le_trans (Nat.add_le_add hx.1 hy.1) (Nat.le_trans h (by decide))
  have c1 := tx_cut t8 none (some (at_ : Int))
  have c2 := tx_cut t8 (some (at_ : Int)) none
  have c3 := tx_cut t8 (some ((at_ : Int) + 1)) none
  have ok : ∀ {m : Nat} {x : Str}, Tx m x → m ≤ 100 → OkT x := fun h hm => h.mono hm
  have t9 : Tx 8 (Str.ofString "abcdefgh") := tx_of (by decide +kernel)
  have tb : Tx 1 (Str.ofString " ") := tx_of (by decide +kernel)
  -- the menu
  refine ⟨fun σ' H' => Same H3 H' ∧ ∃ (l : Addr) (ys : List Str), H' l = some (.lst (ys.map V.str)) ∧ ys.length = 7 ∧ (∀ x ∈ ys, OkT x) ∧ σ' = [some (.ref p), some (.ref A), some (.ref L), some (.str y), some (.str wideT), some (.int (at_ : Int)), some (.str sg), some (.ref l)], ?_, ?_⟩
  · refine ⟨_, rfl, _, _, rfl, rfl, rm t8 t9 (by decide), _, rfl, _, rfl, _, rfl, y, rfl, r8, _, rfl, _, _, rfl, rfl, rm c1 hsg (by decide), _, rfl, _, rfl, _, rfl, y, rfl, r8, _, _, rfl, rfl, rm (tx_app c1 hsg) c2 (by decide), ?_⟩
    refine ⟨_, rfl, ⟨_, rfl⟩, y, rfl, rfl, Nat.le_trans t8.1 (by decide), _, rfl, _, _, rfl, rfl, rm t8 tb (by decide), _, rfl, _, _, rfl, rfl, rm tb t8 (by decide), by show 7 ≤ sizeLine; decide, fun q hq => ?_⟩
    refine ⟨same_new hq _, q, [Str.ofString "", y ++ Str.ofString "abcdefgh", cutS y none (some (at_ : Int)) ++ sg ++ cutS y (some (at_ : Int)) none, Txt.upper y, y ++ Str.ofString " ", Str.ofString " " ++ y, Str.ofString "abcdefghi"], upd_same, rfl, fun x hx => ?_, rfl⟩
    simp only [List.mem_cons, List.not_mem_nil, or_false] at hx
    rcases hx with rfl | rfl | rfl | rfl | rfl | rfl | rfl
    · exact tx_of (by decide +kernel)
    · exact ok (tx_app t8 t9) (by decide)
    · exact ok (tx_app (tx_app c1 hsg) c2) (by decide)
    · exact ok (tx_upper hyn) (by decide)
    · exact ok (tx_app t8 tb) (by decide)
    · exact ok (tx_app tb t8) (by decide)
    · exact tx_of (by decide +kernel)
  rintro _ H4 ⟨hs4, l1, ys1, hl1, hn1, ho1, rfl⟩
  refine ⟨fun σ' H' => Same H3 H' ∧ ∃ (l : Addr) (ys : List Str), H' l = some (.lst (ys.map V.str)) ∧ ys.length = 12 ∧ (∀ x ∈ ys, OkT x) ∧ H3 l = none ∧ σ' = [some (.ref p), some (.ref A), some (.ref L), some (.str y), some (.str wideT), some (.int (at_ : Int)), some (.str sg), some (.ref l)], ?_, ?_⟩
  · refine ⟨_, rfl, _, rfl, _, rfl, _, rfl, y, rfl, r8, _, rfl, _, _, rfl, rfl, rm c1 hsg (by decide), _, rfl, _, rfl, _, _, rfl, rfl, _, rfl, y, rfl, r8, _, _, rfl, rfl, rm (tx_app c1 hsg) c3 (by decide), ?_⟩
    refine ⟨_, rfl, _, rfl, _, _, rfl, rfl, rm t8 t8 (by decide), by show 5 ≤ sizeLine; decide, fun q hq => ?_⟩
    have sq := same_new hq (.lst [V.str (Str.ofString "abcdefgh"), V.str (cutS y none (some (at_ : Int)) ++ sg ++ cutS y (some ((at_ : Int) + 1)) none), V.str (Str.ofString "None"), V.str (y ++ y), V.str (Str.ofString " ")])
    refine ⟨l1, q, _, _, rfl, rfl, sq _ _ hl1, upd_same, ?_, fun q2 hq2 => ?_⟩
    · rw [List.length_map, hn1]
      show 7 + 5 ≤ sizeLine
      decide
    refine ⟨(hs4.trans sq).trans (same_new hq2 _), q2, ys1 ++ [Str.ofString "abcdefgh", cutS y none (some (at_ : Int)) ++ sg ++ cutS y (some ((at_ : Int) + 1)) none, Str.ofString "None", y ++ y, Str.ofString " "], ?_, by rw [List.length_append, hn1]; rfl, fun x hx => ?_, (hs4.trans sq).free hq2, rfl⟩
    · rw [upd_same, List.map_append]
      rfl
    · rcases List.mem_append.mp hx with hx | hx
      · exact ho1 x hx
      simp only [List.mem_cons, List.not_mem_nil, or_false] at hx
      rcases hx with rfl | rfl | rfl | rfl | rfl
      · exact ok t9 (by decide)
      · exact ok (tx_app (tx_app c1 hsg) c3) (by decide)
      · exact tx_of (by decide +kernel)
      · exact ok (tx_app t8 t8) (by decide)
      · exact ok tb (by decide)
  rintro _ H5 ⟨hs5, l2, ys2, hl2, hn2, ho2, hl20, rfl⟩
  have hG5 := hG3.same hs5
  refine ⟨_, rfl, _, rfl, _, rfl, l2, _, rfl, .inl (SqL.of hl2), p, _, n + 4, rfl, hG5.pu, by omega, by rw [List.length_map, hn2]; decide, by rw [List.length_map, hn2]; decide, fun d6 H6 d60 d61 hb6 hp6 => ?_⟩
  rw [List.length_map] at d61
  obtain ⟨x, hx, hat⟩ := only_at (xs := ys2) d60 d61
  have nl : l2 ≠ p := (hG3.neP hl20).1
  exact ⟨l2, _, _, _, rfl, rfl, SqL.of (hb6 _ _ nl hl2), hat, kk x H6 (ho2 x hx) (hG5.draw hb6 hp6) ((hk3.trans (.same hs5)).trans (hG5.kd hb6))⟩
end
end K03
set_option Elab.async false
set_option linter.all false
set_option maxRecDepth 100000
set_option maxHeartbeats 4000000
namespace K03
open PySem L2 PyProof.Rows
def bT0 : List D := [.tup [], .tup [S "reads", S "a"], .tup [S "read"], .tup [S "read", S "a", S "b"], .tup [S "number", .leaf (.int 3), .leaf (.int 4)], .tup [S "number"], .tup [S "call", S "f"]]
def bT1 : List D := [.tup [S "call", S "f", .lst [], .lst []], .tup [S "name", S "a"], .tup [S "", S "a"], .tup [S "any"], .tup [S "call"], .tup [S "Read", S "a"]]
def badT : List D := bT0 ++ bT1
/-- a term of at most so many levels, or what is none -/
def TmW : Nat → D → Prop
  | 0, _ => False
  | n + 1, d => d ∈ badT ∨ (∃ i, d = .tup [S "number", .leaf (.int i)]) ∨ (∃ z, OkT z ∧ d = .tup [S "read", .leaf (.str z)]) ∨ ∃ z ts, OkT z ∧ d = .tup [S "call", .leaf (.str z), .lst ts] ∧ ts.length ≤ 3 ∧ ∀ t ∈ ts, TmW n t
theorem TmW.succ : ∀ {n : Nat} {d : D}, TmW n d → TmW (n + 1) d
  | 0, _, h => h.elim
  | n + 1, d, h => by
    rcases h with h | h | h | ⟨z, ts, hz, e, hl, ht⟩
    · exact .inl h
    · exact .inr (.inl h)
    · exact .inr (.inr (.inl h))
    · exact .inr (.inr (.inr ⟨z, ts, hz, e, hl, fun t m => (ht t m).succ⟩))
theorem TmW.le {n m : Nat} {d : D} (h : TmW n d) (hm : n ≤ m) : TmW m d := by
  induction hm with
  | refl => exact h
  | step _ ih => exact ih.succ
def cT : Nat → Nat
  | 0 => 0
  | k + 1 => 16 + 3 * cT k
/-- a new datum behind a drawing -/
def New (H : Hp) (p L B kA : Addr) (n : Nat) (a : Int) (ok : D → Prop) (u : V) (H' : Hp) : Prop := ∃ d G, Gn H' p L B kA n a ∧ Kp (fun a => a = p ∨ a = L) H H' ∧ Rep H' d u G ∧ (∀ x ∈ G, H x = none) ∧ ok d
def spTerm (k : Nat) : Sp := fun vs H Q _ => ∃ (p B L kA : Addr) (n m : Nat) (a : Int), vs = [.ref p, .ref B, .ref L, .int (m : Int)] ∧ 1 ≤ m ∧ m ≤ 5 ∧ m + 2 ≤ k ∧ Gn H p L B kA n a ∧ n + cT m < 10 ^ 60 ∧
  ∀ u H', New H p L B kA (n + cT m) a (TmW m) u H' → Q u H'
section
variable {P : Program} {w : World} {K : PySem.W.Frag} {mg : Str → Option Value} {base : Heap}
theorem scTm : FnScope ["purse", "labels", "left", "deep", "menu", "way", "name", "terms", "turn"] ["purse", "labels", "left", "deep"] (defScope sTerm) := ⟨rfl, rfl, rfl, by decide +kernel, rfl, by decide +kernel, by decide +kernel⟩
theorem term_none {f : Addr} {fd : FuncData} {ps : List Str} : FnOk P w K mg base CX0 0 f fd ps (spTerm 0) := none_of fun vs H Q E h => by
  obtain ⟨p, B, L, kA, n, m, a, _, _, _, h1, _⟩ := h
  omega
theorem ok_term {f fC fN : Addr} {fd fdC fdN : FuncData} {k : Nat} (F : Fun K "_law_ta_term" "_law_ta_term" sTerm f fd) (T : Txt K mg)
    (FC : Fun K "_law_coin" "_law_coin" sCoin fC fdC) (GC : FnOk P w K mg base CX0 1 fC fdC ["purse", "many"] spCoin) (bC : Binds K fdC ["purse", "many"] []) (mC : mg "_law_coin" = some (.ref fC))
    (FN : Fun K "_law_ta_name" "_law_ta_name" sName fN fdN) (GN : FnOk P w K mg base CX0 2 fN fdN ["purse", "names", "left"] spName) (bN : Binds K fdN ["purse", "names", "left"] []) (mN : mg "_law_ta_name" = some (.ref fN))
    (G : FnOk P w K mg base CX0 k f fd ["purse", "labels", "left", "deep"] (spTerm k)) (b : Binds K fd ["purse", "labels", "left", "deep"] []) (m : mg "_law_ta_term" = some (.ref f)) :
    FnOk P w K mg base CX0 (k + 1) f fd ["purse", "labels", "left", "deep"] (spTerm (k + 1)) := by
  refine F.ok scTm (fun vs H Q E h => ?_) (fun cdv A outer s H vs Q E hr h => ?_)
  · obtain ⟨p, B, L, kA, n, m, a, rfl, _⟩ := h
    rfl
  obtain ⟨p, B, L, kA, n, mm, a, rfl, hm1, hm5, hmk, hG, hn, kk⟩ := h
  have hr1 : Room 1 (A.deeper (envOfC "_law_ta_term" (defScope sTerm) s.heap.objs.size f cdv)) := hr.mono (by omega)
  have hr2 : Room 2 (A.deeper (envOfC "_law_ta_term" (defScope sTerm) s.heap.objs.size f cdv)) := hr.mono (by omega)
  refine ⟨_, pss_cons (ps_if (pt_cut (PW.pt (pw_and (pt_cmpR op_gt (pe_ix ix_list (pv 2) pe_int (fun _ _ => rfl)) pe_int (nomark _)) (pw_and (pt_cmpR op_in_seq pe_str (pe_ix ix_list (pv 2) pe_int (fun _ _ => rfl)) (by rfl)) (pw_and1 (pt_cmpR op_eq (pe_call GC hr1 rfl mC FC.kp bC .nil pass0 (pa_cons (pv 0) (pa_cons pe_int pa_nil))) pe_int (nomark _)))))))
      (pss_cons (ps_asg (pe_op op_sub (pe_ix ix_list (pv 2) pe_int (fun _ _ => rfl)) pe_int) (pg_sub (pv 2) pe_int set_list))
      (pss_cons (ps_set (i := 4) scTm.nd rfl (Or.inl rfl) (pl_lst (ds := bT0) (pl_cons (pl_tup pl_nil) (pl_cons (pl_tup (pl_cons pl_str (pl_cons pl_str pl_nil))) (pl_cons (pl_tup (pl_cons pl_str pl_nil)) (pl_cons (pl_tup (pl_cons pl_str (pl_cons pl_str (pl_cons pl_str pl_nil))))
          (pl_cons (pl_tup (pl_cons pl_str (pl_cons pl_int (pl_cons pl_int pl_nil)))) (pl_cons (pl_tup (pl_cons pl_str pl_nil)) (pl_cons (pl_tup (pl_cons pl_str (pl_cons pl_str pl_nil))) pl_nil)))))))))
      (pss_cons (ps_set (i := 4) scTm.nd rfl (Or.inl rfl) (pe_op op_cat (pv 4) (pl_lst (ds := bT1) (pl_cons (pl_tup (pl_cons pl_str (pl_cons pl_str (pl_cons (pl_lst pl_nil) (pl_cons (pl_lst pl_nil) pl_nil))))) (pl_cons (pl_tup (pl_cons pl_str (pl_cons pl_str pl_nil))) (pl_cons (pl_tup (pl_cons pl_str (pl_cons pl_str pl_nil)))
          (pl_cons (pl_tup (pl_cons pl_str pl_nil)) (pl_cons (pl_tup (pl_cons pl_str pl_nil)) (pl_cons (pl_tup (pl_cons pl_str (pl_cons pl_str pl_nil))) pl_nil)))))))))
      (pss_one (ps_ret (pe_ix ix_list (pv 4) (pe_call GC hr1 rfl mC FC.kp bC .nil pass0 (pa_cons (pv 0) (pa_cons (pe_callB call_len_seq (by rfl) T.len PySem.boot_len (pa_cons (pv 4) pa_nil)) pa_nil))) (fun _ _ => rfl))))))) pss_nil)
    (pss_cons (ps_set (i := 5) scTm.nd rfl (Or.inl rfl) (pe_call GC hr1 rfl mC FC.kp bC .nil pass0 (pa_cons (pv 0) (pa_cons pe_int pa_nil))))
    (pss_cons (ps_if (pt_cmpR op_eq (pv 5) pe_int (nomark _)) (pss_one (ps_ret (pe_tup (pa_cons pe_str (pa_cons (pe_ix ix_list (pe_lst (pa_cons (pe_op op_sub (pe_call GC hr1 rfl mC FC.kp bC .nil pass0 (pa_cons (pv 0) (pa_cons pe_int pa_nil))) pe_int) (pa_cons (pe_op op_sub (pe_call GC hr1 rfl mC FC.kp bC .nil pass0 (pa_cons (pv 0) (pa_cons pe_int pa_nil))) pe_int) pa_nil)))
        (pe_call GC hr1 rfl mC FC.kp bC .nil pass0 (pa_cons (pv 0) (pa_cons pe_int pa_nil))) (fun _ _ => rfl)) pa_nil))))) pss_nil)
    (pss_cons (ps_if (PW.pt (pw_or (pt_cmpR op_lt (pv 5) pe_int (nomark _)) (pw_or1 (pt_cmpR op_lt (pe_ix ix_list (pv 2) pe_int (fun _ _ => rfl)) pe_int (nomark _)))))
      (pss_one (ps_ret (pe_tup (pa_cons pe_str (pa_cons (pe_call GN hr2 rfl mN FN.kp bN .nil pass0 (pa_cons (pv 0) (pa_cons (pe_ix ix_list (pv 1) pe_int (fun _ _ => rfl)) (pa_cons (pv 2) pa_nil)))) pa_nil))))) pss_nil)
    (pss_cons (ps_asg (pe_op op_sub (pe_ix ix_list (pv 2) pe_int (fun _ _ => rfl)) pe_int) (pg_sub (pv 2) pe_int set_list))
    (Evl.pss_cut (ps_par (i := 6) (j := 7) rfl scTm.nd rfl rfl (by decide) rfl rfl (pa_cons (pe_call GN hr2 rfl mN FN.kp bN .nil pass0 (pa_cons (pv 0) (pa_cons (pe_ix ix_list (pv 1) pe_int (fun _ _ => rfl)) (pa_cons (pv 2) pa_nil)))) (pa_cons (pe_lst pa_nil) pa_nil)) (by rfl))
    (Evl.pss_cut (ps_for PassesOwn.never rfl (pi_range1 rfl T.range (pa_cons (pe_call GC hr1 rfl mC FC.kp bC .nil pass0 (pa_cons (pv 0) (pa_cons pe_int pa_nil))) pa_nil)) (pg_name (i := 8) scTm.nd rfl (Or.inl rfl))
      (pss_one (ps_if (pt_cmpR op_gt (pv 3) pe_int (nomark _)) (pss_one (ps_expr (pe_bm PySem.F.plainAttrs_list PySem.F.slot_list_append PySem.F.type_list_append mt_append (pv 7)
        (pa_cons (pe_call G hr rfl m F.kp b .nil pass0 (pa_cons (pv 0) (pa_cons (pv 1) (pa_cons (pv 2) (pa_cons (pe_op op_sub (pv 3) pe_int) pa_nil))))) pa_nil)))) pss_nil)))
    (pss_one (ps_ret (pe_tup (pa_cons pe_str (pa_cons (pv 6) (pa_cons (pv 7) pa_nil)))))))))))), ?_⟩
  obtain ⟨mm, rfl⟩ : ∃ k', mm = k' + 1 := ⟨mm - 1, by omega⟩
  have hcT : cT (mm + 1) = 16 + 3 * cT mm := rfl
  -- is it to be wrong
  refine ⟨fun b H2 => Gn H2 p L B kA (n + 1) a ∧ Kp (fun a => a = p ∨ a = L) H H2, ?_, ?_⟩
  · obtain ⟨d, i, w0, c, l, ks, hl⟩ := hG.lf
    refine ⟨_, rfl, L, _, _, _, rfl, rfl, SqL.of hl.at_, at7_3, _, _, rfl, rfl, _, rfl, ?_⟩
    refine ite2 (fun _ => ?_) (fun _ => ⟨hG.mono (by omega), .same (Same.refl H)⟩)
    refine ⟨_, rfl, L, _, _, _, rfl, rfl, SqL.of hl.at_, at7_4, kA, _, rfl, .inl (SqL.of hl.kd), rfl, flat_texts ks, _, rfl, ?_⟩
    refine ite2 (fun _ => ?_) (fun _ => ⟨hG.mono (by omega), .same (Same.refl H)⟩)
    exact ⟨_, rfl, p, 4, n, rfl, hG.pu, by omega, by decide, by decide, fun d3 H3 d30 d31 hb3 hp3 => ⟨rfl, _, rfl, hG.draw hb3 hp3, hG.kd hb3⟩⟩
  rintro b H0 ⟨hG0, hk0⟩
  refine ite2 (fun _ => ?_) (fun _ => ?_)
  · obtain ⟨d, i, w0, c, l, ks, hl⟩ := hG0.lf
    refine ⟨_, rfl, L, _, _, _, rfl, rfl, SqL.of hl.at_, at7_3, _, _, rfl, rfl, _, rfl, L, _, _, 3, rfl, rfl, hl.at_, rfl, ?_⟩
    obtain ⟨hG3, hk3, _⟩ := hG0.left hl (a' := a) (d := d) (i := i) (w := w0 - 1) (c := c) (l := l) hl.b
    show tSeq _ _ _ _ (upd H0 L (.lst [.int a, .int d, .int i, .int (w0 - 1), .ref kA, .int c, .int l]))
    generalize upd H0 L (.lst [.int a, .int d, .int i, .int (w0 - 1), .ref kA, .int c, .int l]) = H3 at hG3 hk3
    replace hk3 := hk0.trans hk3
    refine fun u4 H4 F4 s4 r4 n4 => ?_
    refine ⟨_, rfl, fun u5 H5 F5 s5 r5 n5 => ?_⟩
    obtain ⟨l1, b1, xs, zs, rfl, rfl, h1, h2, e1, e2, cat⟩ := rep_cat r4 n4 s4 s5 r5 n5
    refine ⟨l1, b1, xs, zs, rfl, rfl, h1, h2, by rw [e1, e2]; show 7 + 6 ≤ sizeLine; decide, fun q hq => ?_⟩
    obtain ⟨F6, r6, s6, n6⟩ := cat q hq
    obtain ⟨l7, xs7, el7, hl7, en7, ml7, pick⟩ := rep_pick r6
    cases el7
    have hG6 := hG3.same s6
    refine ⟨_, rfl, _, rfl, _, rfl, q, _, rfl, .inl (SqL.of hl7), p, _, n + 1, rfl, hG6.pu, by omega, by rw [en7]; decide, by rw [en7]; decide, fun d8 H8 d80 d81 hb8 hp8 => ?_⟩
    rw [en7] at d81
    obtain ⟨x, dd, G8, hat, hdd, r8, m8⟩ := pick d8 d80 d81
    have n8 : ∀ y ∈ G8, H3 y = none := fun y hy => n6 y (m8 y hy)
    have nq : q ≠ p := (hG3.neP (n6 q ml7)).1
    refine ⟨q, _, _, _, rfl, rfl, SqL.of (hb8 _ _ nq hl7), hat, kk x H8 ⟨dd, G8, (hG6.draw hb8 hp8).mono (by omega), (hk3.trans (.same s6)).trans (hG6.kd hb8), r8.kp (hb8.kp hG6.pu) fun y hy z => (hG3.neP (n8 y hy)).1 z, fun y hy => hG.free hk3 hG3 (n8 y hy), .inl hdd⟩⟩
  -- the way
  refine ⟨_, rfl, p, 5, n + 1, rfl, hG0.pu, by omega, by decide, by decide, fun wy H1 w0 w1 hb1 hp1 => ?_⟩
  have hG1 : Gn H1 p L B kA (n + 2) a := hG0.draw hb1 hp1
  have hk1 := hk0.trans (hG0.kd hb1)
  refine ⟨_, rfl, rfl, _, rfl, ?_⟩
  refine ite2 (fun _ => ?_) (fun _ => ?_)
  · -- a number
    refine ⟨_, rfl, p, 9, n + 2, rfl, hG1.pu, by omega, by decide, by decide, fun d1 H2 d10 d11 hb2 hp2 => ⟨_, _, rfl, rfl, _, rfl, p, 1999, n + 3, rfl, hp2, by omega, by decide, by decide, fun d2 H3 d20 d21 hb3 hp3 => ⟨_, _, rfl, rfl, by show 2 ≤ sizeLine; decide, fun q hq => ?_⟩⟩⟩
    have hG3 : Gn H3 p L B kA (n + 4) a := (hG1.draw hb2 hp2).draw hb3 hp3
    have hk3 := (hk1.trans (hG1.kd hb2)).trans ((hG1.draw hb2 hp2).kd hb3)
    have sq := same_new hq (.lst [.int (d1 - 4), .int (d2 - 999)])
    have hqp := (hG3.neP hq).1
    refine ⟨_, rfl, p, 2, n + 4, rfl, (hG3.same sq).pu, by omega, by decide, by decide, fun d3 H4 d30 d31 hb4 hp4 => ?_⟩
    obtain ⟨t, ht⟩ : ∃ t : Int, atI [V.int (d1 - 4), V.int (d2 - 999)] d3 = some (.int t) := by
      have e : d3 = ((0 : Nat) : Int) ∨ d3 = ((1 : Nat) : Int) := by omega
      rcases e with e | e
      · exact ⟨_, at_ofN e rfl⟩
      · exact ⟨_, at_ofN e rfl⟩
    refine ⟨q, _, _, _, rfl, rfl, SqL.of (hb4 q _ hqp upd_same), ht, by show 2 ≤ sizeLine; decide, fun tp htp => ?_⟩
    have hG4 := (hG3.same sq).draw hb4 hp4
    have hk4 := (hk3.trans (.same sq)).trans ((hG3.same sq).kd hb4)
    have st := same_new htp (.tup [.str (Str.ofString "number"), .int t])
    refine kk _ _ ⟨_, [], (hG4.same st).mono (by omega), hk4.trans (.same st), rep_tup upd_same (reps_leaf leaf_str (reps_leaf leaf_int reps_nil)), (fun _ z => nomatch z), .inr (.inl ⟨t, rfl⟩)⟩
  obtain ⟨d1, i1, w1', c1, l1, ks1, hL1⟩ := hG1.lf
  obtain ⟨n0, n1, n2, z0, z1, z2, hB, h0, h1, h2, b1, b2, b3, b4, b5, b6, b7, b8⟩ := hG1.lb
  -- a name that is read
  have rd : ∀ (Q2 : V → Hp → Prop), (∀ u H', New H p L B kA (n + cT (mm + 1)) a (TmW (mm + 1)) u H' → Q2 u H') → (tTup (tCons (tC (.str (Str.ofString "read"))) (tCons (tCall spName [] E0 (tCons (tVar 0) (tCons (tOp (rIxL K) (tVar 1) (tC (.int 0))) (tCons (tVar 2) tNil)))) tNil))) [some (.ref p), some (.ref B), some (.ref L), some (.int ((mm + 1 : Nat) : Int)), none, some (.int wy), none, none, none] H1 Q2 := fun Q2 q => by
    refine ⟨_, rfl, _, rfl, B, _, _, _, rfl, rfl, SqL.of hB, at3_0, _, rfl, p, L, B, kA, n0, z0, n + 2, a, rfl, hG1, by omega, h0, b3, b4, fun y H2 hy hG2 hk2 => ⟨by show 2 ≤ sizeLine; decide, fun tp htp => ?_⟩⟩
    have st := same_new htp (.tup [.str (Str.ofString "read"), .str y])
    exact q _ _ ⟨_, [], (hG2.same st).mono (by omega), (hk1.trans hk2).trans (.same st), rep_tup upd_same (reps_leaf leaf_str (reps_leaf leaf_str reps_nil)), (fun _ z => nomatch z), .inr (.inr (.inl ⟨y, hy, rfl⟩))⟩
  refine ⟨_, rfl, _, _, rfl, rfl, _, rfl, ?_⟩
  refine ite2 (fun _ => iteT (rd _ kk)) (fun _ => ?_)
  refine ⟨_, rfl, L, _, _, _, rfl, rfl, SqL.of hL1.at_, at7_5, _, _, rfl, rfl, _, rfl, ?_⟩
  refine ite2 (fun _ => rd _ kk) (fun _ => ?_)
  clear rd
  -- one call less
  refine ⟨_, rfl, L, _, _, _, rfl, rfl, SqL.of hL1.at_, at7_5, _, _, rfl, rfl, _, rfl, L, _, _, 5, rfl, rfl, hL1.at_, rfl, ?_⟩
  obtain ⟨hG2, hk2, _⟩ := hG1.left hL1 (a' := a) (d := d1) (i := i1) (w := w1') (c := c1 - 1) (l := l1) hL1.b
  show Evl.tCut _ _ _ _ (upd H1 L (.lst [.int a, .int d1, .int i1, .int w1', .ref kA, .int (c1 - 1), .int l1]))
  generalize upd H1 L (.lst [.int a, .int d1, .int i1, .int w1', .ref kA, .int (c1 - 1), .int l1]) = H2 at hG2 hk2
  replace hk2 := hk1.trans hk2
  -- the function's name, no terms
  refine ⟨fun σ' H' => Gn H' p L B kA (n + 7) a ∧ Kp (fun a => a = p ∨ a = L) H H' ∧ ∃ (y : Str) (l : Addr), OkT y ∧ H l = none ∧ H' l = some (.lst []) ∧ σ' = [some (.ref p), some (.ref B), some (.ref L), some (.int ((mm + 1 : Nat) : Int)), none, some (.int wy), some (.str y), some (.ref l), none], ?_, ?_⟩
  · clear hB h0 h1 h2 b1 b2 b3 b4 b5 b6 b7 b8
    obtain ⟨n0, n1, n2, z0, z1, z2, hB, h0, h1, h2, b1, b2, b3, b4, b5, b6, b7, b8⟩ := hG2.lb
    refine ⟨_, rfl, _, rfl, B, _, _, _, rfl, rfl, SqL.of hB, at3_1, _, rfl, p, L, B, kA, n1, z1, n + 2, a, rfl, hG2, by omega, h1, b5, b6, fun y H3 hy hG3 hk3' => ⟨by show 0 ≤ sizeLine; decide, fun l hl => ?_⟩⟩
    have hk3 := hk2.trans hk3'
    have st := same_new hl (.lst [])
    refine ⟨_, _, rfl, hG3.same st, hk3.trans (.same st), y, l, hy, hG.free hk3 hG3 hl, upd_same, rfl⟩
  clear hG2 hk2 hG1 hk1 hL1
  rintro _ H2 ⟨hG2, hk2, y, l, hy, hl0, hl2, rfl⟩
  -- the terms
  refine ⟨fun σ' H' => Gn H' p L B kA (n + 8 + 3 * cT mm) a ∧ Kp (fun a => a = p ∨ a = L) H H' ∧ ∃ (ts : List D) (ys : List V) (G0 : List Addr) (v8 : Option V), H' l = some (.lst ys) ∧ Reps H' ts ys G0 ∧ (∀ x ∈ G0, H x = none ∧ x ≠ l) ∧ ts.length ≤ 3 ∧ (∀ t ∈ ts, TmW mm t) ∧ σ' = [some (.ref p), some (.ref B), some (.ref L), some (.int ((mm + 1 : Nat) : Int)), none, some (.int wy), some (.str y), some (.ref l), v8], ?_, ?_⟩
  · refine ⟨_, rfl, p, 4, n + 7, rfl, hG2.pu, by omega, by decide, by decide, fun dr H3 d0 d1 hb3 hp3 => ?_⟩
    have hG3 := hG2.draw hb3 hp3
    have hk3 := hk2.trans (hG2.kd hb3)
    refine ⟨dr, rfl, by omega, by omega, ?_⟩
    refine for_range (lo := 0) (fun i σ' H' => Gn H' p L B kA (n + 8 + i * cT mm) a ∧ Kp (fun a => a = p ∨ a = L) H H' ∧ ∃ (ts : List D) (ys : List V) (G0 : List Addr) (v8 : Option V), H' l = some (.lst ys) ∧ Reps H' ts ys G0 ∧ (∀ x ∈ G0, H x = none ∧ x ≠ l) ∧ ts.length ≤ i ∧ (∀ t ∈ ts, TmW mm t) ∧ σ' = [some (.ref p), some (.ref B), some (.ref L), some (.int ((mm + 1 : Nat) : Int)), none, some (.int wy), some (.str y), some (.ref l), v8])
      ⟨by rw [Nat.zero_mul]; exact hG3, hk3, [], [], [], none, hb3 _ _ (hG.neP hl0).1 hl2, reps_nil, (fun _ z => nomatch z), Nat.le_refl _, (fun _ z => nomatch z), rfl⟩ ?_ ?_
    · rintro i σ' H5 hi ⟨hG5, hk5, ts, ys, G0, v8, hl5, hr5, hf5, hlen, hts, rfl⟩
      have hi3 : i + 1 ≤ 3 := by omega
      have hcost : (i + 1) * cT mm ≤ 3 * cT mm := Nat.mul_le_mul_right _ hi3
      have hsm : (i + 1) * cT mm = i * cT mm + cT mm := Nat.succ_mul _ _
      refine ⟨_, rfl, _, _, rfl, rfl, _, rfl, ?_⟩
      refine ite2 (fun c => ?_) (fun _ => ⟨hG5.mono (by omega), hk5, ts, ys, G0, _, hl5, hr5, hf5, by omega, hts, rfl⟩)
      have c' : (((mm + 1 : Nat) : Int)) > 1 := of_decide_eq_true c
      refine ⟨_, rfl, .inl ⟨rfl, _, SqL.of hl5⟩, _, rfl, _, rfl, _, rfl, _, rfl, _, _, rfl, rfl, p, B, L, kA, n + 8 + i * cT mm, mm, a, ?_, by omega, by omega, by omega, hG5, by omega, ?_⟩
      · show [V.ref p, V.ref B, V.ref L, V.int (((mm + 1 : Nat) : Int) - 1)] = _
        rw [show (((mm + 1 : Nat) : Int) - 1) = (mm : Int) by omega]
      rintro u H6 ⟨d, G6, hG6, hk6, hr6, hf6, ht6⟩
      have hl6 : H6 l = some (.lst ys) := hk6 _ _ hl5 (.inl (hG.noS hl0))
      have hyl : ys.length = ts.length := hr5.len
      have kp7 : Kp (fun a => a = l) H6 (upd H6 l (.lst (ys ++ [u]))) := Kp.set hl6 rfl
      have n6 : ∀ x ∈ G6, x ≠ l := fun x hx z => by
        have e := hf6 x hx
        rw [z, hl5] at e
        cases e
      refine ⟨l, _, _, rfl, rfl, hl6, Nat.lt_of_le_of_lt (show ys.length ≤ 1000 by omega) (by decide), ?_, (hk5.trans hk6).put hl0, ts ++ [d], ys ++ [u], G0 ++ G6, _, upd_same, Reps.snoc ((hr5.kp hk6 fun x hx => hG.noS (hf5 x hx).1).kp kp7 fun x hx => (hf5 x hx).2) (hr6.kp kp7 n6) (fun x hx z => ?_), fun x hx => ?_, ?_, fun t ht => ?_, rfl⟩
      · exact (hG.put (hk5.trans hk6) hG6 hl0).mono (by omega)
      · obtain ⟨zs, e⟩ := hr5.at_ x hx
        rw [hf6 x z] at e
        cases e
      · rcases List.mem_append.mp hx with z | z
        · exact hf5 x z
        · exact ⟨hG.free hk5 hG5 (hf6 x z), n6 x z⟩
      · rw [List.length_append]
        show ts.length + 1 ≤ i + 1
        omega
      · rcases List.mem_append.mp ht with z | z
        · exact hts t z
        · rw [List.mem_singleton.mp z]
          exact ht6
    · rintro σ' H5 ⟨hG5, hk5, ts, ys, G0, v8, hl5, hr5, hf5, hlen, hts, rfl⟩
      have hi3 : dr.toNat ≤ 3 := by omega
      have hcost : dr.toNat * cT mm ≤ 3 * cT mm := Nat.mul_le_mul_right _ hi3
      exact ⟨hG5.mono (by omega), hk5, ts, ys, G0, v8, hl5, hr5, hf5, by omega, hts, rfl⟩
  clear hG2 hk2 hl2
  rintro _ H2 ⟨hG2, hk2, ts, ys, G0, v8, hl2, hr2, hf2, hlen, hts, rfl⟩
  refine ⟨_, rfl, _, rfl, by show 3 ≤ sizeLine; decide, fun tp htp => ?_⟩
  have st := same_new htp (.tup [.str (Str.ofString "call"), .str y, .ref l])
  refine kk _ _ ⟨_, l :: G0, (hG2.same st).mono (by omega), hk2.trans (.same st), rep_tup upd_same (reps_leaf leaf_str (reps_leaf leaf_str (reps_one (rep_lst (st _ _ hl2) (hr2.same st) fun z => (hf2 l z).2 rfl)))), fun x hx => ?_, .inr (.inr (.inr ⟨y, ts, hy, rfl, hlen, hts⟩))⟩
  rcases List.mem_cons.mp hx with z | z
  · exact z ▸ hl0
  · exact (hf2 x z).1
end
end K03
set_option Elab.async false
set_option linter.all false
set_option maxRecDepth 100000
set_option maxHeartbeats 4000000
namespace K03
open PySem L2 PyProof.Rows
def DfW (d : D) : Prop := d = .leaf .non ∨ TmW 5 d
theorem cT_le : ∀ m, m < 6 → cT m ≤ 2000 := by decide
def spDef : Sp := fun vs H Q _ => ∃ (p B L kA : Addr) (n : Nat) (a : Int), vs = [.ref p, .ref B, .ref L] ∧ Gn H p L B kA n a ∧ n + 2100 < 10 ^ 60 ∧ ∀ u H', New H p L B kA (n + 2100) a DfW u H' → Q u H'
def mR0 : List Str := ["", "Soon", "soon ", "absent", "nothing", "later", "sooner", "none", "soon", "late", "so", "lat"].map Str.ofString
def mR1 : List Str := ["", "Absent", "absents", "soon", "late", "nothing ", "none", "absent", "nothing", "not", "any"].map Str.ofString
theorem mR_ok : (mR0 ++ mR1 ++ ["soon", "late", "absent", "nothing"].map Str.ofString).all (txB 100) = true := by decide +kernel
theorem mR_tx {z : Str} (h : z ∈ mR0 ++ mR1 ++ ["soon", "late", "absent", "nothing"].map Str.ofString) : OkT z := tx_of (List.all_eq_true.mp mR_ok z h)
def spRules : Sp := fun vs H Q _ => ∃ (p L B kA : Addr) (n : Nat) (a : Int), vs = [.ref p, .ref L] ∧ Gn H p L B kA n a ∧ n + 4 < 10 ^ 60 ∧
  ∀ (f : Addr) (r s : Str) H', OkT r → OkT s → But p H H' → Purse H' p (n + 4) → H f = none → H' f = some (.lst [.str r, .str s]) → Q (.ref f) H'
section
variable {P : Program} {w : World} {K : PySem.W.Frag} {mg : Str → Option Value} {base : Heap}
theorem scDf : FnScope ["purse", "labels", "left"] ["purse", "labels", "left"] (defScope sDefault) := ⟨rfl, rfl, rfl, by decide +kernel, rfl, by decide +kernel, by decide +kernel⟩
theorem ok_default {f fC fT : Addr} {fd fdC fdT : FuncData} (F : Fun K "_law_ta_default" "_law_ta_default" sDefault f fd) (T : Txt K mg)
    (FC : Fun K "_law_coin" "_law_coin" sCoin fC fdC) (GC : FnOk P w K mg base CX0 1 fC fdC ["purse", "many"] spCoin) (bC : Binds K fdC ["purse", "many"] []) (mC : mg "_law_coin" = some (.ref fC))
    (FT : Fun K "_law_ta_term" "_law_ta_term" sTerm fT fdT) (GT : FnOk P w K mg base CX0 7 fT fdT ["purse", "labels", "left", "deep"] (spTerm 7)) (bT : Binds K fdT ["purse", "labels", "left", "deep"] []) (mT : mg "_law_ta_term" = some (.ref fT)) :
    FnOk P w K mg base CX0 8 f fd ["purse", "labels", "left"] spDef := by
  refine F.ok scDf (fun vs H Q E h => ?_) (fun cdv A outer s H vs Q E hr h => ?_)
  · obtain ⟨p, B, L, kA, n, a, rfl, _⟩ := h
    rfl
  obtain ⟨p, B, L, kA, n, a, rfl, hG, hn, kk⟩ := h
  have hr1 : Room 1 (A.deeper (envOfC "_law_ta_default" (defScope sDefault) s.heap.objs.size f cdv)) := hr.mono (by omega)
  refine ⟨_, pss_cons (ps_if (PW.pt (pw_or (pt_cmpR op_lt (pe_ix ix_list (pv 2) pe_int (fun _ _ => rfl)) pe_int (nomark _)) (pw_or1 (pt_cmpR op_eq (pe_call GC hr1 rfl mC FC.kp bC .nil pass0 (pa_cons (pv 0) (pa_cons pe_int pa_nil))) pe_int (nomark _))))) (pss_one (ps_ret pe_non)) pss_nil)
    (pss_cons (ps_asg (pe_op op_sub (pe_ix ix_list (pv 2) pe_int (fun _ _ => rfl)) pe_int) (pg_sub (pv 2) pe_int set_list))
    (pss_one (ps_ret (pe_call GT hr rfl mT FT.kp bT .nil pass0 (pa_cons (pv 0) (pa_cons (pv 1) (pa_cons (pv 2) (pa_cons (pe_ix ix_list (pv 2) pe_int (fun _ _ => rfl)) pa_nil)))))))), ?_⟩
  obtain ⟨d0, i0, w0, c0, l0, ks, hL⟩ := hG.lf
  have non : ∀ H', Gn H' p L B kA (n + 1) a → Kp (fun a => a = p ∨ a = L) H H' → Q .non H' := fun H' g k => kk _ _ ⟨_, [], g.mono (by omega), k, rep_leaf leaf_non, (fun _ z => nomatch z), .inl rfl⟩
  refine ⟨_, rfl, L, _, _, _, rfl, rfl, SqL.of hL.at_, at7_1, _, _, rfl, rfl, _, rfl, ?_⟩
  refine ite2 (fun _ => iteT (non H (hG.mono (by omega)) (.same (Same.refl H)))) (fun _ => ?_)
  refine ⟨_, rfl, p, 2, n, rfl, hG.pu, by omega, by decide, by decide, fun dr H1 d0' d1 hb1 hp1 => ?_⟩
  have hG1 := hG.draw hb1 hp1
  have hk1 := hG.kd hb1
  have hL1 := hL.but hb1 hG.ne
  refine ⟨rfl, _, rfl, ?_⟩
  refine ite2 (fun _ => non H1 hG1 hk1) (fun _ => ?_)
  refine ⟨_, rfl, L, _, _, _, rfl, rfl, SqL.of hL1.at_, at7_1, _, _, rfl, rfl, _, rfl, L, _, _, 1, rfl, rfl, hL1.at_, rfl, ?_⟩
  obtain ⟨hG2, hk2, hL2⟩ := hG1.left hL1 (a' := a) (d := d0 - 1) (i := i0) (w := w0) (c := c0) (l := l0) hL.b
  have hb := hL.b
  have hl : l0 = ((l0.toNat : Nat) : Int) := by omega
  have hc := cT_le l0.toNat (by omega)
  refine ⟨_, rfl, _, rfl, _, rfl, _, rfl, L, _, _, _, rfl, rfl, SqL.of hL2.at_, at7_6, p, B, L, kA, n + 1, l0.toNat, a, ?_, by omega, by omega, by omega, hG2, by omega, ?_⟩
  · rw [← hl]
    rfl
  rintro u H' ⟨d, G, g1, g2, g3, g4, g5⟩
  exact kk u H' ⟨d, G, g1.mono (by omega), (hk1.trans hk2).trans g2, g3, fun x hx => hG.free (hk1.trans hk2) hG2 (g4 x hx), .inr (g5.le (by omega))⟩
theorem scRu : FnScope ["purse", "left", "found", "menu"] ["purse", "left"] (defScope sRules) := ⟨rfl, rfl, rfl, by decide +kernel, rfl, by decide +kernel, by decide +kernel⟩
theorem ok_rules {f fC : Addr} {fd fdC : FuncData} (F : Fun K "_law_ta_rules" "_law_ta_rules" sRules f fd) (T : Txt K mg)
    (FC : Fun K "_law_coin" "_law_coin" sCoin fC fdC) (GC : FnOk P w K mg base CX0 1 fC fdC ["purse", "many"] spCoin) (bC : Binds K fdC ["purse", "many"] []) (mC : mg "_law_coin" = some (.ref fC)) :
    FnOk P w K mg base CX0 2 f fd ["purse", "left"] spRules := by
  refine F.ok scRu (fun vs H Q E h => ?_) (fun cdv A outer s H vs Q E hr h => ?_)
  · obtain ⟨p, L, B, kA, n, a, rfl, _⟩ := h
    rfl
  obtain ⟨p, L, B, kA, n, a, rfl, hG, hn, kk⟩ := h
  refine ⟨_, Evl.pss_cut (ps_set (i := 2) scRu.nd rfl (Or.inl rfl) (pe_lst (pa_cons (pe_ix ix_list (pe_lst (pa_cons pe_str (pa_cons pe_str pa_nil))) (pe_call GC hr rfl mC FC.kp bC .nil pass0 (pa_cons (pv 0) (pa_cons pe_int pa_nil))) (fun _ _ => rfl))
      (pa_cons (pe_ix ix_list (pe_lst (pa_cons pe_str (pa_cons pe_str pa_nil))) (pe_call GC hr rfl mC FC.kp bC .nil pass0 (pa_cons (pv 0) (pa_cons pe_int pa_nil))) (fun _ _ => rfl)) pa_nil))))
    (pss_cons (ps_if (PW.pt (pw_and (pt_cmpR op_gt (pe_ix ix_list (pv 1) pe_int (fun _ _ => rfl)) pe_int (nomark _)) (pw_and1 (pt_cmpR op_in_seq pe_str (pe_ix ix_list (pv 1) pe_int (fun _ _ => rfl)) (by rfl)))))
      (pss_cons (ps_set (i := 3) scRu.nd rfl (Or.inl rfl) (pe_lst (pa_cons pe_str (pa_cons pe_str (pa_cons pe_str (pa_cons pe_str (pa_cons pe_str (pa_cons pe_str (pa_cons pe_str (pa_cons pe_str (pa_cons pe_str (pa_cons pe_str (pa_cons pe_str (pa_cons pe_str pa_nil))))))))))))))
      (pss_cons (ps_asg (pe_ix ix_list (pv 3) (pe_call GC hr rfl mC FC.kp bC .nil pass0 (pa_cons (pv 0) (pa_cons (pe_callB call_len_seq (by rfl) T.len PySem.boot_len (pa_cons (pv 3) pa_nil)) pa_nil))) (fun _ _ => rfl)) (pg_sub (pv 2) pe_int set_list))
      (pss_cons (ps_set (i := 3) scRu.nd rfl (Or.inl rfl) (pe_lst (pa_cons pe_str (pa_cons pe_str (pa_cons pe_str (pa_cons pe_str (pa_cons pe_str (pa_cons pe_str (pa_cons pe_str (pa_cons pe_str (pa_cons pe_str (pa_cons pe_str (pa_cons pe_str pa_nil)))))))))))))
      (pss_one (ps_asg (pe_ix ix_list (pv 3) (pe_call GC hr rfl mC FC.kp bC .nil pass0 (pa_cons (pv 0) (pa_cons (pe_callB call_len_seq (by rfl) T.len PySem.boot_len (pa_cons (pv 3) pa_nil)) pa_nil))) (fun _ _ => rfl)) (pg_sub (pv 2) pe_int set_list)))))) pss_nil)
    (pss_one (ps_ret (pv 2)))), ?_⟩
  obtain ⟨d0, i0, w0, c0, l0, ks, hL⟩ := hG.lf
  have hp := hG.pu
  obtain ⟨po, hpo⟩ := hp.some
  have two : ∀ {x y : Str} {e : Int}, 0 ≤ e → e < 2 → ∃ t : Str, atI [V.str x, V.str y] e = some (.str t) ∧ (t = x ∨ t = y) := fun {x y e0} h0 h1 => by
    have e1 : e0 = ((0 : Nat) : Int) ∨ e0 = ((1 : Nat) : Int) := by omega
    rcases e1 with e | e
    · exact ⟨_, at_ofN e rfl, .inl rfl⟩
    · exact ⟨_, at_ofN e rfl, .inr rfl⟩
  refine ⟨fun σ' H' => But p H H' ∧ Purse H' p (n + 2) ∧ ∃ (f : Addr) (r s : Str), OkT r ∧ OkT s ∧ H f = none ∧ H' f = some (.lst [.str r, .str s]) ∧ σ' = [some (.ref p), some (.ref L), some (.ref f), none], ?_, ?_⟩
  · refine ⟨by show 2 ≤ sizeLine; decide, fun q hq => ?_⟩
    have s1 := same_new hq (.lst [V.str (Str.ofString "soon"), V.str (Str.ofString "late")])
    refine ⟨_, rfl, p, 2, n, rfl, hp.same s1, by omega, by decide, by decide, fun d1 H1 d10 d11 hb1 hp1 => ?_⟩
    obtain ⟨t1, ht1, o1⟩ := two d10 d11
    refine ⟨q, _, _, _, rfl, rfl, SqL.of (hb1 q _ (hp.ne hq) upd_same), ht1, by show 2 ≤ sizeLine; decide, fun q2 hq2 => ?_⟩
    have s2 := same_new hq2 (.lst [V.str (Str.ofString "absent"), V.str (Str.ofString "nothing")])
    refine ⟨_, rfl, p, 2, n + 1, rfl, hp1.same s2, by omega, by decide, by decide, fun d2 H2 d20 d21 hb2 hp2 => ?_⟩
    obtain ⟨t2, ht2, o2⟩ := two d20 d21
    refine ⟨q2, _, _, _, rfl, rfl, SqL.of (hb2 q2 _ (hp1.ne hq2) upd_same), ht2, by show 2 ≤ sizeLine; decide, fun q3 hq3 => ?_⟩
    have s3 := same_new hq3 (.lst [V.str t1, V.str t2])
    have hbb := (((But.of s1).trans hb1).trans (.of s2)).trans hb2
    have mm : ∀ {z : Str}, z ∈ ["soon", "late", "absent", "nothing"].map Str.ofString → OkT z := fun h => mR_tx (List.mem_append_right _ h)
    refine ⟨hbb.trans (.of s3), hp2.same s3, q3, t1, t2, ?_, ?_, hbb.free hpo hp2.some hq3, upd_same, rfl⟩
    · rcases o1 with rfl | rfl
      · exact mm (by simp)
      · exact mm (by simp)
    · rcases o2 with rfl | rfl
      · exact mm (by simp)
      · exact mm (by simp)
  rintro _ H1 ⟨hb1, hp1, fA, r, s0, hr0, hs0, hf0, hf1, rfl⟩
  have hL1 := hL.but hb1 hG.ne
  have nfp : fA ≠ p := hp.ne hf0
  refine ⟨_, rfl, L, _, _, _, rfl, rfl, SqL.of hL1.at_, at7_3, _, _, rfl, rfl, _, rfl, ?_⟩
  refine ite2 (fun _ => ?_) (fun _ => iteF ⟨_, rfl, kk fA r s0 H1 hr0 hs0 hb1 (hp1.mono (by omega)) hf0 hf1⟩)
  refine ⟨_, rfl, L, _, _, _, rfl, rfl, SqL.of hL1.at_, at7_4, kA, _, rfl, .inl (SqL.of hL1.kd), rfl, flat_texts ks, _, rfl, ?_⟩
  refine ite2 (fun _ => ?_) (fun _ => ⟨_, rfl, kk fA r s0 H1 hr0 hs0 hb1 (hp1.mono (by omega)) hf0 hf1⟩)
  -- another word for the order
  refine ⟨by show 12 ≤ sizeLine; decide, fun q hq => ?_⟩
  have sq := same_new hq (.lst (mR0.map V.str))
  have hq2 : (upd H1 q (.lst (mR0.map V.str))) q = some (.lst (mR0.map V.str)) := upd_same
  show tSeq _ _ _ _ (upd H1 q (.lst (mR0.map V.str)))
  generalize upd H1 q (.lst (mR0.map V.str)) = H2 at sq hq2
  refine ⟨_, rfl, _, rfl, _, rfl, q, _, rfl, .inl (SqL.of hq2), p, _, n + 2, rfl, hp1.same sq, by omega, by rw [List.length_map]; decide, by rw [List.length_map]; decide, fun d3 H3 d30 d31 hb3 hp3 => ?_⟩
  rw [List.length_map] at d31
  obtain ⟨r', hr', hat⟩ := only_at (xs := mR0) d30 d31
  have nq : q ≠ p := hp1.ne hq
  have hf3 := hb3 _ _ nfp (sq _ _ hf1)
  refine ⟨q, _, _, _, rfl, rfl, SqL.of (hb3 _ _ nq hq2), hat, _, rfl, fA, _, _, 0, rfl, rfl, hf3, rfl, ?_⟩
  have b4 : But p H (upd H3 fA (.lst [.str r', .str s0])) := fun b o nb e => by
    rw [upd_ne (ne_of_none e hf0)]
    exact hb3 _ _ nb (sq _ _ (hb1 b o nb e))
  have p4 : Purse (upd H3 fA (.lst [.str r', .str s0])) p (n + 3) := by
    obtain ⟨x, y, z, e2, q⟩ := hp3
    exact ⟨x, y, z, by rw [upd_ne nfp.symm]; exact e2, q⟩
  have hf4 : (upd H3 fA (.lst [.str r', .str s0])) fA = some (.lst [.str r', .str s0]) := upd_same
  show tSeq _ _ _ _ (upd H3 fA (.lst [.str r', .str s0]))
  generalize upd H3 fA (.lst [.str r', .str s0]) = H4 at b4 p4 hf4
  have or' : OkT r' := mR_tx (List.mem_append_left _ (List.mem_append_left _ hr'))
  -- another word for what lacks
  refine ⟨by show 11 ≤ sizeLine; decide, fun q5 hq5 => ?_⟩
  have s5 := same_new hq5 (.lst (mR1.map V.str))
  have hq6 : (upd H4 q5 (.lst (mR1.map V.str))) q5 = some (.lst (mR1.map V.str)) := upd_same
  refine ⟨_, rfl, _, rfl, _, rfl, q5, _, rfl, .inl (SqL.of hq6), p, _, n + 3, rfl, p4.same s5, by omega, by rw [List.length_map]; decide, by rw [List.length_map]; decide, fun d6 H6 d60 d61 hb6 hp6 => ?_⟩
  rw [List.length_map] at d61
  obtain ⟨s', hs', hat6⟩ := only_at (xs := mR1) d60 d61
  have nq5 : q5 ≠ p := p4.ne hq5
  refine ⟨q5, _, _, _, rfl, rfl, SqL.of (hb6 _ _ nq5 hq6), hat6, _, rfl, fA, _, _, 1, rfl, rfl, hb6 _ _ nfp (s5 _ _ hf4), rfl, ?_⟩
  refine ⟨_, rfl, kk fA r' s' _ or' (mR_tx (List.mem_append_left _ (List.mem_append_right _ hs'))) (fun b o nb e => ?_) ?_ hf0 upd_same⟩
  · rw [upd_ne (ne_of_none e hf0)]
    exact hb6 _ _ nb (s5 _ _ (b4 b o nb e))
  · obtain ⟨x, y, z, e2, q⟩ := hp6
    exact ⟨x, y, z, by rw [upd_ne nfp.symm]; exact e2, q⟩
end
end K03
set_option Elab.async false
set_option linter.all false
set_option maxRecDepth 100000
set_option maxHeartbeats 4000000
namespace K03
open PySem L2 PyProof.Rows
/-! ### parts, and what is none -/
def bP0 : List D := [.tup [], .tup [S "rows", .lst [], .leaf .non], .tup [S "name"], .tup [S "name", S "a", S "b"], .tup [S "any", S "a"], .tup [S "row", .lst []], .tup [S "record", .lst []]]
def bP1 : List D := [.tup [S "row", .lst [.tup [.tup [S "any"], .leaf .non]], .leaf .non, S "a"], .tup [S "read", S "a"], .tup [S "", .lst [], .leaf .non], .tup [S "record", .lst [], S "a", S "b"]]
def bP2 : List D := [.tup [S "row"], .tup [S "Any"], .tup [S "names", S "a"], .tup [S "call", S "f", .lst []], .tup [S "take", .leaf .non, .tup [S "any"]]]
def bP3 : List D := [.tup [S "set", S "a", .tup [S "number", .leaf (.int 1)]], .tup [S "cases", .leaf .non, .lst []]]
def badP : List D := bP0 ++ bP1 ++ bP2 ++ bP3
def OptW (r : D) : Prop := r = .leaf .non ∨ ∃ z, OkT z ∧ r = .leaf (.str z)
/-- an item, or a field, with what it takes and what it takes else -/
def ent (row : Bool) (q : Str × D × D) : D := if row = true then .tup [q.2.1, q.2.2] else .tup [.leaf (.str q.1), q.2.1, q.2.2]
def PtW : Nat → D → Prop
  | 0, _ => False
  | n + 1, d => d ∈ badP ∨ d = .tup [S "any"] ∨ (∃ z, OkT z ∧ d = .tup [S "name", .leaf (.str z)]) ∨
    ∃ (row : Bool) (qs : List (Str × D × D)) (r : D), d = .tup [S (if row = true then "row" else "record"), .lst (qs.map (ent row)), r] ∧ OptW r ∧ qs.length ≤ 25 ∧ ∀ q ∈ qs, OkT q.1 ∧ PtW n q.2.1 ∧ DfW q.2.2
theorem PtW.succ : ∀ {n : Nat} {d : D}, PtW n d → PtW (n + 1) d
  | 0, _, h => h.elim
  | n + 1, d, h => by
    rcases h with h | h | h | ⟨row, qs, r, e, hr, hl, hq⟩
    · exact .inl h
    · exact .inr (.inl h)
    · exact .inr (.inr (.inl h))
    · exact .inr (.inr (.inr ⟨row, qs, r, e, hr, hl, fun q m => ⟨(hq q m).1, (hq q m).2.1.succ, (hq q m).2.2⟩⟩))
theorem PtW.le {n m : Nat} {d : D} (h : PtW n d) (hm : n ≤ m) : PtW m d := by
  induction hm with
  | refl => exact h
  | step _ ih => exact ih.succ
def cP : Nat → Nat
  | 0 => 30
  | k + 1 => 30 + 20 * (cP k + 2200)
def spPart (k : Nat) : Sp := fun vs H Q _ => ∃ (p B L kA : Addr) (n dp : Nat) (a : Int), vs = [.ref p, .ref B, .ref L, .int (dp : Int)] ∧ dp + 9 ≤ k ∧ Gn H p L B kA n a ∧ n + cP dp < 10 ^ 60 ∧
  ∀ u H' a', New H p L B kA (n + cP dp) a' (PtW (dp + 1)) u H' → Q u H'
/-! ### is a list of texts empty? -/
section
variable {K : PySem.W.Frag} {H : Hp}
theorem dp_texts : ∀ {zs : List Str}, DpAll K H (zs.map V.str) (zs.map PyData.str)
  | [] => .nil
  | z :: zs => .cons (.str z) dp_texts
theorem can_texts : ∀ zs : List Str, (∀ z ∈ zs, PyData.strOk z = true) → PyData.canLayAll0 (zs.map PyData.str) = true
  | [], _ => by simp [PyData.canLayAll0]
  | z :: zs, h => by simp [PyData.canLayAll0, PyData.canLay0, can_texts zs fun y hy => h y (List.mem_cons_of_mem _ hy), h z List.mem_cons_self]
theorem depth_texts : ∀ zs : List Str, PyData.depthAll (zs.map PyData.str) ≤ 1
  | [] => by simp [PyData.depthAll]
  | z :: zs => by
    have h := depth_texts zs
    simp [PyData.depthAll, PyData.depth]
    omega
theorem shaped_texts (zs : List Str) (h0 : ∀ z ∈ zs, PyData.strOk z = true) : SeqAt.shaped (.list (zs.map PyData.str)) = true := by
  have h := depth_texts zs
  simp [SeqAt.shaped, PyData.canLay0, PyData.depth, can_texts zs h0]
  omega
theorem ne_empty {a b : Addr} {zs : List Str} {Q : VK} (h0 : ∀ z ∈ zs, PyData.strOk z = true) (ha : SqL K H a (zs.map V.str)) (hb : SqL K H b []) (q : Q (.bl (!zs.isEmpty)) H) : rNeD K (.ref a) (.ref b) H Q := by
  refine ⟨.list (zs.map PyData.str), .list [], .lst ha dp_texts, .lst hb .nil, shaped_texts zs h0, shaped_texts [] (fun _ z => nomatch z), ?_⟩
  have e : PyData.eqv (.list (zs.map PyData.str)) (.list []) = zs.isEmpty := by cases zs <;> simp [PyData.eqv, PyData.eqvAll]
  rw [e]
  exact q
end
theorem erase_map {α β : Type} (f : α → β) (xs : List α) (j : Nat) : (xs.map f).eraseIdx j = (xs.eraseIdx j).map f := by
  rw [List.eraseIdx_eq_take_drop_succ, List.eraseIdx_eq_take_drop_succ, List.map_append, List.map_take, List.map_drop]
theorem erase_len {α : Type} (xs : List α) (j : Nat) : (xs.eraseIdx j).length ≤ xs.length := by
  rw [List.eraseIdx_eq_take_drop_succ, List.length_append, List.length_take, List.length_drop]
  omega
theorem ent_rep {H : Hp} {row : Bool} {z : Str} {d e : D} {t : Addr} {u v : V} {F G : List Addr} (ht : H t = some (.tup ((if row = true then [] else [V.str z]) ++ [u] ++ [v]))) (h1 : Rep H d u F) (h2 : Rep H e v G) (n : ∀ x ∈ F, x ∉ G) : Rep H (ent row (z, d, e)) (.ref t) (F ++ G) := by
  cases row with
  | true => exact rep_tup ht (reps_cons h1 (reps_one h2) n)
  | false => exact rep_tup ht (reps_leaf leaf_str (reps_cons h1 (reps_one h2) n))
/-- so many items drawn -/
def PartI (H : Hp) (p L B kA tk fr : Addr) (row : Bool) (dp n i : Nat) (H' : Hp) : Prop := ∃ (a' : Int) (qs : List (Str × D × D)) (ys : List V) (G0 : List Addr) (zf : List Str), Gn H' p L B kA n a' ∧ Kp (fun a => a = p ∨ a = L) H H' ∧ H' tk = some (.lst ys) ∧ H' fr = some (.lst (zf.map V.str)) ∧ Reps H' (qs.map (ent row)) ys G0 ∧ (∀ x ∈ G0, H x = none ∧ x ≠ tk ∧ x ≠ fr) ∧ qs.length ≤ i ∧
  (∀ q ∈ qs, OkT q.1 ∧ PtW (dp + 1) q.2.1 ∧ DfW q.2.2) ∧ zf.length ≤ 26 ∧ (∀ z ∈ zf, okName z)
section
variable {P : Program} {w : World} {K : PySem.W.Frag} {mg : Str → Option Value} {base : Heap}
theorem scPt : FnScope ["purse", "labels", "left", "deep", "menu", "way", "rest", "takings", "free", "turn", "found", "at"] ["purse", "labels", "left", "deep"] (defScope sPart) := ⟨rfl, rfl, rfl, by decide +kernel, rfl, by decide +kernel, by decide +kernel⟩
theorem part_none {f : Addr} {fd : FuncData} {ps : List Str} : FnOk P w K mg base CX0 0 f fd ps (spPart 0) := none_of fun vs H Q E h => by
  obtain ⟨p, B, L, kA, n, dp, a, _, h1, _⟩ := h
  omega
theorem ok_part {f fC fN fD : Addr} {fd fdC fdN fdD : FuncData} {k : Nat} (F : Fun K "_law_ta_part" "_law_ta_part" sPart f fd) (T : Txt K mg)
    (FC : Fun K "_law_coin" "_law_coin" sCoin fC fdC) (GC : FnOk P w K mg base CX0 1 fC fdC ["purse", "many"] spCoin) (bC : Binds K fdC ["purse", "many"] []) (mC : mg "_law_coin" = some (.ref fC))
    (FN : Fun K "_law_ta_name" "_law_ta_name" sName fN fdN) (GN : FnOk P w K mg base CX0 2 fN fdN ["purse", "names", "left"] spName) (bN : Binds K fdN ["purse", "names", "left"] []) (mN : mg "_law_ta_name" = some (.ref fN))
    (FD : Fun K "_law_ta_default" "_law_ta_default" sDefault fD fdD) (GD : FnOk P w K mg base CX0 8 fD fdD ["purse", "labels", "left"] spDef) (bD : Binds K fdD ["purse", "labels", "left"] []) (mD : mg "_law_ta_default" = some (.ref fD))
    (G : FnOk P w K mg base CX0 k f fd ["purse", "labels", "left", "deep"] (spPart k)) (b : Binds K fd ["purse", "labels", "left", "deep"] []) (m : mg "_law_ta_part" = some (.ref f)) :
    FnOk P w K mg base CX0 (k + 1) f fd ["purse", "labels", "left", "deep"] (spPart (k + 1)) := by
  refine F.ok scPt (fun vs H Q E h => ?_) (fun cdv A outer s H vs Q E hr h => ?_)
  · obtain ⟨p, B, L, kA, n, dp, a, rfl, _⟩ := h
    rfl
  obtain ⟨p, B, L, kA, n, dp, a, rfl, hk, hG, hn, kk⟩ := h
  have hr1 : Room 1 (A.deeper (envOfC "_law_ta_part" (defScope sPart) s.heap.objs.size f cdv)) := hr.mono (by omega)
  have hr2 : Room 2 (A.deeper (envOfC "_law_ta_part" (defScope sPart) s.heap.objs.size f cdv)) := hr.mono (by omega)
  have hr8 : Room 8 (A.deeper (envOfC "_law_ta_part" (defScope sPart) s.heap.objs.size f cdv)) := hr.mono (by omega)
  refine ⟨_, pss_cons (ps_asg (pe_op op_sub (pe_ix ix_list (pv 2) pe_int (fun _ _ => rfl)) pe_int) (pg_sub (pv 2) pe_int set_list))
    (pss_cons (ps_if (pt_cut (PW.pt (pw_and (pt_cmpR op_gt (pe_ix ix_list (pv 2) pe_int (fun _ _ => rfl)) pe_int (nomark _)) (pw_and (pt_cmpR op_in_seq pe_str (pe_ix ix_list (pv 2) pe_int (fun _ _ => rfl)) (by rfl)) (pw_and1 (pt_cmpR op_eq (pe_call GC hr1 rfl mC FC.kp bC .nil pass0 (pa_cons (pv 0) (pa_cons pe_int pa_nil))) pe_int (nomark _)))))))
      (pss_cons (ps_asg (pe_op op_sub (pe_ix ix_list (pv 2) pe_int (fun _ _ => rfl)) pe_int) (pg_sub (pv 2) pe_int set_list))
      (pss_cons (ps_set (i := 4) scPt.nd rfl (Or.inl rfl) (pl_lst (ds := bP0) (pl_cons (pl_tup pl_nil) (pl_cons (pl_tup (pl_cons pl_str (pl_cons (pl_lst pl_nil) (pl_cons pl_non pl_nil)))) (pl_cons (pl_tup (pl_cons pl_str pl_nil)) (pl_cons (pl_tup (pl_cons pl_str (pl_cons pl_str (pl_cons pl_str pl_nil))))
          (pl_cons (pl_tup (pl_cons pl_str (pl_cons pl_str pl_nil))) (pl_cons (pl_tup (pl_cons pl_str (pl_cons (pl_lst pl_nil) pl_nil))) (pl_cons (pl_tup (pl_cons pl_str (pl_cons (pl_lst pl_nil) pl_nil))) pl_nil)))))))))
      (pss_cons (ps_set (i := 4) scPt.nd rfl (Or.inl rfl) (pe_op op_cat (pv 4) (pl_lst (ds := bP1) (pl_cons (pl_tup (pl_cons pl_str (pl_cons (pl_lst (pl_cons (pl_tup (pl_cons (pl_tup (pl_cons pl_str pl_nil)) (pl_cons pl_non pl_nil))) pl_nil)) (pl_cons pl_non (pl_cons pl_str pl_nil)))))
          (pl_cons (pl_tup (pl_cons pl_str (pl_cons pl_str pl_nil))) (pl_cons (pl_tup (pl_cons pl_str (pl_cons (pl_lst pl_nil) (pl_cons pl_non pl_nil)))) (pl_cons (pl_tup (pl_cons pl_str (pl_cons (pl_lst pl_nil) (pl_cons pl_str (pl_cons pl_str pl_nil))))) pl_nil)))))))
      (pss_cons (ps_set (i := 4) scPt.nd rfl (Or.inl rfl) (pe_op op_cat (pv 4) (pl_lst (ds := bP2) (pl_cons (pl_tup (pl_cons pl_str pl_nil)) (pl_cons (pl_tup (pl_cons pl_str pl_nil)) (pl_cons (pl_tup (pl_cons pl_str (pl_cons pl_str pl_nil)))
          (pl_cons (pl_tup (pl_cons pl_str (pl_cons pl_str (pl_cons (pl_lst pl_nil) pl_nil)))) (pl_cons (pl_tup (pl_cons pl_str (pl_cons pl_non (pl_cons (pl_tup (pl_cons pl_str pl_nil)) pl_nil)))) pl_nil))))))))
      (pss_cons (ps_set (i := 4) scPt.nd rfl (Or.inl rfl) (pe_op op_cat (pv 4) (pl_lst (ds := bP3) (pl_cons (pl_tup (pl_cons pl_str (pl_cons pl_str (pl_cons (pl_tup (pl_cons pl_str (pl_cons pl_int pl_nil))) pl_nil)))) (pl_cons (pl_tup (pl_cons pl_str (pl_cons pl_non (pl_cons (pl_lst pl_nil) pl_nil)))) pl_nil)))))
      (pss_one (ps_ret (pe_ix ix_list (pv 4) (pe_call GC hr1 rfl mC FC.kp bC .nil pass0 (pa_cons (pv 0) (pa_cons (pe_callB call_len_seq (by rfl) T.len PySem.boot_len (pa_cons (pv 4) pa_nil)) pa_nil))) (fun _ _ => rfl))))))))) pss_nil)
    (pss_cons (ps_set (i := 5) scPt.nd rfl (Or.inl rfl) (pe_call GC hr1 rfl mC FC.kp bC .nil pass0 (pa_cons (pv 0) (pa_cons pe_int pa_nil))))
    (Evl.pss_cut (ps_if (PW.pt (pw_or (pt_cmpR op_lt (pv 3) pe_int (nomark _)) (pw_or (pt_cmpR op_lt (pe_ix ix_list (pv 2) pe_int (fun _ _ => rfl)) pe_int (nomark _)) (pw_or1 (pt_cmpR op_eq (pv 5) pe_int (nomark _))))))
      (pss_cons (ps_if (pt_cmpR op_eq (pe_call GC hr1 rfl mC FC.kp bC .nil pass0 (pa_cons (pv 0) (pa_cons pe_int pa_nil))) pe_int (nomark _)) (pss_one (ps_ret (pe_tup (pa_cons pe_str pa_nil)))) pss_nil)
      (pss_one (ps_ret (pe_tup (pa_cons pe_str (pa_cons (pe_call GN hr2 rfl mN FN.kp bN .nil pass0 (pa_cons (pv 0) (pa_cons (pe_ix ix_list (pv 1) pe_int (fun _ _ => rfl)) (pa_cons (pv 2) pa_nil)))) pa_nil)))))) pss_nil)
    (Evl.pss_cut (ps_set (i := 6) scPt.nd rfl (Or.inl rfl) (pe_ifExp (pt_cmpR op_eq (pe_call GC hr1 rfl mC FC.kp bC .nil pass0 (pa_cons (pv 0) (pa_cons pe_int pa_nil))) pe_int (nomark _)) pe_non
      (pe_call GN hr2 rfl mN FN.kp bN .nil pass0 (pa_cons (pv 0) (pa_cons (pe_ix ix_list (pv 1) pe_int (fun _ _ => rfl)) (pa_cons (pv 2) pa_nil))))))
    (Evl.pss_cut (ps_par (i := 7) (j := 8) rfl scPt.nd rfl rfl (by decide) rfl rfl (pa_cons (pe_lst pa_nil) (pa_cons (pe_callTy call_list_of (by rfl) T.list boot_list (pa_cons (pe_ix ix_list (pv 1) pe_int (fun _ _ => rfl)) pa_nil)) pa_nil)) (by rfl))
    (Evl.pss_cut (ps_for PassesOwn.never rfl (pi_range1 rfl T.range (pa_cons (pe_call GC hr1 rfl mC FC.kp bC .nil pass0 (pa_cons (pv 0) (pa_cons (pe_op op_add (pe_ix ix_list (pv 2) pe_int (fun _ _ => rfl)) pe_int) pa_nil))) pa_nil)) (pg_name (i := 9) scPt.nd rfl (Or.inl rfl))
      (pss_one (ps_if (pt_cut (PW.pt (pw_and (pt_cmpR op_gt (pe_ix ix_list (pv 2) pe_int (fun _ _ => rfl)) pe_int (nomark _)) (pw_and1 (PW.pt (pw_or (pt_cmpR op_lt (pv 5) pe_int (nomark _)) (pw_or1 (pt_cmpR (op_neD hr.units) (pv 8) (pe_lst pa_nil) (nomark _)))))))))
        (pss_cons (ps_set (i := 10) scPt.nd rfl (Or.inl rfl) (pe_lst pa_nil))
        (Evl.pss_cut (ps_if (pt_cmpR op_gt (pv 5) pe_int (nomark _))
          (pss_cons (ps_set (i := 11) scPt.nd rfl (Or.inl rfl) (pe_call GC hr1 rfl mC FC.kp bC .nil pass0 (pa_cons (pv 0) (pa_cons (pe_callB call_len_seq (by rfl) T.len PySem.boot_len (pa_cons (pv 8) pa_nil)) pa_nil))))
          (pss_cons (ps_set (i := 10) scPt.nd rfl (Or.inl rfl) (pe_lst (pa_cons (pe_call GN hr2 rfl mN FN.kp bN .nil pass0 (pa_cons (pv 0) (pa_cons (pe_lst (pa_cons (pe_ix ix_list (pv 8) (pv 11) (fun _ _ => rfl)) pa_nil)) (pa_cons (pv 2) pa_nil)))) pa_nil)))
          (pss_one (ps_if (pt_cut (PW.pt (pw_and (pt_cmpR op_gt (pe_ix ix_list (pv 2) pe_int (fun _ _ => rfl)) pe_int (nomark _)) (pw_and (pt_cmpR op_in_seq pe_str (pe_ix ix_list (pv 2) pe_int (fun _ _ => rfl)) (by rfl)) (pw_and1 (pt_cmpR op_eq (pe_call GC hr1 rfl mC FC.kp bC .nil pass0 (pa_cons (pv 0) (pa_cons pe_int pa_nil))) pe_int (nomark _)))))))
            (pss_one (ps_asg (pe_op op_sub (pe_ix ix_list (pv 2) pe_int (fun _ _ => rfl)) pe_int) (pg_sub (pv 2) pe_int set_list)))
            (pss_one (ps_expr (pe_bm PySem.F.plainAttrs_list PySem.F.slot_list_pop PySem.F.type_list_pop mt_popAt (pv 8) (pa_cons (pv 11) pa_nil)))))))) pss_nil)
        (pss_cons (ps_expr (pe_bm PySem.F.plainAttrs_list PySem.F.slot_list_append PySem.F.type_list_append mt_append (pv 10) (pa_cons (pe_call G hr rfl m F.kp b .nil pass0 (pa_cons (pv 0) (pa_cons (pv 1) (pa_cons (pv 2) (pa_cons (pe_op op_sub (pv 3) pe_int) pa_nil))))) pa_nil)))
        (pss_cons (ps_expr (pe_bm PySem.F.plainAttrs_list PySem.F.slot_list_append PySem.F.type_list_append mt_append (pv 10) (pa_cons (pe_call GD hr8 rfl mD FD.kp bD .nil pass0 (pa_cons (pv 0) (pa_cons (pv 1) (pa_cons (pv 2) pa_nil)))) pa_nil)))
        (pss_one (ps_expr (pe_bm PySem.F.plainAttrs_list PySem.F.slot_list_append PySem.F.type_list_append mt_append (pv 7) (pa_cons (pe_callTy call_tuple_of (by rfl) T.tuple boot_tuple (pa_cons (pv 10) pa_nil)) pa_nil)))))))) pss_nil)))
    (pss_one (ps_ret (pe_tup (pa_cons (pe_ifExp (pt_cmpR op_lt (pv 5) pe_int (nomark _)) pe_str pe_str) (pa_cons (pv 7) (pa_cons (pv 6) pa_nil)))))))))))), ?_⟩
  -- one part less
  obtain ⟨d0, i0, w0, c0, l0, ks, hL⟩ := hG.lf
  refine ⟨_, rfl, L, _, _, _, rfl, rfl, SqL.of hL.at_, at7_0, _, _, rfl, rfl, _, rfl, L, _, _, 0, rfl, rfl, hL.at_, rfl, ?_⟩
  obtain ⟨hG1, hk1, hL1⟩ := hG.left hL (a' := a - 1) (d := d0) (i := i0) (w := w0) (c := c0) (l := l0) hL.b
  show tSeq _ _ _ _ (upd H L (.lst [.int (a - 1), .int d0, .int i0, .int w0, .ref kA, .int c0, .int l0]))
  generalize upd H L (.lst [.int (a - 1), .int d0, .int i0, .int w0, .ref kA, .int c0, .int l0]) = H1 at hG1 hk1 hL1
  have hcp : 30 ≤ cP dp := by cases dp with
    | zero => exact Nat.le_refl _
    | succ j => show 30 ≤ 30 + 20 * (cP j + 2200); omega
  -- is it to be wrong
  refine ⟨fun b H2 => Gn H2 p L B kA (n + 1) (a - 1) ∧ Kp (fun a => a = p ∨ a = L) H H2 ∧ LeftAt H2 p L (a - 1) d0 i0 w0 c0 l0 kA ks, ?_, ?_⟩
  · refine ⟨_, rfl, L, _, _, _, rfl, rfl, SqL.of hL1.at_, at7_3, _, _, rfl, rfl, _, rfl, ?_⟩
    refine ite2 (fun _ => ?_) (fun _ => ⟨hG1.mono (by omega), hk1, hL1⟩)
    refine ⟨_, rfl, L, _, _, _, rfl, rfl, SqL.of hL1.at_, at7_4, kA, _, rfl, .inl (SqL.of hL1.kd), rfl, flat_texts ks, _, rfl, ?_⟩
    refine ite2 (fun _ => ?_) (fun _ => ⟨hG1.mono (by omega), hk1, hL1⟩)
    exact ⟨_, rfl, p, 5, n, rfl, hG1.pu, by omega, by decide, by decide, fun d3 H3 d30 d31 hb3 hp3 => ⟨rfl, _, rfl, hG1.draw hb3 hp3, hk1.trans (hG1.kd hb3), hL1.but hb3 hG.ne⟩⟩
  clear hG1 hk1 hL1
  rintro bad H1 ⟨hG1, hk1, hL1⟩
  refine ite2 (fun _ => ?_) (fun _ => ?_)
  · refine ⟨_, rfl, L, _, _, _, rfl, rfl, SqL.of hL1.at_, at7_3, _, _, rfl, rfl, _, rfl, L, _, _, 3, rfl, rfl, hL1.at_, rfl, ?_⟩
    obtain ⟨hG3, hk3, _⟩ := hG1.left hL1 (a' := a - 1) (d := d0) (i := i0) (w := w0 - 1) (c := c0) (l := l0) hL1.b
    show tSeq _ _ _ _ (upd H1 L (.lst [.int (a - 1), .int d0, .int i0, .int (w0 - 1), .ref kA, .int c0, .int l0]))
    generalize upd H1 L (.lst [.int (a - 1), .int d0, .int i0, .int (w0 - 1), .ref kA, .int c0, .int l0]) = H3 at hG3 hk3
    replace hk3 := hk1.trans hk3
    refine fun u4 H4 F4 s4 r4 n4 => ?_
    refine ⟨_, rfl, fun u5 H5 F5 s5 r5 n5 => ?_⟩
    obtain ⟨la, ba, xa, za, rfl, rfl, a1, a2, a3, a4, cat⟩ := rep_cat r4 n4 s4 s5 r5 n5
    refine ⟨la, ba, xa, za, rfl, rfl, a1, a2, by rw [a3, a4]; show 7 + 4 ≤ sizeLine; decide, fun q hq => ?_⟩
    obtain ⟨F6, r6, s6, n6⟩ := cat q hq
    refine ⟨_, rfl, fun u5 H5 F5 s5 r5 n5 => ?_⟩
    obtain ⟨la, ba, xa, za, ex, rfl, a1, a2, a3, a4, cat⟩ := rep_cat r6 n6 s6 s5 r5 n5
    refine ⟨la, ba, xa, za, ex, rfl, a1, a2, by rw [a3, a4]; show 11 + 5 ≤ sizeLine; decide, fun q hq => ?_⟩
    obtain ⟨F6, r6, s6, n6⟩ := cat q hq
    refine ⟨_, rfl, fun u5 H5 F5 s5 r5 n5 => ?_⟩
    obtain ⟨la, ba, xa, za, ex, rfl, a1, a2, a3, a4, cat⟩ := rep_cat r6 n6 s6 s5 r5 n5
    refine ⟨la, ba, xa, za, ex, rfl, a1, a2, by rw [a3, a4]; show 16 + 2 ≤ sizeLine; decide, fun q hq => ?_⟩
    obtain ⟨F6, r6, s6, n6⟩ := cat q hq
    obtain ⟨l7, xs7, el7, hl7, en7, ml7, pick⟩ := rep_pick r6
    cases el7
    have hG6 := hG3.same s6
    refine ⟨_, rfl, _, rfl, _, rfl, q, _, rfl, .inl (SqL.of hl7), p, _, n + 1, rfl, hG6.pu, by omega, by rw [en7]; decide, by rw [en7]; decide, fun d8 H8 d80 d81 hb8 hp8 => ?_⟩
    rw [en7] at d81
    obtain ⟨x, dd, G8, hat, hdd, r8, m8⟩ := pick d8 d80 d81
    have n8 : ∀ y ∈ G8, H3 y = none := fun y hy => n6 y (m8 y hy)
    have nq : q ≠ p := (hG3.neP (n6 q ml7)).1
    refine ⟨q, _, _, _, rfl, rfl, SqL.of (hb8 _ _ nq hl7), hat, kk x H8 (a - 1) ⟨dd, G8, (hG6.draw hb8 hp8).mono (by omega), (hk3.trans (.same s6)).trans (hG6.kd hb8), r8.kp (hb8.kp hG6.pu) fun y hy z => (hG3.neP (n8 y hy)).1 z, fun y hy => hG.free hk3 hG3 (n8 y hy), .inl hdd⟩⟩
  -- the way
  refine ⟨_, rfl, p, 7, n + 1, rfl, hG1.pu, by omega, by decide, by decide, fun wy H2 w1 w2 hb2 hp2 => ?_⟩
  have hG2 := hG1.draw hb2 hp2
  have hk2 := hk1.trans (hG1.kd hb2)
  have hL2 := hL1.but hb2 hG.ne
  -- a name or any
  refine ⟨fun σ' H' => Gn H' p L B kA (n + 2) (a - 1) ∧ Kp (fun a => a = p ∨ a = L) H H' ∧ (∃ j, dp = j + 1) ∧ LeftAt H' p L (a - 1) d0 i0 w0 c0 l0 kA ks ∧ σ' = [some (.ref p), some (.ref B), some (.ref L), some (.int (dp : Int)), none, some (.int wy), none, none, none, none, none, none], ?_, ?_⟩
  · have leafs : ∀ Dn : L2.St → Hp → Prop, tSeq (tIfS (tTest (tOp rEq (tCall spCoin [] E0 (tCons (tVar 0) (tCons (tC (.int 6)) tNil))) (tC (.int 0)))) (tRet (tTup (tCons (tC (.str (Str.ofString "any"))) tNil))) tNext) (tRet (tTup (tCons (tC (.str (Str.ofString "name"))) (tCons (tCall spName [] E0 (tCons (tVar 0) (tCons (tOp (rIxL K) (tVar 1) (tC (.int 0))) (tCons (tVar 2) tNil)))) tNil))))
        { nx := Dn, rt := Q } [some (.ref p), some (.ref B), some (.ref L), some (.int (dp : Int)), none, some (.int wy), none, none, none, none, none, none] H2 := fun Dn => by
      refine ⟨_, rfl, p, 6, n + 2, rfl, hG2.pu, by omega, by decide, by decide, fun d H3 d1 d2 hb3 hp3 => ⟨rfl, _, rfl, ?_⟩⟩
      have hG3 := hG2.draw hb3 hp3
      have hk3 := hk2.trans (hG2.kd hb3)
      refine ite2 (fun _ => ?_) (fun _ => ?_)
      · refine ⟨by show 1 ≤ sizeLine; decide, fun tp htp => ?_⟩
        have st := same_new htp (.tup [.str (Str.ofString "any")])
        exact kk _ _ (a - 1) ⟨.tup [S "any"], [], (hG3.same st).mono (by omega), hk3.trans (.same st), rep_tup upd_same (reps_leaf leaf_str reps_nil), (fun _ z => nomatch z), .inr (.inl rfl)⟩
      · obtain ⟨n0, n1, n2, z0, z1, z2, hB, h0, h1, h2, b1, b2, b3, b4, b5, b6, b7, b8⟩ := hG3.lb
        refine ⟨_, rfl, _, rfl, B, _, _, _, rfl, rfl, SqL.of hB, at3_0, _, rfl, p, L, B, kA, n0, z0, n + 3, _, rfl, hG3, by omega, h0, b3, b4, fun y H4 hy hG4 hk4 => ⟨by show 2 ≤ sizeLine; decide, fun tp htp => ?_⟩⟩
        have st := same_new htp (.tup [.str (Str.ofString "name"), .str y])
        exact kk _ _ (a - 1) ⟨.tup [S "name", .leaf (.str y)], [], (hG4.same st).mono (by omega), (hk3.trans hk4).trans (.same st), rep_tup upd_same (reps_leaf leaf_str (reps_leaf leaf_str reps_nil)), (fun _ z => nomatch z), .inr (.inr (.inl ⟨y, hy, rfl⟩))⟩
    refine ⟨_, rfl, _, _, rfl, rfl, _, rfl, ?_⟩
    refine ite2 (fun _ => iteT (leafs _)) (fun c => ?_)
    refine ⟨_, rfl, L, _, _, _, rfl, rfl, SqL.of hL2.at_, at7_0, _, _, rfl, rfl, _, rfl, ?_⟩
    refine ite2 (fun _ => iteT (leafs _)) (fun _ => ?_)
    refine ⟨_, rfl, rfl, _, rfl, ?_⟩
    refine ite2 (fun _ => leafs _) (fun _ => ⟨hG2, hk2, ⟨dp - 1, ?_⟩, hL2, rfl⟩)
    have c' : ¬ ((dp : Int) < 1) := fun z => c (decide_eq_true z)
    omega
  clear hG2 hk2 hL2 hL1 hG1 hk1
  rintro _ H2 ⟨hG2, hk2, ⟨dp, rfl⟩, hL2, rfl⟩
  have hcP : cP (dp + 1) = 30 + 20 * (cP dp + 2200) := rfl
  -- the rest
  refine ⟨fun σ' H' => Gn H' p L B kA (n + 8) (a - 1) ∧ Kp (fun a => a = p ∨ a = L) H H' ∧ ∃ rv, OptW (.leaf rv) ∧ Leaf rv ∧ σ' = [some (.ref p), some (.ref B), some (.ref L), some (.int ((dp + 1 : Nat) : Int)), none, some (.int wy), some rv, none, none, none, none, none], ?_, ?_⟩
  · refine ⟨_, rfl, p, 2, n + 2, rfl, hG2.pu, by omega, by decide, by decide, fun d H3 d1 d2 hb3 hp3 => ⟨rfl, _, rfl, ?_⟩⟩
    have hG3 := hG2.draw hb3 hp3
    have hk3 := hk2.trans (hG2.kd hb3)
    refine ite2 (fun _ => ?_) (fun _ => ?_)
    · exact ⟨hG3.mono (by omega), hk3, .non, .inl rfl, leaf_non, rfl⟩
    · obtain ⟨n0, n1, n2, z0, z1, z2, hB, h0, h1, h2, b1, b2, b3, b4, b5, b6, b7, b8⟩ := hG3.lb
      refine ⟨_, rfl, _, rfl, B, _, _, _, rfl, rfl, SqL.of hB, at3_0, _, rfl, p, L, B, kA, n0, z0, n + 3, _, rfl, hG3, by omega, h0, b3, b4, fun y H4 hy hG4 hk4 => ?_⟩
      exact ⟨hG4, hk3.trans hk4, .str y, .inr ⟨y, hy, rfl⟩, leaf_str, rfl⟩
  clear hG2 hk2 hL2
  rintro _ H2 ⟨hG2, hk2, rv, hrv, hrl, rfl⟩
  -- takings, free
  refine ⟨fun σ' H' => Gn H' p L B kA (n + 8) (a - 1) ∧ Kp (fun a => a = p ∨ a = L) H H' ∧ ∃ (tk fr : Addr) (zf : List Str), H tk = none ∧ H fr = none ∧ tk ≠ fr ∧ H' tk = some (.lst []) ∧ H' fr = some (.lst (zf.map V.str)) ∧ zf.length ≤ 26 ∧ (∀ z ∈ zf, okName z) ∧ σ' = [some (.ref p), some (.ref B), some (.ref L), some (.int ((dp + 1 : Nat) : Int)), none, some (.int wy), some rv, some (.ref tk), some (.ref fr), none, none, none], ?_, ?_⟩
  · refine ⟨by show 0 ≤ sizeLine; decide, fun tk htk => ?_⟩
    have s1 := same_new htk (.lst [])
    obtain ⟨n0, n1, n2, z0, z1, z2, hB, h0, h1, h2, b1, b2, b3, b4, b5, b6, b7, b8⟩ := (hG2.same s1).lb
    refine ⟨_, rfl, B, _, _, _, rfl, rfl, SqL.of hB, at_ofN (j := 2) rfl rfl, n2, _, rfl, .inl (SqL.of h2.1), fun fr hfr => ⟨_, _, rfl, ?_⟩⟩
    have s2 := same_new hfr (.lst (z2.map V.str))
    have htf : tk ≠ fr := fun z => by
      rw [← z, upd_same] at hfr
      cases hfr
    exact ⟨(hG2.same s1).same s2, (hk2.trans (.same s1)).trans (.same s2), tk, fr, z2, hG.free hk2 hG2 htk, hG.free hk2 hG2 (s1.free hfr), htf, s2 _ _ upd_same, upd_same, h2.2.2.1, h2.2.2.2, rfl⟩
  clear hG2 hk2
  rintro _ H2 ⟨hG2, hk2, tk, fr, zf0, htk0, hfr0, htf, htk2, hfr2, hz26, hzok, rfl⟩
  -- the items
  refine ⟨fun σ' H' => PartI H p L B kA tk fr (decide (wy < 4)) dp (n + 9 + 20 * (cP dp + 2200)) 20 H' ∧ ∃ v9 v10 v11, σ' = [some (.ref p), some (.ref B), some (.ref L), some (.int ((dp + 1 : Nat) : Int)), none, some (.int wy), some rv, some (.ref tk), some (.ref fr), v9, v10, v11], ?_, ?_⟩
  · obtain ⟨e1, i2, e3, e4, e5, ks2, hL2⟩ := hG2.lf
    have hi2 := hL2.b
    refine ⟨_, rfl, _, rfl, L, _, _, _, rfl, rfl, SqL.of hL2.at_, at7_2, _, _, rfl, rfl, p, i2 + 1, n + 8, rfl, hG2.pu, by omega, by omega, by omega, fun dr H3 d1 d2 hb3 hp3 => ?_⟩
    have hG3 := hG2.draw hb3 hp3
    have hk3 := hk2.trans (hG2.kd hb3)
    obtain ⟨ntp, ntL⟩ := hG.neP htk0
    obtain ⟨nfp, nfL⟩ := hG.neP hfr0
    refine ⟨dr, rfl, by omega, by omega, ?_⟩
    refine for_range (lo := 0) (fun i σ' H' => PartI H p L B kA tk fr (decide (wy < 4)) dp (n + 9 + i * (cP dp + 2200)) i H' ∧ ∃ v9 v10 v11, σ' = [some (.ref p), some (.ref B), some (.ref L), some (.int ((dp + 1 : Nat) : Int)), none, some (.int wy), some rv, some (.ref tk), some (.ref fr), v9, v10, v11])
      ⟨⟨a - 1, [], [], [], zf0, by rw [Nat.zero_mul]; exact hG3, hk3, hb3 _ _ ntp htk2, hb3 _ _ nfp hfr2, reps_nil, (fun _ z => nomatch z), Nat.le_refl _, (fun _ z => nomatch z), hz26, hzok⟩, none, none, none, rfl⟩ ?_ ?_
    · rintro i σ' H5 hi ⟨⟨a', qs, ys, G0, zf, hG5, hk5, htk5, hfr5, hr5, hf5, hlen, hqs, hzl, hzo⟩, v9, v10, v11, rfl⟩
      have hi3 : i + 1 ≤ 20 := by omega
      have hcost : (i + 1) * (cP dp + 2200) ≤ 20 * (cP dp + 2200) := Nat.mul_le_mul_right _ hi3
      have hsm : (i + 1) * (cP dp + 2200) = i * (cP dp + 2200) + (cP dp + 2200) := Nat.succ_mul _ _
      obtain ⟨f1, f2, f3, f4, f5, ks5, hL5⟩ := hG5.lf
      -- the test
      refine ⟨fun b H6 => Same H5 H6 ∧ (b = true → wy < 4 ∨ zf ≠ []), ?_, ?_⟩
      · refine ⟨_, rfl, L, _, _, _, rfl, rfl, SqL.of hL5.at_, at7_0, _, _, rfl, rfl, _, rfl, ?_⟩
        refine ite2 (fun c1 => ?_) (fun _ => ⟨Same.refl _, fun z => nomatch z⟩)
        refine ⟨_, rfl, _, _, rfl, rfl, _, rfl, ?_⟩
        refine ite2 (fun c2 => ⟨Same.refl _, fun _ => .inl (of_decide_eq_true c2)⟩) (fun _ => ?_)
        refine ⟨_, rfl, by show 0 ≤ sizeLine; decide, fun q hq => ?_⟩
        have sq := same_new hq (.lst [])
        refine ne_empty (fun z hz => tx_ok ((tx_name (hzo z hz)).mono (by decide))) (SqL.of (sq _ _ hfr5)) (SqL.of upd_same) ⟨_, rfl, sq, fun z => .inr fun z2 => ?_⟩
        rw [z2] at z
        cases z
      rintro b5 H6 ⟨hs6, hc6⟩
      have hG6 := hG5.same hs6
      have hk6 := hk5.trans (.same hs6)
      refine ite2 (fun c => ?_) (fun _ => ?_)
      rotate_left
      · exact ⟨⟨a', qs, ys, G0, zf, hG6.mono (by omega), hk6, hs6 _ _ htk5, hs6 _ _ hfr5, hr5.same hs6, hf5, by omega, hqs, hzl, hzo⟩, _, _, _, rfl⟩
      have hway := hc6 c
      replace htk5 := hs6 _ _ htk5
      replace hfr5 := hs6 _ _ hfr5
      replace hr5 := hr5.same hs6
      clear hG5 hk5 hL5
      -- found
      refine ⟨by show 0 ≤ sizeLine; decide, fun fo hfo => ?_⟩
      have sfo := same_new hfo (.lst [])
      have sp : ∀ {x : Addr} {o : HO}, H6 x = some o → x ≠ fo := fun h => ne_of_none h hfo
      have gfo : ∀ x ∈ G0, x ≠ fo := fun x hx => by
        obtain ⟨zs, e⟩ := hr5.at_ x hx
        exact sp e
      have hfo0 : H fo = none := hG.free hk6 hG6 hfo
      have hG7 := hG6.same sfo
      have hk7 := hk6.trans (.same sfo)
      have htk7 := sfo _ _ htk5
      have hfr7 := sfo _ _ hfr5
      have hr7 := hr5.same sfo
      have hfo7 : (upd H6 fo (.lst [])) fo = some (.lst []) := upd_same
      generalize upd H6 fo (.lst []) = H7 at hG7 hk7 htk7 hfr7 hr7 hfo7
      -- the field's name
      refine ⟨fun σ' H' => ∃ (z : Str) (zf' : List Str) (fo' : Addr) (v : Option V), Gn H' p L B kA (n + 9 + i * (cP dp + 2200) + 7) a' ∧ Kp (fun a => a = p ∨ a = L) H H' ∧ H fo' = none ∧ (∀ x ∈ G0, x ≠ fo') ∧ fo' ≠ tk ∧ fo' ≠ fr ∧ H' fo' = some (.lst (if decide (wy < 4) = true then [] else [.str z])) ∧ H' tk = some (.lst ys) ∧ H' fr = some (.lst (zf'.map V.str)) ∧ Reps H' (qs.map (ent (decide (wy < 4)))) ys G0 ∧ zf'.length ≤ 26 ∧ (∀ y ∈ zf', okName y) ∧ OkT z ∧
        σ' = [some (.ref p), some (.ref B), some (.ref L), some (.int ((dp + 1 : Nat) : Int)), none, some (.int wy), some rv, some (.ref tk), some (.ref fr), some (.int (0 + (i : Int))), some (.ref fo'), v], ?_, ?_⟩
      · refine ⟨_, rfl, _, _, rfl, rfl, _, rfl, ?_⟩
        refine ite2 (fun c3 => ?_) (fun c3 => ?_)
        rotate_left
        · have c3' : ¬ wy > 3 := fun z => c3 (decide_eq_true z)
          have w4 : decide (wy < 4) = true := decide_eq_true (by omega)
          refine ⟨Str.ofString "", zf, fo, v11, hG7.mono (by omega), hk7, hfo0, gfo, (sp htk5).symm, (sp hfr5).symm, ?_, htk7, hfr7, hr7, hzl, hzo, tx_of (by decide +kernel), rfl⟩
          rw [w4]
          exact hfo7
        have c3' : wy > 3 := of_decide_eq_true c3
        have w4 : decide (wy < 4) = false := decide_eq_false (by omega)
        have hz0 : zf ≠ [] := hway.resolve_left (by omega)
        have hz1 : 0 < zf.length := List.length_pos_iff.mpr hz0
        refine ⟨_, rfl, _, rfl, fr, _, rfl, .inl (SqL.of hfr7), p, _, _, rfl, hG7.pu, by omega, (by rw [List.length_map]; omega), (by rw [List.length_map]; omega), fun dj H8 j0 j1 hb8 hp8 => ?_⟩
        rw [List.length_map] at j1
        obtain ⟨j, rfl⟩ : ∃ j : Nat, dj = (j : Int) := ⟨dj.toNat, by omega⟩
        have hj : j < zf.length := by omega
        have hG8 := hG7.draw hb8 hp8
        have hk8 := hk7.trans (hG7.kd hb8)
        have hfr8 := hb8 _ _ nfp hfr7
        refine ⟨_, rfl, _, rfl, _, rfl, fr, _, _, .str zf[j], rfl, rfl, SqL.of hfr8, atI_nat (by rw [List.getElem?_map, List.getElem?_eq_getElem hj]; rfl), by show 1 ≤ sizeLine; decide, fun q hq => ?_⟩
        have sq := same_new hq (.lst [V.str zf[j]])
        have hG9 := hG8.same sq
        refine ⟨_, rfl, p, L, B, kA, q, [zf[j]], _, a', rfl, hG9, by omega, ⟨upd_same, Nat.le_refl _, by show 1 ≤ 26; decide, fun y hy => ?_⟩, (hG8.neP hq).1, (hG8.neP hq).2, fun y H10 hy hG10 hk10' => ⟨by show 1 ≤ sizeLine; decide, fun fo2 hfo2 => ?_⟩⟩
        · rw [List.mem_singleton.mp hy]
          exact hzo _ (List.getElem_mem hj)
        have hk10 := (hk8.trans (.same sq)).trans hk10'
        have sf2 := same_new hfo2 (.lst [V.str y])
        have hG11 := hG10.same sf2
        have hk11 := hk10.trans (.same sf2)
        have noS : ∀ {x : Addr}, H x = none → ¬ (x = p ∨ x = L) := fun h => hG.noS h
        have hfr11 := sf2 _ _ (hk10' _ _ (sq _ _ hfr8) (.inl (noS hfr0)))
        have htk11 := sf2 _ _ (hk10' _ _ (sq _ _ (hb8 _ _ ntp htk7)) (.inl (noS htk0)))
        have hfo20 : H fo2 = none := hG.free hk10 hG10 hfo2
        have kp711 : Kp (fun a => a = p ∨ a = L) H7 (upd H10 fo2 (.lst [V.str y])) := (((hG7.kd hb8).trans (.same sq)).trans hk10').trans (.same sf2)
        have hr11 := hr7.kp kp711 fun x hx => noS (hf5 x hx).1
        have hf211 : (upd H10 fo2 (.lst [V.str y])) fo2 = some (.lst [V.str y]) := upd_same
        have gfo2 : ∀ x ∈ G0, x ≠ fo2 := fun x hx => by
          obtain ⟨zs, e⟩ := hr7.at_ x hx
          exact ne_of_none ((((hG7.kd hb8).trans (.same sq)).trans hk10') x _ e (.inl (noS (hf5 x hx).1))) hfo2
        have nf2t : fo2 ≠ tk := (ne_of_none (hk10' _ _ (sq _ _ (hb8 _ _ ntp htk7)) (.inl (noS htk0))) hfo2).symm
        have nf2f : fo2 ≠ fr := (ne_of_none (hk10' _ _ (sq _ _ hfr8) (.inl (noS hfr0))) hfo2).symm
        generalize upd H10 fo2 (.lst [V.str y]) = H11 at hG11 hk11 hfr11 htk11 hr11 hf211 kp711
        -- is it to stay
        refine ⟨fun b H12 => Gn H12 p L B kA (n + 9 + i * (cP dp + 2200) + 7) a' ∧ Kp (fun a => a = p ∨ a = L) H11 H12, ?_, ?_⟩
        · obtain ⟨g1, g2, g3, g4, g5, ks6, hL6⟩ := hG11.lf
          refine ⟨_, rfl, L, _, _, _, rfl, rfl, SqL.of hL6.at_, at7_3, _, _, rfl, rfl, _, rfl, ?_⟩
          refine ite2 (fun _ => ?_) (fun _ => ⟨hG11.mono (by omega), .same (Same.refl _)⟩)
          refine ⟨_, rfl, L, _, _, _, rfl, rfl, SqL.of hL6.at_, at7_4, kA, _, rfl, .inl (SqL.of hL6.kd), rfl, flat_texts ks6, _, rfl, ?_⟩
          refine ite2 (fun _ => ?_) (fun _ => ⟨hG11.mono (by omega), .same (Same.refl _)⟩)
          exact ⟨_, rfl, p, 3, _, rfl, hG11.pu, by omega, by decide, by decide, fun d3 H3 d30 d31 hb3 hp3 => ⟨rfl, _, rfl, (hG11.draw hb3 hp3).mono (by omega), hG11.kd hb3⟩⟩
        rintro b12 H12 ⟨hG12, hk12⟩
        have hk12' := hk11.trans hk12
        have hfr12 := hk12 _ _ hfr11 (.inl (noS hfr0))
        have htk12 := hk12 _ _ htk11 (.inl (noS htk0))
        have hf212 := hk12 _ _ hf211 (.inl (noS hfo20))
        have hr12 := hr11.kp hk12 fun x hx => noS (hf5 x hx).1
        refine ite2 (fun _ => ?_) (fun _ => ?_)
        · obtain ⟨g1, g2, g3, g4, g5, ks6, hL6⟩ := hG12.lf
          refine ⟨_, rfl, L, _, _, _, rfl, rfl, SqL.of hL6.at_, at7_3, _, _, rfl, rfl, _, rfl, L, _, _, 3, rfl, rfl, hL6.at_, rfl, ?_⟩
          obtain ⟨hG13, hk13, _⟩ := hG12.left hL6 (a' := a') (d := g1) (i := g2) (w := g3 - 1) (c := g4) (l := g5) hL6.b
          refine ⟨y, zf, fo2, _, hG13, hk12'.trans hk13, hfo20, gfo2, nf2t, nf2f, ?_, hk13 _ _ htk12 (.inl (noS htk0)), hk13 _ _ hfr12 (.inl (noS hfr0)), hr12.kp hk13 fun x hx => noS (hf5 x hx).1, hzl, hzo, hy, rfl⟩
          rw [w4]
          exact hk13 _ _ hf212 (.inl (noS hfo20))
        refine ⟨_, rfl, .inl ⟨rfl, _, SqL.of hfr12⟩, _, rfl, fr, _, (j : Int), j, .str zf[j], rfl, rfl, hfr12, by omega, by omega, (ixN_seq (Evl.ixN_nat (by rw [List.length_map]; exact hj))).1, (by rw [List.getElem?_map, List.getElem?_eq_getElem hj]; rfl), ?_⟩
        rw [erase_map]
        have kp12 : Kp (fun a => a = fr) H12 (upd H12 fr (.lst ((zf.eraseIdx j).map V.str))) := Kp.set hfr12 rfl
        refine ⟨y, zf.eraseIdx j, fo2, _, hG.put hk12' hG12 hfr0, hk12'.put hfr0, hfo20, gfo2, nf2t, nf2f, ?_, (by rw [upd_ne htf]; exact htk12), upd_same, hr12.kp kp12 fun x hx => (hf5 x hx).2.2, Nat.le_trans (erase_len _ _) hzl, fun x hx => hzo x (List.mem_of_mem_eraseIdx hx), hy, rfl⟩
        rw [w4, upd_ne nf2f]
        exact hf212
      clear hfo hfo0 sfo sp gfo hG7 hk7 htk7 hfr7 hr7 hfo7
      rintro _ H7 ⟨z, zf', fo, v11', hG7, hk7, hfo0, gfo, nft, nff, hfo7, htk7, hfr7, hr7, hzl', hzo', hzT, rfl⟩
      have noSf : ∀ {x : Addr}, H x = none → ¬ (x = p ∨ x = L) := fun h => hG.noS h
      -- the part
      refine ⟨_, rfl, .inl ⟨rfl, _, SqL.of hfo7⟩, _, rfl, _, rfl, _, rfl, _, rfl, _, _, rfl, rfl, p, B, L, kA, n + 9 + i * (cP dp + 2200) + 7, dp, a', ?_, by omega, hG7, by omega, ?_⟩
      · show [V.ref p, V.ref B, V.ref L, V.int (((dp + 1 : Nat) : Int) - 1)] = _
        rw [show (((dp + 1 : Nat) : Int) - 1) = (dp : Int) by omega]
      rintro u H8 a2 ⟨d, G8, hG8, hk8, r8, f8, okd⟩
      have hk8' := hk7.trans hk8
      have hfo8 := hk8 _ _ hfo7 (.inl (noSf hfo0))
      have htk8 := hk8 _ _ htk7 (.inl (noSf htk0))
      have hfr8 := hk8 _ _ hfr7 (.inl (noSf hfr0))
      have hr8 := hr7.kp hk8 fun x hx => noSf (hf5 x hx).1
      have n8 : ∀ x ∈ G8, H x = none ∧ x ≠ tk ∧ x ≠ fr ∧ x ≠ fo := fun x hx => ⟨hG.free hk7 hG7 (f8 x hx), (ne_of_none htk7 (f8 x hx)).symm, (ne_of_none hfr7 (f8 x hx)).symm, (ne_of_none hfo7 (f8 x hx)).symm⟩
      refine ⟨fo, _, _, rfl, rfl, hfo8, Nat.lt_of_le_of_lt (show _ ≤ 1 by split <;> simp) (by decide), ?_⟩
      generalize hws : (if decide (wy < 4) = true then ([] : List V) else [V.str z]) = ws at hfo7 hfo8
      have hw1 : ws.length ≤ 1 := by
        rw [← hws]
        split <;> simp
      have kp9 : Kp (fun a => a = fo) H8 (upd H8 fo (.lst (ws ++ [u]))) := Kp.set hfo8 rfl
      have hG9 := hG.put hk8' hG8 hfo0 (o := .lst (ws ++ [u]))
      have hk9 := hk8'.put hfo0 (o := .lst (ws ++ [u]))
      have hfo9 : (upd H8 fo (.lst (ws ++ [u]))) fo = some (.lst (ws ++ [u])) := upd_same
      generalize upd H8 fo (.lst (ws ++ [u])) = H9 at kp9 hG9 hk9 hfo9
      have htk9 := kp9 _ _ htk8 (.inl (Ne.symm nft))
      have hfr9 := kp9 _ _ hfr8 (.inl (Ne.symm nff))
      have hr9 := hr8.kp kp9 fun x hx => gfo x hx
      have r9 := r8.kp kp9 fun x hx => (n8 x hx).2.2.2
      -- what it takes else
      refine ⟨_, rfl, .inl ⟨rfl, _, SqL.of hfo9⟩, _, rfl, _, rfl, _, rfl, p, B, L, kA, n + 9 + i * (cP dp + 2200) + 7 + cP dp, a2, rfl, hG9, by omega, ?_⟩
      rintro u2 H10 ⟨d2, G10, hG10, hk10, r10, f10, okd2⟩
      have hk10' := hk9.trans hk10
      have hfo10 := hk10 _ _ hfo9 (.inl (noSf hfo0))
      have htk10 := hk10 _ _ htk9 (.inl (noSf htk0))
      have hfr10 := hk10 _ _ hfr9 (.inl (noSf hfr0))
      have hr10 := hr9.kp hk10 fun x hx => noSf (hf5 x hx).1
      have r9' := r9.kp hk10 fun x hx => noSf (n8 x hx).1
      have n10 : ∀ x ∈ G10, H x = none ∧ x ≠ tk ∧ x ≠ fr ∧ x ≠ fo := fun x hx => ⟨hG.free hk9 hG9 (f10 x hx), (ne_of_none htk9 (f10 x hx)).symm, (ne_of_none hfr9 (f10 x hx)).symm, (ne_of_none hfo9 (f10 x hx)).symm⟩
      refine ⟨fo, _, _, rfl, rfl, hfo10, Nat.lt_of_le_of_lt (show (ws ++ [u]).length ≤ 2 by rw [List.length_append]; show ws.length + 1 ≤ 2; omega) (by decide), ?_⟩
      have kp11 : Kp (fun a => a = fo) H10 (upd H10 fo (.lst (ws ++ [u] ++ [u2]))) := Kp.set hfo10 rfl
      have hG11 := hG.put hk10' hG10 hfo0 (o := .lst (ws ++ [u] ++ [u2]))
      have hk11 := hk10'.put hfo0 (o := .lst (ws ++ [u] ++ [u2]))
      have hfo11 : (upd H10 fo (.lst (ws ++ [u] ++ [u2]))) fo = some (.lst (ws ++ [u] ++ [u2])) := upd_same
      generalize upd H10 fo (.lst (ws ++ [u] ++ [u2])) = H11 at kp11 hG11 hk11 hfo11
      have htk11 := kp11 _ _ htk10 (.inl (Ne.symm nft))
      have hfr11 := kp11 _ _ hfr10 (.inl (Ne.symm nff))
      have hr11 := hr10.kp kp11 fun x hx => gfo x hx
      have ra := r9'.kp kp11 fun x hx => (n8 x hx).2.2.2
      have rb := r10.kp kp11 fun x hx => (n10 x hx).2.2.2
      -- both, as a tuple
      refine ⟨_, rfl, .inl ⟨rfl, _, SqL.of htk11⟩, _, rfl, fo, _, rfl, .inl ⟨SqL.of hfo11, fun t ht => ?_⟩⟩
      have st := same_new ht (.tup (ws ++ [u] ++ [u2]))
      have htk12 := st _ _ htk11
      have ht12 : (upd H11 t (.tup (ws ++ [u] ++ [u2]))) t = some (.tup (ws ++ [u] ++ [u2])) := upd_same
      have hG12 := hG11.same st
      have hk12 := hk11.trans (.same st)
      have hyl : ys.length = qs.length := by
        rw [hr7.len, List.length_map]
      refine ⟨tk, _, _, rfl, rfl, htk12, Nat.lt_of_le_of_lt (show ys.length ≤ 1000 by omega) (by decide), ?_⟩
      have kp13 : Kp (fun a => a = tk) (upd H11 t (.tup (ws ++ [u] ++ [u2]))) (upd (upd H11 t (.tup (ws ++ [u] ++ [u2]))) tk (.lst (ys ++ [.ref t]))) := Kp.set htk12 rfl
      have dis : ∀ x ∈ G8, x ∉ G10 := fun x hx hy => by
        obtain ⟨zs, e⟩ := r9.at_ x hx
        rw [f10 x hy] at e
        cases e
      have RE : Rep (upd H11 t (.tup (ws ++ [u] ++ [u2]))) (ent (decide (wy < 4)) (z, d, d2)) (.ref t) (G8 ++ G10) := by
        refine ent_rep ?_ (ra.same st) (rb.same st) dis
        rw [hws]
        exact ht12
      refine ⟨⟨a2, qs ++ [(z, d, d2)], ys ++ [.ref t], G0 ++ (G8 ++ G10), zf', (hG.put hk12 hG12 htk0).mono (by omega), hk12.put htk0, upd_same, (by rw [upd_ne (Ne.symm htf)]; exact st _ _ hfr11), ?_, fun x hx => ?_, ?_, fun q hq => ?_, hzl', hzo'⟩, _, _, _, rfl⟩
      · rw [List.map_append]
        refine Reps.snoc ((hr11.same st).kp kp13 fun x hx => (hf5 x hx).2.1) (RE.kp kp13 fun x hx => ?_) fun x hx hy => ?_
        · rcases List.mem_append.mp hx with y | y
          · exact (n8 x y).2.1
          · exact (n10 x y).2.1
        · rcases List.mem_append.mp hy with y | y
          · obtain ⟨zs, e⟩ := hr7.at_ x hx
            rw [f8 x y] at e
            cases e
          · obtain ⟨zs, e⟩ := hr9.at_ x hx
            rw [f10 x y] at e
            cases e
      · rcases List.mem_append.mp hx with y | y
        · exact hf5 x y
        · rcases List.mem_append.mp y with y | y
          · exact ⟨(n8 x y).1, (n8 x y).2.1, (n8 x y).2.2.1⟩
          · exact ⟨(n10 x y).1, (n10 x y).2.1, (n10 x y).2.2.1⟩
      · rw [List.length_append]
        show qs.length + 1 ≤ i + 1
        omega
      · rcases List.mem_append.mp hq with y | y
        · exact hqs q y
        · rw [List.mem_singleton.mp y]
          exact ⟨hzT, okd, okd2⟩
    · rintro σ' H5 ⟨⟨a', qs, ys, G0, zf, hG5, hk5, htk5, hfr5, hr5, hf5, hlen, hqs, hzl, hzo⟩, v9, v10, v11, rfl⟩
      have hi3 : dr.toNat ≤ 20 := by omega
      have hcost : dr.toNat * (cP dp + 2200) ≤ 20 * (cP dp + 2200) := Nat.mul_le_mul_right _ hi3
      exact ⟨⟨a', qs, ys, G0, zf, hG5.mono (by omega), hk5, htk5, hfr5, hr5, hf5, by omega, hqs, hzl, hzo⟩, _, _, _, rfl⟩
  clear hG2 hk2 htk2 hfr2
  rintro _ H2 ⟨⟨a', qs, ys, G0, zf, hG5, hk5, htk5, hfr5, hr5, hf5, hlen, hqs, hzl, hzo⟩, v9, v10, v11, rfl⟩
  -- the part
  refine ⟨_, rfl, _, _, rfl, rfl, _, rfl, ?_⟩
  have fin : ∀ s : String, (s = if decide (wy < 4) = true then "row" else "record") → tTup (tCons (tC (.str (Str.ofString s))) (tCons (tVar 7) (tCons (tVar 6) tNil))) [some (.ref p), some (.ref B), some (.ref L), some (.int ((dp + 1 : Nat) : Int)), none, some (.int wy), some rv, some (.ref tk), some (.ref fr), v9, v10, v11] H2 Q := fun s hs => by
    refine ⟨_, rfl, _, rfl, by show 3 ≤ sizeLine; decide, fun tp htp => ?_⟩
    have st := same_new htp (.tup [.str (Str.ofString s), .ref tk, rv])
    refine kk _ _ a' ⟨.tup [S s, .lst (qs.map (ent (decide (wy < 4)))), .leaf rv], tk :: G0, (hG5.same st).mono (by omega), hk5.trans (.same st), ?_, fun x hx => ?_, ?_⟩
    · have z := reps_cons (rep_lst (st _ _ htk5) (hr5.same st) fun z => (hf5 tk z).2.1 rfl) (reps_leaf hrl reps_nil) (fun _ _ z => nomatch z)
      rw [List.append_nil] at z
      exact rep_tup upd_same (reps_leaf leaf_str z)
    · rcases List.mem_cons.mp hx with z | z
      · exact z ▸ htk0
      · exact (hf5 x z).1
    · exact .inr (.inr (.inr ⟨_, qs, _, by rw [hs], hrv, by omega, hqs⟩))
  exact ite2 (fun c => fin "row" (by rw [if_pos c])) (fun c => fin "record" (by rw [if_neg c]))
end
end K03
set_option Elab.async false
set_option linter.all false
set_option maxRecDepth 100000
set_option maxHeartbeats 4000000
namespace K03
open PySem L2 PyProof.Rows
/-- the whole of a plan -/
structure PlanAt (H : Hp) (t : Addr) (d : D) (r s : Str) (G : List Addr) : Prop where
  ex : ∃ u, H t = some (.tup [u, .str r, .str s]) ∧ Rep H d u G
  ord : OkT r
  lck : OkT s
def cPl : Nat := cP 6 + 2000
def spPlan : Sp := fun vs H Q _ => ∃ (p kA : Addr) (g : Bool) (w : Int) (ks : List Str) (n : Nat), vs = [.ref p, .bl g, .int w, .ref kA] ∧ Purse H p n ∧ n + cPl < 10 ^ 60 ∧ H kA = some (.lst (ks.map V.str)) ∧ kA ≠ p ∧
  ∀ (t : Addr) (d : D) (r s : Str) (G : List Addr) H', But p H H' → Purse H' p (n + cPl) → H t = none → PlanAt H' t d r s G → (∀ x ∈ G, H x = none) → PtW 7 d → Q (.ref t) H'
theorem Kp.but {p L : Addr} {H H1 H2 : Hp} (k : Kp (fun a => a = p ∨ a = L) H1 H2) (b : But p H H1) (hL : H L = none) : But p H H2 := fun c o nc e => k c o (b c o nc e) (.inl fun z => by
  rcases z with z | z
  · exact nc z
  · rw [z, hL] at e
    cases e)
section
variable {P : Program} {w : World} {K : PySem.W.Frag} {mg : Str → Option Value} {base : Heap}
theorem scPl : FnScope ["purse", "is_great", "wrong", "kinds", "sizes", "labels", "left", "piece", "rules", "size"] ["purse", "is_great", "wrong", "kinds"] (defScope sPlan) := ⟨rfl, rfl, rfl, by decide +kernel, rfl, by decide +kernel, by decide +kernel⟩
theorem ok_plan {f fC fW fP fR : Addr} {fd fdC fdW fdP fdR : FuncData} (F : Fun K "_law_ta_plan" "_law_ta_plan" sPlan f fd) (T : Txt K mg)
    (FC : Fun K "_law_coin" "_law_coin" sCoin fC fdC) (GC : FnOk P w K mg base CX0 1 fC fdC ["purse", "many"] spCoin) (bC : Binds K fdC ["purse", "many"] []) (mC : mg "_law_coin" = some (.ref fC))
    (FW : Fun K "_law_words" "_law_words" sWords fW fdW) (GW : FnOk P w K mg base CX0 2 fW fdW ["purse", "many"] spWords) (bW : Binds K fdW ["purse", "many"] []) (mW : mg "_law_words" = some (.ref fW))
    (FP : Fun K "_law_ta_part" "_law_ta_part" sPart fP fdP) (GP : FnOk P w K mg base CX0 15 fP fdP ["purse", "labels", "left", "deep"] (spPart 15)) (bP : Binds K fdP ["purse", "labels", "left", "deep"] []) (mP : mg "_law_ta_part" = some (.ref fP))
    (FR : Fun K "_law_ta_rules" "_law_ta_rules" sRules fR fdR) (GR : FnOk P w K mg base CX0 2 fR fdR ["purse", "left"] spRules) (bR : Binds K fdR ["purse", "left"] []) (mR : mg "_law_ta_rules" = some (.ref fR)) :
    FnOk P w K mg base CX0 16 f fd ["purse", "is_great", "wrong", "kinds"] spPlan := by
  refine F.ok scPl (fun vs H Q E h => ?_) (fun cdv A outer s H vs Q E hr h => ?_)
  · obtain ⟨p, kA, g, w0, ks, n, rfl, _⟩ := h
    rfl
  obtain ⟨p, kA, g, w0, ks, n, rfl, hp, hn, hkA, hkAp, kk⟩ := h
  have hr1 : Room 1 (A.deeper (envOfC "_law_ta_plan" (defScope sPlan) s.heap.objs.size f cdv)) := hr.mono (by omega)
  have hr2 : Room 2 (A.deeper (envOfC "_law_ta_plan" (defScope sPlan) s.heap.objs.size f cdv)) := hr.mono (by omega)
  refine ⟨_, Evl.pss_cut (ps_set (i := 4) scPl.nd rfl (Or.inl rfl) (pe_ifExp (pt_val (pv 1)) (pe_lst (pa_cons pe_int (pa_cons pe_int (pa_cons pe_int pa_nil)))) (pe_lst (pa_cons pe_int (pa_cons pe_int (pa_cons pe_int pa_nil))))))
    (Evl.pss_cut (ps_setLc (i := 5) (own := [("size", 9)]) (g := gName 9) (tt := tYes) (by rfl) scPl.nd rfl rfl (sw_true rfl rfl rfl (by decide +kernel)) (pi_list (pv 4)) (blkOk_by (N := ["purse", "is_great", "wrong", "kinds", "sizes", "labels", "left", "piece", "rules", "size"]) (sc := defScope sPlan) (by decide +kernel)) (fun _ _ _ _ _ => pg_name (i := 9) scPl.nd rfl (Or.inl rfl)) (fun _ _ _ _ _ => pts_nil)
        (fun _ _ _ _ _ => pe_call GW hr2 rfl mW FW.kp bW .nil pass0 (pa_cons (pv 0) (pa_cons (pe_op op_add pe_int (pe_call GC hr1 rfl mC FC.kp bC .nil pass0 (pa_cons (pv 0) (pa_cons (pv 9) pa_nil)))) pa_nil))))
    (Evl.pss_cut (ps_set (i := 6) scPl.nd rfl (Or.inl rfl) (pe_ifExp (pt_val (pv 1)) (pe_lst (pa_cons pe_int (pa_cons pe_int (pa_cons pe_int (pa_cons (pv 2) (pa_cons (pv 3) (pa_cons pe_int (pa_cons pe_int pa_nil)))))))) (pe_lst (pa_cons pe_int (pa_cons pe_int (pa_cons pe_int (pa_cons (pv 2) (pa_cons (pv 3) (pa_cons pe_int (pa_cons pe_int pa_nil))))))))))
    (Evl.pss_cut (ps_set (i := 7) scPl.nd rfl (Or.inl rfl) (pe_call GP hr rfl mP FP.kp bP .nil pass0 (pa_cons (pv 0) (pa_cons (pv 5) (pa_cons (pv 6) (pa_cons (pe_ifExp (pt_val (pv 1)) pe_int pe_int) pa_nil))))))
    (pss_cons (ps_set (i := 8) scPl.nd rfl (Or.inl rfl) (pe_call GR hr2 rfl mR FR.kp bR .nil pass0 (pa_cons (pv 0) (pa_cons (pv 6) pa_nil))))
    (pss_one (ps_ret (pe_tup (pa_cons (pv 7) (pa_cons (pe_ix ix_list (pv 8) pe_int (fun _ _ => rfl)) (pa_cons (pe_ix ix_list (pv 8) pe_int (fun _ _ => rfl)) pa_nil)))))))))), ?_⟩
  obtain ⟨po, hpo⟩ := hp.some
  have h6 : cPl = cP 6 + 2000 := rfl
  -- sizes
  refine ⟨fun σ' H' => Same H H' ∧ ∃ (sA : Addr) (ss : List Int), H sA = none ∧ H' sA = some (.lst (ss.map V.int)) ∧ ss.length = 3 ∧ (∀ x ∈ ss, 1 ≤ x ∧ x ≤ 9) ∧ σ' = [some (.ref p), some (.bl g), some (.int w0), some (.ref kA), some (.ref sA), none, none, none, none, none], ?_, ?_⟩
  · refine ⟨_, rfl, g, rfl, ?_⟩
    refine ite2 (fun _ => ⟨by show 3 ≤ sizeLine; decide, fun q hq => ?_⟩) (fun _ => ⟨by show 3 ≤ sizeLine; decide, fun q hq => ?_⟩)
    · exact ⟨same_new hq _, q, [9, 5, 9], hq, upd_same, rfl, by decide, rfl⟩
    · exact ⟨same_new hq _, q, [5, 2, 4], hq, upd_same, rfl, by decide, rfl⟩
  rintro _ H1 ⟨hs1, sA, ss, hsA0, hsA, hss3, hss, rfl⟩
  have nsp : sA ≠ p := hp.ne hsA0
  -- labels
  refine ⟨fun σ' H' => But p H H' ∧ Purse H' p (n + 3 * 402) ∧ ∃ (B : Addr) (rs : List Addr), H B = none ∧ H' B = some (.lst (rs.map V.ref)) ∧ rs.length = 3 ∧ (∀ r ∈ rs, H r = none ∧ r ≠ B ∧ ∃ z, Nam H' r z ∧ z.Nodup) ∧ σ' = [some (.ref p), some (.bl g), some (.int w0), some (.ref kA), some (.ref sA), some (.ref B), none, none, none, none], ?_, ?_⟩
  · refine ⟨_, rfl, sA, rfl, ⟨_, SqL.of hsA⟩, fun D0 hD => ?_⟩
    have nDp : D0 ≠ p := (hp.same hs1).ne hD
    refine lc_list (K := K) (a := sA) (xs := ss.map V.int) (fun i H2 => But p H H2 ∧ H2 sA = some (.lst (ss.map V.int)) ∧ Purse H2 p (n + i * 402) ∧ ∃ rs : List Addr, H2 D0 = some (.lst (rs.map V.ref)) ∧ rs.length = i ∧ ∀ r ∈ rs, H r = none ∧ r ≠ D0 ∧ ∃ z, Nam H2 r z ∧ z.Nodup)
      ⟨(But.of hs1).trans (.new hD), same_new hD _ _ _ hsA, (by rw [Nat.zero_mul]; exact (hp.same hs1).same (same_new hD _)), [], upd_same, rfl, fun _ z => nomatch z⟩ (fun i H2 _ ⟨_, h, _⟩ => SqL.of h) ?_ ?_
    · rintro i x H2 hi ⟨hb2, hsA2, hp2, rs, hD2, hl, hrs⟩
      refine ⟨rfl, ?_⟩
      have hi3 : i < 3 := by
        have q := (List.getElem?_eq_some_iff.mp hi).1
        rw [List.length_map] at q
        omega
      obtain ⟨sz, hsz, rfl⟩ := List.mem_map.mp (List.mem_of_getElem? hi)
      obtain ⟨g1, g2⟩ := hss sz hsz
      show tCall spWords [] E0 (tCons (tVar 0) (tCons _ tNil)) _ H2 _
      refine ⟨_, rfl, _, rfl, _, rfl, p, sz, n + i * 402, rfl, hp2, by omega, by omega, by omega, fun d H3 d0 d1 hb3 hp3 => ⟨_, _, rfl, rfl, p, (1 + d).toNat, n + i * 402 + 1, ?_, by omega, by omega, hp3, by omega, fun r zs H4 hA hr hzs hzl hnd hok => ?_⟩⟩
      · show [V.ref p, V.int (1 + d)] = _
        rw [show (((1 + d).toNat : Nat) : Int) = 1 + d by omega]
      have hb4 := (hb2.trans hb3).trans hA.1
      have hr0 : H r = none := (hb2.trans hb3).free hpo hp3.some hr
      have hD4 := hA.1 _ _ nDp (hb3 _ _ nDp hD2)
      have hrD : r ≠ D0 := (ne_of_none (hb3 _ _ nDp hD2) hr).symm
      refine ⟨_, hD4, Nat.lt_of_le_of_lt (show (rs.map V.ref).length ≤ 3 by rw [List.length_map]; omega) (by decide), ?_, ?_, ?_, rs ++ [r], ?_, ?_, fun y hy => ?_⟩
      · intro b o nb e
        rw [upd_ne fun z => ?_]
        · exact hb4 b o nb e
        · rw [z, hs1.free hD] at e
          cases e
      · rw [upd_ne (ne_of_none hsA hD)]
        exact hA.1 _ _ nsp (hb3 _ _ nsp hsA2)
      · obtain ⟨x1, x2, x3, e, r2⟩ := hA.2.mono (show n + i * 402 + 1 + 400 ≤ n + (i + 1) * 402 by rw [Nat.succ_mul]; omega)
        exact ⟨x1, x2, x3, by rw [upd_ne (Ne.symm nDp)]; exact e, r2⟩
      · rw [upd_same, List.map_append]
        rfl
      · rw [List.length_append, hl]
        rfl
      · have up : ∀ {y : Addr} {z : List Str}, y ≠ D0 → Nam H4 y z → Nam (upd H4 D0 (.lst (rs.map V.ref ++ [.ref r]))) y z := fun ny h => ⟨by rw [upd_ne ny]; exact h.1, h.2⟩
        rcases List.mem_append.mp hy with y1 | y1
        · obtain ⟨a1, a2, z, a3, a4⟩ := hrs y y1
          have nyp : y ≠ p := hp.ne a1
          exact ⟨a1, a2, z, up a2 ⟨hA.1 _ _ nyp (hb3 _ _ nyp a3.1), a3.2⟩, a4⟩
        · rw [List.mem_singleton.mp y1]
          exact ⟨hr0, hrD, zs, up hrD ⟨hzs, by omega, by omega, hok⟩, hnd⟩
    · rintro H2 ⟨hb2, hsA2, hp2, rs, hD2, hl, hrs⟩
      rw [List.length_map, hss3] at hp2 hl
      exact ⟨hb2, hp2, D0, rs, hs1.free hD, hD2, hl, hrs, rfl⟩
  clear hsA hs1
  rintro _ H1 ⟨hb1, hp1, B, rs, hB0, hB, hrl, hrs, rfl⟩
  have hkA1 := hb1 _ _ hkAp hkA
  obtain ⟨n0, n1, n2, rfl⟩ : ∃ n0 n1 n2, rs = [n0, n1, n2] := by
    match rs, hrl with
    | [a, b, c], _ => exact ⟨a, b, c, rfl⟩
  obtain ⟨q0, q0B, z0, hN0, _⟩ := hrs n0 (by simp)
  obtain ⟨q1, q1B, z1, hN1, _⟩ := hrs n1 (by simp)
  obtain ⟨q2, q2B, z2, hN2, hnd⟩ := hrs n2 (by simp)
  -- what may still be drawn
  refine ⟨fun σ' H' => ∃ L : Addr, Gn H' p L B kA (n + 3 * 402) (if g = true then 60 else 8) ∧ But p H H' ∧ H L = none ∧ σ' = [some (.ref p), some (.bl g), some (.int w0), some (.ref kA), some (.ref sA), some (.ref B), some (.ref L), none, none, none], ?_, ?_⟩
  · have mk : ∀ (L : Addr) (aa d i c l : Int), H1 L = none → 0 ≤ i ∧ i ≤ 20 ∧ 1 ≤ l ∧ l ≤ 5 → Gn (upd H1 L (.lst [.int aa, .int d, .int i, .int w0, .ref kA, .int c, .int l])) p L B kA (n + 3 * 402) aa ∧ But p H (upd H1 L (.lst [.int aa, .int d, .int i, .int w0, .ref kA, .int c, .int l])) ∧ H L = none := fun L aa d i c l hL hl => by
      have st := same_new hL (.lst [.int aa, .int d, .int i, .int w0, .ref kA, .int c, .int l])
      have nn : ∀ {y : Addr} {o : HO}, H1 y = some o → y ≠ L := fun e => ne_of_none e hL
      have st2 : ∀ {y : Addr} {z : List Str}, Nam H1 y z → Nam (upd H1 L (.lst [.int aa, .int d, .int i, .int w0, .ref kA, .int c, .int l])) y z := fun h => ⟨st _ _ h.1, h.2⟩
      refine ⟨⟨hp1.same st, ⟨d, i, w0, c, l, ks, upd_same, hl, st _ _ hkA1, hkAp, nn hkA1⟩, hp1.ne hL, ⟨n0, n1, n2, z0, z1, z2, st _ _ hB, st2 hN0, st2 hN1, st2 hN2, hp.ne hB0, nn hB, hp.ne q0, nn hN0.1, hp.ne q1, nn hN1.1, hp.ne q2, nn hN2.1⟩⟩, hb1.trans (.of st), hb1.free hpo hp1.some hL⟩
    refine ⟨_, rfl, g, rfl, ?_⟩
    cases g with
    | true =>
      refine iteT ⟨_, rfl, _, rfl, by show 7 ≤ sizeLine; decide, fun L hL => ?_⟩
      obtain ⟨m1, m2, m3⟩ := mk L 60 28 20 40 5 hL (by decide)
      exact ⟨L, m1, m2, m3, rfl⟩
    | false =>
      refine iteF ⟨_, rfl, _, rfl, by show 7 ≤ sizeLine; decide, fun L hL => ?_⟩
      obtain ⟨m1, m2, m3⟩ := mk L 8 3 3 6 2 hL (by decide)
      exact ⟨L, m1, m2, m3, rfl⟩
  clear hb1 hp1 hB hN0 hN1 hN2 hrs
  rintro _ H1 ⟨L, hG1, hb1, hL0, rfl⟩
  -- the part
  refine ⟨fun σ' H' => ∃ (u : V) (d : D) (G0 : List Addr) (a' : Int), Gn H' p L B kA (n + 3 * 402 + cP 6) a' ∧ But p H H' ∧ Rep H' d u G0 ∧ (∀ x ∈ G0, H x = none) ∧ PtW 7 d ∧ σ' = [some (.ref p), some (.bl g), some (.int w0), some (.ref kA), some (.ref sA), some (.ref B), some (.ref L), some u, none, none], ?_, ?_⟩
  · have c3 : cP 3 ≤ cP 6 := by decide
    have fr : ∀ {x : Addr}, H1 x = none → H x = none := fun h => hb1.free hpo hG1.pu.some h
    refine ⟨_, rfl, _, rfl, _, rfl, _, rfl, g, rfl, ?_⟩
    cases g with
    | true =>
      refine iteT ⟨p, B, L, kA, n + 3 * 402, 6, 60, rfl, by decide, hG1, by omega, ?_⟩
      rintro u H2 a' ⟨d, G0, hG2, hk2, r2, f2, o1⟩
      exact ⟨u, d, G0, a', hG2, hk2.but hb1 hL0, r2, fun x hx => fr (f2 x hx), o1, rfl⟩
    | false =>
      refine iteF ⟨p, B, L, kA, n + 3 * 402, 3, 8, rfl, by decide, hG1, by omega, ?_⟩
      rintro u H2 a' ⟨d, G0, hG2, hk2, r2, f2, o1⟩
      exact ⟨u, d, G0, a', hG2.mono (by omega), hk2.but hb1 hL0, r2, fun x hx => fr (f2 x hx), o1.le (by decide), rfl⟩
  clear hG1 hb1
  rintro _ H1 ⟨u, d, G0, a', hG1, hb1, r1, f1, o1, rfl⟩
  -- the words
  refine ⟨_, rfl, _, rfl, p, L, B, kA, n + 3 * 402 + cP 6, a', rfl, hG1, by omega, fun fA r s H2 hr hs hb2 hp2 hfA0 hfA => ?_⟩
  have r2 := r1.kp (hb2.kp hG1.pu) fun x hx z => (hp.ne (f1 x hx)) z
  refine ⟨_, rfl, _, rfl, fA, _, _, _, rfl, rfl, SqL.of hfA, atI_nat (j := 0) rfl, _, rfl, fA, _, _, _, rfl, rfl, SqL.of hfA, atI_nat (j := 1) rfl, by show 3 ≤ sizeLine; decide, fun t ht => ?_⟩
  have st := same_new ht (.tup [u, .str r, .str s])
  exact kk t d r s G0 _ ((hb1.trans hb2).trans (.of st)) ((hp2.same st).mono (by omega)) ((hb1.trans hb2).free hpo hp2.some ht) ⟨⟨u, upd_same, r2.same st⟩, hr, hs⟩ f1 o1
end
end K03
set_option Elab.async false
set_option linter.all false
set_option maxRecDepth 100000
set_option maxHeartbeats 4000000
namespace K03.Cl
open PySem L2 PyProof.Rows
/-! ### what the drawing of a pattern stands on -/
theorem pt_never {X : Cx} {e : Expr} : PT X e (fun _ _ _ => False) := ⟨fun _ _ _ _ _ _ h => h.elim⟩
theorem pw_never {X : Cx} {e : Expr} : PW X e (fun _ _ _ => False) := ⟨fun _ _ _ _ _ _ _ h => h.elim⟩
theorem But.kp {p : Addr} {H H' : Hp} {n : Nat} (h : But p H H') (q : Purse H p n) : Kp (fun a => a = p) H H' := fun b o e z => by
  rcases z with z | z
  · exact h b o z e
  · refine h b o (fun y => ?_) e
    obtain ⟨a1, a2, a3, e2, _⟩ := q
    rw [y, e2] at e
    exact z _ (Option.some.inj e).symm
/-- what may still be drawn; the words alone may be wrong -/
def Ks (H : Hp) (p L kA : Addr) (kv : V) : Prop := kv = .ref kA ∧ H kA = some (.lst [.str (Str.ofString "rule")]) ∧ kA ≠ p ∧ kA ≠ L
def Left (H : Hp) (p L kA : Addr) (a : Int) : Prop := ∃ (d i c l : Int) (kv : V), H L = some (.lst [.int a, .int d, .int i, .int 1, kv, .int c, .int l]) ∧ (0 ≤ i ∧ i ≤ 20 ∧ 1 ≤ l ∧ l ≤ 5) ∧ Ks H p L kA kv
theorem Ks.same {H H1 : Hp} {p L kA : Addr} {kv : V} (h : Ks H p L kA kv) (s : Same H H1) : Ks H1 p L kA kv := ⟨h.1, s _ _ h.2.1, h.2.2⟩
theorem Ks.but {H H1 : Hp} {p L kA : Addr} {kv : V} (h : Ks H p L kA kv) (s : But p H H1) : Ks H1 p L kA kv := ⟨h.1, s _ _ h.2.2.1 h.2.1, h.2.2⟩
theorem Ks.put {H : Hp} {p L kA x : Addr} {kv : V} {o : HO} (h : Ks H p L kA kv) (n : kA ≠ x) : Ks (upd H x o) p L kA kv := ⟨h.1, by rw [upd_ne n]; exact h.2.1, h.2.2⟩
def Nam (H : Hp) (n : Addr) (z : List Str) : Prop := H n = some (.lst (z.map V.str)) ∧ 1 ≤ z.length ∧ z.length ≤ 26 ∧ ∀ y ∈ z, okName y
def Lbl (H : Hp) (B p L : Addr) : Prop := ∃ n0 n1 n2 z0 z1 z2, H B = some (.lst [.ref n0, .ref n1, .ref n2]) ∧ Nam H n0 z0 ∧ Nam H n1 z1 ∧ Nam H n2 z2 ∧ z2.Nodup ∧ B ≠ p ∧ B ≠ L ∧ n0 ≠ p ∧ n0 ≠ L ∧ n1 ≠ p ∧ n1 ≠ L ∧ n2 ≠ p ∧ n2 ≠ L
theorem Nam.kp {S : Addr → Prop} {H H1 : Hp} {n : Addr} {z : List Str} (h : Nam H n z) (k : Kp S H H1) (hn : ¬ S n) : Nam H1 n z := ⟨k _ _ h.1 (.inl hn), h.2⟩
theorem Lbl.kp {H H1 : Hp} {B p L : Addr} (h : Lbl H B p L) (k : Kp (fun a => a = p ∨ a = L) H H1) : Lbl H1 B p L := by
  obtain ⟨n0, n1, n2, z0, z1, z2, hB, h0, h1, h2, nd, b1, b2, b3, b4, b5, b6, b7, b8⟩ := h
  have no : ∀ {a : Addr}, a ≠ p → a ≠ L → ¬ (a = p ∨ a = L) := fun x y z => z.elim x y
  exact ⟨n0, n1, n2, z0, z1, z2, k _ _ hB (.inl (no b1 b2)), h0.kp k (no b3 b4), h1.kp k (no b5 b6), h2.kp k (no b7 b8), nd, b1, b2, b3, b4, b5, b6, b7, b8⟩
/-- a generator's surroundings -/
structure Gn (H : Hp) (p L B kA : Addr) (n : Nat) (a : Int) : Prop where
  pu : Purse H p n
  lf : Left H p L kA a
  ne : L ≠ p
  lb : Lbl H B p L
section
variable {H H1 : Hp} {p L B kA : Addr} {n m : Nat} {a : Int}
theorem Gn.mono (h : Gn H p L B kA n a) (hm : n ≤ m) : Gn H p L B kA m a := ⟨h.pu.mono hm, h.lf, h.ne, h.lb⟩
theorem Gn.same (h : Gn H p L B kA n a) (s : Same H H1) : Gn H1 p L B kA n a := by
  refine ⟨h.pu.same s, ?_, h.ne, h.lb.kp (.same s)⟩
  obtain ⟨d, i, c, l, kv, e, r⟩ := h.lf
  exact ⟨d, i, c, l, kv, s _ _ e, r.1, r.2.same s⟩
theorem Gn.draw (h : Gn H p L B kA n a) (b : But p H H1) (q : Purse H1 p m) : Gn H1 p L B kA m a := by
  refine ⟨q, ?_, h.ne, h.lb.kp ((b.kp h.pu).wide fun _ z => .inl z)⟩
  obtain ⟨d, i, c, l, kv, e, r⟩ := h.lf
  exact ⟨d, i, c, l, kv, b _ _ h.ne e, r.1, r.2.but b⟩
theorem Gn.left (h : Gn H p L B kA n a) {a' d i c l : Int} {kv : V} (hi : (0 ≤ i ∧ i ≤ 20 ∧ 1 ≤ l ∧ l ≤ 5) ∧ Ks H p L kA kv) : Gn (upd H L (.lst [.int a', .int d, .int i, .int 1, kv, .int c, .int l])) p L B kA n a' ∧ Kp (fun a => a = p ∨ a = L) H (upd H L (.lst [.int a', .int d, .int i, .int 1, kv, .int c, .int l])) := by
  obtain ⟨d0, i0, c0, l0, kv0, e, _⟩ := h.lf
  have k : Kp (fun a => a = p ∨ a = L) H (upd H L (.lst [.int a', .int d, .int i, .int 1, kv, .int c, .int l])) := Kp.set e (.inr rfl)
  refine ⟨⟨?_, ⟨d, i, c, l, kv, upd_same, hi.1, hi.2.put hi.2.2.2.2⟩, h.ne, h.lb.kp k⟩, k⟩
  obtain ⟨x, y, z, e2, r⟩ := h.pu
  exact ⟨x, y, z, by rw [upd_ne h.ne.symm]; exact e2, r⟩
theorem Gn.kd (h : Gn H p L B kA n a) (b : But p H H1) : Kp (fun a => a = p ∨ a = L) H H1 := (b.kp h.pu).wide fun _ z => .inl z
end
theorem at7_0 {a b c d e f g : V} : atI [a, b, c, d, e, f, g] 0 = some a := atI_nat (j := 0) rfl
theorem at7_1 {a b c d e f g : V} : atI [a, b, c, d, e, f, g] 1 = some b := atI_nat (j := 1) rfl
theorem at7_2 {a b c d e f g : V} : atI [a, b, c, d, e, f, g] 2 = some c := atI_nat (j := 2) rfl
theorem at7_3 {a b c d e f g : V} : atI [a, b, c, d, e, f, g] 3 = some d := atI_nat (j := 3) rfl
theorem at7_4 {a b c d e f g : V} : atI [a, b, c, d, e, f, g] 4 = some e := atI_nat (j := 4) rfl
theorem at7_5 {a b c d e f g : V} : atI [a, b, c, d, e, f, g] 5 = some f := atI_nat (j := 5) rfl
theorem at7_6 {a b c d e f g : V} : atI [a, b, c, d, e, f, g] 6 = some g := atI_nat (j := 6) rfl
/-- a term of at most so many levels -/
def TmOk : Nat → D → Prop
  | 0, _ => False
  | n + 1, d => (∃ i, d = .tup [S "number", .leaf (.int i)]) ∨ (∃ z, okName z ∧ d = .tup [S "read", .leaf (.str z)]) ∨ ∃ z ts, okName z ∧ d = .tup [S "call", .leaf (.str z), .lst ts] ∧ ts.length ≤ 3 ∧ ∀ t ∈ ts, TmOk n t
theorem TmOk.succ : ∀ {n : Nat} {d : D}, TmOk n d → TmOk (n + 1) d
  | 0, _, h => h.elim
  | n + 1, d, h => by
    rcases h with h | h | ⟨z, ts, hz, e, hl, ht⟩
    · exact .inl h
    · exact .inr (.inl h)
    · exact .inr (.inr ⟨z, ts, hz, e, hl, fun t m => (ht t m).succ⟩)
theorem TmOk.le {n m : Nat} {d : D} (h : TmOk n d) (hm : n ≤ m) : TmOk m d := by
  induction hm with
  | refl => exact h
  | step _ ih => exact ih.succ
def cT : Nat → Nat
  | 0 => 0
  | k + 1 => 6 + 3 * cT k
def spName : Sp := fun vs H Q _ => ∃ (p L A : Addr) (z : List Str) (n : Nat) (a : Int), vs = [.ref p, .ref A, .ref L] ∧ Purse H p n ∧ n + 1 < 10 ^ 60 ∧ Nam H A z ∧ A ≠ p ∧ (∃ kA, Left H p L kA a) ∧ L ≠ p ∧
  ∀ y H', y ∈ z → But p H H' → Purse H' p (n + 1) → Q (.str y) H'
/-- a new datum behind a drawing -/
def New (H : Hp) (p L B kA : Addr) (n : Nat) (a : Int) (ok : D → Prop) (u : V) (H' : Hp) : Prop := ∃ d G, Gn H' p L B kA n a ∧ Kp (fun a => a = p ∨ a = L) H H' ∧ Rep H' d u G ∧ (∀ x ∈ G, H x = none) ∧ ok d
def spTerm (k : Nat) : Sp := fun vs H Q _ => ∃ (p B L kA : Addr) (n m : Nat) (a : Int), vs = [.ref p, .ref B, .ref L, .int (m : Int)] ∧ 1 ≤ m ∧ m ≤ 5 ∧ m + 2 ≤ k ∧ Gn H p L B kA n a ∧ n + cT m < 10 ^ 60 ∧
  ∀ u H', New H p L B kA (n + cT m) a (TmOk m) u H' → Q u H'
section
variable {P : Program} {w : World} {K : PySem.W.Frag} {mg : Str → Option Value} {base : Heap}
theorem scNm : FnScope ["purse", "names", "left", "name", "wide", "at", "sign", "menu"] ["purse", "names", "left"] (defScope sName) := ⟨rfl, rfl, rfl, by decide +kernel, rfl, by decide +kernel, by decide +kernel⟩
theorem ok_name {f fC : Addr} {fd fdC : FuncData} (F : Fun K "_law_ta_name" "_law_ta_name" sName f fd) (T : Txt K mg) (FC : Fun K "_law_coin" "_law_coin" sCoin fC fdC) (GC : FnOk P w K mg base CX0 1 fC fdC ["purse", "many"] spCoin) (bC : Binds K fdC ["purse", "many"] []) (mC : mg "_law_coin" = some (.ref fC)) :
    FnOk P w K mg base CX0 2 f fd ["purse", "names", "left"] spName := by
  refine F.ok scNm (fun vs H Q E h => ?_) (fun cdv A outer s H vs Q E hr h => ?_)
  · obtain ⟨p, L, A, z, n, a, rfl, _⟩ := h
    rfl
  obtain ⟨p, L, A, z, n, a, rfl, hp, hn, hA, hAp, hL, hLp, kk⟩ := h
  refine ⟨_, pss_cons (ps_set (i := 3) scNm.nd rfl (Or.inl rfl) (pe_ix ix_list (pv 1) (pe_call GC hr rfl mC FC.kp bC .nil pass0 (pa_cons (pv 0) (pa_cons (pe_callB call_len_seq (by rfl) T.len PySem.boot_len (pa_cons (pv 1) pa_nil)) pa_nil))) (fun _ _ => rfl)))
    (pss_cons (ps_if (pw_or (pt_cmpR op_lt (pe_ix ix_list (pv 2) pe_int (fun _ _ => rfl)) pe_int (nomark _)) (pw_or (pt_cmpR op_notIn_seq pe_str (pe_ix ix_list (pv 2) pe_int (fun _ _ => rfl)) (by rfl)) pw_never)).pt (pss_one (ps_ret (pv 3))) pss_nil) pss_never), ?_⟩
  obtain ⟨hz, hz1, hz26, hzn⟩ := hA
  obtain ⟨kA, d, i, c, l, kv, hl, _, rfl, hkA, nkp, nkL⟩ := hL
  refine ⟨_, rfl, _, rfl, _, rfl, A, _, rfl, .inl (SqL.of hz), p, _, n, rfl, hp, by omega, (by rw [List.length_map]; omega), (by rw [List.length_map]; omega), fun dr H1 d0 d1 hb hp1 => ?_⟩
  rw [List.length_map] at d1
  obtain ⟨j, rfl⟩ : ∃ j : Nat, dr = (j : Int) := ⟨dr.toNat, by omega⟩
  have hj : j < z.length := by omega
  refine ⟨A, _, _, .str z[j], rfl, rfl, SqL.of (hb _ _ hAp hz), atI_nat (by rw [List.getElem?_map, List.getElem?_eq_getElem hj]; rfl), ?_⟩
  refine ⟨_, rfl, L, _, _, _, rfl, rfl, SqL.of (hb _ _ hLp hl), at7_3, _, _, rfl, rfl, _, rfl, ?_⟩
  refine ifF (decide_eq_false (by decide)) ⟨_, rfl, L, _, _, _, rfl, rfl, SqL.of (hb _ _ hLp hl), at7_4, kA, _, rfl, .inl (SqL.of (hb _ _ nkp hkA)), rfl, (by rfl), _, rfl, ?_⟩
  refine ifT (by decide +kernel) (iteT ⟨_, rfl, ?_⟩)
  exact kk _ H1 (List.getElem_mem hj) hb hp1
end
end K03.Cl
set_option Elab.async false
set_option linter.all false
set_option maxRecDepth 100000
set_option maxHeartbeats 4000000
namespace K03.Cl
open PySem L2 PyProof.Rows
theorem leaf_str {z : Str} : Leaf (.str z) := .inr (.inr (.inr ⟨z, rfl⟩))
theorem leaf_int {i : Int} : Leaf (.int i) := .inr (.inr (.inl ⟨i, rfl⟩))
theorem leaf_non : Leaf .non := .inl rfl
theorem rep_leaf {H : Hp} {v : V} (h : Leaf v) : Rep H (.leaf v) v [] := ⟨rfl, h, rfl⟩
theorem reps_nil {H : Hp} : Reps H [] [] [] := ⟨rfl, rfl⟩
theorem reps_leaf {H : Hp} {v : V} {ds : List D} {xs : List V} {F : List Addr} (h : Leaf v) (r : Reps H ds xs F) : Reps H (.leaf v :: ds) (v :: xs) F := ⟨v, xs, [], F, rfl, rep_leaf h, r, (fun _ z => nomatch z), rfl⟩
theorem rep_tup {H : Hp} {a : Addr} {ds : List D} {xs : List V} {F : List Addr} (h : H a = some (.tup xs)) (r : Reps H ds xs F) : Rep H (.tup ds) (.ref a) F := ⟨a, xs, rfl, h, r⟩
theorem rep_lst {H : Hp} {a : Addr} {ds : List D} {xs : List V} {F : List Addr} (h : H a = some (.lst xs)) (r : Reps H ds xs F) (n : a ∉ F) : Rep H (.lst ds) (.ref a) (a :: F) := ⟨a, xs, F, rfl, h, r, n, rfl⟩
theorem reps_one {H : Hp} {d : D} {v : V} {F : List Addr} (h : Rep H d v F) : Reps H [d] [v] F := ⟨v, [], F, [], rfl, h, reps_nil, (fun _ _ z => nomatch z), (List.append_nil F).symm⟩
theorem reps_cons {H : Hp} {d : D} {v : V} {ds : List D} {xs : List V} {F G : List Addr} (h : Rep H d v F) (r : Reps H ds xs G) (n : ∀ a ∈ F, a ∉ G) : Reps H (d :: ds) (v :: xs) (F ++ G) := ⟨v, xs, F, G, rfl, h, r, n, rfl⟩
section
variable {H H1 : Hp} {p L B kA : Addr} {n m : Nat} {a b : Int}
theorem Gn.free (h : Gn H p L B kA n a) (k : Kp (fun a => a = p ∨ a = L) H H1) (h1 : Gn H1 p L B kA m b) {x : Addr} (hx : H1 x = none) : H x = none := by
  cases e : H x with
  | none => rfl
  | some o =>
    by_cases hp : x = p
    · obtain ⟨o2, e2⟩ := h1.pu.some
      rw [← hp, hx] at e2
      cases e2
    · by_cases hL : x = L
      · obtain ⟨d, i, c, l, kv, e2, _⟩ := h1.lf
        rw [← hL, hx] at e2
        cases e2
      · rw [k x o e (.inl fun z => z.elim hp hL)] at hx
        cases hx
theorem Gn.neP (h : Gn H p L B kA n a) {x : Addr} (hx : H x = none) : x ≠ p ∧ x ≠ L := by
  refine ⟨h.pu.ne hx, fun z => ?_⟩
  obtain ⟨d, i, c, l, kv, e2, _⟩ := h.lf
  rw [← z, hx] at e2
  cases e2
theorem Gn.noS (h : Gn H p L B kA n a) {x : Addr} (hx : H x = none) : ¬ (x = p ∨ x = L) := fun z => z.elim (h.neP hx).1 (h.neP hx).2
theorem Gn.put (h : Gn H p L B kA n a) (k : Kp (fun a => a = p ∨ a = L) H H1) (h1 : Gn H1 p L B kA m b) {x : Addr} {o : HO} (hx : H x = none) : Gn (upd H1 x o) p L B kA m b := by
  obtain ⟨np, nL⟩ := h.neP hx
  refine ⟨?_, ?_, h.ne, h.lb.kp (k.put hx)⟩
  · obtain ⟨y, z, w, e2, r⟩ := h1.pu
    exact ⟨y, z, w, by rw [upd_ne np.symm]; exact e2, r⟩
  · obtain ⟨d, i, c, l, kv, e2, r⟩ := h1.lf
    obtain ⟨_, _, _, _, _, _, _, _, k2, _⟩ := h.lf
    exact ⟨d, i, c, l, kv, by rw [upd_ne nL.symm]; exact e2, r.1, r.2.put (ne_of_none k2 hx)⟩
end
section
variable {P : Program} {w : World} {K : PySem.W.Frag} {mg : Str → Option Value} {base : Heap}
theorem scTm : FnScope ["purse", "labels", "left", "deep", "menu", "way", "name", "terms", "turn"] ["purse", "labels", "left", "deep"] (defScope sTerm) := ⟨rfl, rfl, rfl, by decide +kernel, rfl, by decide +kernel, by decide +kernel⟩
theorem at3n {x y z : V} {j : Nat} {v : V} (h : [x, y, z][j]? = some v) : atI [x, y, z] (j : Int) = some v := atI_nat h
theorem term_none {f : Addr} {fd : FuncData} {ps : List Str} : FnOk P w K mg base CX0 0 f fd ps (spTerm 0) := none_of fun vs H Q E h => by
  obtain ⟨p, B, L, kA, n, m, a, _, _, _, h1, _⟩ := h
  omega
theorem ok_term {f fC fN : Addr} {fd fdC fdN : FuncData} {k : Nat} (F : Fun K "_law_ta_term" "_law_ta_term" sTerm f fd) (T : Txt K mg)
    (FC : Fun K "_law_coin" "_law_coin" sCoin fC fdC) (GC : FnOk P w K mg base CX0 1 fC fdC ["purse", "many"] spCoin) (bC : Binds K fdC ["purse", "many"] []) (mC : mg "_law_coin" = some (.ref fC))
    (FN : Fun K "_law_ta_name" "_law_ta_name" sName fN fdN) (GN : FnOk P w K mg base CX0 2 fN fdN ["purse", "names", "left"] spName) (bN : Binds K fdN ["purse", "names", "left"] []) (mN : mg "_law_ta_name" = some (.ref fN))
    (G : FnOk P w K mg base CX0 k f fd ["purse", "labels", "left", "deep"] (spTerm k)) (b : Binds K fd ["purse", "labels", "left", "deep"] []) (m : mg "_law_ta_term" = some (.ref f)) :
    FnOk P w K mg base CX0 (k + 1) f fd ["purse", "labels", "left", "deep"] (spTerm (k + 1)) := by
  refine F.ok scTm (fun vs H Q E h => ?_) (fun cdv A outer s H vs Q E hr h => ?_)
  · obtain ⟨p, B, L, kA, n, m, a, rfl, _⟩ := h
    rfl
  obtain ⟨p, B, L, kA, n, mm, a, rfl, hm1, hm5, hmk, hG, hn, kk⟩ := h
  have hr1 : Room 1 (A.deeper (envOfC "_law_ta_term" (defScope sTerm) s.heap.objs.size f cdv)) := hr.mono (by omega)
  have hr2 : Room 2 (A.deeper (envOfC "_law_ta_term" (defScope sTerm) s.heap.objs.size f cdv)) := hr.mono (by omega)
  refine ⟨_, pss_cons (ps_if (PW.pt (pw_and (pt_cmpR op_gt (pe_ix ix_list (pv 2) pe_int (fun _ _ => rfl)) pe_int (nomark _)) (pw_and (pt_cmpR op_in_seq pe_str (pe_ix ix_list (pv 2) pe_int (fun _ _ => rfl)) (by rfl)) pw_never))) pss_never pss_nil)
    (pss_cons (ps_set (i := 5) scTm.nd rfl (Or.inl rfl) (pe_call GC hr1 rfl mC FC.kp bC .nil pass0 (pa_cons (pv 0) (pa_cons pe_int pa_nil))))
    (pss_cons (ps_if (pt_cmpR op_eq (pv 5) pe_int (nomark _)) (pss_one (ps_ret (pe_tup (pa_cons pe_str (pa_cons (pe_ix ix_list (pe_lst (pa_cons (pe_op op_sub (pe_call GC hr1 rfl mC FC.kp bC .nil pass0 (pa_cons (pv 0) (pa_cons pe_int pa_nil))) pe_int) (pa_cons (pe_op op_sub (pe_call GC hr1 rfl mC FC.kp bC .nil pass0 (pa_cons (pv 0) (pa_cons pe_int pa_nil))) pe_int) pa_nil)))
        (pe_call GC hr1 rfl mC FC.kp bC .nil pass0 (pa_cons (pv 0) (pa_cons pe_int pa_nil))) (fun _ _ => rfl)) pa_nil))))) pss_nil)
    (pss_cons (ps_if (PW.pt (pw_or (pt_cmpR op_lt (pv 5) pe_int (nomark _)) (pw_or1 (pt_cmpR op_lt (pe_ix ix_list (pv 2) pe_int (fun _ _ => rfl)) pe_int (nomark _)))))
      (pss_one (ps_ret (pe_tup (pa_cons pe_str (pa_cons (pe_call GN hr2 rfl mN FN.kp bN .nil pass0 (pa_cons (pv 0) (pa_cons (pe_ix ix_list (pv 1) pe_int (fun _ _ => rfl)) (pa_cons (pv 2) pa_nil)))) pa_nil))))) pss_nil)
    (pss_cons (ps_asg (pe_op op_sub (pe_ix ix_list (pv 2) pe_int (fun _ _ => rfl)) pe_int) (pg_sub (pv 2) pe_int set_list))
    (Evl.pss_cut (ps_par (i := 6) (j := 7) rfl scTm.nd rfl rfl (by decide) rfl rfl (pa_cons (pe_call GN hr2 rfl mN FN.kp bN .nil pass0 (pa_cons (pv 0) (pa_cons (pe_ix ix_list (pv 1) pe_int (fun _ _ => rfl)) (pa_cons (pv 2) pa_nil)))) (pa_cons (pe_lst pa_nil) pa_nil)) (by rfl))
    (Evl.pss_cut (ps_for PassesOwn.never rfl (pi_range1 rfl T.range (pa_cons (pe_call GC hr1 rfl mC FC.kp bC .nil pass0 (pa_cons (pv 0) (pa_cons pe_int pa_nil))) pa_nil)) (pg_name (i := 8) scTm.nd rfl (Or.inl rfl))
      (pss_one (ps_if (pt_cmpR op_gt (pv 3) pe_int (nomark _)) (pss_one (ps_expr (pe_bm PySem.F.plainAttrs_list PySem.F.slot_list_append PySem.F.type_list_append mt_append (pv 7)
        (pa_cons (pe_call G hr rfl m F.kp b .nil pass0 (pa_cons (pv 0) (pa_cons (pv 1) (pa_cons (pv 2) (pa_cons (pe_op op_sub (pv 3) pe_int) pa_nil))))) pa_nil)))) pss_nil)))
    (pss_one (ps_ret (pe_tup (pa_cons pe_str (pa_cons (pv 6) (pa_cons (pv 7) pa_nil)))))))))))), ?_⟩
  obtain ⟨mm, rfl⟩ : ∃ k', mm = k' + 1 := ⟨mm - 1, by omega⟩
  have hcT : cT (mm + 1) = 6 + 3 * cT mm := rfl
  obtain ⟨d0, i0, c0, l0, kv0, hL, hl7⟩ := hG.lf
  refine ⟨_, rfl, L, _, _, _, rfl, rfl, SqL.of hL, at7_3, _, _, rfl, rfl, _, rfl, ?_⟩
  obtain ⟨hl7', rfl, hkA, nkp, nkL⟩ := id hl7
  refine ifT (decide_eq_true (by decide)) ⟨_, rfl, L, _, _, _, rfl, rfl, SqL.of hL, at7_4, kA, _, rfl, .inl (SqL.of hkA), rfl, (by rfl), _, rfl, ?_⟩
  refine ifF (by decide +kernel) (iteF ?_)
  -- the way
  refine ⟨_, rfl, p, 5, n, rfl, hG.pu, by omega, by decide, by decide, fun wy H1 w0 w1 hb1 hp1 => ?_⟩
  have hG1 : Gn H1 p L B kA (n + 1) a := hG.draw hb1 hp1
  have hk1 := hG.kd hb1
  refine ⟨_, rfl, rfl, _, rfl, ?_⟩
  refine ite2 (fun _ => ?_) (fun _ => ?_)
  · -- a number
    refine ⟨_, rfl, p, 9, n + 1, rfl, hG1.pu, by omega, by decide, by decide, fun d1 H2 d10 d11 hb2 hp2 => ⟨_, _, rfl, rfl, _, rfl, p, 1999, n + 2, rfl, hp2, by omega, by decide, by decide, fun d2 H3 d20 d21 hb3 hp3 => ⟨_, _, rfl, rfl, by show 2 ≤ sizeLine; decide, fun q hq => ?_⟩⟩⟩
    have hG3 : Gn H3 p L B kA (n + 3) a := (hG1.draw hb2 hp2).draw hb3 hp3
    have hk3 := (hk1.trans (hG1.kd hb2)).trans ((hG1.draw hb2 hp2).kd hb3)
    have sq := same_new hq (.lst [.int (d1 - 4), .int (d2 - 999)])
    have hqp := (hG3.neP hq).1
    refine ⟨_, rfl, p, 2, n + 3, rfl, (hG3.same sq).pu, by omega, by decide, by decide, fun d3 H4 d30 d31 hb4 hp4 => ?_⟩
    obtain ⟨t, ht⟩ : ∃ t : Int, atI [V.int (d1 - 4), V.int (d2 - 999)] d3 = some (.int t) := by
      have e : d3 = ((0 : Nat) : Int) ∨ d3 = ((1 : Nat) : Int) := by omega
      rcases e with e | e
      · exact ⟨_, at_ofN e rfl⟩
      · exact ⟨_, at_ofN e rfl⟩
    refine ⟨q, _, _, _, rfl, rfl, SqL.of (hb4 q _ hqp upd_same), ht, by show 2 ≤ sizeLine; decide, fun tp htp => ?_⟩
    have hG4 := (hG3.same sq).draw hb4 hp4
    have hk4 := (hk3.trans (.same sq)).trans ((hG3.same sq).kd hb4)
    have st := same_new htp (.tup [.str (Str.ofString "number"), .int t])
    refine kk _ _ ⟨_, [], (hG4.same st).mono (by omega), hk4.trans (.same st), rep_tup upd_same (reps_leaf leaf_str (reps_leaf leaf_int reps_nil)), (fun _ z => nomatch z), .inl ⟨t, rfl⟩⟩
  obtain ⟨d1, i1, c1, l1, kv1, hL1, hl71⟩ := hG1.lf
  obtain ⟨n0, n1, n2, z0, z1, z2, hB, h0, h1, h2, nd, b1, b2, b3, b4, b5, b6, b7, b8⟩ := hG1.lb
  -- a name that is read
  have rd : ∀ (Q2 : V → Hp → Prop), (∀ u H', New H p L B kA (n + cT (mm + 1)) a (TmOk (mm + 1)) u H' → Q2 u H') → (tTup (tCons (tC (.str (Str.ofString "read"))) (tCons (tCall spName [] E0 (tCons (tVar 0) (tCons (tOp (rIxL K) (tVar 1) (tC (.int 0))) (tCons (tVar 2) tNil)))) tNil))) [some (.ref p), some (.ref B), some (.ref L), some (.int ((mm + 1 : Nat) : Int)), none, some (.int wy), none, none, none] H1 Q2 := fun Q2 q => by
    refine ⟨_, rfl, _, rfl, B, _, _, _, rfl, rfl, SqL.of hB, at3_0, _, rfl, p, L, n0, z0, n + 1, a, rfl, hG1.pu, by omega, h0, b3, ⟨_, hG1.lf⟩, hG1.ne, fun y H2 hy hb2 hp2 => ⟨by show 2 ≤ sizeLine; decide, fun tp htp => ?_⟩⟩
    have st := same_new htp (.tup [.str (Str.ofString "read"), .str y])
    have hG2 := hG1.draw hb2 hp2
    exact q _ _ ⟨_, [], (hG2.same st).mono (by omega), (hk1.trans (hG1.kd hb2)).trans (.same st), rep_tup upd_same (reps_leaf leaf_str (reps_leaf leaf_str reps_nil)), (fun _ z => nomatch z), .inr (.inl ⟨y, h0.2.2.2 y hy, rfl⟩)⟩
  refine ⟨_, rfl, _, _, rfl, rfl, _, rfl, ?_⟩
  refine ite2 (fun _ => iteT (rd _ kk)) (fun _ => ?_)
  refine ⟨_, rfl, L, _, _, _, rfl, rfl, SqL.of hL1, at7_5, _, _, rfl, rfl, _, rfl, ?_⟩
  refine ite2 (fun _ => rd _ kk) (fun _ => ?_)
  clear rd
  -- one call less
  refine ⟨_, rfl, L, _, _, _, rfl, rfl, SqL.of hL1, at7_5, _, _, rfl, rfl, _, rfl, L, _, _, 5, rfl, rfl, hL1, rfl, ?_⟩
  obtain ⟨hG2, hk2⟩ := hG1.left (a' := a) (d := d1) (c := c1 - 1) (kv := kv1) hl71
  show Evl.tCut _ _ _ _ (upd H1 L (.lst [.int a, .int d1, .int i1, .int 1, kv1, .int (c1 - 1), .int l1]))
  generalize upd H1 L (.lst [.int a, .int d1, .int i1, .int 1, kv1, .int (c1 - 1), .int l1]) = H2 at hG2 hk2
  replace hk2 := hk1.trans hk2
  -- the function's name, no terms
  refine ⟨fun σ' H' => Gn H' p L B kA (n + 2) a ∧ Kp (fun a => a = p ∨ a = L) H H' ∧ ∃ (y : Str) (l : Addr), okName y ∧ H l = none ∧ H' l = some (.lst []) ∧ σ' = [some (.ref p), some (.ref B), some (.ref L), some (.int ((mm + 1 : Nat) : Int)), none, some (.int wy), some (.str y), some (.ref l), none], ?_, ?_⟩
  · clear hB h0 h1 h2 b1 b2 b3 b4 b5 b6 b7 b8 nd
    obtain ⟨n0, n1, n2, z0, z1, z2, hB, h0, h1, h2, nd, b1, b2, b3, b4, b5, b6, b7, b8⟩ := hG2.lb
    refine ⟨_, rfl, _, rfl, B, _, _, _, rfl, rfl, SqL.of hB, at3_1, _, rfl, p, L, n1, z1, n + 1, a, rfl, hG2.pu, by omega, h1, b5, ⟨_, hG2.lf⟩, hG2.ne, fun y H3 hy hb3 hp3 => ⟨by show 0 ≤ sizeLine; decide, fun l hl => ?_⟩⟩
    have hG3 := hG2.draw hb3 hp3
    have hk3 := hk2.trans (hG2.kd hb3)
    have st := same_new hl (.lst [])
    exact ⟨_, _, rfl, hG3.same st, hk3.trans (.same st), y, l, h1.2.2.2 y hy, hG.free hk3 hG3 hl, upd_same, rfl⟩
  clear hG2 hk2 hG1 hk1
  rintro _ H2 ⟨hG2, hk2, y, l, hy, hl0, hl2, rfl⟩
  -- the terms
  refine ⟨fun σ' H' => Gn H' p L B kA (n + 3 + 3 * cT mm) a ∧ Kp (fun a => a = p ∨ a = L) H H' ∧ ∃ (ts : List D) (ys : List V) (G0 : List Addr) (v8 : Option V), H' l = some (.lst ys) ∧ Reps H' ts ys G0 ∧ (∀ x ∈ G0, H x = none ∧ x ≠ l) ∧ ts.length ≤ 3 ∧ (∀ t ∈ ts, TmOk mm t) ∧ σ' = [some (.ref p), some (.ref B), some (.ref L), some (.int ((mm + 1 : Nat) : Int)), none, some (.int wy), some (.str y), some (.ref l), v8], ?_, ?_⟩
  · refine ⟨_, rfl, p, 4, n + 2, rfl, hG2.pu, by omega, by decide, by decide, fun dr H3 d0 d1 hb3 hp3 => ?_⟩
    have hG3 := hG2.draw hb3 hp3
    have hk3 := hk2.trans (hG2.kd hb3)
    refine ⟨dr, rfl, by omega, by omega, ?_⟩
    refine for_range (lo := 0) (fun i σ' H' => Gn H' p L B kA (n + 3 + i * cT mm) a ∧ Kp (fun a => a = p ∨ a = L) H H' ∧ ∃ (ts : List D) (ys : List V) (G0 : List Addr) (v8 : Option V), H' l = some (.lst ys) ∧ Reps H' ts ys G0 ∧ (∀ x ∈ G0, H x = none ∧ x ≠ l) ∧ ts.length ≤ i ∧ (∀ t ∈ ts, TmOk mm t) ∧ σ' = [some (.ref p), some (.ref B), some (.ref L), some (.int ((mm + 1 : Nat) : Int)), none, some (.int wy), some (.str y), some (.ref l), v8])
      ⟨by rw [Nat.zero_mul]; exact hG3, hk3, [], [], [], none, hb3 _ _ (hG.neP hl0).1 hl2, reps_nil, (fun _ z => nomatch z), Nat.le_refl _, (fun _ z => nomatch z), rfl⟩ ?_ ?_
    · rintro i σ' H5 hi ⟨hG5, hk5, ts, ys, G0, v8, hl5, hr5, hf5, hlen, hts, rfl⟩
      have hi3 : i + 1 ≤ 3 := by omega
      have hcost : (i + 1) * cT mm ≤ 3 * cT mm := Nat.mul_le_mul_right _ hi3
      have hsm : (i + 1) * cT mm = i * cT mm + cT mm := Nat.succ_mul _ _
      refine ⟨_, rfl, _, _, rfl, rfl, _, rfl, ?_⟩
      refine ite2 (fun c => ?_) (fun _ => ⟨hG5.mono (by omega), hk5, ts, ys, G0, _, hl5, hr5, hf5, by omega, hts, rfl⟩)
      have c' : (((mm + 1 : Nat) : Int)) > 1 := of_decide_eq_true c
      refine ⟨_, rfl, .inl ⟨rfl, _, SqL.of hl5⟩, _, rfl, _, rfl, _, rfl, _, rfl, _, _, rfl, rfl, p, B, L, kA, n + 3 + i * cT mm, mm, a, ?_, by omega, by omega, by omega, hG5, by omega, ?_⟩
      · show [V.ref p, V.ref B, V.ref L, V.int (((mm + 1 : Nat) : Int) - 1)] = _
        rw [show (((mm + 1 : Nat) : Int) - 1) = (mm : Int) by omega]
      rintro u H6 ⟨d, G6, hG6, hk6, hr6, hf6, ht6⟩
      have hl6 : H6 l = some (.lst ys) := hk6 _ _ hl5 (.inl (hG.noS hl0))
      have hyl : ys.length = ts.length := hr5.len
      have kp7 : Kp (fun a => a = l) H6 (upd H6 l (.lst (ys ++ [u]))) := Kp.set hl6 rfl
      have n6 : ∀ x ∈ G6, x ≠ l := fun x hx z => by
        have e := hf6 x hx
        rw [z, hl5] at e
        cases e
      refine ⟨l, _, _, rfl, rfl, hl6, Nat.lt_of_le_of_lt (show ys.length ≤ 1000 by omega) (by decide), ?_, (hk5.trans hk6).put hl0, ts ++ [d], ys ++ [u], G0 ++ G6, _, upd_same, Reps.snoc ((hr5.kp hk6 fun x hx => hG.noS (hf5 x hx).1).kp kp7 fun x hx => (hf5 x hx).2) (hr6.kp kp7 n6) (fun x hx z => ?_), fun x hx => ?_, ?_, fun t ht => ?_, rfl⟩
      · exact (hG.put (hk5.trans hk6) hG6 hl0).mono (by omega)
      · obtain ⟨zs, e⟩ := hr5.at_ x hx
        rw [hf6 x z] at e
        cases e
      · rcases List.mem_append.mp hx with z | z
        · exact hf5 x z
        · exact ⟨hG.free hk5 hG5 (hf6 x z), n6 x z⟩
      · rw [List.length_append]
        show ts.length + 1 ≤ i + 1
        omega
      · rcases List.mem_append.mp ht with z | z
        · exact hts t z
        · rw [List.mem_singleton.mp z]
          exact ht6
    · rintro σ' H5 ⟨hG5, hk5, ts, ys, G0, v8, hl5, hr5, hf5, hlen, hts, rfl⟩
      have hi3 : dr.toNat ≤ 3 := by omega
      have hcost : dr.toNat * cT mm ≤ 3 * cT mm := Nat.mul_le_mul_right _ hi3
      exact ⟨hG5.mono (by omega), hk5, ts, ys, G0, v8, hl5, hr5, hf5, by omega, hts, rfl⟩
  clear hG2 hk2 hl2
  rintro _ H2 ⟨hG2, hk2, ts, ys, G0, v8, hl2, hr2, hf2, hlen, hts, rfl⟩
  refine ⟨_, rfl, _, rfl, by show 3 ≤ sizeLine; decide, fun tp htp => ?_⟩
  have st := same_new htp (.tup [.str (Str.ofString "call"), .str y, .ref l])
  refine kk _ _ ⟨_, l :: G0, (hG2.same st).mono (by omega), hk2.trans (.same st), rep_tup upd_same (reps_leaf leaf_str (reps_leaf leaf_str (reps_one (rep_lst (st _ _ hl2) (hr2.same st) fun z => (hf2 l z).2 rfl)))), fun x hx => ?_, .inr (.inr ⟨y, ts, hy, rfl, hlen, hts⟩)⟩
  rcases List.mem_cons.mp hx with z | z
  · exact z ▸ hl0
  · exact (hf2 x z).1
end
end K03.Cl
set_option Elab.async false
set_option linter.all false
set_option maxRecDepth 100000
set_option maxHeartbeats 4000000
namespace K03.Cl
open PySem L2 PyProof.Rows
/-! ### parts, apart from the heap -/
def kid (e : D) : D := e.its.getD (e.its.length - 2) (.leaf .non)
def kids : D → List D
  | .tup [_, .lst es, _] => es.map kid
  | _ => []
def own : D → List Str
  | .tup [_, .leaf (.str z)] => [z]
  | .tup [_, .lst _, .leaf (.str z)] => [z]
  | _ => []
/-- the parts within, ahead of each other as in the text -/
def pre : Nat → D → List D
  | 0, _ => []
  | n + 1, d => d :: (kids d).flatMap (pre n)
def Opt (r : D) : Prop := r = .leaf .non ∨ ∃ z, okName z ∧ r = .leaf (.str z)
def Df (d : D) : Prop := d = .leaf .non ∨ TmOk 5 d
/-- an item, or a field, with what it takes and what it takes else -/
theorem kid_ent {row : Bool} {q : Str × D × D} : kid (ent row q) = q.2.1 := by cases row <;> rfl
def PtOk : Nat → D → Prop
  | 0, _ => False
  | n + 1, d => d = .tup [S "any"] ∨ (∃ z, okName z ∧ d = .tup [S "name", .leaf (.str z)]) ∨
    ∃ (row : Bool) (qs : List (Str × D × D)) (r : D), d = .tup [S (if row = true then "row" else "record"), .lst (qs.map (ent row)), r] ∧ Opt r ∧ qs.length ≤ 25 ∧ (∀ q ∈ qs, PtOk n q.2.1 ∧ Df q.2.2) ∧ (row = false → (qs.map (·.1)).Nodup ∧ ∀ q ∈ qs, okName q.1)
theorem PtOk.succ : ∀ {n : Nat} {d : D}, PtOk n d → PtOk (n + 1) d
  | 0, _, h => h.elim
  | n + 1, d, h => by
    rcases h with h | h | ⟨row, qs, r, e, hr, hl, hq, hf⟩
    · exact .inl h
    · exact .inr (.inl h)
    · exact .inr (.inr ⟨row, qs, r, e, hr, hl, fun q m => ⟨(hq q m).1.succ, (hq q m).2⟩, hf⟩)
theorem kids_ent {s r : D} {row : Bool} {qs : List (Str × D × D)} : kids (.tup [s, .lst (qs.map (ent row)), r]) = qs.map fun q => q.2.1 := by
  show (qs.map (ent row)).map kid = _
  rw [List.map_map]
  exact List.map_congr_left fun q _ => kid_ent
theorem cT_le : ∀ m, m < 6 → cT m ≤ 726 * 3 := by decide
def spDef : Sp := fun vs H Q _ => ∃ (p B L kA : Addr) (n : Nat) (a : Int), vs = [.ref p, .ref B, .ref L] ∧ Gn H p L B kA n a ∧ n + 2200 < 10 ^ 60 ∧ ∀ u H', New H p L B kA (n + 2200) a Df u H' → Q u H'
def okOrd (z : Str) : Prop := z = Str.ofString "soon" ∨ z = Str.ofString "late"
def okLck (z : Str) : Prop := z = Str.ofString "absent" ∨ z = Str.ofString "nothing"
section
variable {P : Program} {w : World} {K : PySem.W.Frag} {mg : Str → Option Value} {base : Heap}
theorem scDf : FnScope ["purse", "labels", "left"] ["purse", "labels", "left"] (defScope sDefault) := ⟨rfl, rfl, rfl, by decide +kernel, rfl, by decide +kernel, by decide +kernel⟩
theorem ok_default {f fC fT : Addr} {fd fdC fdT : FuncData} (F : Fun K "_law_ta_default" "_law_ta_default" sDefault f fd) (T : Txt K mg)
    (FC : Fun K "_law_coin" "_law_coin" sCoin fC fdC) (GC : FnOk P w K mg base CX0 1 fC fdC ["purse", "many"] spCoin) (bC : Binds K fdC ["purse", "many"] []) (mC : mg "_law_coin" = some (.ref fC))
    (FT : Fun K "_law_ta_term" "_law_ta_term" sTerm fT fdT) (GT : FnOk P w K mg base CX0 7 fT fdT ["purse", "labels", "left", "deep"] (spTerm 7)) (bT : Binds K fdT ["purse", "labels", "left", "deep"] []) (mT : mg "_law_ta_term" = some (.ref fT)) :
    FnOk P w K mg base CX0 8 f fd ["purse", "labels", "left"] spDef := by
  refine F.ok scDf (fun vs H Q E h => ?_) (fun cdv A outer s H vs Q E hr h => ?_)
  · obtain ⟨p, B, L, kA, n, a, rfl, _⟩ := h
    rfl
  obtain ⟨p, B, L, kA, n, a, rfl, hG, hn, kk⟩ := h
  have hr1 : Room 1 (A.deeper (envOfC "_law_ta_default" (defScope sDefault) s.heap.objs.size f cdv)) := hr.mono (by omega)
  refine ⟨_, pss_cons (ps_if (PW.pt (pw_or (pt_cmpR op_lt (pe_ix ix_list (pv 2) pe_int (fun _ _ => rfl)) pe_int (nomark _)) (pw_or1 (pt_cmpR op_eq (pe_call GC hr1 rfl mC FC.kp bC .nil pass0 (pa_cons (pv 0) (pa_cons pe_int pa_nil))) pe_int (nomark _))))) (pss_one (ps_ret pe_non)) pss_nil)
    (pss_cons (ps_asg (pe_op op_sub (pe_ix ix_list (pv 2) pe_int (fun _ _ => rfl)) pe_int) (pg_sub (pv 2) pe_int set_list))
    (pss_one (ps_ret (pe_call GT hr rfl mT FT.kp bT .nil pass0 (pa_cons (pv 0) (pa_cons (pv 1) (pa_cons (pv 2) (pa_cons (pe_ix ix_list (pv 2) pe_int (fun _ _ => rfl)) pa_nil)))))))), ?_⟩
  obtain ⟨d0, i0, c0, l0, kv0, hL, hl7⟩ := hG.lf
  have non : ∀ H', Gn H' p L B kA (n + 1) a → Kp (fun a => a = p ∨ a = L) H H' → Q .non H' := fun H' g k => kk _ _ ⟨_, [], g.mono (by omega), k, rep_leaf leaf_non, (fun _ z => nomatch z), .inl rfl⟩
  refine ⟨_, rfl, L, _, _, _, rfl, rfl, SqL.of hL, at7_1, _, _, rfl, rfl, _, rfl, ?_⟩
  refine ite2 (fun _ => iteT (non H (hG.mono (by omega)) (.same (Same.refl H)))) (fun _ => ?_)
  refine ⟨_, rfl, p, 2, n, rfl, hG.pu, by omega, by decide, by decide, fun dr H1 d0' d1 hb1 hp1 => ?_⟩
  have hG1 := hG.draw hb1 hp1
  have hk1 := hG.kd hb1
  refine ⟨rfl, _, rfl, ?_⟩
  refine ite2 (fun _ => non H1 hG1 hk1) (fun _ => ?_)
  have hL1 := hb1 L _ hG.ne hL
  refine ⟨_, rfl, L, _, _, _, rfl, rfl, SqL.of hL1, at7_1, _, _, rfl, rfl, _, rfl, L, _, _, 1, rfl, rfl, hL1, rfl, ?_⟩
  obtain ⟨hG2, hk2⟩ := hG1.left (a' := a) (d := d0 - 1) (i := i0) (c := c0) (l := l0) (kv := kv0) ⟨hl7.1, hl7.2.but hb1⟩
  replace hl7 := hl7.1
  have hL2 : (upd H1 L (.lst [.int a, .int (d0 - 1), .int i0, .int 1, kv0, .int c0, .int l0])) L = some (.lst [.int a, .int (d0 - 1), .int i0, .int 1, kv0, .int c0, .int l0]) := upd_same
  have hl : l0 = ((l0.toNat : Nat) : Int) := by omega
  have hc := cT_le l0.toNat (by omega)
  refine ⟨_, rfl, _, rfl, _, rfl, _, rfl, L, _, _, _, rfl, rfl, SqL.of hL2, at7_6, p, B, L, kA, n + 1, l0.toNat, a, ?_, by omega, by omega, by omega, hG2, by omega, ?_⟩
  · rw [← hl]
    rfl
  rintro u H' ⟨d, G, g1, g2, g3, g4, g5⟩
  exact kk u H' ⟨d, G, g1.mono (by omega), (hk1.trans hk2).trans g2, g3, fun x hx => hG.free (hk1.trans hk2) hG2 (g4 x hx), .inr (g5.le (by omega))⟩
end
end K03.Cl
set_option Elab.async false
set_option linter.all false
set_option maxRecDepth 100000
set_option maxHeartbeats 4000000
namespace K03.Cl
open PySem L2 PyProof.Rows
def cP : Nat → Nat
  | 0 => 4
  | k + 1 => 10 + 20 * (cP k + 2300)
def spPart (k : Nat) : Sp := fun vs H Q _ => ∃ (p B L kA : Addr) (n dp : Nat) (a : Int), vs = [.ref p, .ref B, .ref L, .int (dp : Int)] ∧ dp + 9 ≤ k ∧ Gn H p L B kA n a ∧ 1 ≤ a ∧ a ≤ 60 ∧ n + cP dp < 10 ^ 60 ∧
  ∀ u H' a', 0 ≤ a' → a' < a → New H p L B kA (n + cP dp) a' (fun d => PtOk (dp + 1) d ∧ ((pre (dp + 1) d).length : Int) = a - a') u H' → Q u H'
/-! ### is a list of texts empty? -/
section
variable {K : PySem.W.Frag} {H : Hp}
theorem dp_texts : ∀ {zs : List Str}, DpAll K H (zs.map V.str) (zs.map PyData.str)
  | [] => .nil
  | z :: zs => .cons (.str z) dp_texts
theorem ls_ok {z : Str} (h : ls z) : PyData.strOk z = true := by
  show z.cps.all _ = true
  rw [← Array.all_toList]
  exact List.all_eq_true.mpr fun c hc => decide_eq_true (Nat.lt_of_le_of_lt (h c hc).2 (by decide))
theorem can_texts : ∀ zs : List Str, (∀ z ∈ zs, ls z) → PyData.canLayAll0 (zs.map PyData.str) = true
  | [], _ => by simp [PyData.canLayAll0]
  | z :: zs, h => by simp [PyData.canLayAll0, PyData.canLay0, can_texts zs fun y hy => h y (List.mem_cons_of_mem _ hy), ls_ok (h z List.mem_cons_self)]
theorem depth_texts : ∀ zs : List Str, PyData.depthAll (zs.map PyData.str) ≤ 1
  | [] => by simp [PyData.depthAll]
  | z :: zs => by
    have h := depth_texts zs
    simp [PyData.depthAll, PyData.depth]
    omega
theorem shaped_texts (zs : List Str) (h0 : ∀ z ∈ zs, ls z) : SeqAt.shaped (.list (zs.map PyData.str)) = true := by
  have h := depth_texts zs
  simp [SeqAt.shaped, PyData.canLay0, PyData.depth, can_texts zs h0]
  omega
theorem ne_empty {a b : Addr} {zs : List Str} {Q : VK} (h0 : ∀ z ∈ zs, ls z) (ha : SqL K H a (zs.map V.str)) (hb : SqL K H b []) (q : Q (.bl (!zs.isEmpty)) H) : rNeD K (.ref a) (.ref b) H Q := by
  refine ⟨.list (zs.map PyData.str), .list [], .lst ha dp_texts, .lst hb .nil, shaped_texts zs h0, shaped_texts [] (fun _ z => nomatch z), ?_⟩
  have e : PyData.eqv (.list (zs.map PyData.str)) (.list []) = zs.isEmpty := by cases zs <;> simp [PyData.eqv, PyData.eqvAll]
  rw [e]
  exact q
end
theorem erase_split {α : Type} {xs : List α} {j : Nat} (h : j < xs.length) (nd : xs.Nodup) : (xs.eraseIdx j).Nodup ∧ xs[j] ∉ xs.eraseIdx j ∧ ∀ z ∈ xs.eraseIdx j, z ∈ xs := by
  have e1 : xs = xs.take j ++ xs[j] :: xs.drop (j + 1) := by
    rw [← List.drop_eq_getElem_cons h, List.take_append_drop]
  have e2 : xs.eraseIdx j = xs.take j ++ xs.drop (j + 1) := List.eraseIdx_eq_take_drop_succ xs j
  have n2 : (xs.take j ++ xs[j] :: xs.drop (j + 1)).Nodup := by
    rw [← e1]
    exact nd
  rw [e2]
  obtain ⟨a1, a2, a3⟩ := List.nodup_append.mp n2
  obtain ⟨b1, b2⟩ := List.nodup_cons.mp a2
  refine ⟨List.nodup_append.mpr ⟨a1, b2, fun x hx y hy => a3 x hx y (List.mem_cons_of_mem _ hy)⟩, fun z => ?_, fun z hz => ?_⟩
  · rcases List.mem_append.mp z with z | z
    · exact a3 _ z _ List.mem_cons_self rfl
    · exact b1 z
  · rcases List.mem_append.mp hz with z | z
    · exact List.mem_of_mem_take z
    · exact List.mem_of_mem_drop z
theorem erase_map {α β : Type} (f : α → β) (xs : List α) (j : Nat) : (xs.map f).eraseIdx j = (xs.eraseIdx j).map f := by
  rw [List.eraseIdx_eq_take_drop_succ, List.eraseIdx_eq_take_drop_succ, List.map_append, List.map_take, List.map_drop]
theorem erase_len {α : Type} (xs : List α) (j : Nat) : (xs.eraseIdx j).length ≤ xs.length := by
  rw [List.eraseIdx_eq_take_drop_succ, List.length_append, List.length_take, List.length_drop]
  omega
theorem ent_rep {H : Hp} {row : Bool} {z : Str} {d e : D} {t : Addr} {u v : V} {F G : List Addr} (ht : H t = some (.tup ((if row = true then [] else [V.str z]) ++ [u] ++ [v]))) (h1 : Rep H d u F) (h2 : Rep H e v G) (n : ∀ x ∈ F, x ∉ G) : Rep H (ent row (z, d, e)) (.ref t) (F ++ G) := by
  cases row with
  | true => exact rep_tup ht (reps_cons h1 (reps_one h2) n)
  | false => exact rep_tup ht (reps_leaf leaf_str (reps_cons h1 (reps_one h2) n))
/-- a test, and what is known behind it -/
def tCutT (t : TT) : TT := fun σ H Q => ∃ R : Bool → Hp → Prop, t σ H R ∧ ∀ b H', R b H' → Q b H'
theorem pt_cut {X : Cx} {e : Expr} {t : TT} (h : PT X e t) : PT X e (tCutT t) := ⟨fun pins s σ H Q I ⟨R, h1, h2⟩ => thn (h.run pins s σ H R I h1) fun b s1 ⟨H', I', q⟩ => ⟨H', I', h2 b H' q⟩⟩
/-- so many items drawn -/
def PartI (H : Hp) (p L B kA tk fr : Addr) (row : Bool) (dp n : Nat) (a : Int) (i : Nat) (H' : Hp) : Prop := ∃ (a' : Int) (qs : List (Str × D × D)) (ys : List V) (G0 : List Addr) (zf : List Str), Gn H' p L B kA n a' ∧ Kp (fun a => a = p ∨ a = L) H H' ∧ 0 ≤ a' ∧ a' ≤ a ∧ H' tk = some (.lst ys) ∧ H' fr = some (.lst (zf.map V.str)) ∧ Reps H' (qs.map (ent row)) ys G0 ∧ (∀ x ∈ G0, H x = none ∧ x ≠ tk ∧ x ≠ fr) ∧ qs.length ≤ i ∧
  (∀ q ∈ qs, PtOk (dp + 1) q.2.1 ∧ Df q.2.2) ∧ ((((qs.map fun q => q.2.1).flatMap (pre (dp + 1))).length : Nat) : Int) = a - a' ∧ zf.length ≤ 26 ∧ zf.Nodup ∧ (∀ z ∈ zf, okName z) ∧ (row = false → (qs.map (·.1)).Nodup ∧ (∀ q ∈ qs, okName q.1) ∧ ∀ z ∈ zf, z ∉ qs.map (·.1))
section
variable {P : Program} {w : World} {K : PySem.W.Frag} {mg : Str → Option Value} {base : Heap}
theorem scPt : FnScope ["purse", "labels", "left", "deep", "menu", "way", "rest", "takings", "free", "turn", "found", "at"] ["purse", "labels", "left", "deep"] (defScope sPart) := ⟨rfl, rfl, rfl, by decide +kernel, rfl, by decide +kernel, by decide +kernel⟩
theorem part_none {f : Addr} {fd : FuncData} {ps : List Str} : FnOk P w K mg base CX0 0 f fd ps (spPart 0) := none_of fun vs H Q E h => by
  obtain ⟨p, B, L, kA, n, dp, a, _, h1, _⟩ := h
  omega
theorem ok_part {f fC fN fD : Addr} {fd fdC fdN fdD : FuncData} {k : Nat} (F : Fun K "_law_ta_part" "_law_ta_part" sPart f fd) (T : Txt K mg)
    (FC : Fun K "_law_coin" "_law_coin" sCoin fC fdC) (GC : FnOk P w K mg base CX0 1 fC fdC ["purse", "many"] spCoin) (bC : Binds K fdC ["purse", "many"] []) (mC : mg "_law_coin" = some (.ref fC))
    (FN : Fun K "_law_ta_name" "_law_ta_name" sName fN fdN) (GN : FnOk P w K mg base CX0 2 fN fdN ["purse", "names", "left"] spName) (bN : Binds K fdN ["purse", "names", "left"] []) (mN : mg "_law_ta_name" = some (.ref fN))
    (FD : Fun K "_law_ta_default" "_law_ta_default" sDefault fD fdD) (GD : FnOk P w K mg base CX0 8 fD fdD ["purse", "labels", "left"] spDef) (bD : Binds K fdD ["purse", "labels", "left"] []) (mD : mg "_law_ta_default" = some (.ref fD))
    (G : FnOk P w K mg base CX0 k f fd ["purse", "labels", "left", "deep"] (spPart k)) (b : Binds K fd ["purse", "labels", "left", "deep"] []) (m : mg "_law_ta_part" = some (.ref f)) :
    FnOk P w K mg base CX0 (k + 1) f fd ["purse", "labels", "left", "deep"] (spPart (k + 1)) := by
  refine F.ok scPt (fun vs H Q E h => ?_) (fun cdv A outer s H vs Q E hr h => ?_)
  · obtain ⟨p, B, L, kA, n, dp, a, rfl, _⟩ := h
    rfl
  obtain ⟨p, B, L, kA, n, dp, a, rfl, hk, hG, ha1, ha60, hn, kk⟩ := h
  have hr1 : Room 1 (A.deeper (envOfC "_law_ta_part" (defScope sPart) s.heap.objs.size f cdv)) := hr.mono (by omega)
  have hr2 : Room 2 (A.deeper (envOfC "_law_ta_part" (defScope sPart) s.heap.objs.size f cdv)) := hr.mono (by omega)
  have hr8 : Room 8 (A.deeper (envOfC "_law_ta_part" (defScope sPart) s.heap.objs.size f cdv)) := hr.mono (by omega)
  refine ⟨_, pss_cons (ps_asg (pe_op op_sub (pe_ix ix_list (pv 2) pe_int (fun _ _ => rfl)) pe_int) (pg_sub (pv 2) pe_int set_list))
    (pss_cons (ps_if (PW.pt (pw_and (pt_cmpR op_gt (pe_ix ix_list (pv 2) pe_int (fun _ _ => rfl)) pe_int (nomark _)) (pw_and (pt_cmpR op_in_seq pe_str (pe_ix ix_list (pv 2) pe_int (fun _ _ => rfl)) (by rfl)) pw_never))) pss_never pss_nil)
    (pss_cons (ps_set (i := 5) scPt.nd rfl (Or.inl rfl) (pe_call GC hr1 rfl mC FC.kp bC .nil pass0 (pa_cons (pv 0) (pa_cons pe_int pa_nil))))
    (Evl.pss_cut (ps_if (PW.pt (pw_or (pt_cmpR op_lt (pv 3) pe_int (nomark _)) (pw_or (pt_cmpR op_lt (pe_ix ix_list (pv 2) pe_int (fun _ _ => rfl)) pe_int (nomark _)) (pw_or1 (pt_cmpR op_eq (pv 5) pe_int (nomark _))))))
      (pss_cons (ps_if (pt_cmpR op_eq (pe_call GC hr1 rfl mC FC.kp bC .nil pass0 (pa_cons (pv 0) (pa_cons pe_int pa_nil))) pe_int (nomark _)) (pss_one (ps_ret (pe_tup (pa_cons pe_str pa_nil)))) pss_nil)
      (pss_one (ps_ret (pe_tup (pa_cons pe_str (pa_cons (pe_call GN hr2 rfl mN FN.kp bN .nil pass0 (pa_cons (pv 0) (pa_cons (pe_ix ix_list (pv 1) pe_int (fun _ _ => rfl)) (pa_cons (pv 2) pa_nil)))) pa_nil)))))) pss_nil)
    (Evl.pss_cut (ps_set (i := 6) scPt.nd rfl (Or.inl rfl) (pe_ifExp (pt_cmpR op_eq (pe_call GC hr1 rfl mC FC.kp bC .nil pass0 (pa_cons (pv 0) (pa_cons pe_int pa_nil))) pe_int (nomark _)) pe_non
      (pe_call GN hr2 rfl mN FN.kp bN .nil pass0 (pa_cons (pv 0) (pa_cons (pe_ix ix_list (pv 1) pe_int (fun _ _ => rfl)) (pa_cons (pv 2) pa_nil))))))
    (Evl.pss_cut (ps_par (i := 7) (j := 8) rfl scPt.nd rfl rfl (by decide) rfl rfl (pa_cons (pe_lst pa_nil) (pa_cons (pe_callTy call_list_of (by rfl) T.list boot_list (pa_cons (pe_ix ix_list (pv 1) pe_int (fun _ _ => rfl)) pa_nil)) pa_nil)) (by rfl))
    (Evl.pss_cut (ps_for PassesOwn.never rfl (pi_range1 rfl T.range (pa_cons (pe_call GC hr1 rfl mC FC.kp bC .nil pass0 (pa_cons (pv 0) (pa_cons (pe_op op_add (pe_ix ix_list (pv 2) pe_int (fun _ _ => rfl)) pe_int) pa_nil))) pa_nil)) (pg_name (i := 9) scPt.nd rfl (Or.inl rfl))
      (pss_one (ps_if (pt_cut (PW.pt (pw_and (pt_cmpR op_gt (pe_ix ix_list (pv 2) pe_int (fun _ _ => rfl)) pe_int (nomark _)) (pw_and1 (PW.pt (pw_or (pt_cmpR op_lt (pv 5) pe_int (nomark _)) (pw_or1 (pt_cmpR (op_neD hr.units) (pv 8) (pe_lst pa_nil) (nomark _)))))))))
        (pss_cons (ps_set (i := 10) scPt.nd rfl (Or.inl rfl) (pe_lst pa_nil))
        (Evl.pss_cut (ps_if (pt_cmpR op_gt (pv 5) pe_int (nomark _))
          (pss_cons (ps_set (i := 11) scPt.nd rfl (Or.inl rfl) (pe_call GC hr1 rfl mC FC.kp bC .nil pass0 (pa_cons (pv 0) (pa_cons (pe_callB call_len_seq (by rfl) T.len PySem.boot_len (pa_cons (pv 8) pa_nil)) pa_nil))))
          (pss_cons (ps_set (i := 10) scPt.nd rfl (Or.inl rfl) (pe_lst (pa_cons (pe_call GN hr2 rfl mN FN.kp bN .nil pass0 (pa_cons (pv 0) (pa_cons (pe_lst (pa_cons (pe_ix ix_list (pv 8) (pv 11) (fun _ _ => rfl)) pa_nil)) (pa_cons (pv 2) pa_nil)))) pa_nil)))
          (pss_one (ps_if (PW.pt (pw_and (pt_cmpR op_gt (pe_ix ix_list (pv 2) pe_int (fun _ _ => rfl)) pe_int (nomark _)) (pw_and (pt_cmpR op_in_seq pe_str (pe_ix ix_list (pv 2) pe_int (fun _ _ => rfl)) (by rfl)) pw_never))) pss_never
            (pss_one (ps_expr (pe_bm PySem.F.plainAttrs_list PySem.F.slot_list_pop PySem.F.type_list_pop mt_popAt (pv 8) (pa_cons (pv 11) pa_nil)))))))) pss_nil)
        (pss_cons (ps_expr (pe_bm PySem.F.plainAttrs_list PySem.F.slot_list_append PySem.F.type_list_append mt_append (pv 10) (pa_cons (pe_call G hr rfl m F.kp b .nil pass0 (pa_cons (pv 0) (pa_cons (pv 1) (pa_cons (pv 2) (pa_cons (pe_op op_sub (pv 3) pe_int) pa_nil))))) pa_nil)))
        (pss_cons (ps_expr (pe_bm PySem.F.plainAttrs_list PySem.F.slot_list_append PySem.F.type_list_append mt_append (pv 10) (pa_cons (pe_call GD hr8 rfl mD FD.kp bD .nil pass0 (pa_cons (pv 0) (pa_cons (pv 1) (pa_cons (pv 2) pa_nil)))) pa_nil)))
        (pss_one (ps_expr (pe_bm PySem.F.plainAttrs_list PySem.F.slot_list_append PySem.F.type_list_append mt_append (pv 7) (pa_cons (pe_callTy call_tuple_of (by rfl) T.tuple boot_tuple (pa_cons (pv 10) pa_nil)) pa_nil)))))))) pss_nil)))
    (pss_one (ps_ret (pe_tup (pa_cons (pe_ifExp (pt_cmpR op_lt (pv 5) pe_int (nomark _)) pe_str pe_str) (pa_cons (pv 7) (pa_cons (pv 6) pa_nil)))))))))))), ?_⟩
  -- one part less
  obtain ⟨d0, i0, c0, l0, kv0, hL, hl7⟩ := hG.lf
  refine ⟨_, rfl, L, _, _, _, rfl, rfl, SqL.of hL, at7_0, _, _, rfl, rfl, _, rfl, L, _, _, 0, rfl, rfl, hL, rfl, ?_⟩
  obtain ⟨hG1, hk1⟩ := hG.left (a' := a - 1) (d := d0) (i := i0) (c := c0) (l := l0) (kv := kv0) hl7
  show tSeq _ _ _ _ (upd H L (.lst [.int (a - 1), .int d0, .int i0, .int 1, kv0, .int c0, .int l0]))
  have hL1 : (upd H L (.lst [.int (a - 1), .int d0, .int i0, .int 1, kv0, .int c0, .int l0])) L = some (.lst [.int (a - 1), .int d0, .int i0, .int 1, kv0, .int c0, .int l0]) := upd_same
  generalize upd H L (.lst [.int (a - 1), .int d0, .int i0, .int 1, kv0, .int c0, .int l0]) = H1 at hG1 hk1 hL1
  refine ⟨_, rfl, L, _, _, _, rfl, rfl, SqL.of hL1, at7_3, _, _, rfl, rfl, _, rfl, ?_⟩
  obtain ⟨hl7', ekv, hkA, nkp, nkL⟩ := id hl7
  have hkA1 := hk1 _ _ hkA (.inl fun z => z.elim nkp nkL)
  refine ifT (decide_eq_true (by decide)) ⟨_, rfl, L, _, _, _, rfl, rfl, SqL.of hL1, at7_4, kA, _, ekv, .inl (SqL.of hkA1), rfl, (by rfl), _, rfl, ?_⟩
  refine ifF (by decide +kernel) (iteF ?_)
  have hcp : 4 ≤ cP dp := by cases dp with
    | zero => exact Nat.le_refl _
    | succ j => show 4 ≤ 10 + 20 * (cP j + 2300); omega
  -- the way
  refine ⟨_, rfl, p, 7, n, rfl, hG1.pu, by omega, by decide, by decide, fun wy H2 w0 w1 hb2 hp2 => ?_⟩
  have hG2 := hG1.draw hb2 hp2
  have hk2 := hk1.trans (hG1.kd hb2)
  have hL2 := hb2 L _ hG.ne hL1
  -- a name or any
  refine ⟨fun σ' H' => Gn H' p L B kA (n + 1) (a - 1) ∧ Kp (fun a => a = p ∨ a = L) H H' ∧ (∃ j, dp = j + 1) ∧ H' L = some (.lst [.int (a - 1), .int d0, .int i0, .int 1, kv0, .int c0, .int l0]) ∧ σ' = [some (.ref p), some (.ref B), some (.ref L), some (.int (dp : Int)), none, some (.int wy), none, none, none, none, none, none], ?_, ?_⟩
  · have leafs : ∀ Dn : L2.St → Hp → Prop, tSeq (tIfS (tTest (tOp rEq (tCall spCoin [] E0 (tCons (tVar 0) (tCons (tC (.int 6)) tNil))) (tC (.int 0)))) (tRet (tTup (tCons (tC (.str (Str.ofString "any"))) tNil))) tNext) (tRet (tTup (tCons (tC (.str (Str.ofString "name"))) (tCons (tCall spName [] E0 (tCons (tVar 0) (tCons (tOp (rIxL K) (tVar 1) (tC (.int 0))) (tCons (tVar 2) tNil)))) tNil))))
        { nx := Dn, rt := Q } [some (.ref p), some (.ref B), some (.ref L), some (.int (dp : Int)), none, some (.int wy), none, none, none, none, none, none] H2 := fun Dn => by
      refine ⟨_, rfl, p, 6, n + 1, rfl, hG2.pu, by omega, by decide, by decide, fun d H3 d1 d2 hb3 hp3 => ⟨rfl, _, rfl, ?_⟩⟩
      have hG3 := hG2.draw hb3 hp3
      have hk3 := hk2.trans (hG2.kd hb3)
      refine ite2 (fun _ => ?_) (fun _ => ?_)
      · refine ⟨by show 1 ≤ sizeLine; decide, fun tp htp => ?_⟩
        have st := same_new htp (.tup [.str (Str.ofString "any")])
        refine kk _ _ (a - 1) (by omega) (by omega) ⟨.tup [S "any"], [], (hG3.same st).mono (by omega), hk3.trans (.same st), rep_tup upd_same (reps_leaf leaf_str reps_nil), (fun _ z => nomatch z), .inl rfl, ?_⟩
        show (1 : Int) = a - (a - 1)
        omega
      · obtain ⟨n0, n1, n2, z0, z1, z2, hB, h0, h1, h2, nd, b1, b2, b3, b4, b5, b6, b7, b8⟩ := hG3.lb
        refine ⟨_, rfl, _, rfl, B, _, _, _, rfl, rfl, SqL.of hB, at3_0, _, rfl, p, L, n0, z0, n + 2, _, rfl, hG3.pu, by omega, h0, b3, ⟨_, hG3.lf⟩, hG3.ne, fun y H4 hy hb4 hp4 => ⟨by show 2 ≤ sizeLine; decide, fun tp htp => ?_⟩⟩
        have st := same_new htp (.tup [.str (Str.ofString "name"), .str y])
        have hG4 := hG3.draw hb4 hp4
        refine kk _ _ (a - 1) (by omega) (by omega) ⟨.tup [S "name", .leaf (.str y)], [], (hG4.same st).mono (by omega), (hk3.trans (hG3.kd hb4)).trans (.same st), rep_tup upd_same (reps_leaf leaf_str (reps_leaf leaf_str reps_nil)), (fun _ z => nomatch z), .inr (.inl ⟨y, h0.2.2.2 y hy, rfl⟩), ?_⟩
        show (1 : Int) = a - (a - 1)
        omega
    refine ⟨_, rfl, _, _, rfl, rfl, _, rfl, ?_⟩
    refine ite2 (fun _ => iteT (leafs _)) (fun c => ?_)
    refine ⟨_, rfl, L, _, _, _, rfl, rfl, SqL.of hL2, at7_0, _, _, rfl, rfl, _, rfl, ?_⟩
    refine ite2 (fun _ => iteT (leafs _)) (fun _ => ?_)
    refine ⟨_, rfl, rfl, _, rfl, ?_⟩
    refine ite2 (fun _ => leafs _) (fun _ => ⟨hG2, hk2, ⟨dp - 1, ?_⟩, hL2, rfl⟩)
    have c' : ¬ ((dp : Int) < 1) := fun z => c (decide_eq_true z)
    omega
  clear hG2 hk2 hL2 hL1 hG1 hk1
  rintro _ H2 ⟨hG2, hk2, ⟨dp, rfl⟩, hL2, rfl⟩
  have hcP : cP (dp + 1) = 10 + 20 * (cP dp + 2300) := rfl
  -- the rest
  refine ⟨fun σ' H' => Gn H' p L B kA (n + 3) (a - 1) ∧ Kp (fun a => a = p ∨ a = L) H H' ∧ H' L = some (.lst [.int (a - 1), .int d0, .int i0, .int 1, kv0, .int c0, .int l0]) ∧ ∃ rv, Opt (.leaf rv) ∧ Leaf rv ∧ σ' = [some (.ref p), some (.ref B), some (.ref L), some (.int ((dp + 1 : Nat) : Int)), none, some (.int wy), some rv, none, none, none, none, none], ?_, ?_⟩
  · refine ⟨_, rfl, p, 2, n + 1, rfl, hG2.pu, by omega, by decide, by decide, fun d H3 d1 d2 hb3 hp3 => ⟨rfl, _, rfl, ?_⟩⟩
    have hG3 := hG2.draw hb3 hp3
    have hk3 := hk2.trans (hG2.kd hb3)
    have hL3 := hb3 L _ hG.ne hL2
    refine ite2 (fun _ => ?_) (fun _ => ?_)
    · exact ⟨hG3.mono (by omega), hk3, hL3, .non, .inl rfl, leaf_non, rfl⟩
    · obtain ⟨n0, n1, n2, z0, z1, z2, hB, h0, h1, h2, nd, b1, b2, b3, b4, b5, b6, b7, b8⟩ := hG3.lb
      refine ⟨_, rfl, _, rfl, B, _, _, _, rfl, rfl, SqL.of hB, at3_0, _, rfl, p, L, n0, z0, n + 2, _, rfl, hG3.pu, by omega, h0, b3, ⟨_, hG3.lf⟩, hG3.ne, fun y H4 hy hb4 hp4 => ?_⟩
      exact ⟨hG3.draw hb4 hp4, hk3.trans (hG3.kd hb4), hb4 L _ hG.ne hL3, .str y, .inr ⟨y, h0.2.2.2 y hy, rfl⟩, leaf_str, rfl⟩
  clear hG2 hk2 hL2
  rintro _ H2 ⟨hG2, hk2, hL2, rv, hrv, hrl, rfl⟩
  -- takings, free
  refine ⟨fun σ' H' => Gn H' p L B kA (n + 3) (a - 1) ∧ Kp (fun a => a = p ∨ a = L) H H' ∧ H' L = some (.lst [.int (a - 1), .int d0, .int i0, .int 1, kv0, .int c0, .int l0]) ∧ ∃ (tk fr : Addr) (zf : List Str), H tk = none ∧ H fr = none ∧ tk ≠ fr ∧ H' tk = some (.lst []) ∧ H' fr = some (.lst (zf.map V.str)) ∧ zf.length ≤ 26 ∧ zf.Nodup ∧ (∀ z ∈ zf, okName z) ∧ σ' = [some (.ref p), some (.ref B), some (.ref L), some (.int ((dp + 1 : Nat) : Int)), none, some (.int wy), some rv, some (.ref tk), some (.ref fr), none, none, none], ?_, ?_⟩
  · refine ⟨by show 0 ≤ sizeLine; decide, fun tk htk => ?_⟩
    have s1 := same_new htk (.lst [])
    obtain ⟨n0, n1, n2, z0, z1, z2, hB, h0, h1, h2, nd, b1, b2, b3, b4, b5, b6, b7, b8⟩ := (hG2.same s1).lb
    refine ⟨_, rfl, B, _, _, _, rfl, rfl, SqL.of hB, at_ofN (j := 2) rfl rfl, n2, _, rfl, .inl (SqL.of h2.1), fun fr hfr => ⟨_, _, rfl, ?_⟩⟩
    have s2 := same_new hfr (.lst (z2.map V.str))
    have htf : tk ≠ fr := fun z => by
      rw [← z, upd_same] at hfr
      cases hfr
    exact ⟨(hG2.same s1).same s2, (hk2.trans (.same s1)).trans (.same s2), s2 _ _ (s1 _ _ hL2), tk, fr, z2, hG.free hk2 hG2 htk, hG.free hk2 hG2 (s1.free hfr), htf, s2 _ _ upd_same, upd_same, h2.2.2.1, nd, h2.2.2.2, rfl⟩
  clear hG2 hk2 hL2
  rintro _ H2 ⟨hG2, hk2, hL2, tk, fr, zf0, htk0, hfr0, htf, htk2, hfr2, hz26, hznd, hzok, rfl⟩
  -- the items
  refine ⟨fun σ' H' => PartI H p L B kA tk fr (decide (wy < 4)) dp (n + 4 + 20 * (cP dp + 2300)) (a - 1) 20 H' ∧ ∃ v9 v10 v11, σ' = [some (.ref p), some (.ref B), some (.ref L), some (.int ((dp + 1 : Nat) : Int)), none, some (.int wy), some rv, some (.ref tk), some (.ref fr), v9, v10, v11], ?_, ?_⟩
  · refine ⟨_, rfl, _, rfl, L, _, _, _, rfl, rfl, SqL.of hL2, at7_2, _, _, rfl, rfl, p, i0 + 1, n + 3, rfl, hG2.pu, by omega, by omega, by omega, fun dr H3 d1 d2 hb3 hp3 => ?_⟩
    have hG3 := hG2.draw hb3 hp3
    have hk3 := hk2.trans (hG2.kd hb3)
    obtain ⟨ntp, ntL⟩ := hG.neP htk0
    obtain ⟨nfp, nfL⟩ := hG.neP hfr0
    refine ⟨dr, rfl, by omega, by omega, ?_⟩
    refine for_range (lo := 0) (fun i σ' H' => PartI H p L B kA tk fr (decide (wy < 4)) dp (n + 4 + i * (cP dp + 2300)) (a - 1) i H' ∧ ∃ v9 v10 v11, σ' = [some (.ref p), some (.ref B), some (.ref L), some (.int ((dp + 1 : Nat) : Int)), none, some (.int wy), some rv, some (.ref tk), some (.ref fr), v9, v10, v11])
      ⟨⟨a - 1, [], [], [], zf0, by rw [Nat.zero_mul]; exact hG3, hk3, by omega, by omega, hb3 _ _ ntp htk2, hb3 _ _ nfp hfr2, reps_nil, (fun _ z => nomatch z), Nat.le_refl _, (fun _ z => nomatch z), by rw [Int.sub_self]; rfl, hz26, hznd, hzok, fun _ => ⟨List.nodup_nil, (fun _ z => nomatch z), fun _ _ z => nomatch z⟩⟩, none, none, none, rfl⟩ ?_ ?_
    · rintro i σ' H5 hi ⟨⟨a', qs, ys, G0, zf, hG5, hk5, ha0, haa, htk5, hfr5, hr5, hf5, hlen, hqs, hsz, hzl, hzn, hzo, hrec⟩, v9, v10, v11, rfl⟩
      have hi3 : i + 1 ≤ 20 := by omega
      have hcost : (i + 1) * (cP dp + 2300) ≤ 20 * (cP dp + 2300) := Nat.mul_le_mul_right _ hi3
      have hsm : (i + 1) * (cP dp + 2300) = i * (cP dp + 2300) + (cP dp + 2300) := Nat.succ_mul _ _
      obtain ⟨e1, e2, e3, e4, kv5, hL5, hl75⟩ := hG5.lf
      -- the test
      refine ⟨fun b H6 => Same H5 H6 ∧ (b = true → 1 ≤ a' ∧ (wy < 4 ∨ zf ≠ [])), ?_, ?_⟩
      · refine ⟨_, rfl, L, _, _, _, rfl, rfl, SqL.of hL5, at7_0, _, _, rfl, rfl, _, rfl, ?_⟩
        refine ite2 (fun c1 => ?_) (fun _ => ⟨Same.refl _, fun z => nomatch z⟩)
        have c1' : a' > 0 := of_decide_eq_true c1
        refine ⟨_, rfl, _, _, rfl, rfl, _, rfl, ?_⟩
        refine ite2 (fun c2 => ⟨Same.refl _, fun _ => ⟨by omega, .inl (of_decide_eq_true c2)⟩⟩) (fun _ => ?_)
        refine ⟨_, rfl, by show 0 ≤ sizeLine; decide, fun q hq => ?_⟩
        have sq := same_new hq (.lst [])
        refine ne_empty (fun z hz => (hzo z hz).2.2) (SqL.of (sq _ _ hfr5)) (SqL.of upd_same) ⟨_, rfl, sq, fun z => ⟨by omega, .inr fun z2 => ?_⟩⟩
        rw [z2] at z
        cases z
      rintro b5 H6 ⟨hs6, hc6⟩
      have hG6 := hG5.same hs6
      have hk6 := hk5.trans (.same hs6)
      refine ite2 (fun c => ?_) (fun _ => ?_)
      rotate_left
      · exact ⟨⟨a', qs, ys, G0, zf, hG6.mono (by omega), hk6, ha0, haa, hs6 _ _ htk5, hs6 _ _ hfr5, hr5.same hs6, hf5, by omega, hqs, hsz, hzl, hzn, hzo, hrec⟩, _, _, _, rfl⟩
      obtain ⟨ha1', hway⟩ := hc6 c
      replace htk5 := hs6 _ _ htk5
      replace hfr5 := hs6 _ _ hfr5
      replace hr5 := hr5.same hs6
      clear hG5 hk5 hL5
      -- found
      refine ⟨by show 0 ≤ sizeLine; decide, fun fo hfo => ?_⟩
      have sfo := same_new hfo (.lst [])
      have sp : ∀ {x : Addr} {o : HO}, H6 x = some o → x ≠ fo := fun h => ne_of_none h hfo
      have gfo : ∀ x ∈ G0, x ≠ fo := fun x hx => by
        obtain ⟨zs, e⟩ := hr5.at_ x hx
        exact sp e
      have hfo0 : H fo = none := hG.free hk6 hG6 hfo
      have hG7 := hG6.same sfo
      have hk7 := hk6.trans (.same sfo)
      have htk7 := sfo _ _ htk5
      have hfr7 := sfo _ _ hfr5
      have hr7 := hr5.same sfo
      have hfo7 : (upd H6 fo (.lst [])) fo = some (.lst []) := upd_same
      generalize upd H6 fo (.lst []) = H7 at hG7 hk7 htk7 hfr7 hr7 hfo7
      -- the field's name
      refine ⟨fun σ' H' => ∃ (z : Str) (zf' : List Str) (fo' : Addr) (v : Option V), Gn H' p L B kA (n + 4 + i * (cP dp + 2300) + 2) a' ∧ Kp (fun a => a = p ∨ a = L) H H' ∧ H fo' = none ∧ (∀ x ∈ G0, x ≠ fo') ∧ fo' ≠ tk ∧ fo' ≠ fr ∧ H' fo' = some (.lst (if decide (wy < 4) = true then [] else [.str z])) ∧ H' tk = some (.lst ys) ∧ H' fr = some (.lst (zf'.map V.str)) ∧ Reps H' (qs.map (ent (decide (wy < 4)))) ys G0 ∧ zf'.length ≤ 26 ∧ zf'.Nodup ∧ (∀ y ∈ zf', okName y) ∧
        (decide (wy < 4) = false → okName z ∧ z ∉ qs.map (·.1) ∧ (∀ y ∈ zf', y ∉ qs.map (·.1)) ∧ z ∉ zf') ∧ σ' = [some (.ref p), some (.ref B), some (.ref L), some (.int ((dp + 1 : Nat) : Int)), none, some (.int wy), some rv, some (.ref tk), some (.ref fr), some (.int (0 + (i : Int))), some (.ref fo'), v], ?_, ?_⟩
      · refine ⟨_, rfl, _, _, rfl, rfl, _, rfl, ?_⟩
        refine ite2 (fun c3 => ?_) (fun c3 => ?_)
        rotate_left
        · have c3' : ¬ wy > 3 := fun z => c3 (decide_eq_true z)
          have w4 : decide (wy < 4) = true := decide_eq_true (by omega)
          refine ⟨Str.ofString "", zf, fo, v11, hG7.mono (by omega), hk7, hfo0, gfo, (sp htk5).symm, (sp hfr5).symm, ?_, htk7, hfr7, hr7, hzl, hzn, hzo, fun e => ?_, rfl⟩
          · rw [w4]
            exact hfo7
          · rw [w4] at e
            cases e
        have c3' : wy > 3 := of_decide_eq_true c3
        have w4 : decide (wy < 4) = false := decide_eq_false (by omega)
        have hz0 : zf ≠ [] := hway.resolve_left (by omega)
        have hz1 : 0 < zf.length := List.length_pos_iff.mpr hz0
        obtain ⟨hr1, hr2, hr3⟩ := hrec w4
        refine ⟨_, rfl, _, rfl, fr, _, rfl, .inl (SqL.of hfr7), p, _, _, rfl, hG7.pu, by omega, (by rw [List.length_map]; omega), (by rw [List.length_map]; omega), fun dj H8 j0 j1 hb8 hp8 => ?_⟩
        rw [List.length_map] at j1
        obtain ⟨j, rfl⟩ : ∃ j : Nat, dj = (j : Int) := ⟨dj.toNat, by omega⟩
        have hj : j < zf.length := by omega
        have hG8 := hG7.draw hb8 hp8
        have hk8 := hk7.trans (hG7.kd hb8)
        have hfr8 := hb8 _ _ nfp hfr7
        refine ⟨_, rfl, _, rfl, _, rfl, fr, _, _, .str zf[j], rfl, rfl, SqL.of hfr8, atI_nat (by rw [List.getElem?_map, List.getElem?_eq_getElem hj]; rfl), by show 1 ≤ sizeLine; decide, fun q hq => ?_⟩
        have sq := same_new hq (.lst [V.str zf[j]])
        have hG9 := hG8.same sq
        obtain ⟨ok0, ok1, ok2⟩ := erase_split hj hzn
        refine ⟨_, rfl, p, L, q, [zf[j]], _, a', rfl, hG9.pu, by omega, ⟨upd_same, Nat.le_refl _, by show 1 ≤ 26; decide, fun y hy => ?_⟩, (hG8.neP hq).1, ⟨_, hG9.lf⟩, hG9.ne, fun y H10 hy hb10 hp10 => ⟨by show 1 ≤ sizeLine; decide, fun fo2 hfo2 => ?_⟩⟩
        · rw [List.mem_singleton.mp hy]
          exact hzo _ (List.getElem_mem hj)
        have hyj : y = zf[j] := List.mem_singleton.mp hy
        subst hyj
        have hG10 := hG9.draw hb10 hp10
        have hk10 := (hk8.trans (.same sq)).trans (hG9.kd hb10)
        have sf2 := same_new hfo2 (.lst [V.str zf[j]])
        have hG11 := hG10.same sf2
        have hk11 := hk10.trans (.same sf2)
        have hfr11 := sf2 _ _ (hb10 _ _ nfp (sq _ _ hfr8))
        have htk11 := sf2 _ _ (hb10 _ _ ntp (sq _ _ (hb8 _ _ ntp htk7)))
        have hfo20 : H fo2 = none := hG.free hk10 hG10 hfo2
        have kp711 : Kp (fun a => a = p) H7 (upd H10 fo2 (.lst [V.str zf[j]])) := (((hb8.kp hG7.pu).trans (.same sq)).trans (hb10.kp hG9.pu)).trans (.same sf2)
        have hr11 := hr7.kp kp711 fun x hx z => (hG.neP (hf5 x hx).1).1 z
        have hf211 : (upd H10 fo2 (.lst [V.str zf[j]])) fo2 = some (.lst [V.str zf[j]]) := upd_same
        have gfo2 : ∀ x ∈ G0, x ≠ fo2 := fun x hx => by
          obtain ⟨zs, e⟩ := hr7.at_ x hx
          have e2 := ((hb8.kp hG7.pu).trans (.same sq)).trans (hb10.kp hG9.pu) x _ e (.inl fun z => (hG.neP (hf5 x hx).1).1 z)
          exact ne_of_none e2 hfo2
        have nf2t : fo2 ≠ tk := (ne_of_none (hb10 _ _ ntp (sq _ _ (hb8 _ _ ntp htk7))) hfo2).symm
        have nf2f : fo2 ≠ fr := (ne_of_none (hb10 _ _ nfp (sq _ _ hfr8)) hfo2).symm
        generalize upd H10 fo2 (.lst [V.str zf[j]]) = H11 at hG11 hk11 hfr11 htk11 hr11 hf211 kp711
        obtain ⟨f1, f2, f3, f4, kv6, hL6, _, rfl, hkA6, nkp6, nkL6⟩ := hG11.lf
        refine ⟨_, rfl, L, _, _, _, rfl, rfl, SqL.of hL6, at7_3, _, _, rfl, rfl, _, rfl, ?_⟩
        refine ifT (decide_eq_true (by decide)) ⟨_, rfl, L, _, _, _, rfl, rfl, SqL.of hL6, at7_4, kA, _, rfl, .inl (SqL.of hkA6), rfl, (by rfl), _, rfl, ?_⟩
        refine ifF (by decide +kernel) (iteF ?_)
        refine ⟨_, rfl, .inl ⟨rfl, _, SqL.of hfr11⟩, _, rfl, fr, _, (j : Int), j, .str zf[j], rfl, rfl, hfr11, by omega, by omega, (ixN_seq (Evl.ixN_nat (by rw [List.length_map]; exact hj))).1, (by rw [List.getElem?_map, List.getElem?_eq_getElem hj]; rfl), ?_⟩
        rw [erase_map]
        have kp12 : Kp (fun a => a = fr) H11 (upd H11 fr (.lst ((zf.eraseIdx j).map V.str))) := Kp.set hfr11 rfl
        refine ⟨zf[j], zf.eraseIdx j, fo2, _, (hG.put hk11 hG11 hfr0).mono (by omega), hk11.put hfr0, hfo20, gfo2, nf2t, nf2f, ?_, (by rw [upd_ne htf]; exact htk11), upd_same, hr11.kp kp12 fun x hx => (hf5 x hx).2.2, Nat.le_trans (erase_len _ _) hzl, ok0, fun y hy => hzo y (ok2 y hy), fun _ => ⟨hzo _ (List.getElem_mem hj), hr3 _ (List.getElem_mem hj), fun y hy => hr3 y (ok2 y hy), ok1⟩, rfl⟩
        rw [w4, upd_ne nf2f]
        exact hf211
      clear hfo hfo0 sfo sp gfo hG7 hk7 htk7 hfr7 hr7 hfo7
      rintro _ H7 ⟨z, zf', fo, v11', hG7, hk7, hfo0, gfo, nft, nff, hfo7, htk7, hfr7, hr7, hzl', hzn', hzo', hrec', rfl⟩
      have noSf : ∀ {x : Addr}, H x = none → ¬ (x = p ∨ x = L) := fun h => hG.noS h
      -- the part
      refine ⟨_, rfl, .inl ⟨rfl, _, SqL.of hfo7⟩, _, rfl, _, rfl, _, rfl, _, rfl, _, _, rfl, rfl, p, B, L, kA, n + 4 + i * (cP dp + 2300) + 2, dp, a', ?_, by omega, hG7, ha1', by omega, by omega, ?_⟩
      · show [V.ref p, V.ref B, V.ref L, V.int (((dp + 1 : Nat) : Int) - 1)] = _
        rw [show (((dp + 1 : Nat) : Int) - 1) = (dp : Int) by omega]
      rintro u H8 a2 ha20 ha21 ⟨d, G8, hG8, hk8, r8, f8, okd, szd⟩
      have hk8' := hk7.trans hk8
      have hfo8 := hk8 _ _ hfo7 (.inl (noSf hfo0))
      have htk8 := hk8 _ _ htk7 (.inl (noSf htk0))
      have hfr8 := hk8 _ _ hfr7 (.inl (noSf hfr0))
      have hr8 := hr7.kp hk8 fun x hx => noSf (hf5 x hx).1
      have n8 : ∀ x ∈ G8, H x = none ∧ x ≠ tk ∧ x ≠ fr ∧ x ≠ fo := fun x hx => ⟨hG.free hk7 hG7 (f8 x hx), (ne_of_none htk7 (f8 x hx)).symm, (ne_of_none hfr7 (f8 x hx)).symm, (ne_of_none hfo7 (f8 x hx)).symm⟩
      refine ⟨fo, _, _, rfl, rfl, hfo8, Nat.lt_of_le_of_lt (show _ ≤ 1 by split <;> simp) (by decide), ?_⟩
      generalize hws : (if decide (wy < 4) = true then ([] : List V) else [V.str z]) = ws at hfo7 hfo8
      have hw1 : ws.length ≤ 1 := by
        rw [← hws]
        split <;> simp
      have kp9 : Kp (fun a => a = fo) H8 (upd H8 fo (.lst (ws ++ [u]))) := Kp.set hfo8 rfl
      have hG9 := hG.put hk8' hG8 hfo0 (o := .lst (ws ++ [u]))
      have hk9 := hk8'.put hfo0 (o := .lst (ws ++ [u]))
      have hfo9 : (upd H8 fo (.lst (ws ++ [u]))) fo = some (.lst (ws ++ [u])) := upd_same
      generalize upd H8 fo (.lst (ws ++ [u])) = H9 at kp9 hG9 hk9 hfo9
      have htk9 := kp9 _ _ htk8 (.inl (Ne.symm nft))
      have hfr9 := kp9 _ _ hfr8 (.inl (Ne.symm nff))
      have hr9 := hr8.kp kp9 fun x hx => gfo x hx
      have r9 := r8.kp kp9 fun x hx => (n8 x hx).2.2.2
      -- what it takes else
      refine ⟨_, rfl, .inl ⟨rfl, _, SqL.of hfo9⟩, _, rfl, _, rfl, _, rfl, p, B, L, kA, n + 4 + i * (cP dp + 2300) + 2 + cP dp, a2, rfl, hG9, by omega, ?_⟩
      rintro u2 H10 ⟨d2, G10, hG10, hk10, r10, f10, okd2⟩
      have hk10' := hk9.trans hk10
      have hfo10 := hk10 _ _ hfo9 (.inl (noSf hfo0))
      have htk10 := hk10 _ _ htk9 (.inl (noSf htk0))
      have hfr10 := hk10 _ _ hfr9 (.inl (noSf hfr0))
      have hr10 := hr9.kp hk10 fun x hx => noSf (hf5 x hx).1
      have r9' := r9.kp hk10 fun x hx => noSf (n8 x hx).1
      have n10 : ∀ x ∈ G10, H x = none ∧ x ≠ tk ∧ x ≠ fr ∧ x ≠ fo := fun x hx => ⟨hG.free hk9 hG9 (f10 x hx), (ne_of_none htk9 (f10 x hx)).symm, (ne_of_none hfr9 (f10 x hx)).symm, (ne_of_none hfo9 (f10 x hx)).symm⟩
      refine ⟨fo, _, _, rfl, rfl, hfo10, Nat.lt_of_le_of_lt (show (ws ++ [u]).length ≤ 2 by rw [List.length_append]; show ws.length + 1 ≤ 2; omega) (by decide), ?_⟩
      have kp11 : Kp (fun a => a = fo) H10 (upd H10 fo (.lst (ws ++ [u] ++ [u2]))) := Kp.set hfo10 rfl
      have hG11 := hG.put hk10' hG10 hfo0 (o := .lst (ws ++ [u] ++ [u2]))
      have hk11 := hk10'.put hfo0 (o := .lst (ws ++ [u] ++ [u2]))
      have hfo11 : (upd H10 fo (.lst (ws ++ [u] ++ [u2]))) fo = some (.lst (ws ++ [u] ++ [u2])) := upd_same
      generalize upd H10 fo (.lst (ws ++ [u] ++ [u2])) = H11 at kp11 hG11 hk11 hfo11
      have htk11 := kp11 _ _ htk10 (.inl (Ne.symm nft))
      have hfr11 := kp11 _ _ hfr10 (.inl (Ne.symm nff))
      have hr11 := hr10.kp kp11 fun x hx => gfo x hx
      have ra := r9'.kp kp11 fun x hx => (n8 x hx).2.2.2
      have rb := r10.kp kp11 fun x hx => (n10 x hx).2.2.2
      -- both, as a tuple
      refine ⟨_, rfl, .inl ⟨rfl, _, SqL.of htk11⟩, _, rfl, fo, _, rfl, .inl ⟨SqL.of hfo11, fun t ht => ?_⟩⟩
      have st := same_new ht (.tup (ws ++ [u] ++ [u2]))
      have htk12 := st _ _ htk11
      have ht12 : (upd H11 t (.tup (ws ++ [u] ++ [u2]))) t = some (.tup (ws ++ [u] ++ [u2])) := upd_same
      have hG12 := hG11.same st
      have hk12 := hk11.trans (.same st)
      have hyl : ys.length = qs.length := by
        rw [hr7.len, List.length_map]
      refine ⟨tk, _, _, rfl, rfl, htk12, Nat.lt_of_le_of_lt (show ys.length ≤ 1000 by omega) (by decide), ?_⟩
      have kp13 : Kp (fun a => a = tk) (upd H11 t (.tup (ws ++ [u] ++ [u2]))) (upd (upd H11 t (.tup (ws ++ [u] ++ [u2]))) tk (.lst (ys ++ [.ref t]))) := Kp.set htk12 rfl
      have dis : ∀ x ∈ G8, x ∉ G10 := fun x hx hy => by
        obtain ⟨zs, e⟩ := r9.at_ x hx
        rw [f10 x hy] at e
        cases e
      have RE : Rep (upd H11 t (.tup (ws ++ [u] ++ [u2]))) (ent (decide (wy < 4)) (z, d, d2)) (.ref t) (G8 ++ G10) := by
        rw [← hws] at ht12
        rw [hws] at ht12
        refine ent_rep ?_ (ra.same st) (rb.same st) dis
        rw [hws]
        exact ht12
      refine ⟨⟨a2, qs ++ [(z, d, d2)], ys ++ [.ref t], G0 ++ (G8 ++ G10), zf', (hG.put hk12 hG12 htk0).mono (by omega), hk12.put htk0, ha20, by omega, upd_same, (by rw [upd_ne (Ne.symm htf)]; exact st _ _ hfr11), ?_, fun x hx => ?_, ?_, fun q hq => ?_, ?_, hzl', hzn', hzo', fun e => ?_⟩, _, _, _, rfl⟩
      · rw [List.map_append]
        refine Reps.snoc ((hr11.same st).kp kp13 fun x hx => (hf5 x hx).2.1) (RE.kp kp13 fun x hx => ?_) fun x hx hy => ?_
        · rcases List.mem_append.mp hx with y | y
          · exact (n8 x y).2.1
          · exact (n10 x y).2.1
        · rcases List.mem_append.mp hy with y | y
          · obtain ⟨zs, e⟩ := hr7.at_ x hx
            rw [f8 x y] at e
            cases e
          · obtain ⟨zs, e⟩ := hr9.at_ x hx
            rw [f10 x y] at e
            cases e
      · rcases List.mem_append.mp hx with y | y
        · exact hf5 x y
        · rcases List.mem_append.mp y with y | y
          · exact ⟨(n8 x y).1, (n8 x y).2.1, (n8 x y).2.2.1⟩
          · exact ⟨(n10 x y).1, (n10 x y).2.1, (n10 x y).2.2.1⟩
      · rw [List.length_append]
        show qs.length + 1 ≤ i + 1
        omega
      · rcases List.mem_append.mp hq with y | y
        · exact hqs q y
        · rw [List.mem_singleton.mp y]
          exact ⟨okd, okd2⟩
      · rw [List.map_append, List.flatMap_append, List.length_append]
        have e : ((([(z, d, d2)] : List (Str × D × D)).map fun q => q.2.1).flatMap (pre (dp + 1))).length = (pre (dp + 1) d).length := by
          show (pre (dp + 1) d ++ []).length = _
          rw [List.append_nil]
        omega
      · obtain ⟨q1, q2, q3, q4⟩ := hrec' e
        obtain ⟨g1, g2, g3⟩ := hrec e
        rw [List.map_append]
        refine ⟨List.nodup_append.mpr ⟨g1, (List.nodup_cons.mpr ⟨List.not_mem_nil, List.nodup_nil⟩), fun x hx y hy => ?_⟩, fun q hq => ?_, fun y hy hm => ?_⟩
        · rintro rfl
          rw [List.mem_singleton.mp hy] at hx
          exact q2 hx
        · rcases List.mem_append.mp hq with y | y
          · exact g2 q y
          · rw [List.mem_singleton.mp y]
            exact q1
        · rcases List.mem_append.mp hm with w | w
          · exact q3 y hy w
          · rw [List.mem_singleton.mp w] at hy
            exact q4 hy
    · rintro σ' H5 ⟨⟨a', qs, ys, G0, zf, hG5, hk5, ha0, haa, htk5, hfr5, hr5, hf5, hlen, hqs, hsz, hzl, hzn, hzo, hrec⟩, v9, v10, v11, rfl⟩
      have hi3 : dr.toNat ≤ 20 := by omega
      have hcost : dr.toNat * (cP dp + 2300) ≤ 20 * (cP dp + 2300) := Nat.mul_le_mul_right _ hi3
      exact ⟨⟨a', qs, ys, G0, zf, hG5.mono (by omega), hk5, ha0, haa, htk5, hfr5, hr5, hf5, by omega, hqs, hsz, hzl, hzn, hzo, hrec⟩, _, _, _, rfl⟩
  clear hG2 hk2 hL2 htk2 hfr2
  rintro _ H2 ⟨⟨a', qs, ys, G0, zf, hG5, hk5, ha0, haa, htk5, hfr5, hr5, hf5, hlen, hqs, hsz, hzl, hzn, hzo, hrec⟩, v9, v10, v11, rfl⟩
  -- the part
  refine ⟨_, rfl, _, _, rfl, rfl, _, rfl, ?_⟩
  have fin : ∀ s : String, (s = if decide (wy < 4) = true then "row" else "record") → tTup (tCons (tC (.str (Str.ofString s))) (tCons (tVar 7) (tCons (tVar 6) tNil))) [some (.ref p), some (.ref B), some (.ref L), some (.int ((dp + 1 : Nat) : Int)), none, some (.int wy), some rv, some (.ref tk), some (.ref fr), v9, v10, v11] H2 Q := fun s hs => by
    refine ⟨_, rfl, _, rfl, by show 3 ≤ sizeLine; decide, fun tp htp => ?_⟩
    have st := same_new htp (.tup [.str (Str.ofString s), .ref tk, rv])
    refine kk _ _ a' ha0 (by omega) ⟨.tup [S s, .lst (qs.map (ent (decide (wy < 4)))), .leaf rv], tk :: G0, (hG5.same st).mono (by omega), hk5.trans (.same st), ?_, fun x hx => ?_, ?_, ?_⟩
    · have z := reps_cons (rep_lst (st _ _ htk5) (hr5.same st) fun z => (hf5 tk z).2.1 rfl) (reps_leaf hrl reps_nil) (fun _ _ z => nomatch z)
      rw [List.append_nil] at z
      exact rep_tup upd_same (reps_leaf leaf_str z)
    · rcases List.mem_cons.mp hx with z | z
      · exact z ▸ htk0
      · exact (hf5 x z).1
    · exact .inr (.inr ⟨_, qs, _, by rw [hs], hrv, by omega, hqs, fun e => ⟨(hrec e).1, (hrec e).2.1⟩⟩)
    · show (((List.length (_ :: (kids _).flatMap (pre (dp + 1)))) : Nat) : Int) = a - a'
      rw [kids_ent, List.length_cons]
      omega
  exact ite2 (fun c => fin "row" (by rw [if_pos c])) (fun c => fin "record" (by rw [if_neg c]))
end
end K03.Cl
set_option Elab.async false
set_option linter.all false
set_option maxRecDepth 100000
set_option maxHeartbeats 4000000
namespace K03.Cl
open PySem L2 PyProof.Rows
theorem flat_eq {α β : Type} {f g : α → List β} : ∀ {xs : List α}, (∀ x ∈ xs, f x = g x) → xs.flatMap f = xs.flatMap g
  | [], _ => rfl
  | x :: xs, h => by
    rw [List.flatMap_cons, List.flatMap_cons, h x List.mem_cons_self, flat_eq fun y hy => h y (List.mem_cons_of_mem _ hy)]
theorem pre_succ : ∀ {n : Nat} {d : D}, PtOk n d → pre (n + 1) d = pre n d
  | 0, _, h => h.elim
  | n + 1, d, h => by
    show d :: (kids d).flatMap (pre (n + 1)) = d :: (kids d).flatMap (pre n)
    rcases h with rfl | ⟨z, _, rfl⟩ | ⟨row, qs, r, rfl, hr, hl, hq, hf⟩
    · rfl
    · rfl
    · rw [kids_ent, flat_eq fun x hx => ?_]
      obtain ⟨q, hm, rfl⟩ := List.mem_map.mp hx
      exact pre_succ (hq q hm).1
theorem PtOk.le {n m : Nat} {d : D} (h : PtOk n d) (hm : n ≤ m) : PtOk m d := by
  induction hm with
  | refl => exact h
  | step _ ih => exact ih.succ
theorem pre_le {n m : Nat} {d : D} (h : PtOk n d) (hm : n ≤ m) : pre m d = pre n d := by
  induction hm with
  | refl => rfl
  | @step m hm ih => rw [pre_succ (h.le hm), ih]
theorem Gn.gen {H : Hp} {p L B kA : Addr} {n : Nat} {a : Int} (h : Gn H p L B kA n a) : K03.Gn H p L B kA n a := by
  obtain ⟨d, i, c, l, kv, e, hb, rfl, k1, k2, k3⟩ := h.lf
  obtain ⟨n0, n1, n2, z0, z1, z2, hB, h0, h1, h2, nd, b1, b2, b3, b4, b5, b6, b7, b8⟩ := h.lb
  exact ⟨h.pu, ⟨d, i, 1, c, l, [Str.ofString "rule"], e, hb, k1, k2, k3⟩, h.ne, n0, n1, n2, z0, z1, z2, hB, h0, h1, h2, b1, b2, b3, b4, b5, b6, b7, b8⟩
def cPl : Nat := cP 6 + 2000
def spPlan : Sp := fun vs H Q _ => ∃ (p kA : Addr) (g : Bool) (n : Nat), vs = [.ref p, .bl g, .int 1, .ref kA] ∧ Purse H p n ∧ n + cPl < 10 ^ 60 ∧ H kA = some (.lst [.str (Str.ofString "rule")]) ∧ kA ≠ p ∧
  ∀ (t : Addr) (d : D) (r s : Str) (G : List Addr) H', But p H H' → Purse H' p (n + cPl) → H t = none → PlanAt H' t d r s G → (∀ x ∈ G, H x = none) → PtOk 7 d → Q (.ref t) H'
section
variable {P : Program} {w : World} {K : PySem.W.Frag} {mg : Str → Option Value} {base : Heap}
theorem scPl : FnScope ["purse", "is_great", "wrong", "kinds", "sizes", "labels", "left", "piece", "rules", "size"] ["purse", "is_great", "wrong", "kinds"] (defScope sPlan) := ⟨rfl, rfl, rfl, by decide +kernel, rfl, by decide +kernel, by decide +kernel⟩
theorem ok_plan {f fC fW fP fR : Addr} {fd fdC fdW fdP fdR : FuncData} (F : Fun K "_law_ta_plan" "_law_ta_plan" sPlan f fd) (T : Txt K mg)
    (FC : Fun K "_law_coin" "_law_coin" sCoin fC fdC) (GC : FnOk P w K mg base CX0 1 fC fdC ["purse", "many"] spCoin) (bC : Binds K fdC ["purse", "many"] []) (mC : mg "_law_coin" = some (.ref fC))
    (FW : Fun K "_law_words" "_law_words" sWords fW fdW) (GW : FnOk P w K mg base CX0 2 fW fdW ["purse", "many"] spWords) (bW : Binds K fdW ["purse", "many"] []) (mW : mg "_law_words" = some (.ref fW))
    (FP : Fun K "_law_ta_part" "_law_ta_part" sPart fP fdP) (GP : FnOk P w K mg base CX0 15 fP fdP ["purse", "labels", "left", "deep"] (spPart 15)) (bP : Binds K fdP ["purse", "labels", "left", "deep"] []) (mP : mg "_law_ta_part" = some (.ref fP))
    (FR : Fun K "_law_ta_rules" "_law_ta_rules" sRules fR fdR) (GR : FnOk P w K mg base CX0 2 fR fdR ["purse", "left"] K03.spRules) (bR : Binds K fdR ["purse", "left"] []) (mR : mg "_law_ta_rules" = some (.ref fR)) :
    FnOk P w K mg base CX0 16 f fd ["purse", "is_great", "wrong", "kinds"] spPlan := by
  refine F.ok scPl (fun vs H Q E h => ?_) (fun cdv A outer s H vs Q E hr h => ?_)
  · obtain ⟨p, kA, g, n, rfl, _⟩ := h
    rfl
  obtain ⟨p, kA, g, n, rfl, hp, hn, hkA, hkAp, kk⟩ := h
  have hr1 : Room 1 (A.deeper (envOfC "_law_ta_plan" (defScope sPlan) s.heap.objs.size f cdv)) := hr.mono (by omega)
  have hr2 : Room 2 (A.deeper (envOfC "_law_ta_plan" (defScope sPlan) s.heap.objs.size f cdv)) := hr.mono (by omega)
  refine ⟨_, Evl.pss_cut (ps_set (i := 4) scPl.nd rfl (Or.inl rfl) (pe_ifExp (pt_val (pv 1)) (pe_lst (pa_cons pe_int (pa_cons pe_int (pa_cons pe_int pa_nil)))) (pe_lst (pa_cons pe_int (pa_cons pe_int (pa_cons pe_int pa_nil))))))
    (Evl.pss_cut (ps_setLc (i := 5) (own := [("size", 9)]) (g := gName 9) (tt := tYes) (by rfl) scPl.nd rfl rfl (sw_true rfl rfl rfl (by decide +kernel)) (pi_list (pv 4)) (blkOk_by (N := ["purse", "is_great", "wrong", "kinds", "sizes", "labels", "left", "piece", "rules", "size"]) (sc := defScope sPlan) (by decide +kernel)) (fun _ _ _ _ _ => pg_name (i := 9) scPl.nd rfl (Or.inl rfl)) (fun _ _ _ _ _ => pts_nil)
        (fun _ _ _ _ _ => pe_call GW hr2 rfl mW FW.kp bW .nil pass0 (pa_cons (pv 0) (pa_cons (pe_op op_add pe_int (pe_call GC hr1 rfl mC FC.kp bC .nil pass0 (pa_cons (pv 0) (pa_cons (pv 9) pa_nil)))) pa_nil))))
    (Evl.pss_cut (ps_set (i := 6) scPl.nd rfl (Or.inl rfl) (pe_ifExp (pt_val (pv 1)) (pe_lst (pa_cons pe_int (pa_cons pe_int (pa_cons pe_int (pa_cons (pv 2) (pa_cons (pv 3) (pa_cons pe_int (pa_cons pe_int pa_nil)))))))) (pe_lst (pa_cons pe_int (pa_cons pe_int (pa_cons pe_int (pa_cons (pv 2) (pa_cons (pv 3) (pa_cons pe_int (pa_cons pe_int pa_nil))))))))))
    (Evl.pss_cut (ps_set (i := 7) scPl.nd rfl (Or.inl rfl) (pe_call GP hr rfl mP FP.kp bP .nil pass0 (pa_cons (pv 0) (pa_cons (pv 5) (pa_cons (pv 6) (pa_cons (pe_ifExp (pt_val (pv 1)) pe_int pe_int) pa_nil))))))
    (pss_cons (ps_set (i := 8) scPl.nd rfl (Or.inl rfl) (pe_call GR hr2 rfl mR FR.kp bR .nil pass0 (pa_cons (pv 0) (pa_cons (pv 6) pa_nil))))
    (pss_one (ps_ret (pe_tup (pa_cons (pv 7) (pa_cons (pe_ix ix_list (pv 8) pe_int (fun _ _ => rfl)) (pa_cons (pe_ix ix_list (pv 8) pe_int (fun _ _ => rfl)) pa_nil)))))))))), ?_⟩
  obtain ⟨po, hpo⟩ := hp.some
  have h6 : cPl = cP 6 + 2000 := rfl
  -- sizes
  refine ⟨fun σ' H' => Same H H' ∧ ∃ (sA : Addr) (ss : List Int), H sA = none ∧ H' sA = some (.lst (ss.map V.int)) ∧ ss.length = 3 ∧ (∀ x ∈ ss, 1 ≤ x ∧ x ≤ 9) ∧ σ' = [some (.ref p), some (.bl g), some (.int 1), some (.ref kA), some (.ref sA), none, none, none, none, none], ?_, ?_⟩
  · refine ⟨_, rfl, g, rfl, ?_⟩
    refine ite2 (fun _ => ⟨by show 3 ≤ sizeLine; decide, fun q hq => ?_⟩) (fun _ => ⟨by show 3 ≤ sizeLine; decide, fun q hq => ?_⟩)
    · exact ⟨same_new hq _, q, [9, 5, 9], hq, upd_same, rfl, by decide, rfl⟩
    · exact ⟨same_new hq _, q, [5, 2, 4], hq, upd_same, rfl, by decide, rfl⟩
  rintro _ H1 ⟨hs1, sA, ss, hsA0, hsA, hss3, hss, rfl⟩
  have nsp : sA ≠ p := hp.ne hsA0
  -- labels
  refine ⟨fun σ' H' => But p H H' ∧ Purse H' p (n + 3 * 402) ∧ ∃ (B : Addr) (rs : List Addr), H B = none ∧ H' B = some (.lst (rs.map V.ref)) ∧ rs.length = 3 ∧ (∀ r ∈ rs, H r = none ∧ r ≠ B ∧ ∃ z, Nam H' r z ∧ z.Nodup) ∧ σ' = [some (.ref p), some (.bl g), some (.int 1), some (.ref kA), some (.ref sA), some (.ref B), none, none, none, none], ?_, ?_⟩
  · refine ⟨_, rfl, sA, rfl, ⟨_, SqL.of hsA⟩, fun D0 hD => ?_⟩
    have nDp : D0 ≠ p := (hp.same hs1).ne hD
    refine lc_list (K := K) (a := sA) (xs := ss.map V.int) (fun i H2 => But p H H2 ∧ H2 sA = some (.lst (ss.map V.int)) ∧ Purse H2 p (n + i * 402) ∧ ∃ rs : List Addr, H2 D0 = some (.lst (rs.map V.ref)) ∧ rs.length = i ∧ ∀ r ∈ rs, H r = none ∧ r ≠ D0 ∧ ∃ z, Nam H2 r z ∧ z.Nodup)
      ⟨(But.of hs1).trans (.new hD), same_new hD _ _ _ hsA, (by rw [Nat.zero_mul]; exact (hp.same hs1).same (same_new hD _)), [], upd_same, rfl, fun _ z => nomatch z⟩ (fun i H2 _ ⟨_, h, _⟩ => SqL.of h) ?_ ?_
    · rintro i x H2 hi ⟨hb2, hsA2, hp2, rs, hD2, hl, hrs⟩
      refine ⟨rfl, ?_⟩
      have hi3 : i < 3 := by
        have q := (List.getElem?_eq_some_iff.mp hi).1
        rw [List.length_map] at q
        omega
      obtain ⟨sz, hsz, rfl⟩ := List.mem_map.mp (List.mem_of_getElem? hi)
      obtain ⟨g1, g2⟩ := hss sz hsz
      show tCall spWords [] E0 (tCons (tVar 0) (tCons _ tNil)) _ H2 _
      refine ⟨_, rfl, _, rfl, _, rfl, p, sz, n + i * 402, rfl, hp2, by omega, by omega, by omega, fun d H3 d0 d1 hb3 hp3 => ⟨_, _, rfl, rfl, p, (1 + d).toNat, n + i * 402 + 1, ?_, by omega, by omega, hp3, by omega, fun r zs H4 hA hr hzs hzl hnd hok => ?_⟩⟩
      · show [V.ref p, V.int (1 + d)] = _
        rw [show (((1 + d).toNat : Nat) : Int) = 1 + d by omega]
      have hb4 := (hb2.trans hb3).trans hA.1
      have hr0 : H r = none := (hb2.trans hb3).free hpo hp3.some hr
      have hD4 := hA.1 _ _ nDp (hb3 _ _ nDp hD2)
      have hrD : r ≠ D0 := (ne_of_none (hb3 _ _ nDp hD2) hr).symm
      refine ⟨_, hD4, Nat.lt_of_le_of_lt (show (rs.map V.ref).length ≤ 3 by rw [List.length_map]; omega) (by decide), ?_, ?_, ?_, rs ++ [r], ?_, ?_, fun y hy => ?_⟩
      · intro b o nb e
        rw [upd_ne fun z => ?_]
        · exact hb4 b o nb e
        · rw [z, hs1.free hD] at e
          cases e
      · rw [upd_ne (ne_of_none hsA hD)]
        exact hA.1 _ _ nsp (hb3 _ _ nsp hsA2)
      · obtain ⟨x1, x2, x3, e, r2⟩ := hA.2.mono (show n + i * 402 + 1 + 400 ≤ n + (i + 1) * 402 by rw [Nat.succ_mul]; omega)
        exact ⟨x1, x2, x3, by rw [upd_ne (Ne.symm nDp)]; exact e, r2⟩
      · rw [upd_same, List.map_append]
        rfl
      · rw [List.length_append, hl]
        rfl
      · have up : ∀ {y : Addr} {z : List Str}, y ≠ D0 → Nam H4 y z → Nam (upd H4 D0 (.lst (rs.map V.ref ++ [.ref r]))) y z := fun ny h => ⟨by rw [upd_ne ny]; exact h.1, h.2⟩
        rcases List.mem_append.mp hy with y1 | y1
        · obtain ⟨a1, a2, z, a3, a4⟩ := hrs y y1
          have nyp : y ≠ p := hp.ne a1
          exact ⟨a1, a2, z, up a2 ⟨hA.1 _ _ nyp (hb3 _ _ nyp a3.1), a3.2⟩, a4⟩
        · rw [List.mem_singleton.mp y1]
          exact ⟨hr0, hrD, zs, up hrD ⟨hzs, by omega, by omega, hok⟩, hnd⟩
    · rintro H2 ⟨hb2, hsA2, hp2, rs, hD2, hl, hrs⟩
      rw [List.length_map, hss3] at hp2 hl
      exact ⟨hb2, hp2, D0, rs, hs1.free hD, hD2, hl, hrs, rfl⟩
  clear hsA hs1
  rintro _ H1 ⟨hb1, hp1, B, rs, hB0, hB, hrl, hrs, rfl⟩
  have hkA1 := hb1 _ _ hkAp hkA
  obtain ⟨n0, n1, n2, rfl⟩ : ∃ n0 n1 n2, rs = [n0, n1, n2] := by
    match rs, hrl with
    | [a, b, c], _ => exact ⟨a, b, c, rfl⟩
  obtain ⟨q0, q0B, z0, hN0, _⟩ := hrs n0 (by simp)
  obtain ⟨q1, q1B, z1, hN1, _⟩ := hrs n1 (by simp)
  obtain ⟨q2, q2B, z2, hN2, hnd⟩ := hrs n2 (by simp)
  -- what may still be drawn
  refine ⟨fun σ' H' => ∃ L : Addr, Gn H' p L B kA (n + 3 * 402) (if g = true then 60 else 8) ∧ But p H H' ∧ H L = none ∧ σ' = [some (.ref p), some (.bl g), some (.int 1), some (.ref kA), some (.ref sA), some (.ref B), some (.ref L), none, none, none], ?_, ?_⟩
  · have mk : ∀ (L : Addr) (aa d i c l : Int), H1 L = none → 0 ≤ i ∧ i ≤ 20 ∧ 1 ≤ l ∧ l ≤ 5 → Gn (upd H1 L (.lst [.int aa, .int d, .int i, .int 1, .ref kA, .int c, .int l])) p L B kA (n + 3 * 402) aa ∧ But p H (upd H1 L (.lst [.int aa, .int d, .int i, .int 1, .ref kA, .int c, .int l])) ∧ H L = none := fun L aa d i c l hL hl => by
      have st := same_new hL (.lst [.int aa, .int d, .int i, .int 1, .ref kA, .int c, .int l])
      have nn : ∀ {y : Addr} {o : HO}, H1 y = some o → y ≠ L := fun e => ne_of_none e hL
      have st2 : ∀ {y : Addr} {z : List Str}, Nam H1 y z → Nam (upd H1 L (.lst [.int aa, .int d, .int i, .int 1, .ref kA, .int c, .int l])) y z := fun h => ⟨st _ _ h.1, h.2⟩
      refine ⟨⟨hp1.same st, ⟨d, i, c, l, _, upd_same, hl, rfl, st _ _ hkA1, hkAp, nn hkA1⟩, hp1.ne hL, ⟨n0, n1, n2, z0, z1, z2, st _ _ hB, st2 hN0, st2 hN1, st2 hN2, hnd, hp.ne hB0, nn hB, hp.ne q0, nn hN0.1, hp.ne q1, nn hN1.1, hp.ne q2, nn hN2.1⟩⟩, hb1.trans (.of st), hb1.free hpo hp1.some hL⟩
    refine ⟨_, rfl, g, rfl, ?_⟩
    cases g with
    | true =>
      refine iteT ⟨_, rfl, _, rfl, by show 7 ≤ sizeLine; decide, fun L hL => ?_⟩
      obtain ⟨m1, m2, m3⟩ := mk L 60 28 20 40 5 hL (by decide)
      exact ⟨L, m1, m2, m3, rfl⟩
    | false =>
      refine iteF ⟨_, rfl, _, rfl, by show 7 ≤ sizeLine; decide, fun L hL => ?_⟩
      obtain ⟨m1, m2, m3⟩ := mk L 8 3 3 6 2 hL (by decide)
      exact ⟨L, m1, m2, m3, rfl⟩
  clear hb1 hp1 hB hN0 hN1 hN2 hrs
  rintro _ H1 ⟨L, hG1, hb1, hL0, rfl⟩
  -- the part
  refine ⟨fun σ' H' => ∃ (u : V) (d : D) (G0 : List Addr) (a' : Int), Gn H' p L B kA (n + 3 * 402 + cP 6) a' ∧ But p H H' ∧ Rep H' d u G0 ∧ (∀ x ∈ G0, H x = none) ∧ PtOk 7 d ∧ (pre 7 d).length ≤ (if g = true then 60 else 8) ∧ σ' = [some (.ref p), some (.bl g), some (.int 1), some (.ref kA), some (.ref sA), some (.ref B), some (.ref L), some u, none, none], ?_, ?_⟩
  · have c3 : cP 3 ≤ cP 6 := by decide
    have fr : ∀ {x : Addr}, H1 x = none → H x = none := fun h => hb1.free hpo hG1.pu.some h
    refine ⟨_, rfl, _, rfl, _, rfl, _, rfl, g, rfl, ?_⟩
    cases g with
    | true =>
      refine iteT ⟨p, B, L, kA, n + 3 * 402, 6, 60, rfl, by decide, hG1, by decide, by decide, by omega, ?_⟩
      rintro u H2 a' a0 a1 ⟨d, G0, hG2, hk2, r2, f2, o1, o2⟩
      refine ⟨u, d, G0, a', hG2, hk2.but hb1 hL0, r2, fun x hx => fr (f2 x hx), o1, ?_, rfl⟩
      have o3 : (((pre 7 d).length : Nat) : Int) = 60 - a' := o2
      show _ ≤ 60
      omega
    | false =>
      refine iteF ⟨p, B, L, kA, n + 3 * 402, 3, 8, rfl, by decide, hG1, by decide, by decide, by omega, ?_⟩
      rintro u H2 a' a0 a1 ⟨d, G0, hG2, hk2, r2, f2, o1, o2⟩
      refine ⟨u, d, G0, a', hG2.mono (by omega), hk2.but hb1 hL0, r2, fun x hx => fr (f2 x hx), o1.le (by decide), ?_, rfl⟩
      rw [pre_le o1 (show 3 + 1 ≤ 7 by decide)]
      have o3 : (((pre (3 + 1) d).length : Nat) : Int) = 8 - a' := o2
      show _ ≤ 8
      omega
  clear hG1 hb1
  rintro _ H1 ⟨u, d, G0, a', hG1, hb1, r1, f1, o1, o2, rfl⟩
  -- the words
  refine ⟨_, rfl, _, rfl, p, L, B, kA, n + 3 * 402 + cP 6, a', rfl, hG1.gen, by omega, fun fA r s H2 hr hs hb2 hp2 hfA0 hfA => ?_⟩
  have r2 := r1.kp (hb2.kp hG1.pu) fun x hx z => (hp.ne (f1 x hx)) z
  refine ⟨_, rfl, _, rfl, fA, _, _, _, rfl, rfl, SqL.of hfA, atI_nat (j := 0) rfl, _, rfl, fA, _, _, _, rfl, rfl, SqL.of hfA, atI_nat (j := 1) rfl, by show 3 ≤ sizeLine; decide, fun t ht => ?_⟩
  have st := same_new ht (.tup [u, .str r, .str s])
  exact kk t d r s G0 _ ((hb1.trans hb2).trans (.of st)) ((hp2.same st).mono (by omega)) ((hb1.trans hb2).free hpo hp2.some ht) ⟨⟨u, upd_same, r2.same st⟩, hr, hs⟩ f1 o1
end
end K03.Cl
set_option Elab.async false
set_option linter.all false
set_option maxRecDepth 100000
set_option maxHeartbeats 4000000
namespace K03
open PySem L2 PyProof.Rows
/-! ### depth -/
theorem Fits.succ {c : Nat} : ∀ {n : Nat} {d : D}, Fits c n d → Fits c (n + 1) d
  | 0, d, h => by
    obtain ⟨v, rfl⟩ := h
    trivial
  | n + 1, .leaf _, _ => trivial
  | n + 1, .lst ds, h => ⟨h.1, fun e m => (h.2 e m).succ⟩
  | n + 1, .tup ds, h => ⟨h.1, fun e m => (h.2 e m).succ⟩
theorem Fits.le {c n m : Nat} {d : D} (h : Fits c n d) (hm : n ≤ m) : Fits c m d := by
  induction hm with
  | refl => exact h
  | step _ ih => exact ih.succ
theorem fits_tup {c n : Nat} {ds : List D} (h1 : ds.length ≤ c) (h2 : ∀ d ∈ ds, Fits c n d) : Fits c (n + 1) (.tup ds) := ⟨h1, h2⟩
theorem fits_lst {c n : Nat} {ds : List D} (h1 : ds.length ≤ c) (h2 : ∀ d ∈ ds, Fits c n d) : Fits c (n + 1) (.lst ds) := ⟨h1, h2⟩
def fitB (c : Nat) : Nat → D → Bool
  | 0, .leaf _ => true
  | 0, _ => false
  | _ + 1, .leaf _ => true
  | n + 1, .lst ds => decide (ds.length ≤ c) && ds.all (fitB c n)
  | n + 1, .tup ds => decide (ds.length ≤ c) && ds.all (fitB c n)
theorem fit_of {c : Nat} : ∀ {n : Nat} {d : D}, fitB c n d = true → Fits c n d
  | 0, .leaf v, _ => ⟨v, rfl⟩
  | 0, .lst _, h => by cases h
  | 0, .tup _, h => by cases h
  | n + 1, .leaf _, _ => trivial
  | n + 1, .lst ds, h => by
    obtain ⟨a, b⟩ := Bool.and_eq_true_iff.mp h
    exact ⟨of_decide_eq_true a, fun e m => fit_of (List.all_eq_true.mp b e m)⟩
  | n + 1, .tup ds, h => by
    obtain ⟨a, b⟩ := Bool.and_eq_true_iff.mp h
    exact ⟨of_decide_eq_true a, fun e m => fit_of (List.all_eq_true.mp b e m)⟩
/-! ### data as the comparison reads them -/
def toV : V → PyData
  | .bl b => .bool b
  | .int i => .int i
  | .str z => .str z
  | _ => .none
mutual
def toP : D → PyData
  | .leaf v => toV v
  | .lst ds => .list (toPs ds)
  | .tup ds => .tuple (toPs ds)
def toPs : List D → List PyData
  | [] => []
  | d :: ds => toP d :: toPs ds
end
mutual
theorem RW.dp {K : PySem.W.Frag} {H : Hp} : ∀ {d : D} {v : V}, RW H d v → Dp K H v (toP d)
  | .leaf w, u, h => by
    obtain ⟨rfl, hl⟩ := h
    rcases hl with rfl | ⟨b, rfl⟩ | ⟨i, rfl⟩ | ⟨z, rfl⟩
    · exact .non
    · exact .bl b
    · exact .int i
    · exact .str z
  | .lst ds, u, h => by
    obtain ⟨a, xs, rfl, ha, hr⟩ := h
    exact .lst (SqL.of ha) (RWs.dp hr)
  | .tup ds, u, h => by
    obtain ⟨a, xs, rfl, ha, hr⟩ := h
    exact .tup (SqT.of ha) (RWs.dp hr)
theorem RWs.dp {K : PySem.W.Frag} {H : Hp} : ∀ {ds : List D} {xs : List V}, RWs H ds xs → DpAll K H xs (toPs ds)
  | [], xs, h => by
    have e : xs = [] := h
    rw [e]
    exact .nil
  | d :: ds, xs, h => by
    obtain ⟨x, ys, rfl, h1, h2⟩ := h
    exact .cons (RW.dp h1) (RWs.dp h2)
end
/-- all texts are texts -/
def clean (d : D) : Bool := (toP d).canLay0
theorem toPs_all : ∀ {ds : List D}, PyData.canLayAll0 (toPs ds) = ds.all clean
  | [] => by simp [toPs, PyData.canLayAll0]
  | d :: ds => by
    rw [toPs, PyData.canLayAll0, toPs_all, List.all_cons]
    rfl
theorem clean_lst {ds : List D} : clean (.lst ds) = ds.all clean := by
  show PyData.canLay0 (.list (toPs ds)) = _
  rw [PyData.canLay0, toPs_all]
theorem clean_tup {ds : List D} : clean (.tup ds) = ds.all clean := by
  show PyData.canLay0 (.tuple (toPs ds)) = _
  rw [PyData.canLay0, toPs_all]
theorem clean_str {z : Str} (h : OkT z) : clean (.leaf (.str z)) = true := by
  show PyData.canLay0 (.str z) = true
  rw [PyData.canLay0]
  exact tx_ok h
theorem clean_int {i : Int} : clean (.leaf (.int i)) = true := by
  show PyData.canLay0 (.int i) = true
  rw [PyData.canLay0]
theorem clean_non : clean (.leaf .non) = true := by
  show PyData.canLay0 .none = true
  rw [PyData.canLay0]
theorem depth_leaf (v : V) : (toV v).depth = 0 := by
  cases v <;> simp [toV, PyData.depth]
theorem depth_all {n : Nat} : ∀ {ds : List D}, (∀ d ∈ ds, (toP d).depth ≤ n) → PyData.depthAll (toPs ds) ≤ n
  | [], _ => by simp [toPs, PyData.depthAll]
  | d :: ds, h => by
    rw [toPs, PyData.depthAll]
    exact Nat.max_le.mpr ⟨h d List.mem_cons_self, depth_all fun e m => h e (List.mem_cons_of_mem _ m)⟩
theorem Fits.depth {c : Nat} : ∀ {n : Nat} {d : D}, Fits c n d → (toP d).depth ≤ n
  | 0, d, h => by
    obtain ⟨v, rfl⟩ := h
    show (toV v).depth ≤ 0
    rw [depth_leaf]
    exact Nat.le_refl 0
  | n + 1, .leaf v, _ => by
    show (toV v).depth ≤ n + 1
    rw [depth_leaf]
    exact Nat.zero_le _
  | n + 1, .lst ds, h => by
    show (PyData.list (toPs ds)).depth ≤ n + 1
    rw [PyData.depth]
    exact Nat.succ_le_succ (depth_all fun d m => (h.2 d m).depth)
  | n + 1, .tup ds, h => by
    show (PyData.tuple (toPs ds)).depth ≤ n + 1
    rw [PyData.depth]
    exact Nat.succ_le_succ (depth_all fun d m => (h.2 d m).depth)
theorem shaped_of {c n : Nat} {d : D} (h : Fits c n d) (hc : clean d = true) (hn : n ≤ 60) : SeqAt.shaped (toP d) = true := by
  have e := h.depth
  show (PyData.canLay0 (toP d) && decide ((toP d).depth ≤ 64)) = true
  rw [show PyData.canLay0 (toP d) = true from hc, decide_eq_true (by omega)]
  rfl
theorem bad_all : (badP ++ badT).all (fun d => fitB 30 6 d && clean d) = true := by decide +kernel
theorem bad_fits {d : D} (h : d ∈ badP ++ badT) : Fits 30 6 d ∧ clean d = true := by
  obtain ⟨a, b⟩ := Bool.and_eq_true_iff.mp (List.all_eq_true.mp bad_all d h)
  exact ⟨fit_of a, b⟩
theorem S_clean : (["row", "record", "any", "name", "number", "read", "call"].map S).all clean = true := by decide +kernel
theorem s_clean {s : String} (h : s ∈ ["row", "record", "any", "name", "number", "read", "call"]) : clean (S s) = true := List.all_eq_true.mp S_clean (S s) (List.mem_map_of_mem h)
/-- what is as a plan's data are: of some depth, with texts that are texts -/
def Good (n : Nat) (d : D) : Prop := Fits 30 n d ∧ clean d = true
theorem Fits.wide {c c' : Nat} (hc : c ≤ c') : ∀ {n : Nat} {d : D}, Fits c n d → Fits c' n d
  | 0, d, h => h
  | n + 1, .leaf _, _ => trivial
  | n + 1, .lst ds, h => ⟨Nat.le_trans h.1 hc, fun e m => (h.2 e m).wide hc⟩
  | n + 1, .tup ds, h => ⟨Nat.le_trans h.1 hc, fun e m => (h.2 e m).wide hc⟩
theorem Good.cp {n : Nat} {d : D} (h : Good n d) : Fits 1000 n d := h.1.wide (by decide)
theorem Good.le {n m : Nat} {d : D} (h : Good n d) (hm : n ≤ m) : Good m d := ⟨h.1.le hm, h.2⟩
theorem good_tup {n : Nat} {ds : List D} (h1 : ds.length ≤ 30) (h2 : ∀ d ∈ ds, Good n d) : Good (n + 1) (.tup ds) := ⟨fits_tup h1 fun d m => (h2 d m).1, by rw [clean_tup]; exact List.all_eq_true.mpr fun d m => (h2 d m).2⟩
theorem good_lst {n : Nat} {ds : List D} (h1 : ds.length ≤ 30) (h2 : ∀ d ∈ ds, Good n d) : Good (n + 1) (.lst ds) := ⟨fits_lst h1 fun d m => (h2 d m).1, by rw [clean_lst]; exact List.all_eq_true.mpr fun d m => (h2 d m).2⟩
theorem good_str {n : Nat} {z : Str} (h : OkT z) : Good n (.leaf (.str z)) := ⟨Fits.leaf, clean_str h⟩
theorem good_int {n : Nat} {i : Int} : Good n (.leaf (.int i)) := ⟨Fits.leaf, clean_int⟩
theorem good_non {n : Nat} : Good n (.leaf .non) := ⟨Fits.leaf, clean_non⟩
theorem good_S {n : Nat} {s : String} (h : s ∈ ["row", "record", "any", "name", "number", "read", "call"]) : Good n (S s) := ⟨Fits.leaf, s_clean h⟩
theorem Good.shaped {n : Nat} {d : D} (h : Good n d) (hn : n ≤ 60) : SeqAt.shaped (toP d) = true := shaped_of h.1 h.2 hn
theorem TmW.good : ∀ {n : Nat} {d : D}, TmW n d → Good (2 * n + 6) d
  | 0, _, h => h.elim
  | n + 1, d, h => by
    rcases h with h | ⟨i, rfl⟩ | ⟨z, hz, rfl⟩ | ⟨z, ts, hz, rfl, hl, ht⟩
    · exact (show Good 6 d from bad_fits (List.mem_append_right _ h)).le (by omega)
    · refine good_tup (n := 2 * n + 7) (by show 2 ≤ 30; decide) fun e he => ?_
      simp at he
      rcases he with rfl | rfl
      · exact good_S (by simp)
      · exact good_int
    · refine good_tup (n := 2 * n + 7) (by show 2 ≤ 30; decide) fun e he => ?_
      simp at he
      rcases he with rfl | rfl
      · exact good_S (by simp)
      · exact good_str hz
    · refine good_tup (n := 2 * n + 7) (by show 3 ≤ 30; decide) fun e he => ?_
      simp at he
      rcases he with rfl | rfl | rfl
      · exact good_S (by simp)
      · exact good_str hz
      · exact good_lst (by omega) fun t m => (ht t m).good
theorem DfW.good {d : D} (h : DfW d) : Good 16 d := by
  rcases h with rfl | h
  · exact good_non
  · exact h.good
theorem PtW.good : ∀ {n : Nat} {d : D}, PtW n d → Good (3 * n + 16) d
  | 0, _, h => h.elim
  | n + 1, d, h => by
    rcases h with h | rfl | ⟨z, hz, rfl⟩ | ⟨row, qs, r, rfl, hr, hl, hq⟩
    · exact (show Good 6 d from bad_fits (List.mem_append_left _ h)).le (by omega)
    · refine good_tup (n := 3 * n + 18) (by show 1 ≤ 30; decide) fun e he => ?_
      simp at he
      rcases he with rfl
      exact good_S (by simp)
    · refine good_tup (n := 3 * n + 18) (by show 2 ≤ 30; decide) fun e he => ?_
      simp at he
      rcases he with rfl | rfl
      · exact good_S (by simp)
      · exact good_str hz
    · refine good_tup (n := 3 * n + 18) (by show 3 ≤ 30; decide) fun e he => ?_
      have he' : e = S (if row = true then "row" else "record") ∨ e = .lst (qs.map (ent row)) ∨ e = r := by
        rcases List.mem_cons.mp he with z | z
        · exact .inl z
        · rcases List.mem_cons.mp z with z | z
          · exact .inr (.inl z)
          · exact .inr (.inr (List.mem_singleton.mp z))
      rcases he' with rfl | rfl | rfl
      · cases row
        · exact good_S (by simp)
        · exact good_S (by simp)
      · refine good_lst (n := 3 * n + 17) (by rw [List.length_map]; omega) fun t m => ?_
        obtain ⟨q, hm, rfl⟩ := List.mem_map.mp m
        obtain ⟨h0, h1, h2⟩ := hq q hm
        have p1 : Good (3 * n + 16) q.2.1 := h1.good
        have p2 : Good (3 * n + 16) q.2.2 := h2.good.le (by omega)
        cases row
        · refine good_tup (n := 3 * n + 16) (by show 3 ≤ 30; decide) fun e he => ?_
          simp at he
          rcases he with rfl | rfl | rfl
          · exact good_str h0
          · exact p1
          · exact p2
        · refine good_tup (n := 3 * n + 16) (by show 2 ≤ 30; decide) fun e he => ?_
          simp at he
          rcases he with rfl | rfl
          · exact p1
          · exact p2
      · rcases hr with rfl | ⟨z, hz, rfl⟩
        · exact good_non
        · exact good_str hz
/-! ### the first fault -/
abbrev Fl := Option (Nat × D)
def nmB (z : Str) : Bool := decide (1 ≤ z.length) && (decide (z.length ≤ 8) && z.cps.toList.all fun c => decide (c ∈ LT.cps.toList))
def nmF (z : Str) : Fl := if nmB z = true then none else some (1, .leaf (.str z))
def FirstF {α : Type} (R : α → Fl → Prop) : List α → Fl → Prop
  | [], f => f = none
  | t :: ts, f => (∃ e, R t (some e) ∧ f = some e) ∨ (R t none ∧ FirstF R ts f)
def TmF : Nat → D → Fl → Prop
  | 0, _, _ => False
  | n + 1, d, f => (d ∈ badT ∧ f = some (3, d)) ∨ (∃ i, d = .tup [S "number", .leaf (.int i)] ∧ f = none) ∨ (∃ z, OkT z ∧ d = .tup [S "read", .leaf (.str z)] ∧ f = nmF z) ∨
    ∃ z ts, OkT z ∧ ts.length ≤ 3 ∧ d = .tup [S "call", .leaf (.str z), .lst ts] ∧ ((nmB z = false ∧ f = nmF z) ∨ (nmB z = true ∧ FirstF (TmF n) ts f))
def DfF (d : D) (f : Fl) : Prop := (d = .leaf .non ∧ f = none) ∨ TmF 5 d f
def EsF (R : D → Fl → Prop) (row : Bool) : List Str → List (Str × D × D) → Fl → Prop
  | _, [], f => f = none
  | known, q :: qs, f => (row = false ∧ OkT q.1 ∧ nmB q.1 = false ∧ f = nmF q.1) ∨ (row = false ∧ OkT q.1 ∧ nmB q.1 = true ∧ q.1 ∈ known ∧ f = some (4, .leaf (.str q.1))) ∨
    ((row = false → OkT q.1 ∧ nmB q.1 = true ∧ q.1 ∉ known) ∧ ((∃ e, R q.2.1 (some e) ∧ f = some e) ∨ (R q.2.1 none ∧ ((∃ e, DfF q.2.2 (some e) ∧ f = some e) ∨ (DfF q.2.2 none ∧ EsF R row (known ++ [q.1]) qs f)))))
def PtF : Nat → D → Fl → Prop
  | 0, _, _ => False
  | n + 1, d, f => (d ∈ badP ∧ f = some (2, d)) ∨ (d = .tup [S "any"] ∧ f = none) ∨ (∃ z, OkT z ∧ d = .tup [S "name", .leaf (.str z)] ∧ f = nmF z) ∨
    ∃ (row : Bool) (qs : List (Str × D × D)) (r : D), d = .tup [S (if row = true then "row" else "record"), .lst (qs.map (ent row)), r] ∧ qs.length ≤ 25 ∧
      ((∃ z, OkT z ∧ r = .leaf (.str z) ∧ nmB z = false ∧ f = nmF z) ∨ ((r = .leaf .non ∨ ∃ z, OkT z ∧ r = .leaf (.str z) ∧ nmB z = true) ∧ EsF (PtF n) row [] qs f))
theorem nmF_t {z : Str} (h : nmB z = true) : nmF z = none := if_pos h
theorem nmF_f {z : Str} (h : nmB z = false) : nmF z = some (1, .leaf (.str z)) := by
  unfold nmF
  rw [h]
  rfl
/-- there is one, or none -/
theorem first_ex {α : Type} {R : α → Fl → Prop} : ∀ {ts : List α}, (∀ t ∈ ts, ∃ f, R t f) → ∃ f, FirstF R ts f
  | [], _ => ⟨none, rfl⟩
  | t :: ts, h => by
    obtain ⟨f, hf⟩ := h t List.mem_cons_self
    cases f with
    | some e => exact ⟨some e, .inl ⟨e, hf, rfl⟩⟩
    | none =>
      obtain ⟨g, hg⟩ := first_ex fun u m => h u (List.mem_cons_of_mem _ m)
      exact ⟨g, .inr ⟨hf, hg⟩⟩
theorem TmW.ex : ∀ {n : Nat} {d : D}, TmW n d → ∃ f, TmF n d f
  | 0, _, h => h.elim
  | n + 1, d, h => by
    rcases h with h | ⟨i, e⟩ | ⟨z, hz, e⟩ | ⟨z, ts, hz, e, hl, ht⟩
    · exact ⟨_, .inl ⟨h, rfl⟩⟩
    · exact ⟨_, .inr (.inl ⟨i, e, rfl⟩)⟩
    · exact ⟨_, .inr (.inr (.inl ⟨z, hz, e, rfl⟩))⟩
    · cases hb : nmB z with
      | false => exact ⟨_, .inr (.inr (.inr ⟨z, ts, hz, hl, e, .inl ⟨hb, rfl⟩⟩))⟩
      | true =>
        obtain ⟨f, hf⟩ := first_ex (R := TmF n) fun t m => (ht t m).ex
        exact ⟨f, .inr (.inr (.inr ⟨z, ts, hz, hl, e, .inr ⟨hb, hf⟩⟩))⟩
theorem DfW.ex {d : D} (h : DfW d) : ∃ f, DfF d f := by
  rcases h with h | h
  · exact ⟨none, .inl ⟨h, rfl⟩⟩
  · obtain ⟨f, hf⟩ := h.ex
    exact ⟨f, .inr hf⟩
theorem es_ex {R : D → Fl → Prop} {row : Bool} : ∀ {known : List Str} {qs : List (Str × D × D)}, (∀ q ∈ qs, OkT q.1 ∧ (∃ f, R q.2.1 f) ∧ DfW q.2.2) → ∃ f, EsF R row known qs f
  | _, [], _ => ⟨none, rfl⟩
  | known, q :: qs, h => by
    obtain ⟨hz, ⟨f, hf⟩, hd⟩ := h q List.mem_cons_self
    have rest : (row = false → OkT q.1 ∧ nmB q.1 = true ∧ q.1 ∉ known) → ∃ f, EsF R row known (q :: qs) f := fun h0 => by
      cases f with
      | some e => exact ⟨some e, .inr (.inr ⟨h0, .inl ⟨e, hf, rfl⟩⟩)⟩
      | none =>
        obtain ⟨g, hg⟩ := hd.ex
        cases g with
        | some e => exact ⟨some e, .inr (.inr ⟨h0, .inr ⟨hf, .inl ⟨e, hg, rfl⟩⟩⟩)⟩
        | none =>
          obtain ⟨k, hk⟩ := es_ex (R := R) (row := row) (known := known ++ [q.1]) fun u m => h u (List.mem_cons_of_mem _ m)
          exact ⟨k, .inr (.inr ⟨h0, .inr ⟨hf, .inr ⟨hg, hk⟩⟩⟩)⟩
    cases row with
    | true => exact rest fun z => nomatch z
    | false =>
      cases hb : nmB q.1 with
      | false => exact ⟨_, .inl ⟨rfl, hz, hb, rfl⟩⟩
      | true =>
        by_cases hk : q.1 ∈ known
        · exact ⟨_, .inr (.inl ⟨rfl, hz, hb, hk, rfl⟩)⟩
        · exact rest fun _ => ⟨hz, hb, hk⟩
theorem PtW.ex : ∀ {n : Nat} {d : D}, PtW n d → ∃ f, PtF n d f
  | 0, _, h => h.elim
  | n + 1, d, h => by
    rcases h with h | h | ⟨z, hz, e⟩ | ⟨row, qs, r, e, hr, hl, hq⟩
    · exact ⟨_, .inl ⟨h, rfl⟩⟩
    · exact ⟨_, .inr (.inl ⟨h, rfl⟩)⟩
    · exact ⟨_, .inr (.inr (.inl ⟨z, hz, e, rfl⟩))⟩
    · obtain ⟨f, hf⟩ := es_ex (R := PtF n) (row := row) (known := []) fun q m => ⟨(hq q m).1, (hq q m).2.1.ex, (hq q m).2.2⟩
      rcases hr with rfl | ⟨z, hz, rfl⟩
      · exact ⟨f, .inr (.inr (.inr ⟨row, qs, _, e, hl, .inr ⟨.inl rfl, hf⟩⟩))⟩
      · cases hb : nmB z with
        | false => exact ⟨_, .inr (.inr (.inr ⟨row, qs, _, e, hl, .inl ⟨z, hz, rfl, hb, rfl⟩⟩))⟩
        | true => exact ⟨f, .inr (.inr (.inr ⟨row, qs, _, e, hl, .inr ⟨.inr ⟨z, hz, rfl, hb⟩, hf⟩⟩))⟩
/-- what a fault holds -/
def VOk (e : Nat × D) : Prop := 1 ≤ e.1 ∧ e.1 ≤ 5 ∧ Good 6 e.2
theorem vok_nm {z : Str} {e : Nat × D} (hz : OkT z) (h : nmF z = some e) : VOk e := by
  unfold nmF at h
  split at h
  · cases h
  · cases h
    exact ⟨Nat.le_refl 1, (by show 1 ≤ 5; decide), good_str hz⟩
theorem first_ok {α : Type} {R : α → Fl → Prop} {e : Nat × D} : ∀ {ts : List α}, (∀ t e', R t (some e') → VOk e') → FirstF R ts (some e) → VOk e
  | [], _, h => by cases h
  | t :: ts, hR, h => by
    rcases h with ⟨e', h1, h2⟩ | ⟨_, h2⟩
    · cases h2
      exact hR t _ h1
    · exact first_ok hR h2
theorem TmF.ok : ∀ {n : Nat} {d : D} {e : Nat × D}, TmF n d (some e) → VOk e
  | 0, _, _, h => h.elim
  | n + 1, d, e, h => by
    rcases h with ⟨h, h2⟩ | ⟨i, _, h2⟩ | ⟨z, hz, _, h2⟩ | ⟨z, ts, hz, _, _, ⟨_, h2⟩ | ⟨_, h2⟩⟩
    · cases h2
      exact ⟨by show 1 ≤ 3; decide, by show 3 ≤ 5; decide, bad_fits (List.mem_append_right _ h)⟩
    · cases h2
    · exact vok_nm hz h2.symm
    · exact vok_nm hz h2.symm
    · exact first_ok (fun t e' h => TmF.ok h) h2
theorem DfF.ok {d : D} {e : Nat × D} (h : DfF d (some e)) : VOk e := by
  rcases h with ⟨_, h⟩ | h
  · cases h
  · exact h.ok
theorem es_ok {R : D → Fl → Prop} {row : Bool} {e : Nat × D} (hR : ∀ d e', R d (some e') → VOk e') : ∀ {known : List Str} {qs : List (Str × D × D)}, EsF R row known qs (some e) → VOk e
  | _, [], h => by cases h
  | known, q :: qs, h => by
    rcases h with ⟨_, hz, _, h2⟩ | ⟨_, hz, _, _, h2⟩ | ⟨_, ⟨e', h1, h2⟩ | ⟨_, ⟨e', h1, h2⟩ | ⟨_, h2⟩⟩⟩
    · exact vok_nm hz h2.symm
    · cases h2
      exact ⟨by show 1 ≤ 4; decide, by show 4 ≤ 5; decide, good_str hz⟩
    · cases h2
      exact hR _ _ h1
    · cases h2
      exact h1.ok
    · exact es_ok hR h2
theorem PtF.ok : ∀ {n : Nat} {d : D} {e : Nat × D}, PtF n d (some e) → VOk e
  | 0, _, _, h => h.elim
  | n + 1, d, e, h => by
    rcases h with ⟨h, h2⟩ | ⟨_, h2⟩ | ⟨z, hz, _, h2⟩ | ⟨row, qs, r, _, _, ⟨z, hz, _, _, h2⟩ | ⟨_, h2⟩⟩
    · cases h2
      exact ⟨by show 1 ≤ 2; decide, by show 2 ≤ 5; decide, bad_fits (List.mem_append_left _ h)⟩
    · cases h2
    · exact vok_nm hz h2.symm
    · exact vok_nm hz h2.symm
    · exact es_ok (fun d e' h => PtF.ok h) h2
end K03
set_option Elab.async false
set_option linter.all false
set_option maxRecDepth 100000
set_option maxHeartbeats 4000000
namespace K03
open PySem L2 PyProof.Rows
def wd (c : Nat) : Str := (["TakeError", "InvalidName", "InvalidPart", "InvalidTerm", "DoubleField", "InvalidRule"].map Str.ofString).getD c Str.empty
/-- at l: the first fault as the law tells it -/
def FRes (H : Hp) (l : Addr) (f : Fl) : Prop := match f with
  | none => H l = some (.lst [])
  | some e => ∃ v, H l = some (.lst [.str (wd e.1), v]) ∧ RW H e.2 v
theorem FRes.same {H H1 : Hp} {l : Addr} {f : Fl} (h : FRes H l f) (s : Same H H1) : FRes H1 l f := by
  cases f with
  | none => exact s _ _ h
  | some e =>
    obtain ⟨v, h1, h2⟩ := h
    exact ⟨v, s _ _ h1, h2.same s⟩
theorem wd_ok : ((List.range 6).map wd).all (fun z => PyData.strOk z) = true := by decide +kernel
theorem wd_str {c : Nat} (h : c ≤ 5) : PyData.strOk (wd c) = true := List.all_eq_true.mp wd_ok _ (List.mem_map_of_mem (List.mem_range.mpr (by omega)))
def pF (e : Nat × D) : PyData := .list [.str (wd e.1), toP e.2]
theorem pF_shaped {e : Nat × D} (h : VOk e) : SeqAt.shaped (pF e) = true := by
  obtain ⟨h1, h2, h3⟩ := h
  have e1 := h3.1.depth
  have e2 : PyData.canLay0 (toP e.2) = true := h3.2
  have e3 := wd_str h2
  simp [pF, SeqAt.shaped, PyData.canLay0, PyData.canLayAll0, PyData.depth, PyData.depthAll, e2, e3]
  omega
theorem nil_shaped : SeqAt.shaped (.list []) = true := by simp [SeqAt.shaped, PyData.canLay0, PyData.canLayAll0, PyData.depth, PyData.depthAll]
theorem nilT_shaped : SeqAt.shaped (.tuple []) = true := by simp [SeqAt.shaped, PyData.canLay0, PyData.canLayAll0, PyData.depth, PyData.depthAll]
/-- found != [] -/
theorem ne_found {K : PySem.W.Frag} {H : Hp} {l b : Addr} {f : Fl} {Q : VK} (h : FRes H l f) (hv : ∀ e, f = some e → VOk e) (hb : SqL K H b []) (q : Q (.bl f.isSome) H) : rNeD K (.ref l) (.ref b) H Q := by
  cases f with
  | none => exact ⟨.list [], .list [], .lst (SqL.of h) .nil, .lst hb .nil, nil_shaped, nil_shaped, q⟩
  | some e =>
    obtain ⟨v, h1, h2⟩ := h
    exact ⟨pF e, .list [], .lst (SqL.of h1) (.cons (.str _) (.cons h2.dp .nil)), .lst hb .nil, pF_shaped (hv e rfl), nil_shaped, q⟩
theorem eq_found {K : PySem.W.Frag} {H : Hp} {l b : Addr} {f : Fl} {Q : VK} (h : FRes H l f) (hv : ∀ e, f = some e → VOk e) (hb : SqL K H b []) (q : Q (.bl (!f.isSome)) H) : rEqD K (.ref l) (.ref b) H Q := by
  cases f with
  | none => exact ⟨.list [], .list [], .lst (SqL.of h) .nil, .lst hb .nil, nil_shaped, nil_shaped, q⟩
  | some e =>
    obtain ⟨v, h1, h2⟩ := h
    exact ⟨pF e, .list [], .lst (SqL.of h1) (.cons (.str _) (.cons h2.dp .nil)), .lst hb .nil, pF_shaped (hv e rfl), nil_shaped, q⟩
/-- term == () -/
theorem eq_unit {K : PySem.W.Frag} {H : Hp} {d : D} {v : V} {b : Addr} {n : Nat} {Q : VK} (h : RW H d v) (hg : Good n d) (hn : n ≤ 60) (hb : SqT K H b []) (q : Q (.bl (PyData.eqv (toP d) (.tuple []))) H) : rEqD K v (.ref b) H Q :=
  ⟨toP d, .tuple [], h.dp, .tup hb .nil, hg.shaped hn, nilT_shaped, q⟩
def spIsNm : Sp := fun vs H Q _ => ∃ z : Str, vs = [.str z] ∧ OkT z ∧ ∀ H', Same H H' → Q (.bl (nmB z)) H'
def spTmFault (k : Nat) : Sp := fun vs H Q _ => ∃ (v : V) (d : D) (m : Nat) (f : Fl), vs = [v] ∧ RW H d v ∧ TmF m d f ∧ Good 40 d ∧ m + 2 ≤ k ∧ ∀ l H', Same H H' → H l = none → FRes H' l f → Q (.ref l) H'
theorem RW.head {H : Hp} {s : String} {es : List D} {v : V} (h : RW H (.tup (S s :: es)) v) : ∃ a ys, v = .ref a ∧ H a = some (.tup (.str (Str.ofString s) :: ys)) ∧ RWs H es ys := by
  obtain ⟨a, xs, rfl, ha, x, ys, rfl, hx, hy⟩ := h
  exact ⟨a, ys, rfl, hx.1 ▸ ha, hy⟩
theorem eqv_tup {ds : List D} : PyData.eqv (toP (.tup ds)) (.tuple []) = ds.isEmpty := by
  cases ds with
  | nil => simp [toP, toPs, PyData.eqv, PyData.eqvAll]
  | cons d ds => simp [toP, toPs, PyData.eqv, PyData.eqvAll]
/-- is it the head of a term -/
def tB (z : Str) (n : Nat) : Bool := inV (.str z) [.str (Str.ofString "read"), .str (Str.ofString "number"), .str (Str.ofString "call")] && decide ((n : Int) = if decide (V.str z = V.str (Str.ofString "call")) = true then 3 else 2)
theorem badT_head : ∀ d ∈ badT, d = .tup [] ∨ ∃ s es, d = .tup (S s :: es) ∧ tB (Str.ofString s) (es.length + 1) = false := by
  intro d hd
  simp only [badT, bT0, bT1, List.cons_append, List.nil_append, List.mem_cons, List.not_mem_nil, or_false] at hd
  rcases hd with rfl | rfl | rfl | rfl | rfl | rfl | rfl | rfl | rfl | rfl | rfl | rfl | rfl
  · exact .inl rfl
  all_goals exact .inr ⟨_, _, rfl, by decide +kernel⟩
section
variable {P : Program} {w : World} {K : PySem.W.Frag} {mg : Str → Option Value} {base : Heap}
theorem scIs : FnScope ["text", "sign"] ["text"] (defScope sIsName) := ⟨rfl, rfl, rfl, by decide +kernel, rfl, by decide +kernel, by decide +kernel⟩
theorem ok_isnm {f : Addr} {fd : FuncData} (F : Fun K "_law_ta_is_name" "_law_ta_is_name" sIsName f fd) (T : Txt K mg) : FnOk P w K mg base CX0 1 f fd ["text"] spIsNm := by
  refine F.ok scIs (fun vs H Q E h => ?_) (fun cdv A outer s H vs Q E hr h => ?_)
  · obtain ⟨z, rfl, _⟩ := h
    rfl
  obtain ⟨z, rfl, hz, kk⟩ := h
  refine ⟨_, pss_one (ps_ret (pe_and (pe_chain op_le op_le pe_int (pe_callB call_len (by rfl) T.len PySem.boot_len (pa_cons (pv 0) pa_nil)) pe_int)
    (pe_one (pe_callB (cr_all rfl) (by rfl) T.all (by decide +kernel) (pa_cons (pe_lc (own := [("sign", 1)]) (g := gName 1) (tt := tYes) rfl scIs.nd (pi_str (pv 0)) (blkOk_by (N := ["text", "sign"]) (sc := defScope sIsName) (by decide +kernel)) (fun _ _ _ _ _ => pg_name (i := 1) scIs.nd rfl (Or.inl rfl)) (fun _ _ _ _ _ => pts_nil)
      (fun _ _ _ _ _ => pe_cmpR op_in_sign (pv 1) pe_str rfl)) pa_nil))))), ?_⟩
  refine ⟨_, rfl, .str z, z.length, rfl, ⟨small100 (Nat.le_trans hz.1 (by decide)), rfl⟩, _, _, rfl, rfl, _, rfl, ?_⟩
  have e0 : nmB z = (decide (1 ≤ z.length) && (decide (z.length ≤ 8) && z.cps.toList.all fun c => decide (c ∈ LT.cps.toList))) := rfl
  refine ite2 (fun c1 => ?_) (fun c1 => ?_)
  rotate_left
  · have n1 : decide (1 ≤ z.length) = false := decide_eq_false fun h => c1 (decide_eq_true (by omega))
    have e1 : nmB z = false := by
      rw [e0, n1]
      rfl
    refine ⟨_, rfl, iteF ?_⟩
    rw [← e1]
    exact kk H (Same.refl H)
  have c1' : (1 : Int) ≤ (z.length : Int) := of_decide_eq_true c1
  have n1 : decide (1 ≤ z.length) = true := decide_eq_true (by omega)
  rw [n1, Bool.true_and] at e0
  refine ⟨_, _, rfl, rfl, _, rfl, ?_⟩
  by_cases c2 : z.length ≤ 8
  rotate_left
  · have n2 : decide (z.length ≤ 8) = false := decide_eq_false c2
    have e1 : nmB z = false := by
      rw [e0, n2]
      rfl
    refine ifF (decide_eq_false (by omega)) ?_
    rw [← e1]
    exact kk H (Same.refl H)
  rw [decide_eq_true c2, Bool.true_and] at e0
  refine ifT (decide_eq_true (by omega)) ?_
  refine ⟨_, rfl, z, rfl, fun D0 hD => ?_⟩
  refine lc_it walk_str (fun i H' => Same H H' ∧ H' D0 = some (.lst (((z.cps.toList.take i).map fun c => decide (c ∈ LT.cps.toList)).map V.bl))) ⟨same_new hD _, upd_same⟩ (fun _ _ _ _ => trivial) ?_ ?_
  · rintro i x H2 H3 hi ⟨hs2, hD2⟩ ⟨rfl, c, hc, rfl⟩
    have hc' : z.cps.toList[i]? = some c := by
      rw [Array.getElem?_toList]
      exact hc
    refine ⟨rfl, ?_⟩
    unfold tYes
    refine iteT ?_
    refine ⟨_, rfl, c, LT, rfl, rfl, _, hD2, ?_, same_put hs2 hD, ?_⟩
    · rw [List.length_map, List.length_map, List.length_take]
      exact Nat.lt_of_lt_of_le (show _ < 1000 from Nat.lt_of_le_of_lt (Nat.min_le_right _ _) (by show z.cps.toList.length < 1000; exact Nat.lt_of_le_of_lt c2 (by decide))) (by decide)
    · rw [upd_same, List.take_add_one, hc', List.map_append, List.map_append]
      rfl
  · rintro H2 ⟨hs2, hD2⟩
    have ht : z.cps.toList.take z.cps.size = z.cps.toList := List.take_of_length_le (Nat.le_refl _)
    rw [ht] at hD2
    refine ⟨D0, _, rfl, SqL.of hD2, ?_⟩
    rw [List.all_map, Function.comp_def]
    have e1 : (z.cps.toList.all fun c => id (decide (c ∈ LT.cps.toList))) = nmB z := e0.symm
    rw [e1]
    exact kk H2 hs2
theorem scTf : FnScope ["term", "one", "found"] ["term"] (defScope sTmFault) := ⟨rfl, rfl, rfl, by decide +kernel, rfl, by decide +kernel, by decide +kernel⟩
theorem tmf_none {f : Addr} {fd : FuncData} {ps : List Str} : FnOk P w K mg base CX0 0 f fd ps (spTmFault 0) := none_of fun vs H Q E h => by
  obtain ⟨v, d, m, f, _, _, _, _, h1, _⟩ := h
  omega
theorem ok_tmf {f fN : Addr} {fd fdN : FuncData} {k : Nat} (F : Fun K "_law_ta_term_fault" "_law_ta_term_fault" sTmFault f fd) (T : Txt K mg)
    (FN : Fun K "_law_ta_is_name" "_law_ta_is_name" sIsName fN fdN) (GN : FnOk P w K mg base CX0 1 fN fdN ["text"] spIsNm) (bN : Binds K fdN ["text"] []) (mN : mg "_law_ta_is_name" = some (.ref fN))
    (G : FnOk P w K mg base CX0 k f fd ["term"] (spTmFault k)) (b : Binds K fd ["term"] []) (m : mg "_law_ta_term_fault" = some (.ref f)) : FnOk P w K mg base CX0 (k + 1) f fd ["term"] (spTmFault (k + 1)) := by
  refine F.ok scTf (fun vs H Q E h => ?_) (fun cdv A outer s H vs Q E hr h => ?_)
  · obtain ⟨v, d, m, f, rfl, _⟩ := h
    rfl
  obtain ⟨v, d, mm, ff, rfl, hR, hT, hGd, hk, kk⟩ := h
  have hm : 1 ≤ mm := by cases mm with
    | zero => exact hT.elim
    | succ j => omega
  have hr1 : Room 1 (A.deeper (envOfC "_law_ta_term_fault" (defScope sTmFault) s.heap.objs.size f cdv)) := hr.mono (by omega)
  refine ⟨_, pss_cons (ps_if (pt_cut (PW.pt (pw_or (pt_cmpR (op_eqD hr.units) (pv 0) (pe_tup pa_nil) (nomark _)) (pw_or (pt_cmpR op_notIn_seq (pe_ix ix_tup (pv 0) pe_int (fun _ _ => rfl)) (pe_tup (pa_cons pe_str (pa_cons pe_str (pa_cons pe_str pa_nil)))) (by rfl))
        (pw_or1 (pt_cmpR op_ne (pe_callB call_len_seq (by rfl) T.len PySem.boot_len (pa_cons (pv 0) pa_nil)) (pe_ifExp (pt_cmpR op_eq (pe_ix ix_tup (pv 0) pe_int (fun _ _ => rfl)) pe_str (nomark _)) pe_int pe_int) (nomark _)))))))
      (pss_one (ps_ret (pe_lst (pa_cons pe_str (pa_cons (pv 0) pa_nil))))) pss_nil)
    (pss_cons (ps_if (PW.pt (pw_and (pt_cmpR op_ne (pe_ix ix_tup (pv 0) pe_int (fun _ _ => rfl)) pe_str (nomark _)) (pw_and1 (pt_not (pt_val (pe_call GN hr1 rfl mN FN.kp bN .nil pass0 (pa_cons (pe_ix ix_tup (pv 0) pe_int (fun _ _ => rfl)) pa_nil)))))))
      (pss_one (ps_ret (pe_lst (pa_cons pe_str (pa_cons (pe_ix ix_tup (pv 0) pe_int (fun _ _ => rfl)) pa_nil))))) pss_nil)
    (pss_cons (ps_if (pt_cmpR op_eq (pe_ix ix_tup (pv 0) pe_int (fun _ _ => rfl)) pe_str (nomark _))
      (pss_one (ps_for PassesOwn.never rfl (pi_list (pe_ix ix_tup (pv 0) pe_int (fun _ _ => rfl))) (pg_name (i := 1) scTf.nd rfl (Or.inl rfl))
        (pss_cons (ps_set (i := 2) scTf.nd rfl (Or.inl rfl) (pe_call G hr rfl m F.kp b .nil pass0 (pa_cons (pv 1) pa_nil)))
        (pss_one (ps_if (pt_cmpR (op_neD hr.units) (pv 2) (pe_lst pa_nil) (nomark _)) (pss_one (ps_ret (pv 2))) pss_nil))))) pss_nil)
    (pss_one (ps_ret (pe_lst pa_nil))))), ?_⟩
  have a0 : ∀ {s : String} {ys : List V}, atI (V.str (Str.ofString s) :: ys) 0 = some (.str (Str.ofString s)) := atI_nat (j := 0) rfl
  have cs : ∃ ds, d = .tup ds ∧ ((ff = some (3, d) ∧ (ds = [] ∨ ∃ s es, ds = S s :: es ∧ tB (Str.ofString s) (es.length + 1) = false)) ∨ ∃ s es, ds = S s :: es ∧ tB (Str.ofString s) (es.length + 1) = true ∧
      ((∃ i, d = .tup [S "number", .leaf (.int i)] ∧ ff = none) ∨ (∃ z, OkT z ∧ d = .tup [S "read", .leaf (.str z)] ∧ ff = nmF z) ∨
        ∃ z ts, OkT z ∧ ts.length ≤ 3 ∧ d = .tup [S "call", .leaf (.str z), .lst ts] ∧ ((nmB z = false ∧ ff = nmF z) ∨ (nmB z = true ∧ FirstF (TmF (mm - 1)) ts ff)))) := by
    cases mm with
    | zero => exact hT.elim
    | succ mm =>
    rcases hT with ⟨h, h2⟩ | h | h | h
    · rcases badT_head d h with e | ⟨s, es, e, hb⟩
      · exact ⟨_, e, .inl ⟨h2, .inl rfl⟩⟩
      · exact ⟨_, e, .inl ⟨h2, .inr ⟨s, es, rfl, hb⟩⟩⟩
    · obtain ⟨i, e, h2⟩ := h
      exact ⟨_, e, .inr ⟨_, _, rfl, by show tB (Str.ofString "number") 2 = true; decide +kernel, .inl ⟨i, e, h2⟩⟩⟩
    · obtain ⟨z, hz, e, h2⟩ := h
      exact ⟨_, e, .inr ⟨_, _, rfl, by show tB (Str.ofString "read") 2 = true; decide +kernel, .inr (.inl ⟨z, hz, e, h2⟩)⟩⟩
    · obtain ⟨z, ts, hz, hl, e, h2⟩ := h
      exact ⟨_, e, .inr ⟨_, _, rfl, by show tB (Str.ofString "call") 3 = true; decide +kernel, .inr (.inr ⟨z, ts, hz, hl, e, h2⟩)⟩⟩
  obtain ⟨ds, ed, cs⟩ := cs
  -- is it a term at all
  refine ⟨fun b H' => Same H H' ∧ (b = true → ff = some (3, d)) ∧ (b = false → ((∃ i, d = .tup [S "number", .leaf (.int i)] ∧ ff = none) ∨ (∃ z, OkT z ∧ d = .tup [S "read", .leaf (.str z)] ∧ ff = nmF z) ∨
        ∃ z ts, OkT z ∧ ts.length ≤ 3 ∧ d = .tup [S "call", .leaf (.str z), .lst ts] ∧ ((nmB z = false ∧ ff = nmF z) ∨ (nmB z = true ∧ FirstF (TmF (mm - 1)) ts ff)))), ?_, ?_⟩
  · subst ed
    obtain ⟨a, xs, rfl, ha, hxs⟩ := id hR
    refine ⟨_, rfl, by show 0 ≤ sizeLine; decide, fun t ht => ?_⟩
    have s1 := same_new ht (.tup [])
    refine eq_unit (hR.same s1) hGd (by decide) (SqT.of upd_same) ⟨_, rfl, ?_⟩
    rw [eqv_tup]
    generalize upd H t (.tup []) = H1 at s1
    rcases cs with ⟨hf, rfl | ⟨s0, es, rfl, hb⟩⟩ | ⟨s0, es, rfl, hb, good⟩
    · exact iteT ⟨s1, fun _ => hf, fun z => nomatch z⟩
    all_goals
      refine iteF ?_
      obtain ⟨x, ys, rfl, hx, hys⟩ := hxs
      obtain rfl : x = .str (Str.ofString s0) := hx.1
      have sq := SqT.of (K := K) (s1 _ _ ha)
      have hyl := hys.len
      refine ⟨_, rfl, a, _, 0, _, rfl, rfl, sq, a0, by show 3 ≤ sizeLine; decide, fun t2 ht2 => ⟨t2, _, rfl, .inr (SqT.of upd_same), rfl, rfl, _, rfl, ?_⟩⟩
      have s2 := s1.trans (same_new ht2 (.tup [V.str (Str.ofString "read"), V.str (Str.ofString "number"), V.str (Str.ofString "call")]))
      generalize upd H1 t2 (.tup [V.str (Str.ofString "read"), V.str (Str.ofString "number"), V.str (Str.ofString "call")]) = H2 at s2
      have sq2 := SqT.of (K := K) (s2 _ _ ha)
      have eB : tB (Str.ofString s0) (es.length + 1) = (inV (.str (Str.ofString s0)) [.str (Str.ofString "read"), .str (Str.ofString "number"), .str (Str.ofString "call")] && decide (((es.length + 1 : Nat) : Int) = if decide (V.str (Str.ofString s0) = V.str (Str.ofString "call")) = true then 3 else 2)) := rfl
      refine ite2 (fun c => ?_) (fun c => ?_)
      · have c' : inV (.str (Str.ofString s0)) [.str (Str.ofString "read"), .str (Str.ofString "number"), .str (Str.ofString "call")] = false := by simpa using c
        rw [c', hb] at eB
        first
          | exact ⟨s2, fun _ => hf, fun z => nomatch z⟩
          | cases eB
      have c' : inV (.str (Str.ofString s0)) [.str (Str.ofString "read"), .str (Str.ofString "number"), .str (Str.ofString "call")] = true := by simpa using c
      rw [c', hb, Bool.true_and] at eB
      refine ⟨_, rfl, a, _, rfl, .inr sq2, _, rfl, a, _, 0, _, rfl, rfl, sq2, a0, rfl, _, rfl, ?_⟩
      have fin : ∀ k : Int, k = (if decide (V.str (Str.ofString s0) = V.str (Str.ofString "call")) = true then 3 else 2) → (!decide (V.int (((V.str (Str.ofString s0) :: ys).length : Nat) : Int) = V.int k)) = !decide (((es.length + 1 : Nat) : Int) = if decide (V.str (Str.ofString s0) = V.str (Str.ofString "call")) = true then 3 else 2) := fun k hk => by
        rw [List.length_cons, hyl, hk, dec_int]
        rfl
      refine ite2 (fun c2 => ⟨rfl, _, rfl, ?_⟩) (fun c2 => ⟨rfl, _, rfl, ?_⟩)
      all_goals
        rw [fin _ (by first | rw [if_pos c2] | rw [if_neg c2]), ← eB]
        first
          | exact ⟨s2, fun _ => hf, fun z => nomatch z⟩
          | exact ⟨s2, (fun z => nomatch z), fun _ => good⟩
  rintro b H1 ⟨hs1, ht, hf⟩
  refine ite2 (fun c => ?_) (fun c => ?_)
  · have e := ht c
    subst e
    refine ⟨_, rfl, by show 2 ≤ sizeLine; decide, fun l hl => ?_⟩
    have st := same_new hl (.lst [.str (Str.ofString "InvalidTerm"), v])
    exact kk l _ (hs1.trans st) (hs1.free hl) ⟨v, upd_same, hR.same (hs1.trans st)⟩
  have good := hf (by simpa using c)
  clear ht hf cs
  have no : ∀ (l : Addr) (H2 : Hp), Same H H2 → H2 l = none → ff = none → Q (.ref l) (upd H2 l (.lst [])) := fun l H2 s2 h2 e => by
    subst e
    exact kk l _ (s2.trans (same_new h2 _)) (s2.free h2) upd_same
  have deq : ∀ {y z : String}, Str.ofString y ≠ Str.ofString z → decide (V.str (Str.ofString y) = V.str (Str.ofString z)) = false := fun h => decide_eq_false fun q => h (V.str.inj q)
  rcases good with ⟨i, rfl, e⟩ | ⟨z, hz, rfl, e⟩ | ⟨z, ts, hz, hl3, rfl, e⟩
  · obtain ⟨a, ys, rfl, ha, hys⟩ := hR.head
    have sq := SqT.of (K := K) (hs1 _ _ ha)
    refine ⟨_, rfl, a, _, 0, _, rfl, rfl, sq, a0, rfl, _, rfl, ifF (by rw [decide_eq_true rfl]; rfl) (iteF ?_)⟩
    refine ⟨_, rfl, a, _, 0, _, rfl, rfl, sq, a0, rfl, _, rfl, ifF (deq (by decide)) ⟨by show 0 ≤ sizeLine; decide, fun l hl => no l H1 hs1 hl e⟩⟩
  · obtain ⟨a, ys, rfl, ha, hys⟩ := hR.head
    obtain ⟨x, ys', rfl, hx, hy'⟩ := hys
    obtain rfl : x = .str z := hx.1
    have sq := SqT.of (K := K) (hs1 _ _ ha)
    refine ⟨_, rfl, a, _, 0, _, rfl, rfl, sq, a0, rfl, _, rfl, ifT (by rw [deq (by decide)]; rfl) ?_⟩
    refine ⟨_, rfl, a, _, 1, _, rfl, rfl, sq, atI_nat (j := 1) rfl, z, rfl, hz, fun H2 hs2 => ⟨_, rfl, ?_⟩⟩
    have sq2 := SqT.of (K := K) (hs2 _ _ (hs1 _ _ ha))
    cases hb : nmB z with
    | false =>
      rw [nmF_f hb] at e
      subst e
      refine iteT ⟨_, rfl, a, _, 1, _, rfl, rfl, sq2, atI_nat (j := 1) rfl, by show 2 ≤ sizeLine; decide, fun l hl => ?_⟩
      exact kk l _ ((hs1.trans hs2).trans (same_new hl _)) ((hs1.trans hs2).free hl) ⟨.str z, upd_same, rfl, leaf_str⟩
    | true =>
      rw [nmF_t hb] at e
      refine iteF ⟨_, rfl, a, _, 0, _, rfl, rfl, sq2, a0, rfl, _, rfl, ifF (deq (by decide)) ⟨by show 0 ≤ sizeLine; decide, fun l hl => no l H2 (hs1.trans hs2) hl e⟩⟩
  · obtain ⟨a, ys, rfl, ha, hys⟩ := hR.head
    obtain ⟨x, ys', rfl, hx, y, ys'', rfl, hy, hn⟩ := hys
    obtain rfl : x = .str z := hx.1
    obtain ⟨lA, xs, rfl, hlA, hxs⟩ := hy
    have sq := SqT.of (K := K) (hs1 _ _ ha)
    refine ⟨_, rfl, a, _, 0, _, rfl, rfl, sq, a0, rfl, _, rfl, ifT (by rw [deq (by decide)]; rfl) ?_⟩
    refine ⟨_, rfl, a, _, 1, _, rfl, rfl, sq, atI_nat (j := 1) rfl, z, rfl, hz, fun H2 hs2 => ⟨_, rfl, ?_⟩⟩
    have hs12 := hs1.trans hs2
    have sq2 := SqT.of (K := K) (hs12 _ _ ha)
    rcases e with ⟨hb, e⟩ | ⟨hb, e⟩
    · rw [nmF_f hb] at e
      subst e
      rw [hb]
      refine iteT ⟨_, rfl, a, _, 1, _, rfl, rfl, sq2, atI_nat (j := 1) rfl, by show 2 ≤ sizeLine; decide, fun l hl => ?_⟩
      exact kk l _ (hs12.trans (same_new hl _)) (hs12.free hl) ⟨.str z, upd_same, rfl, leaf_str⟩
    rw [hb]
    refine iteF ⟨_, rfl, a, _, 0, _, rfl, rfl, sq2, a0, rfl, _, rfl, ifT (decide_eq_true rfl) ?_⟩
    refine ⟨_, rfl, a, _, 2, _, rfl, rfl, sq2, atI_nat (j := 2) rfl, lA, rfl, ⟨_, SqL.of (hs12 _ _ hlA)⟩, ?_⟩
    have hgt : ∀ t ∈ ts, Good 40 t := fun t ht => by
      obtain ⟨g1, g2⟩ := hGd
      rw [clean_tup] at g2
      have g3 := List.all_eq_true.mp g2 (.lst ts) (by simp)
      rw [clean_lst] at g3
      have g4 := g1.2 (.lst ts) (by simp)
      exact ⟨(g4.2 t ht).le (by decide), List.all_eq_true.mp g3 t ht⟩
    refine for_list (K := K) (a := lA) (xs := xs) (fun i σ' H' => Same H H' ∧ FirstF (TmF (mm - 1)) (ts.drop i) ff ∧ ∃ v1 v2, σ' = [some (.ref a), v1, v2]) ⟨hs12, e, none, none, rfl⟩ (fun i σ' H' _ ⟨h, _⟩ => SqL.of (h _ _ hlA)) ?_ ?_
    · rintro i x σ' H3 hi ⟨hs3, hF, v1, v2, rfl⟩
      obtain ⟨t, ht, hrt⟩ := RWs.item (hxs.same hs3) hi
      obtain ⟨hil, hte⟩ := List.getElem?_eq_some_iff.mp ht
      have htm := List.mem_of_getElem? ht
      rw [List.drop_eq_getElem_cons hil, hte] at hF
      rcases hF with ⟨e', h1, h2⟩ | ⟨h1, h2⟩
      · subst h2
        refine ⟨_, rfl, x, t, mm - 1, some e', rfl, hrt, h1, hgt t htm, by omega, fun l H4 hs4 hl0 hfr => ?_⟩
        refine ⟨_, rfl, by show 0 ≤ sizeLine; decide, fun q hq => ?_⟩
        have sq4 := same_new hq (.lst [])
        refine ne_found (hfr.same sq4) (fun e2 he2 => by cases he2; exact h1.ok) (SqL.of upd_same) ⟨_, rfl, iteT ⟨_, rfl, ?_⟩⟩
        exact kk l _ ((hs3.trans hs4).trans sq4) (hs3.free hl0) (hfr.same sq4)
      · refine ⟨_, rfl, x, t, mm - 1, none, rfl, hrt, h1, hgt t htm, by omega, fun l H4 hs4 hl0 hfr => ?_⟩
        refine ⟨_, rfl, by show 0 ≤ sizeLine; decide, fun q hq => ?_⟩
        have sq4 := same_new hq (.lst [])
        refine ne_found (hfr.same sq4) (fun e2 he2 => by cases he2) (SqL.of upd_same) ⟨_, rfl, iteF ?_⟩
        exact ⟨(hs3.trans hs4).trans sq4, h2, _, _, rfl⟩
    · rintro σ' H3 ⟨hs3, hF, v1, v2, rfl⟩
      rw [hxs.len, List.drop_length] at hF
      exact ⟨by show 0 ≤ sizeLine; decide, fun l hl => no l H3 hs3 hl hF⟩
end
end K03
set_option Elab.async false
set_option linter.all false
set_option maxRecDepth 100000
set_option maxHeartbeats 4000000
namespace K03
open PySem L2 PyProof.Rows
def szD : List D := [.tup [S "any", .leaf (.int 1)], .tup [S "name", .leaf (.int 2)], .tup [S "record", .leaf (.int 3)], .tup [S "row", .leaf (.int 3)]]
theorem szD_shaped : SeqAt.shaped (.list (toPs szD)) = true := by decide +kernel
/-- is it the head of a part -/
def pB (z : Str) (n : Nat) : Bool := (toPs szD).any fun y => PyData.eqv y (.tuple [.str z, .int (n : Int)])
theorem badP_head : ∀ d ∈ badP, d = .tup [] ∨ ∃ s es, d = .tup (S s :: es) ∧ pB (Str.ofString s) (es.length + 1) = false := by
  intro d hd
  simp only [badP, bP0, bP1, bP2, bP3, List.cons_append, List.nil_append, List.mem_cons, List.not_mem_nil, or_false] at hd
  rcases hd with rfl | rfl | rfl | rfl | rfl | rfl | rfl | rfl | rfl | rfl | rfl | rfl | rfl | rfl | rfl | rfl | rfl | rfl
  · exact .inl rfl
  all_goals exact .inr ⟨_, _, rfl, by decide +kernel⟩
def spPtFault (k : Nat) : Sp := fun vs H Q _ => ∃ (v : V) (d : D) (m : Nat) (f : Fl), vs = [v] ∧ RW H d v ∧ PtF m d f ∧ Good 40 d ∧ m + 9 ≤ k ∧ ∀ l H', Same H H' → H l = none → FRes H' l f → Q (.ref l) H'
theorem RW.ent {H : Hp} {row : Bool} {q : Str × D × D} {x : V} (h : RW H (ent row q) x) : ∃ a xs y u, x = .ref a ∧ H a = some (.tup xs) ∧ atI xs (-2) = some y ∧ RW H q.2.1 y ∧ atI xs (-1) = some u ∧ RW H q.2.2 u ∧ (row = false → atI xs 0 = some (.str q.1)) := by
  cases row with
  | true =>
    obtain ⟨a, zs, rfl, ha, z1, zs1, rfl, h1, z2, zs2, rfl, h2, hn⟩ := h
    obtain rfl : zs2 = [] := hn
    exact ⟨a, _, z1, z2, rfl, ha, rfl, h1, rfl, h2, fun z => nomatch z⟩
  | false =>
    obtain ⟨a, zs, rfl, ha, z0, zs0, rfl, h0, z1, zs1, rfl, h1, z2, zs2, rfl, h2, hn⟩ := h
    obtain rfl : zs2 = [] := hn
    obtain rfl : z0 = .str q.1 := h0.1
    exact ⟨a, _, z1, z2, rfl, ha, rfl, h1, rfl, h2, fun _ => rfl⟩
theorem inV_texts {z : Str} {ks : List Str} : inV (.str z) (ks.map V.str) = decide (z ∈ ks) := by
  induction ks with
  | nil => rfl
  | cons k ks ih =>
    show (eqV (.str k) (.str z) || inV (.str z) (ks.map V.str)) = _
    rw [ih]
    have e : eqV (.str k) (.str z) = decide (z = k) := by
      show (k == z) = _
      rw [Bool.eq_iff_iff]
      simp only [beq_iff_eq, decide_eq_true_eq]
      exact eq_comm
    rw [e]
    simp
/-- a name that is to be one, or none -/
def NameCase (x : V) (f : Fl) (R : Prop) : Prop := (x = .non ∧ R) ∨ ∃ z, x = .str z ∧ OkT z ∧ ((nmB z = false ∧ f = nmF z) ∨ (nmB z = true ∧ R))
theorem TmF.tup : ∀ {n : Nat} {d : D} {f : Fl}, TmF n d f → ∃ ds, d = .tup ds
  | 0, _, _, h => h.elim
  | n + 1, d, f, h => by
    rcases h with ⟨h, _⟩ | ⟨i, e, _⟩ | ⟨z, _, e, _⟩ | ⟨z, ts, _, _, e, _⟩
    · rcases badT_head d h with e | ⟨s, es, e, _⟩
      · exact ⟨_, e⟩
      · exact ⟨_, e⟩
    · exact ⟨_, e⟩
    · exact ⟨_, e⟩
    · exact ⟨_, e⟩
theorem good_kids {n : Nat} {s r : D} {row : Bool} {qs : List (Str × D × D)} (h : Good (n + 3) (.tup [s, .lst (qs.map (ent row)), r])) {q : Str × D × D} (hq : q ∈ qs) : Good n q.2.1 ∧ Good n q.2.2 := by
  obtain ⟨g1, g2⟩ := h
  rw [clean_tup] at g2
  have c1 := List.all_eq_true.mp g2 (.lst (qs.map (ent row))) (by simp)
  rw [clean_lst] at c1
  have c2 := List.all_eq_true.mp c1 _ (List.mem_map_of_mem hq)
  have f1 := (g1.2 (.lst (qs.map (ent row))) (by simp)).2 _ (List.mem_map_of_mem hq)
  cases row with
  | true =>
    have e : ent true q = .tup [q.2.1, q.2.2] := rfl
    rw [e, clean_tup] at c2
    rw [e] at f1
    exact ⟨⟨f1.2 _ (by simp), List.all_eq_true.mp c2 _ (by simp)⟩, ⟨f1.2 _ (by simp), List.all_eq_true.mp c2 _ (by simp)⟩⟩
  | false =>
    have e : ent false q = .tup [.leaf (.str q.1), q.2.1, q.2.2] := rfl
    rw [e, clean_tup] at c2
    rw [e] at f1
    exact ⟨⟨f1.2 _ (by simp), List.all_eq_true.mp c2 _ (by simp)⟩, ⟨f1.2 _ (by simp), List.all_eq_true.mp c2 _ (by simp)⟩⟩
section
variable {P : Program} {w : World} {K : PySem.W.Frag} {mg : Str → Option Value} {base : Heap}
theorem scPf : FnScope ["piece", "sizes", "own", "name", "known", "one", "found"] ["piece"] (defScope sPtFault) := ⟨rfl, rfl, rfl, by decide +kernel, rfl, by decide +kernel, by decide +kernel⟩
theorem ptf_none {f : Addr} {fd : FuncData} {ps : List Str} : FnOk P w K mg base CX0 0 f fd ps (spPtFault 0) := none_of fun vs H Q E h => by
  obtain ⟨v, d, m, f, _, _, _, _, h1, _⟩ := h
  omega
theorem ok_ptf {f fN fT : Addr} {fd fdN fdT : FuncData} {k : Nat} (F : Fun K "_law_ta_part_fault" "_law_ta_part_fault" sPtFault f fd) (T : Txt K mg)
    (FN : Fun K "_law_ta_is_name" "_law_ta_is_name" sIsName fN fdN) (GN : FnOk P w K mg base CX0 1 fN fdN ["text"] spIsNm) (bN : Binds K fdN ["text"] []) (mN : mg "_law_ta_is_name" = some (.ref fN))
    (FT : Fun K "_law_ta_term_fault" "_law_ta_term_fault" sTmFault fT fdT) (GT : FnOk P w K mg base CX0 7 fT fdT ["term"] (spTmFault 7)) (bT : Binds K fdT ["term"] []) (mT : mg "_law_ta_term_fault" = some (.ref fT))
    (G : FnOk P w K mg base CX0 k f fd ["piece"] (spPtFault k)) (b : Binds K fd ["piece"] []) (m : mg "_law_ta_part_fault" = some (.ref f)) : FnOk P w K mg base CX0 (k + 1) f fd ["piece"] (spPtFault (k + 1)) := by
  refine F.ok scPf (fun vs H Q E h => ?_) (fun cdv A outer s H vs Q E hr h => ?_)
  · obtain ⟨v, d, m, f, rfl, _⟩ := h
    rfl
  obtain ⟨v, d, mm, ff, rfl, hR, hT, hGd, hk, kk⟩ := h
  have hm : 1 ≤ mm := by cases mm with
    | zero => exact hT.elim
    | succ j => omega
  have hr1 : Room 1 (A.deeper (envOfC "_law_ta_part_fault" (defScope sPtFault) s.heap.objs.size f cdv)) := hr.mono (by omega)
  have hr7 : Room 7 (A.deeper (envOfC "_law_ta_part_fault" (defScope sPtFault) s.heap.objs.size f cdv)) := hr.mono (by omega)
  refine ⟨_, Evl.pss_cut (ps_set (i := 1) scPf.nd rfl (Or.inl rfl) (pl_lst (ds := szD) (pl_cons (pl_tup (pl_cons pl_str (pl_cons pl_int pl_nil))) (pl_cons (pl_tup (pl_cons pl_str (pl_cons pl_int pl_nil))) (pl_cons (pl_tup (pl_cons pl_str (pl_cons pl_int pl_nil))) (pl_cons (pl_tup (pl_cons pl_str (pl_cons pl_int pl_nil))) pl_nil))))))
    (pss_cons (ps_if (pt_cut (PW.pt (pw_or (pt_cmpR (op_eqD hr.units) (pv 0) (pe_tup pa_nil) (nomark _)) (pw_or1 (pt_cmpR (op_notInD (by have := hr.un; show A.units + 3 + 65 < cLine; have h2 : A.units + 3 + 16 * k + 200 < cLine := this; omega)) (pe_tup (pa_cons (pe_ix ix_tup (pv 0) pe_int (fun _ _ => rfl)) (pa_cons (pe_callB call_len_seq (by rfl) T.len PySem.boot_len (pa_cons (pv 0) pa_nil)) pa_nil))) (pv 1) (by rfl))))))
      (pss_one (ps_ret (pe_lst (pa_cons pe_str (pa_cons (pv 0) pa_nil))))) pss_nil)
    (Evl.pss_cut (ps_set (i := 2) scPf.nd rfl (Or.inl rfl) (pe_ifExp (pt_cmpR op_eq (pe_ix ix_tup (pv 0) pe_int (fun _ _ => rfl)) pe_str (nomark _)) (pe_lst pa_nil) (pe_lst (pa_cons (pe_ifExp (pt_cmpR op_eq (pe_ix ix_tup (pv 0) pe_int (fun _ _ => rfl)) pe_str (nomark _)) (pe_ix ix_tup (pv 0) pe_int (fun _ _ => rfl)) (pe_ix ix_tup (pv 0) pe_int (fun _ _ => rfl))) pa_nil))))
    (Evl.pss_cut (ps_for PassesOwn.never rfl (pi_list (pv 2)) (pg_name (i := 3) scPf.nd rfl (Or.inl rfl))
      (pss_one (ps_if (PW.pt (pw_and (pt_cmpR op_notN (pv 3) pe_non (nomark _)) (pw_and1 (pt_not (pt_val (pe_call GN hr1 rfl mN FN.kp bN .nil pass0 (pa_cons (pv 3) pa_nil))))))) (pss_one (ps_ret (pe_lst (pa_cons pe_str (pa_cons (pv 3) pa_nil))))) pss_nil)))
    (pss_cons (ps_set (i := 4) scPf.nd rfl (Or.inl rfl) (pe_lst pa_nil))
    (pss_cons (ps_for PassesOwn.never rfl (pi_list (pe_ifExp (pt_cmpR op_in_seq (pe_ix ix_tup (pv 0) pe_int (fun _ _ => rfl)) (pe_tup (pa_cons pe_str (pa_cons pe_str pa_nil))) (by rfl)) (pe_ix ix_tup (pv 0) pe_int (fun _ _ => rfl)) (pe_lst pa_nil))) (pg_name (i := 5) scPf.nd rfl (Or.inl rfl))
      (Evl.pss_cut (ps_if (pt_cmpR op_eq (pe_ix ix_tup (pv 0) pe_int (fun _ _ => rfl)) pe_str (nomark _))
          (pss_cons (ps_if (pt_not (pt_val (pe_call GN hr1 rfl mN FN.kp bN .nil pass0 (pa_cons (pe_ix ix_tup (pv 5) pe_int (fun _ _ => rfl)) pa_nil)))) (pss_one (ps_ret (pe_lst (pa_cons pe_str (pa_cons (pe_ix ix_tup (pv 5) pe_int (fun _ _ => rfl)) pa_nil))))) pss_nil)
          (pss_cons (ps_if (pt_cmpR op_in_seq (pe_ix ix_tup (pv 5) pe_int (fun _ _ => rfl)) (pv 4) (by rfl)) (pss_one (ps_ret (pe_lst (pa_cons pe_str (pa_cons (pe_ix ix_tup (pv 5) pe_int (fun _ _ => rfl)) pa_nil))))) pss_nil)
          (pss_one (ps_expr (pe_bm PySem.F.plainAttrs_list PySem.F.slot_list_append PySem.F.type_list_append mt_append (pv 4) (pa_cons (pe_ix ix_tup (pv 5) pe_int (fun _ _ => rfl)) pa_nil)))))) pss_nil)
      (Evl.pss_cut (ps_set (i := 6) scPf.nd rfl (Or.inl rfl) (pe_call G hr rfl m F.kp b .nil pass0 (pa_cons (pe_ix ix_tup (pv 5) (pe_un un_neg pe_int) (fun _ _ => rfl)) pa_nil)))
      (Evl.pss_cut (ps_if (PW.pt (pw_and (pt_cmpR (op_eqD hr.units) (pv 6) (pe_lst pa_nil) (nomark _)) (pw_and1 (pt_cmpR op_notN (pe_ix ix_tup (pv 5) (pe_un un_neg pe_int) (fun _ _ => rfl)) pe_non (nomark _)))))
          (pss_one (ps_set (i := 6) scPf.nd rfl (Or.inl rfl) (pe_call GT hr7 rfl mT FT.kp bT .nil pass0 (pa_cons (pe_ix ix_tup (pv 5) (pe_un un_neg pe_int) (fun _ _ => rfl)) pa_nil)))) pss_nil)
      (pss_one (ps_if (pt_cmpR (op_neD hr.units) (pv 6) (pe_lst pa_nil) (nomark _)) (pss_one (ps_ret (pv 6))) pss_nil))))))
    (pss_one (ps_ret (pe_lst pa_nil)))))))), ?_⟩
  have a0 : ∀ {s : String} {ys : List V}, atI (V.str (Str.ofString s) :: ys) 0 = some (.str (Str.ofString s)) := atI_nat (j := 0) rfl
  have deq : ∀ {y z : String}, Str.ofString y ≠ Str.ofString z → decide (V.str (Str.ofString y) = V.str (Str.ofString z)) = false := fun h => decide_eq_false fun q => h (V.str.inj q)
  have cs : ∃ ds, d = .tup ds ∧ ((ff = some (2, d) ∧ (ds = [] ∨ ∃ s es, ds = S s :: es ∧ pB (Str.ofString s) (es.length + 1) = false)) ∨ ∃ s es, ds = S s :: es ∧ pB (Str.ofString s) (es.length + 1) = true ∧
      ((d = .tup [S "any"] ∧ ff = none) ∨ (∃ z, OkT z ∧ d = .tup [S "name", .leaf (.str z)] ∧ ff = nmF z) ∨
        ∃ (row : Bool) (qs : List (Str × D × D)) (r : D), d = .tup [S (if row = true then "row" else "record"), .lst (qs.map (ent row)), r] ∧ qs.length ≤ 25 ∧
      ((∃ z, OkT z ∧ r = .leaf (.str z) ∧ nmB z = false ∧ ff = nmF z) ∨ ((r = .leaf .non ∨ ∃ z, OkT z ∧ r = .leaf (.str z) ∧ nmB z = true) ∧ EsF (PtF (mm - 1)) row [] qs ff)))) := by
    cases mm with
    | zero => exact hT.elim
    | succ mm =>
    rcases hT with ⟨h, h2⟩ | h | h | h
    · rcases badP_head d h with e | ⟨s, es, e, hb⟩
      · exact ⟨_, e, .inl ⟨h2, .inl rfl⟩⟩
      · exact ⟨_, e, .inl ⟨h2, .inr ⟨s, es, rfl, hb⟩⟩⟩
    · obtain ⟨e, h2⟩ := h
      exact ⟨_, e, .inr ⟨_, _, rfl, by show pB (Str.ofString "any") 1 = true; decide +kernel, .inl ⟨e, h2⟩⟩⟩
    · obtain ⟨z, hz, e, h2⟩ := h
      exact ⟨_, e, .inr ⟨_, _, rfl, by show pB (Str.ofString "name") 2 = true; decide +kernel, .inr (.inl ⟨z, hz, e, h2⟩)⟩⟩
    · obtain ⟨row, qs, r, e, h2⟩ := h
      refine ⟨_, e, .inr ⟨_, _, rfl, ?_, .inr (.inr ⟨row, qs, r, e, h2⟩)⟩⟩
      cases row
      · show pB (Str.ofString "record") 3 = true
        decide +kernel
      · show pB (Str.ofString "row") 3 = true
        decide +kernel
  obtain ⟨ds, ed, cs⟩ := cs
  -- sizes
  refine ⟨fun σ' H' => Same H H' ∧ ∃ u, RW H' (.lst szD) u ∧ σ' = [some v, some u, none, none, none, none, none], fun u H' G s r n => ⟨s, u, r.rw, rfl⟩, ?_⟩
  rintro _ H0 ⟨hs0, u0, hu0, rfl⟩
  -- is it a part at all
  refine ⟨fun b H' => Same H H' ∧ (b = true → ff = some (2, d)) ∧ (b = false → ((d = .tup [S "any"] ∧ ff = none) ∨ (∃ z, OkT z ∧ d = .tup [S "name", .leaf (.str z)] ∧ ff = nmF z) ∨
        ∃ (row : Bool) (qs : List (Str × D × D)) (r : D), d = .tup [S (if row = true then "row" else "record"), .lst (qs.map (ent row)), r] ∧ qs.length ≤ 25 ∧
      ((∃ z, OkT z ∧ r = .leaf (.str z) ∧ nmB z = false ∧ ff = nmF z) ∨ ((r = .leaf .non ∨ ∃ z, OkT z ∧ r = .leaf (.str z) ∧ nmB z = true) ∧ EsF (PtF (mm - 1)) row [] qs ff)))), ?_, ?_⟩
  · subst ed
    obtain ⟨a, xs, rfl, ha, hxs⟩ := id hR
    refine ⟨_, rfl, by show 0 ≤ sizeLine; decide, fun t ht => ?_⟩
    have s1 := hs0.trans (same_new ht (.tup []))
    have hu1 := hu0.same (same_new ht (.tup []))
    refine eq_unit (hR.same s1) hGd (by decide) (SqT.of upd_same) ⟨_, rfl, ?_⟩
    rw [eqv_tup]
    generalize upd H0 t (.tup []) = H1 at s1 hu1
    rcases cs with ⟨hf, rfl | ⟨s0, es, rfl, hb⟩⟩ | ⟨s0, es, rfl, hb, good⟩
    · exact iteT ⟨s1, fun _ => hf, fun z => nomatch z⟩
    all_goals
      refine iteF ?_
      obtain ⟨x, ys, rfl, hx, hys⟩ := hxs
      obtain rfl : x = .str (Str.ofString s0) := hx.1
      have sq := SqT.of (K := K) (s1 _ _ ha)
      have hyl := hys.len
      refine ⟨_, rfl, a, _, 0, _, rfl, rfl, sq, a0, _, rfl, a, _, rfl, .inr sq, by show 2 ≤ sizeLine; decide, fun t2 ht2 => ?_⟩
      have s2 := same_new ht2 (.tup [V.str (Str.ofString s0), V.int (((V.str (Str.ofString s0) :: ys).length : Nat) : Int)])
      have g1 : PyData.strOk (Str.ofString s0) = true := by
        have g2 := hGd.2
        rw [clean_tup] at g2
        have g3 := List.all_eq_true.mp g2 (S s0) List.mem_cons_self
        exact g3
      refine ⟨_, rfl, .tuple [.str (Str.ofString s0), .int (((V.str (Str.ofString s0) :: ys).length : Nat) : Int)], toPs szD, .tup (SqT.of upd_same) (.cons (.str _) (.cons (.int _) .nil)), (hu1.same s2).dp, ?_, szD_shaped, _, rfl, ?_⟩
      · simp [SeqAt.shaped, PyData.canLay0, PyData.canLayAll0, PyData.depth, PyData.depthAll, g1]
      have eB : ((toPs szD).any fun z => PyData.eqv z (.tuple [.str (Str.ofString s0), .int (((V.str (Str.ofString s0) :: ys).length : Nat) : Int)])) = pB (Str.ofString s0) (es.length + 1) := by
        rw [List.length_cons, hyl]
        rfl
      rw [eB, hb]
      first
        | exact ⟨s1.trans s2, fun _ => hf, fun z => nomatch z⟩
        | exact ⟨s1.trans s2, (fun z => nomatch z), fun _ => good⟩
  rintro bb H1 ⟨hs1, ht, hf⟩
  refine ite2 (fun c => ?_) (fun c => ?_)
  · have e := ht c
    subst e
    refine ⟨_, rfl, by show 2 ≤ sizeLine; decide, fun l hl => ?_⟩
    have st := same_new hl (.lst [.str (Str.ofString "InvalidPart"), v])
    exact kk l _ (hs1.trans st) (hs1.free hl) ⟨v, upd_same, hR.same (hs1.trans st)⟩
  have good := hf (by simpa using c)
  clear ht hf cs hu0 hs0
  have no : ∀ (l : Addr) (H2 : Hp), Same H H2 → H2 l = none → ff = none → Q (.ref l) (upd H2 l (.lst [])) := fun l H2 s2 h2 e => by
    subst e
    exact kk l _ (s2.trans (same_new h2 _)) (s2.free h2) upd_same
  have hit : ∀ (l : Addr) (H2 : Hp) (z : Str) (c : Nat), Same H H2 → H2 l = none → ff = some (c, .leaf (.str z)) → Q (.ref l) (upd H2 l (.lst [.str (wd c), .str z])) := fun l H2 z c s2 h2 e => by
    subst e
    exact kk l _ (s2.trans (same_new h2 _)) (s2.free h2) ⟨.str z, upd_same, rfl, leaf_str⟩
  -- what the walk over its items is asked
  obtain ⟨R, hR1, hR2⟩ : ∃ R : Prop, (∃ (s0 : String) (es : List D), d = .tup (S s0 :: es) ∧ ∃ (a : Addr) (ys : List V), v = .ref a ∧ H a = some (.tup (.str (Str.ofString s0) :: ys)) ∧ RWs H es ys ∧
      ((decide (V.str (Str.ofString s0) = V.str (Str.ofString "any")) = true ∧ R) ∨ (decide (V.str (Str.ofString s0) = V.str (Str.ofString "any")) = false ∧ ∃ x, NameCase x ff R ∧
        ((decide (V.str (Str.ofString s0) = V.str (Str.ofString "name")) = true ∧ atI (V.str (Str.ofString s0) :: ys) 1 = some x) ∨ (decide (V.str (Str.ofString s0) = V.str (Str.ofString "name")) = false ∧ atI (V.str (Str.ofString s0) :: ys) 2 = some x))))) ∧
      (R → (ff = none ∧ ∃ (s0 : String) (es : List D), d = .tup (S s0 :: es) ∧ inV (.str (Str.ofString s0)) [.str (Str.ofString "row"), .str (Str.ofString "record")] = false) ∨
        ∃ (row : Bool) (qs : List (Str × D × D)) (r : D), d = .tup [S (if row = true then "row" else "record"), .lst (qs.map (ent row)), r] ∧ qs.length ≤ 25 ∧ EsF (PtF (mm - 1)) row [] qs ff) := by
    rcases good with ⟨e, h⟩ | ⟨z, hz, e, h⟩ | ⟨row, qs, r, e, hl, h⟩
    · refine ⟨True, ⟨"any", [], e, ?_⟩, fun _ => .inl ⟨h, "any", [], e, by decide +kernel⟩⟩
      rw [e] at hR
      obtain ⟨a, ys, rfl, ha, hys⟩ := hR.head
      exact ⟨a, ys, rfl, ha, hys, .inl ⟨decide_eq_true rfl, trivial⟩⟩
    · refine ⟨nmB z = true, ⟨"name", _, e, ?_⟩, fun h2 => .inl ⟨by rw [h, nmF_t h2], "name", _, e, by decide +kernel⟩⟩
      rw [e] at hR
      obtain ⟨a, ys, rfl, ha, hys⟩ := hR.head
      obtain ⟨x, ys', rfl, hx, hy'⟩ := id hys
      obtain rfl : x = .str z := hx.1
      refine ⟨a, _, rfl, ha, hys, .inr ⟨deq (by decide), .str z, .inr ⟨z, rfl, hz, ?_⟩, .inl ⟨decide_eq_true rfl, atI_nat (j := 1) rfl⟩⟩⟩
      cases hb : nmB z with
      | false => exact .inl ⟨rfl, h⟩
      | true => exact .inr ⟨rfl, rfl⟩
    · have n1 : Str.ofString (if row = true then "row" else "record") ≠ Str.ofString "name" := by cases row <;> decide
      have n2 : Str.ofString (if row = true then "row" else "record") ≠ Str.ofString "any" := by cases row <;> decide
      refine ⟨EsF (PtF (mm - 1)) row [] qs ff, ⟨(if row = true then "row" else "record"), _, e, ?_⟩, fun h2 => .inr ⟨row, qs, r, e, hl, h2⟩⟩
      rw [e] at hR
      obtain ⟨a, ys, rfl, ha, hys⟩ := hR.head
      obtain ⟨x, ys', rfl, hx, y, ys'', rfl, hy, hn⟩ := id hys
      refine ⟨a, _, rfl, ha, hys, .inr ⟨deq n2, y, ?_, .inr ⟨deq n1, atI_nat (j := 2) rfl⟩⟩⟩
      rcases h with ⟨z, hz, rfl, hb, h⟩ | ⟨rfl | ⟨z, hz, rfl, hb⟩, h⟩
      · exact .inr ⟨z, hy.1, hz, .inl ⟨hb, h⟩⟩
      · exact .inl ⟨hy.1, h⟩
      · exact .inr ⟨z, hy.1, hz, .inr ⟨hb, h⟩⟩
  obtain ⟨s0, es, ed2, a, ys, rfl, ha, hys, hown⟩ := hR1
  have sq1 := SqT.of (K := K) (hs1 _ _ ha)
  -- its own name
  refine ⟨fun σ' H' => Same H H' ∧ ∃ (l : Addr) (ws : List V), H l = none ∧ H' l = some (.lst ws) ∧ ws.length ≤ 1 ∧ (ws = [] → R) ∧ (∀ x, ws = [x] → NameCase x ff R) ∧ σ' = [some (.ref a), some u0, some (.ref l), none, none, none, none], ?_, ?_⟩
  · refine ⟨_, rfl, a, _, 0, _, rfl, rfl, sq1, a0, rfl, _, rfl, ?_⟩
    rcases hown with ⟨e1, hr⟩ | ⟨e1, x, hx, h2⟩
    · exact ifT e1 ⟨by show 0 ≤ sizeLine; decide, fun l hl => ⟨hs1.trans (same_new hl _), l, [], hs1.free hl, upd_same, Nat.zero_le _, fun _ => hr, (fun _ z => nomatch z), rfl⟩⟩
    · refine ifF e1 ⟨_, rfl, a, _, 0, _, rfl, rfl, sq1, a0, rfl, _, rfl, ?_⟩
      have fin : ∀ l : Addr, H1 l = none → Same H (upd H1 l (.lst [x])) ∧ ∃ (l' : Addr) (ws : List V), H l' = none ∧ (upd H1 l (.lst [x])) l' = some (.lst ws) ∧ ws.length ≤ 1 ∧ (ws = [] → R) ∧ (∀ x, ws = [x] → NameCase x ff R) ∧ ([some (V.ref a), some u0, none, none, none, none, none] : L2.St).set 2 (some (.ref l)) = [some (.ref a), some u0, some (.ref l'), none, none, none, none] := fun l hl =>
        ⟨hs1.trans (same_new hl _), l, [x], hs1.free hl, upd_same, Nat.le_refl 1, (fun z => nomatch z), (fun y hy => by cases hy; exact hx), rfl⟩
      rcases h2 with ⟨e2, hat⟩ | ⟨e2, hat⟩
      · exact ifT e2 ⟨_, rfl, a, _, 1, _, rfl, rfl, sq1, hat, by show 1 ≤ sizeLine; decide, fin⟩
      · exact ifF e2 ⟨_, rfl, a, _, 2, _, rfl, rfl, sq1, hat, by show 1 ≤ sizeLine; decide, fin⟩
  clear hown hs1 sq1
  rintro _ H2 ⟨hs2, l, ws, hl0, hl2, hw1, hw0, hwx, rfl⟩
  refine ⟨fun σ' H' => Same H H' ∧ R ∧ ∃ v3, σ' = [some (.ref a), some u0, some (.ref l), v3, none, none, none], ?_, ?_⟩
  · refine ⟨_, rfl, l, rfl, ⟨_, SqL.of hl2⟩, ?_⟩
    refine for_list (K := K) (a := l) (xs := ws) (fun i σ' H' => Same H H' ∧ Same H2 H' ∧ (ws.drop i = [] → R) ∧ (∀ x, ws.drop i = [x] → NameCase x ff R) ∧ ∃ v3, σ' = [some (.ref a), some u0, some (.ref l), v3, none, none, none])
      ⟨hs2, Same.refl _, hw0, hwx, none, rfl⟩ (fun i σ' H' _ ⟨_, h, _⟩ => SqL.of (h _ _ hl2)) ?_ ?_
    · rintro i x σ' H3 hi ⟨hs3, hs23, h0, hx, v3, rfl⟩
      have hil := (List.getElem?_eq_some_iff.mp hi).1
      obtain rfl : i = 0 := by omega
      have ew : ws = [x] := by
        match ws, hw1, hi with
        | [y], _, hi => exact congrArg (fun z => [z]) (Option.some.inj hi)
      have e1 : ws.drop (0 + 1) = [] := by rw [ew]; rfl
      have nx : ∀ {H4 : Hp}, Same H3 H4 → R → (Same H H4 ∧ Same H2 H4 ∧ (ws.drop (0 + 1) = [] → R) ∧ (∀ x, ws.drop (0 + 1) = [x] → NameCase x ff R) ∧ ∃ v3, ([some (.ref a), some u0, some (.ref l), some x, none, none, none] : L2.St) = [some (.ref a), some u0, some (.ref l), v3, none, none, none]) := fun s4 r =>
        ⟨hs3.trans s4, hs23.trans s4, fun _ => r, (fun y z => by rw [e1] at z; cases z), _, rfl⟩
      rcases hx x (by rw [ew]; rfl) with ⟨rfl, r⟩ | ⟨z, rfl, hz, h⟩
      · exact ⟨_, rfl, rfl, _, rfl, ifF (by rw [decide_eq_true rfl]; rfl) (iteF (nx (Same.refl _) r))⟩
      · refine ⟨_, rfl, rfl, _, rfl, ifT (by rw [decide_eq_false (fun z => nomatch z)]; rfl) ⟨_, rfl, z, rfl, hz, fun H4 hs4 => ⟨_, rfl, ?_⟩⟩⟩
        rcases h with ⟨hb, e⟩ | ⟨hb, r⟩
        · rw [hb]
          rw [nmF_f hb] at e
          exact iteT ⟨_, rfl, by show 2 ≤ sizeLine; decide, fun q hq => hit q H4 z 1 (hs3.trans hs4) hq e⟩
        · rw [hb]
          exact iteF (nx hs4 r)
    · rintro σ' H3 ⟨hs3, hs23, h0, hx, r⟩
      exact ⟨hs3, h0 List.drop_length, r⟩
  clear hl2 hw1 hw0 hwx
  rintro _ H3 ⟨hs3, r, v3, rfl⟩
  -- the items
  refine ⟨by show 0 ≤ sizeLine; decide, fun kn hkn => ?_⟩
  have hs4 := hs3.trans (same_new hkn (.lst []))
  have hkn0 := hs3.free hkn
  have hkn4 : (upd H3 kn (.lst [])) kn = some (.lst []) := upd_same
  show tSeq _ _ _ _ (upd H3 kn (.lst []))
  generalize upd H3 kn (.lst []) = H4 at hs4 hkn4
  have sq4 := SqT.of (K := K) (hs4 _ _ ha)
  refine ⟨_, rfl, a, _, 0, _, rfl, rfl, sq4, a0, by show 2 ≤ sizeLine; decide, fun t5 ht5 => ⟨t5, _, rfl, .inr (SqT.of upd_same), rfl, rfl, _, rfl, ?_⟩⟩
  have s5 := same_new ht5 (.tup [V.str (Str.ofString "row"), V.str (Str.ofString "record")])
  have hs5 := hs4.trans s5
  have hkn5 := s5 _ _ hkn4
  generalize upd H4 t5 (.tup [V.str (Str.ofString "row"), V.str (Str.ofString "record")]) = H5 at hs5 hkn5
  clear sq4 s5 hs4 hkn4
  rcases hR2 r with ⟨hnone, s1, es1, ed3, hin⟩ | ⟨row, qs, rr, ed3, hl25, hE⟩
  · have es0 : Str.ofString s0 = Str.ofString s1 := by
      rw [ed2] at ed3
      exact V.str.inj (D.leaf.inj (List.cons.inj (D.tup.inj ed3)).1)
    rw [es0, hin]
    refine iteF ⟨by show 0 ≤ sizeLine; decide, fun l6 hl6 => ⟨l6, rfl, ⟨_, SqL.of upd_same⟩, ?_⟩⟩
    have hs6 := hs5.trans (same_new hl6 (.lst []))
    refine for_list (K := K) (a := l6) (xs := []) (fun i σ' H' => H' = upd H5 l6 (.lst [])) rfl (fun i σ' H' _ e => by rw [e]; exact SqL.of upd_same) (fun i x σ' H' hi _ => by simp at hi) ?_
    rintro σ' _ rfl
    exact ⟨by show 0 ≤ sizeLine; decide, fun q hq => no q _ hs6 hq hnone⟩
  have es0 : Str.ofString s0 = Str.ofString (if row = true then "row" else "record") := by
    rw [ed2] at ed3
    exact V.str.inj (D.leaf.inj (List.cons.inj (D.tup.inj ed3)).1)
  have ees : es = [.lst (qs.map (ent row)), rr] := by
    rw [ed2] at ed3
    exact (List.cons.inj (D.tup.inj ed3)).2
  subst ees
  obtain ⟨x1, ys', rfl, hx1, hy'⟩ := hys
  obtain ⟨lA, xs, rfl, hlA, hxs⟩ := hx1
  refine ifT (by rw [es0]; cases row <;> decide +kernel) ⟨_, rfl, a, _, 1, _, rfl, rfl, SqT.of (hs5 _ _ ha), atI_nat (j := 1) rfl, lA, rfl, ⟨_, SqL.of (hs5 _ _ hlA)⟩, ?_⟩
  rw [ed3] at hGd
  have hxl : xs.length = qs.length := by
    rw [hxs.len, List.length_map]
  refine for_list (K := K) (a := lA) (xs := xs) (fun i σ' H' => Same H H' ∧ ∃ known : List Str, EsF (PtF (mm - 1)) row known (qs.drop i) ff ∧ H' kn = some (.lst (if row = true then [] else known.map V.str)) ∧ known.length ≤ i ∧ ∃ v5 v6, σ' = [some (.ref a), some u0, some (.ref l), v3, some (.ref kn), v5, v6])
    ⟨hs5, [], hE, by rw [hkn5]; cases row <;> rfl, Nat.le_refl 0, none, none, rfl⟩ (fun i σ' H' _ ⟨h, _⟩ => SqL.of (h _ _ hlA)) ?_ ?_
  · rintro i x σ' H6 hi ⟨hs6, known, hE6, hkn6, hkl, v5, v6, rfl⟩
    obtain ⟨t, ht, hrt⟩ := RWs.item (hxs.same hs6) hi
    rw [List.getElem?_map] at ht
    obtain ⟨q, hqi, rfl⟩ : ∃ q, qs[i]? = some q ∧ ent row q = t := by
      cases e2 : qs[i]? with
      | none =>
        rw [e2] at ht
        cases ht
      | some q =>
        rw [e2] at ht
        exact ⟨q, rfl, Option.some.inj ht⟩
    obtain ⟨hil, hqe⟩ := List.getElem?_eq_some_iff.mp hqi
    rw [List.drop_eq_getElem_cons hil, hqe] at hE6
    obtain ⟨g1, gq⟩ := good_kids (n := 37) hGd (List.mem_of_getElem? hqi)
    obtain ⟨b1, zs, y1, u1, rfl, hb1, hat2, hry, hat1, hru, hat0⟩ := hrt.ent
    have sq6 := SqT.of (K := K) (hs6 _ _ ha)
    -- the field's name
    refine ⟨fun σ' H' => Same H H' ∧ ((∃ e, PtF (mm - 1) q.2.1 (some e) ∧ ff = some e) ∨ (PtF (mm - 1) q.2.1 none ∧ ((∃ e, DfF q.2.2 (some e) ∧ ff = some e) ∨ (DfF q.2.2 none ∧ EsF (PtF (mm - 1)) row (known ++ [q.1]) (qs.drop (i + 1)) ff)))) ∧
        H' kn = some (.lst (if row = true then [] else (known ++ [q.1]).map V.str)) ∧ σ' = [some (.ref a), some u0, some (.ref l), v3, some (.ref kn), some (.ref b1), v6], ?_, ?_⟩
    · refine ⟨_, rfl, a, _, 0, _, rfl, rfl, sq6, a0, rfl, _, rfl, ?_⟩
      rw [es0]
      cases row with
      | true =>
        refine ifF (deq (by decide)) ?_
        rcases hE6 with ⟨h, _⟩ | ⟨h, _⟩ | ⟨_, h⟩
        · cases h
        · cases h
        · exact ⟨hs6, h, hkn6, rfl⟩
      | false =>
        refine ifT (decide_eq_true rfl) ?_
        have h0 := hat0 rfl
        have hkn6' : H6 kn = some (.lst (known.map V.str)) := hkn6
        have okz : OkT q.1 := by
          rcases hE6 with ⟨_, h, _⟩ | ⟨_, h, _⟩ | ⟨h, _⟩
          · exact h
          · exact h
          · exact (h rfl).1
        refine ⟨_, rfl, b1, _, 0, _, rfl, rfl, SqT.of hb1, h0, q.1, rfl, okz, fun H7 hs7 => ⟨_, rfl, ?_⟩⟩
        have sq7 := SqT.of (K := K) (hs7 _ _ hb1)
        rcases hE6 with ⟨_, _, hb, e⟩ | ⟨_, _, hb, hm, e⟩ | ⟨h, hrest⟩
        · rw [hb]
          rw [nmF_f hb] at e
          exact iteT ⟨_, rfl, b1, _, 0, _, rfl, rfl, sq7, h0, by show 2 ≤ sizeLine; decide, fun l7 hl7 => hit l7 H7 q.1 1 (hs6.trans hs7) hl7 e⟩
        · rw [hb]
          refine iteF ⟨_, rfl, b1, _, 0, _, rfl, rfl, sq7, h0, _, rfl, kn, _, rfl, .inl (SqL.of (hs7 _ _ hkn6')), rfl, flat_texts known, _, rfl, ?_⟩
          refine ifT (by show inV _ _ = true; rw [inV_texts]; exact decide_eq_true hm) ?_
          exact ⟨_, rfl, b1, _, 0, _, rfl, rfl, sq7, h0, by show 2 ≤ sizeLine; decide, fun l7 hl7 => hit l7 H7 q.1 4 (hs6.trans hs7) hl7 e⟩
        · obtain ⟨_, hb, hm⟩ := h rfl
          rw [hb]
          refine iteF ⟨_, rfl, b1, _, 0, _, rfl, rfl, sq7, h0, _, rfl, kn, _, rfl, .inl (SqL.of (hs7 _ _ hkn6')), rfl, flat_texts known, _, rfl, ?_⟩
          refine ifF (by show inV _ _ = false; rw [inV_texts]; exact decide_eq_false hm) ?_
          have hkn7 := hs7 _ _ hkn6'
          refine ⟨_, rfl, .inl ⟨rfl, _, SqL.of hkn7⟩, _, rfl, b1, _, 0, _, rfl, rfl, sq7, h0, kn, _, _, rfl, rfl, hkn7, Nat.lt_of_le_of_lt (show (known.map V.str).length ≤ 1000 by rw [List.length_map]; omega) (by decide), ?_⟩
          refine ⟨same_put (hs6.trans hs7) hkn0, hrest, ?_, rfl⟩
          rw [upd_same]
          show _ = some (HO.lst ((known ++ [q.1]).map V.str))
          rw [List.map_append]
          rfl
    have hrt2 : RW H (ent row q) (.ref b1) := by
      obtain ⟨t, ht, hrt⟩ := RWs.item hxs hi
      rw [List.getElem?_map, hqi] at ht
      exact (Option.some.inj ht) ▸ hrt
    clear hrt hb1 hat2 hry hat1 hru hat0 hE6 hkn6 sq6 hs6
    rintro _ H7 ⟨hs7, hE7, hkn7, rfl⟩
    obtain ⟨b2, zs2, y2, u2, eb2, hb2, hat2, hry, hat1, hru, _⟩ := hrt2.ent
    cases eb2
    have hb7 := hs7 _ _ hb2
    -- the part
    refine ⟨fun σ' H' => Same H H' ∧ H' kn = some (.lst (if row = true then [] else (known ++ [q.1]).map V.str)) ∧ ∃ (lf : Addr) (g : Fl), H lf = none ∧ FRes H' lf g ∧ ((∃ e, g = some e ∧ ff = some e ∧ VOk e) ∨ (g = none ∧ ((∃ e, DfF q.2.2 (some e) ∧ ff = some e) ∨ (DfF q.2.2 none ∧ EsF (PtF (mm - 1)) row (known ++ [q.1]) (qs.drop (i + 1)) ff)))) ∧ σ' = [some (.ref a), some u0, some (.ref l), v3, some (.ref kn), some (.ref b1), some (.ref lf)], ?_, ?_⟩
    · rcases hE7 with ⟨e, h1, h2⟩ | ⟨h1, h2⟩
      · exact ⟨_, rfl, 2, rfl, b1, _, -2, y2, rfl, rfl, SqT.of hb7, hat2, y2, q.2.1, mm - 1, _, rfl, hry.same hs7, h1, g1.le (by decide), by omega, fun lf H8 hs8 hlf hfr => ⟨hs7.trans hs8, hs8 _ _ hkn7, lf, _, hs7.free hlf, hfr, .inl ⟨e, rfl, h2, h1.ok⟩, rfl⟩⟩
      · exact ⟨_, rfl, 2, rfl, b1, _, -2, y2, rfl, rfl, SqT.of hb7, hat2, y2, q.2.1, mm - 1, _, rfl, hry.same hs7, h1, g1.le (by decide), by omega, fun lf H8 hs8 hlf hfr => ⟨hs7.trans hs8, hs8 _ _ hkn7, lf, _, hs7.free hlf, hfr, .inr ⟨rfl, h2⟩, rfl⟩⟩
    clear hE7 hkn7 hb7 hs7
    rintro _ H7 ⟨hs7, hkn7, lf, g, hlf0, hfr7, hE7, rfl⟩
    have hb7 := hs7 _ _ hb2
    have hv7 : ∀ e, g = some e → VOk e := fun e he => by
      rcases hE7 with ⟨e', h1, _, h3⟩ | ⟨h1, _⟩
      · rw [h1] at he
        cases he
        exact h3
      · rw [h1] at he
        cases he
    -- what it takes else
    refine ⟨fun σ' H' => Same H H' ∧ H' kn = some (.lst (if row = true then [] else (known ++ [q.1]).map V.str)) ∧ ∃ (lf : Addr) (g : Fl), H lf = none ∧ FRes H' lf g ∧ ((∃ e, g = some e ∧ ff = some e ∧ VOk e) ∨ (g = none ∧ EsF (PtF (mm - 1)) row (known ++ [q.1]) (qs.drop (i + 1)) ff)) ∧ σ' = [some (.ref a), some u0, some (.ref l), v3, some (.ref kn), some (.ref b1), some (.ref lf)], ?_, ?_⟩
    · refine ⟨_, rfl, by show 0 ≤ sizeLine; decide, fun q8 hq8 => ?_⟩
      have s8 := same_new hq8 (.lst [])
      have hs8 := hs7.trans s8
      refine eq_found (hfr7.same s8) hv7 (SqL.of upd_same) ⟨_, rfl, ?_⟩
      have hkn8 := s8 _ _ hkn7
      have hfr8 := hfr7.same s8
      generalize upd H7 q8 (.lst []) = H8 at hs8 hkn8 hfr8
      have sq8 := SqT.of (K := K) (hs8 _ _ hb2)
      rcases hE7 with ⟨e, rfl, h2, h3⟩ | ⟨rfl, h2⟩
      · exact iteF (iteF ⟨hs8, hkn8, lf, _, hlf0, hfr8, .inl ⟨e, rfl, h2, h3⟩, rfl⟩)
      refine iteT ⟨_, rfl, 1, rfl, b1, _, -1, u2, rfl, rfl, sq8, hat1, rfl, _, rfl, ?_⟩
      have notN : ∀ g2, TmF 5 q.2.2 g2 → (!decide (u2 = .non)) = true := fun g2 hg2 => by
        obtain ⟨ds, e⟩ := hg2.tup
        rw [e] at hru
        obtain ⟨a9, xs9, rfl, _⟩ := hru
        rfl
      rcases h2 with ⟨e, h3 | h3, h4⟩ | ⟨h3 | h3, h4⟩
      · cases h3.2
      · exact ifT (notN _ h3) ⟨_, rfl, 1, rfl, b1, _, -1, u2, rfl, rfl, sq8, hat1, u2, q.2.2, 5, _, rfl, hru.same hs8, h3, gq.le (by decide), by decide, fun lf' H9 hs9 hl9 hf9 => ⟨hs8.trans hs9, hs9 _ _ hkn8, lf', _, hs8.free hl9, hf9, .inl ⟨e, rfl, h4, h3.ok⟩, rfl⟩⟩
      · have eu : u2 = .non := by
          rw [h3.1] at hru
          exact hru.1
        exact ifF (by rw [eu]; rfl) ⟨hs8, hkn8, lf, _, hlf0, hfr8, .inr ⟨rfl, h4⟩, rfl⟩
      · exact ifT (notN _ h3) ⟨_, rfl, 1, rfl, b1, _, -1, u2, rfl, rfl, sq8, hat1, u2, q.2.2, 5, _, rfl, hru.same hs8, h3, gq.le (by decide), by decide, fun lf' H9 hs9 hl9 hf9 => ⟨hs8.trans hs9, hs9 _ _ hkn8, lf', _, hs8.free hl9, hf9, .inr ⟨rfl, h4⟩, rfl⟩⟩
    clear hE7 hkn7 hfr7 hb7 hv7 hs7
    rintro _ H7 ⟨hs7, hkn7, lf2, g3, hlf2, hfr7, hE7, rfl⟩
    refine ⟨_, rfl, by show 0 ≤ sizeLine; decide, fun q9 hq9 => ?_⟩
    have s9 := same_new hq9 (.lst [])
    rcases hE7 with ⟨e, rfl, h2, h3⟩ | ⟨rfl, h2⟩
    · subst h2
      refine ne_found (hfr7.same s9) (fun e2 he2 => by cases he2; exact h3) (SqL.of upd_same) ⟨_, rfl, iteT ⟨_, rfl, ?_⟩⟩
      exact kk lf2 _ (hs7.trans s9) hlf2 (hfr7.same s9)
    · refine ne_found (hfr7.same s9) (fun e2 he2 => by cases he2) (SqL.of upd_same) ⟨_, rfl, iteF ?_⟩
      exact ⟨hs7.trans s9, known ++ [q.1], h2, s9 _ _ hkn7, by rw [List.length_append]; show known.length + 1 ≤ i + 1; omega, _, _, rfl⟩
  · rintro σ' H6 ⟨hs6, known, hE6, _⟩
    rw [hxl, List.drop_length] at hE6
    exact ⟨by show 0 ≤ sizeLine; decide, fun q hq => no q H6 hs6 hq hE6⟩
end
end K03
set_option Elab.async false
set_option linter.all false
set_option maxRecDepth 100000
set_option maxHeartbeats 4000000
namespace K03
open PySem L2 PyProof.Rows
def ordB (r : Str) : Bool := inV (.str r) [.str (Str.ofString "soon"), .str (Str.ofString "late")]
def lckB (s : Str) : Bool := inV (.str s) [.str (Str.ofString "absent"), .str (Str.ofString "nothing")]
def ruleF (r s : Str) : Fl := if ordB r = false then some (5, .leaf (.str r)) else if lckB s = false then some (5, .leaf (.str s)) else none
def PlanF (d : D) (r s : Str) (f : Fl) : Prop := (∃ e, PtF 7 d (some e) ∧ f = some e) ∨ (PtF 7 d none ∧ f = ruleF r s)
theorem rule_o {r s : Str} (h : ordB r = false) : ruleF r s = some (5, .leaf (.str r)) := if_pos h
theorem rule_l {r s : Str} (h : ordB r = true) (h2 : lckB s = false) : ruleF r s = some (5, .leaf (.str s)) := by
  unfold ruleF
  rw [if_neg (by rw [h]; exact Bool.noConfusion), if_pos h2]
theorem rule_n {r s : Str} (h : ordB r = true) (h2 : lckB s = true) : ruleF r s = none := by
  unfold ruleF
  rw [if_neg (by rw [h]; exact Bool.noConfusion), if_neg (by rw [h2]; exact Bool.noConfusion)]
theorem plan_ex {d : D} {r s : Str} (h : PtW 7 d) : ∃ f, PlanF d r s f := by
  obtain ⟨f, hf⟩ := h.ex
  cases f with
  | none => exact ⟨_, .inr ⟨hf, rfl⟩⟩
  | some e => exact ⟨_, .inl ⟨e, hf, rfl⟩⟩
theorem PlanF.ok {d : D} {r s : Str} {e : Nat × D} (h : PlanF d r s (some e)) (hr : OkT r) (hs : OkT s) : VOk e := by
  rcases h with ⟨e', h, h2⟩ | ⟨_, h⟩
  · cases h2
    exact h.ok
  · unfold ruleF at h
    split at h
    · cases h
      exact ⟨(by show 1 ≤ 5; decide), (by show 5 ≤ 5; decide), good_str hr⟩
    · split at h
      · cases h
        exact ⟨(by show 1 ≤ 5; decide), (by show 5 ≤ 5; decide), good_str hs⟩
      · cases h
def spFault : Sp := fun vs H Q _ => ∃ (t : Addr) (d : D) (r s : Str) (u : V) (f : Fl), vs = [.ref t] ∧ H t = some (.tup [u, .str r, .str s]) ∧ RW H d u ∧ PlanF d r s f ∧ Good 40 d ∧ OkT r ∧ OkT s ∧ ∀ l H', Same H H' → H l = none → FRes H' l f → Q (.ref l) H'
section
variable {P : Program} {w : World} {K : PySem.W.Frag} {mg : Str → Option Value} {base : Heap}
theorem scFa : FnScope ["plan", "found"] ["plan"] (defScope sFault) := ⟨rfl, rfl, rfl, by decide +kernel, rfl, by decide +kernel, by decide +kernel⟩
theorem ok_fault {f fP : Addr} {fd fdP : FuncData} (F : Fun K "_law_ta_fault" "_law_ta_fault" sFault f fd)
    (FP : Fun K "_law_ta_part_fault" "_law_ta_part_fault" sPtFault fP fdP) (GP : FnOk P w K mg base CX0 16 fP fdP ["piece"] (spPtFault 16)) (bP : Binds K fdP ["piece"] []) (mP : mg "_law_ta_part_fault" = some (.ref fP)) : FnOk P w K mg base CX0 17 f fd ["plan"] spFault := by
  refine F.ok scFa (fun vs H Q E h => ?_) (fun cdv A outer s H vs Q E hr h => ?_)
  · obtain ⟨t, d, r, s, u, f, rfl, _⟩ := h
    rfl
  obtain ⟨t, d, r, s, u, ff, rfl, ht, hR, hF, hG, hr0, hs0, kk⟩ := h
  refine ⟨_, Evl.pss_cut (ps_set (i := 1) scFa.nd rfl (Or.inl rfl) (pe_call GP hr rfl mP FP.kp bP .nil pass0 (pa_cons (pe_ix ix_tup (pv 0) pe_int (fun _ _ => rfl)) pa_nil)))
    (Evl.pss_cut (ps_if (PW.pt (pw_and (pt_cmpR (op_eqD hr.units) (pv 1) (pe_lst pa_nil) (nomark _)) (pw_and1 (pt_cmpR op_notIn_seq (pe_ix ix_tup (pv 0) pe_int (fun _ _ => rfl)) (pe_tup (pa_cons pe_str (pa_cons pe_str pa_nil))) (by rfl)))))
        (pss_one (ps_set (i := 1) scFa.nd rfl (Or.inl rfl) (pe_lst (pa_cons pe_str (pa_cons (pe_ix ix_tup (pv 0) pe_int (fun _ _ => rfl)) pa_nil))))) pss_nil)
    (Evl.pss_cut (ps_if (PW.pt (pw_and (pt_cmpR (op_eqD hr.units) (pv 1) (pe_lst pa_nil) (nomark _)) (pw_and1 (pt_cmpR op_notIn_seq (pe_ix ix_tup (pv 0) pe_int (fun _ _ => rfl)) (pe_tup (pa_cons pe_str (pa_cons pe_str pa_nil))) (by rfl)))))
        (pss_one (ps_set (i := 1) scFa.nd rfl (Or.inl rfl) (pe_lst (pa_cons pe_str (pa_cons (pe_ix ix_tup (pv 0) pe_int (fun _ _ => rfl)) pa_nil))))) pss_nil)
    (pss_one (ps_ret (pv 1))))), ?_⟩
  have t0 : atI [u, V.str r, V.str s] 0 = some u := atI_nat (j := 0) rfl
  have t1 : atI [u, V.str r, V.str s] 1 = some (.str r) := atI_nat (j := 1) rfl
  have t2 : atI [u, V.str r, V.str s] 2 = some (.str s) := atI_nat (j := 2) rfl
  have vk : ∀ {c : Nat} {z : Str}, OkT z → 1 ≤ c → c ≤ 5 → VOk (c, .leaf (.str z)) := fun h h1 h2 => ⟨h1, h2, good_str h⟩
  refine ⟨fun σ' H' => Same H H' ∧ ∃ (l : Addr) (g : Fl), H l = none ∧ FRes H' l g ∧ ((∃ e, g = some e ∧ ff = some e ∧ VOk e) ∨ (g = none ∧ ff = ruleF r s)) ∧ σ' = [some (.ref t), some (.ref l)], ?_, ?_⟩
  · rcases hF with ⟨e, h1, h2⟩ | ⟨h1, h2⟩
    · exact ⟨_, rfl, t, _, 0, _, rfl, rfl, SqT.of ht, t0, u, d, 7, _, rfl, hR, h1, hG, by decide, fun l H' hs hl hf => ⟨hs, l, _, hl, hf, .inl ⟨e, rfl, h2, h1.ok⟩, rfl⟩⟩
    · exact ⟨_, rfl, t, _, 0, _, rfl, rfl, SqT.of ht, t0, u, d, 7, _, rfl, hR, h1, hG, by decide, fun l H' hs hl hf => ⟨hs, l, _, hl, hf, .inr ⟨rfl, h2⟩, rfl⟩⟩
  rintro _ H1 ⟨hs1, l, g, hl0, hf1, hc1, rfl⟩
  -- the word for the order
  refine ⟨fun σ' H' => Same H H' ∧ ∃ (l : Addr) (g : Fl), H l = none ∧ FRes H' l g ∧ ((∃ e, g = some e ∧ ff = some e ∧ VOk e) ∨ (g = none ∧ ordB r = true ∧ ff = ruleF r s)) ∧ σ' = [some (.ref t), some (.ref l)], ?_, ?_⟩
  · refine ⟨_, rfl, by show 0 ≤ sizeLine; decide, fun q hq => ?_⟩
    have sq := same_new hq (.lst [])
    have hs2 := hs1.trans sq
    have hf2 := hf1.same sq
    refine eq_found hf2 (fun e he => ?_) (SqL.of upd_same) ⟨_, rfl, ?_⟩
    · rcases hc1 with ⟨e', h1, _, h3⟩ | ⟨h1, _⟩
      · rw [h1] at he
        cases he
        exact h3
      · rw [h1] at he
        cases he
    generalize upd H1 q (.lst []) = H2 at hs2 hf2
    rcases hc1 with ⟨e, rfl, h2, h3⟩ | ⟨rfl, h2⟩
    · exact iteF (iteF ⟨hs2, l, _, hl0, hf2, .inl ⟨e, rfl, h2, h3⟩, rfl⟩)
    refine iteT ⟨_, rfl, t, _, 1, _, rfl, rfl, SqT.of (hs2 _ _ ht), t1, by show 2 ≤ sizeLine; decide, fun p hp => ⟨p, _, rfl, .inr (SqT.of upd_same), rfl, rfl, _, rfl, ?_⟩⟩
    have hs3 := hs2.trans (same_new hp (.tup [V.str (Str.ofString "soon"), V.str (Str.ofString "late")]))
    have hf3 := hf2.same (same_new hp (.tup [V.str (Str.ofString "soon"), V.str (Str.ofString "late")]))
    generalize upd H2 p (.tup [V.str (Str.ofString "soon"), V.str (Str.ofString "late")]) = H3 at hs3 hf3
    show if (!ordB r) = true then _ else _
    cases ho : ordB r with
    | true => exact iteF ⟨hs3, l, _, hl0, hf3, .inr ⟨rfl, rfl, h2⟩, rfl⟩
    | false =>
      rw [rule_o ho] at h2
      refine iteT ⟨_, rfl, t, _, 1, _, rfl, rfl, SqT.of (hs3 _ _ ht), t1, by show 2 ≤ sizeLine; decide, fun l4 hl4 => ?_⟩
      exact ⟨hs3.trans (same_new hl4 _), l4, some (5, .leaf (.str r)), hs3.free hl4, ⟨.str r, upd_same, rfl, leaf_str⟩, .inl ⟨_, rfl, h2, vk hr0 (by decide) (by decide)⟩, rfl⟩
  clear hc1 hf1 hl0 hs1
  rintro _ H1 ⟨hs1, l, g, hl0, hf1, hc1, rfl⟩
  -- the word for what lacks
  refine ⟨fun σ' H' => Same H H' ∧ ∃ (l : Addr), H l = none ∧ FRes H' l ff ∧ σ' = [some (.ref t), some (.ref l)], ?_, ?_⟩
  · refine ⟨_, rfl, by show 0 ≤ sizeLine; decide, fun q hq => ?_⟩
    have sq := same_new hq (.lst [])
    have hs2 := hs1.trans sq
    have hf2 := hf1.same sq
    refine eq_found hf2 (fun e he => ?_) (SqL.of upd_same) ⟨_, rfl, ?_⟩
    · rcases hc1 with ⟨e', h1, _, h3⟩ | ⟨h1, _⟩
      · rw [h1] at he
        cases he
        exact h3
      · rw [h1] at he
        cases he
    generalize upd H1 q (.lst []) = H2 at hs2 hf2
    rcases hc1 with ⟨e, rfl, h2, h3⟩ | ⟨rfl, ho, h2⟩
    · subst h2
      exact iteF (iteF ⟨hs2, l, hl0, hf2, rfl⟩)
    refine iteT ⟨_, rfl, t, _, 2, _, rfl, rfl, SqT.of (hs2 _ _ ht), t2, by show 2 ≤ sizeLine; decide, fun p hp => ⟨p, _, rfl, .inr (SqT.of upd_same), rfl, rfl, _, rfl, ?_⟩⟩
    have hs3 := hs2.trans (same_new hp (.tup [V.str (Str.ofString "absent"), V.str (Str.ofString "nothing")]))
    have hf3 := hf2.same (same_new hp (.tup [V.str (Str.ofString "absent"), V.str (Str.ofString "nothing")]))
    generalize upd H2 p (.tup [V.str (Str.ofString "absent"), V.str (Str.ofString "nothing")]) = H3 at hs3 hf3
    show if (!lckB s) = true then _ else _
    cases hl : lckB s with
    | true =>
      rw [rule_n ho hl] at h2
      subst h2
      exact iteF ⟨hs3, l, hl0, hf3, rfl⟩
    | false =>
      rw [rule_l ho hl] at h2
      subst h2
      refine iteT ⟨_, rfl, t, _, 2, _, rfl, rfl, SqT.of (hs3 _ _ ht), t2, by show 2 ≤ sizeLine; decide, fun l4 hl4 => ?_⟩
      exact ⟨hs3.trans (same_new hl4 _), l4, hs3.free hl4, ⟨.str s, upd_same, rfl, leaf_str⟩, rfl⟩
  rintro _ H2 ⟨hs2, l2, hl2, hf2, rfl⟩
  exact ⟨_, rfl, kk l2 H2 hs2 hl2 hf2⟩
end
end K03
set_option Elab.async false
set_option linter.all false
set_option maxRecDepth 100000
set_option maxHeartbeats 4000000
namespace K03
open PySem L2 PyProof.Rows
def cNames : List Str := ["TakeError", "InvalidName", "InvalidPart", "InvalidTerm", "DoubleField", "InvalidRule", "InvalidAnswer", "UnknownPlace", "TakeEnded", "NothingToUndo", "Unreadable"].map Str.ofString
/-- the eleven classes stand as the text says; fI: the __init__ of the first, which the others have from it -/
structure ECls (K : PySem.W.Frag) (mg : Str → Option Value) (Cs : Nat → Addr) (fI : Addr) : Prop where
  mg : ∀ j x, cNames[j]? = some x → mg x = some (.ref (Cs j))
  oex : ∀ j, j < 11 → OexC K (Cs j)
  ew : ∀ j, j < 11 → ExcW K (Cs j)
  ini : ∀ j, j < 11 → PySem.W.findIn K (.ref (Cs j)) "__init__" = some (some (.ref fI))
  val : ∀ j, j < 11 → PySem.W.findIn K (.ref (Cs j)) "value" = some none
  tI : PySem.W.typeIn K (.ref fI) = some (.type "function")
  kit : ∀ i j, i < 11 → j < 11 → PySem.W.kitOne K (.ref (Cs i)) (.ref (Cs j)) = some (decide (j = 0 ∨ j = i))
  kitV : ∀ j, j < 11 → PySem.W.kitOne K (.ref (Cs j)) (.type "ValueError") = some true
  exm : ∀ j, j < 11 → PySem.W.exmOne K (.ref (Cs j)) (.ref (Cs 0)) = some true
def spTInit (K : PySem.W.Frag) : Sp := fun vs H Q _ => ∃ (x C : Addr) (v : V), vs = [.ref x, v] ∧ OexC K C ∧ PySem.W.findIn K (.ref C) "value" = some none ∧ H x = some (exo x C none) ∧
  ∀ dx, H dx = none → dx ≠ x → Q .non (upd (upd H dx (exd dx [("value", v)])) x (exo x C (some dx)))
/-- an error of a class with a number leaves, with what it holds -/
def Thr (Cs : Nat → Addr) (H : Hp) (E : XK) (e : Nat × D) : Prop := ∀ (d : Addr) H' u G, Same H H' → H d = none → H' d = some (.xd [(("value" : Str), u)]) → Rep H' e.2 u G → (∀ a ∈ G, H a = none) → E (.ref (Cs e.1)) (some d) H'
def Out (Cs : Nat → Addr) (H : Hp) (Q : VK) (E : XK) : Fl → Prop
  | none => ∀ H', Same H H' → Q .non H'
  | some e => Thr Cs H E e
theorem Thr.same {Cs : Nat → Addr} {H H1 : Hp} {E : XK} {e : Nat × D} (h : Thr Cs H E e) (s : Same H H1) : Thr Cs H1 E e := fun d H' u G s2 hd hx hr hG => h d H' u G (s.trans s2) (s.free hd) hx hr fun a ha => s.free (hG a ha)
theorem Out.same {Cs : Nat → Addr} {H H1 : Hp} {Q : VK} {E : XK} {f : Fl} (h : Out Cs H Q E f) (s : Same H H1) : Out Cs H1 Q E f := by
  cases f with
  | none => exact fun H' s2 => h H' (s.trans s2)
  | some e => exact Thr.same h s
theorem Rep.del {H : Hp} {a dx : Addr} {o : HO} (hd : H dx = none) (ha : H a = none) : ∀ {d : D} {v : V} {F : List Addr}, Rep H d v F → Rep H d v F := fun h => h
/-- the end of an error's making -/
theorem raise_at {K : PySem.W.Frag} {Cs : Nat → Addr} {C : Addr} {H H1 : Hp} {E : XK} {c : Nat} {dat : D} {v : V} {G : List Addr} (T : OexC K (Cs c)) (hv : PySem.W.findIn K (.ref (Cs c)) "value" = some none) (t : Thr Cs H E (c, dat)) (s : Same H H1) (r : Rep H1 dat v G) (n : ∀ a ∈ G, H a = none) :
    ∀ a, H1 a = none → spTInit K [.ref a, v] (upd H1 a (exo a (Cs c) none)) (fun v' H2 => v' = .non ∧ ∃ (d : Addr) (fs : List (Str × V)), H2 a = some (exo a (Cs c) (some d)) ∧ H2 d = some (exd d fs) ∧ H1 d = none ∧ E (.ref (Cs c)) (some d) (upd (L2.del H2 a) d (.xd fs))) (fun _ _ _ => False) := fun a ha =>
  ⟨a, Cs c, v, rfl, T, hv, upd_same, fun dx hd hn => by
    have hd0 : H1 dx = none := by
      rw [upd_ne hn] at hd
      exact hd
    have st : Same H1 (upd (L2.del (upd (upd (upd H1 a (exo a (Cs c) none)) dx (exd dx [(("value" : Str), v)])) a (exo a (Cs c) (some dx))) a) dx (.xd [(("value" : Str), v)])) := fun b o e => by
      have n1 := ne_of_none e hd0
      have n2 := ne_of_none e ha
      rw [upd_ne n1, del_ne n2, upd_ne n2, upd_ne n1, upd_ne n2]
      exact e
    refine ⟨rfl, dx, [(("value" : Str), v)], upd_same, ?_, hd0, t dx _ v G (s.trans st) (s.free hd0) upd_same (r.same st) n⟩
    rw [upd_ne hn, upd_same]⟩
/-! ### a module's dict: what stands at a text, or nothing -/
section
variable {X : Cx} {d : Addr} {es : Array DictEntry} {n : Nat} {o e : Expr} {td ty : TE} {apos cpos : Pos}
def tKGet (K : PySem.W.Frag) (d : Addr) (td ty : TE) : TE := fun σ H Q => td σ H fun x H1 => x = .ref d ∧ ty σ H1 fun y H2 => ∃ (z : Str) (uo : Option Value) (v0 : V), y = .str z ∧ PySem.W.nsIn K d z = some uo ∧ ((∃ u0, uo = some u0 ∧ RelV v0 u0) ∨ (uo = none ∧ v0 = .non)) ∧ Q v0 H2
theorem pe_kget (D : KDict X.K X.w d es n) (ho : PE X o td) (he : PE X e ty) (m : M1 X o "get" apos e cpos) : PE X (.Call (.Attribute o "get" apos) [e] [] cpos) (tKGet X.K d td ty) := by
  refine ⟨fun pins s σ H Q I h => ?_⟩
  refine wpAny_Call_method m.base m.few m.line PySem.F.plainAttrs_dict PySem.F.slot_dict_get PySem.F.type_dict_get (thn (ho.run pins s σ H _ I h) fun u s1 ⟨x, H1, I1, rx, ex, q1⟩ => ?_)
  subst ex
  obtain rfl : u = Value.ref d := rx
  refine ⟨kd_type D I1, fun a ea => ?_, ?_⟩
  · cases ea
    exact ⟨_, I1.kIn _ _ D.at_, rfl⟩
  rw [m.trees]
  refine Calls.callWith_builtin rfl (Calls.evalArgs_plain (Calls.spliced_cons (thn (he.run pins s1 σ H1 _ I1 q1) fun iv s2 ⟨y, H2, I2, ry, z, uo, v0, ey, hz, r0, q2⟩ => Calls.spliced_nil ?_)))
  subst ey
  obtain ⟨t, rfl⟩ := ry
  have hm := PySem.W.mapOf_K (prog := X.prog) I2.kIn D.at_ D.lit
  refine call_meetsIn PySem.F.slot_dict_get (kd_type D I2) PySem.F.entry_dict_get (PySem.F.args_dict_get_2 _ _) (meets_dict_get (PySem.strKind X.prog X.w) d (PySem.strKind_is X.prog X.w z t) D.low) ⟨_, hm, ?_⟩
  rw [PySem.W.find_K D.at_ hz]
  rcases r0 with ⟨u0, rfl, r0⟩ | ⟨rfl, rfl⟩
  · exact ⟨v0, H2, I2.tok _, r0, q2⟩
  · exact ⟨.non, H2, I2.tok _, rfl, q2⟩
end
/-- a module's dict of texts to numbers; what it lacks -/
structure Tab (K : PySem.W.Frag) (w : World) (d : Addr) (xs : List (String × Int)) (ys : List String) : Prop where
  kd : ∃ es n, KDict K w d es n
  at_ : ∀ q ∈ xs, ∃ u0, PySem.W.nsIn K d (Str.ofString q.1) = some (some u0) ∧ RelV (.int q.2) u0
  no : ∀ q ∈ ys, PySem.W.nsIn K d (Str.ofString q) = some none
abbrev szT : List (String × Int) := [("read", 2), ("number", 2), ("call", 3)]
abbrev noT : List String := ["reads", "name", "", "any", "Read"]
abbrev szP : List (String × Int) := [("name", 2), ("any", 1), ("row", 3), ("record", 3)]
abbrev noP : List String := ["rows", "read", "", "Any", "names", "call", "take", "set", "cases"]
/-- what the look into such a dict says of a tuple's head -/
def hdB (xs : List (String × Int)) (ys : List String) (s : String) (n : Int) : Prop := (s, n) ∈ xs
def spFilled : Sp := fun vs H Q _ => ∃ (v : V) (ds : List D), vs = [v] ∧ RW H (.tup ds) v ∧ Q (.bl (!ds.isEmpty)) H
def spCkName (Cs : Nat → Addr) : Sp := fun vs H Q E => ∃ z : Str, vs = [.str z] ∧ OkT z ∧ Out Cs H Q E (nmF z)
def spCkOpt (Cs : Nat → Addr) : Sp := fun vs H Q E => ∃ v : V, vs = [v] ∧ ((v = .non ∧ ∀ H', Same H H' → Q .non H') ∨ ∃ z, v = .str z ∧ OkT z ∧ Out Cs H Q E (nmF z))
def spCkTerm (Cs : Nat → Addr) (k : Nat) : Sp := fun vs H Q E => ∃ (v : V) (d : D) (m : Nat) (f : Fl), vs = [v] ∧ RW H d v ∧ TmF m d f ∧ m + 10 ≤ k ∧ Out Cs H Q E f
def spCkDef (Cs : Nat → Addr) : Sp := fun vs H Q E => ∃ (v : V) (d : D) (f : Fl), vs = [v] ∧ RW H d v ∧ DfF d f ∧ Out Cs H Q E f
def spCkRules (Cs : Nat → Addr) : Sp := fun vs H Q E => ∃ r s : Str, vs = [.str r, .str s] ∧ Out Cs H Q E (ruleF r s)
section
variable {P : Program} {w : World} {K : PySem.W.Frag} {mg : Str → Option Value} {base : Heap} {Cs : Nat → Addr} {fI : Addr} {fdI : FuncData}
theorem scTI : FnScope ["self", "value"] ["self", "value"] (defScope sTInit) := ⟨rfl, rfl, rfl, by decide +kernel, rfl, by decide +kernel, by decide +kernel⟩
theorem ok_tinit (F : Fun K "__init__" "TakeError.__init__" sTInit fI fdI) : FnOk P w K mg base CX0 1 fI fdI ["self", "value"] (spTInit K) := by
  refine F.ok scTI (fun vs H Q E h => ?_) (fun cdv A outer s H vs Q E hr h => ?_)
  · obtain ⟨x, C, v, rfl, _⟩ := h
    rfl
  obtain ⟨x, C, v, rfl, T, hv, hx, k⟩ := h
  refine ⟨_, pss_one (ps_ost (pv 0) (pv 1)), ?_⟩
  exact ⟨_, rfl, _, rfl, x, C, rfl, T, hv, .inl ⟨hx, fun dx n ne => k dx n ne⟩⟩
theorem scFi : FnScope ["thing"] ["thing"] (defScope sFilled) := ⟨rfl, rfl, rfl, by decide +kernel, rfl, by decide +kernel, by decide +kernel⟩
theorem ok_filled {f : Addr} {fd : FuncData} (F : Fun K "is_filled" "is_filled" sFilled f fd) (T : Txt K mg) : FnOk P w K mg base CX0 1 f fd ["thing"] spFilled := by
  refine F.ok scFi (fun vs H Q E h => ?_) (fun cdv A outer s H vs Q E hr h => ?_)
  · obtain ⟨v, es, rfl, _⟩ := h
    rfl
  obtain ⟨v, es, rfl, hR, kk⟩ := h
  refine ⟨_, pss_one (ps_ret (pe_and (pe_callB call_isi (by rfl) T.isi boot_isinstance (pa_cons (pv 0) (pa_cons (pe_bltn (v := .ty "tuple") (by rfl) T.tuple boot_tuple rfl) pa_nil)))
    (pe_one (pe_cmpR op_gt (pe_callB call_len_seq (by rfl) T.len PySem.boot_len (pa_cons (pv 0) pa_nil)) pe_int (nomark _))))), ?_⟩
  obtain ⟨sT, hty, k1, k2, k3⟩ := hR.ty (K := K)
  obtain ⟨a, xs, rfl, ha, hr0⟩ := hR
  refine ⟨_, rfl, _, _, _, _, _, rfl, .ty _, hty, kit_ty k2, _, rfl, iteT ⟨_, rfl, a, xs, rfl, .inr (SqT.of ha), _, _, rfl, rfl, ?_⟩⟩
  have e1 : decide ((0 : Int) < ((xs.length : Nat) : Int)) = !es.isEmpty := by
    rw [hr0.len]
    cases es with
    | nil => rfl
    | cons e es => exact decide_eq_true (by show (0 : Int) < ((es.length + 1 : Nat) : Int); omega)
  show Q (.bl (decide ((0 : Int) < ((xs.length : Nat) : Int)))) H
  rw [e1]
  exact kk
theorem scCn : FnScope ["name", "letter"] ["name"] (defScope sCkName) := ⟨rfl, rfl, rfl, by decide +kernel, rfl, by decide +kernel, by decide +kernel⟩
theorem ok_ckname {f : Addr} {fd : FuncData} {t8 t9 : Nat} (F : Fun K "check_name" "check_name" sCkName f fd) (T : Txt K mg) (zS : mg "str" = none) (mL : mg "LONGEST_NAME" = some (.int 8 t8)) (mA : mg "LETTERS" = some (.str LT t9)) (C : ECls K mg Cs fI) (FI : Fun K "__init__" "TakeError.__init__" sTInit fI fdI) (bI : Binds K fdI ["self", "value"] []) :
    FnOk P w K mg base (L2.CX P w) 3 f fd ["name"] (spCkName Cs) := by
  have GI : FnOk P w K mg base CX0 1 fI fdI ["self", "value"] (spTInit K) := ok_tinit FI
  refine F.okX scCn (fun vs H Q E h => ?_) (fun cdv A outer s H vs Q E hr h => ?_)
  · obtain ⟨z, rfl, _⟩ := h
    rfl
  obtain ⟨z, rfl, hz, kk⟩ := h
  refine ⟨_, pss_cons (ps_if (PW.pt (pw_or (pt_not (pt_val (pe_callB call_isi (by rfl) T.isi boot_isinstance (pa_cons (pv 0) (pa_cons (pe_bltn (v := .ty "str") (by rfl) zS boot_str rfl) pa_nil)))))
      (pw_or1 (pt_not (pt_chain op_le op_le pe_int (pe_callB call_len (by rfl) T.len PySem.boot_len (pa_cons (pv 0) pa_nil)) (pe_glob (v := .int 8) rfl mL ⟨_, rfl⟩))))))
      (pss_one (ps_raise rfl (takes_of rfl rfl rfl rfl) (pmk_oex (C.oex 1 (by decide)) (C.ini 1 (by decide)) C.tI GI hr bI .nil pass0 rfl (C.mg 1 _ rfl) (pa_cons (pv 0) pa_nil)))) pss_nil)
    (pss_one (ps_if (pt_not (pt_val (pe_callB (cr_all rfl) (by rfl) T.all (by decide +kernel) (pa_cons (pe_lc (own := [("letter", 1)]) (g := gName 1) (tt := tYes) rfl scCn.nd (pi_str (pv 0)) (blkOk_by (N := ["name", "letter"]) (sc := defScope sCkName) (by decide +kernel)) (fun _ _ _ _ _ => pg_name (i := 1) scCn.nd rfl (Or.inl rfl)) (fun _ _ _ _ _ => pts_nil)
      (fun _ _ _ _ _ => pe_cmpR op_in_sign (pv 1) (pe_glob (v := .str LT) rfl mA ⟨_, rfl⟩) rfl)) pa_nil))))
      (pss_one (ps_raise rfl (takes_of rfl rfl rfl rfl) (pmk_oex (C.oex 1 (by decide)) (C.ini 1 (by decide)) C.tI GI hr bI .nil pass0 rfl (C.mg 1 _ rfl) (pa_cons (pv 0) pa_nil)))) pss_nil)), ?_⟩
  have e0 : nmB z = (decide (1 ≤ z.length) && (decide (z.length ≤ 8) && z.cps.toList.all fun c => decide (c ∈ LT.cps.toList))) := rfl
  have bad : nmB z = false → ∀ H1, Same H H1 → ∃ v, ([some (V.str z), none] : L2.St)[0]? = some (some v) ∧ [v].length ≤ 1000 ∧ ∀ a, H1 a = none → spTInit K (.ref a :: ([v] ++ [])) (upd H1 a (exo a (Cs 1) none)) (fun v' H2 => v' = .non ∧ ∃ (d : Addr) (fs : List (Str × V)), H2 a = some (exo a (Cs 1) (some d)) ∧ H2 d = some (exd d fs) ∧ H1 d = none ∧ E (.ref (Cs 1)) (some d) (upd (L2.del H2 a) d (.xd fs))) (fun _ _ _ => False) := fun hb H1 hs1 => by
    rw [nmF_f hb] at kk
    exact ⟨.str z, rfl, (by show 1 ≤ 1000; decide), raise_at (C := Cs 1) (C.oex 1 (by decide)) (C.val 1 (by decide)) kk hs1 (rep_leaf leaf_str) fun _ q => nomatch q⟩
  refine ⟨_, rfl, .str z, _, _, _, _, rfl, .ty _, .base (.str z), kit_ty (a := "str") (b := "str") (r := true) (by decide +kernel), _, rfl, iteF ?_⟩
  refine ⟨_, rfl, .str z, z.length, rfl, ⟨small100 (Nat.le_trans hz.1 (by decide)), rfl⟩, _, _, rfl, rfl, _, rfl, ?_⟩
  by_cases c1 : 1 ≤ z.length
  rotate_left
  · have hb : nmB z = false := by
      rw [e0, decide_eq_false c1]
      rfl
    refine ifF (decide_eq_false (by omega)) ⟨_, rfl, iteT (bad hb H (Same.refl H))⟩
  refine ifT (decide_eq_true (by omega)) ⟨_, _, rfl, rfl, _, rfl, ?_⟩
  by_cases c2 : z.length ≤ 8
  rotate_left
  · have hb : nmB z = false := by
      rw [e0, decide_eq_false c2]
      cases decide (1 ≤ z.length) <;> rfl
    exact ifT (by rw [decide_eq_false (by omega)]; rfl) (bad hb H (Same.refl H))
  refine ifF (by rw [decide_eq_true (by omega)]; rfl) ?_
  rw [decide_eq_true c1, decide_eq_true c2, Bool.true_and, Bool.true_and] at e0
  refine ⟨_, rfl, z, rfl, fun D0 hD => ?_⟩
  refine lc_it walk_str (fun i H' => Same H H' ∧ H' D0 = some (.lst (((z.cps.toList.take i).map fun c => decide (c ∈ LT.cps.toList)).map V.bl))) ⟨same_new hD _, upd_same⟩ (fun _ _ _ _ => trivial) ?_ ?_
  · rintro i x H2 H3 hi ⟨hs2, hD2⟩ ⟨rfl, c, hc, rfl⟩
    have hc' : z.cps.toList[i]? = some c := by
      rw [Array.getElem?_toList]
      exact hc
    refine ⟨rfl, ?_⟩
    unfold tYes
    refine iteT ?_
    refine ⟨_, rfl, c, LT, rfl, rfl, _, hD2, ?_, same_put hs2 hD, ?_⟩
    · rw [List.length_map, List.length_map, List.length_take]
      exact Nat.lt_of_lt_of_le (show _ < 1000 from Nat.lt_of_le_of_lt (Nat.min_le_right _ _) (by show z.cps.toList.length < 1000; exact Nat.lt_of_le_of_lt c2 (by decide))) (by decide)
    · rw [upd_same, List.take_add_one, hc', List.map_append, List.map_append]
      rfl
  · rintro H2 ⟨hs2, hD2⟩
    have ht : z.cps.toList.take z.cps.size = z.cps.toList := List.take_of_length_le (Nat.le_refl _)
    rw [ht] at hD2
    refine ⟨D0, _, rfl, SqL.of hD2, ?_⟩
    rw [List.all_map, Function.comp_def]
    have e1 : (z.cps.toList.all fun c => id (decide (c ∈ LT.cps.toList))) = nmB z := e0.symm
    rw [e1]
    cases hb : nmB z with
    | true =>
      rw [nmF_t hb] at kk
      exact ⟨_, rfl, iteF (kk H2 hs2)⟩
    | false => exact ⟨_, rfl, iteT (bad hb H2 hs2)⟩
theorem scCo : FnScope ["name"] ["name"] (defScope sCkOpt) := ⟨rfl, rfl, rfl, by decide +kernel, rfl, by decide +kernel, by decide +kernel⟩
theorem ok_ckopt {f fN : Addr} {fd fdN : FuncData} (F : Fun K "check_optional_name" "check_optional_name" sCkOpt f fd)
    (FN : Fun K "check_name" "check_name" sCkName fN fdN) (GN : FnOk P w K mg base (L2.CX P w) 3 fN fdN ["name"] (spCkName Cs)) (bN : Binds K fdN ["name"] []) (mN : mg "check_name" = some (.ref fN)) : FnOk P w K mg base (L2.CX P w) 4 f fd ["name"] (spCkOpt Cs) := by
  refine F.okX scCo (fun vs H Q E h => ?_) (fun cdv A outer s H vs Q E hr h => ?_)
  · obtain ⟨v, rfl, _⟩ := h
    rfl
  obtain ⟨v, rfl, kk⟩ := h
  refine ⟨_, pss_one (ps_if (pt_cmpR op_notN (pv 0) pe_non (nomark _)) (pss_one (ps_expr (pe_call GN hr rfl mN FN.kp bN .nil (passes_call (takes_of rfl rfl rfl rfl) fun _ _ _ _ h => h) (pa_cons (pv 0) pa_nil)))) pss_nil), ?_⟩
  rcases kk with ⟨rfl, kk⟩ | ⟨z, rfl, hz, kk⟩
  · exact ⟨_, rfl, rfl, _, rfl, ifF (by rw [decide_eq_true rfl]; rfl) (kk H (Same.refl H))⟩
  · refine ⟨_, rfl, rfl, _, rfl, ifT (by rw [decide_eq_false (fun z => nomatch z)]; rfl) ⟨_, rfl, z, rfl, hz, ?_⟩⟩
    exact kk
end
end K03
set_option Elab.async false
set_option linter.all false
set_option maxRecDepth 100000
set_option maxHeartbeats 4000000
namespace K03
open PySem L2 PyProof.Rows
theorem badT_tab : ∀ d ∈ badT, d = .tup [] ∨ ∃ s es, d = .tup (S s :: es) ∧ (s ∈ noT ∨ ∃ n, (s, n) ∈ szT ∧ n ≠ ((es.length + 1 : Nat) : Int)) := by
  intro d hd
  simp only [badT, bT0, bT1, List.cons_append, List.nil_append, List.mem_cons, List.not_mem_nil, or_false] at hd
  rcases hd with rfl | rfl | rfl | rfl | rfl | rfl | rfl | rfl | rfl | rfl | rfl | rfl | rfl
  · exact .inl rfl
  all_goals
    refine .inr ⟨_, _, rfl, ?_⟩
    first
      | exact .inl (by decide)
      | exact .inr ⟨2, by decide, by decide⟩
      | exact .inr ⟨3, by decide, by decide⟩
theorem badP_tab : ∀ d ∈ badP, d = .tup [] ∨ ∃ s es, d = .tup (S s :: es) ∧ (s ∈ noP ∨ ∃ n, (s, n) ∈ szP ∧ n ≠ ((es.length + 1 : Nat) : Int)) := by
  intro d hd
  simp only [badP, bP0, bP1, bP2, bP3, List.cons_append, List.nil_append, List.mem_cons, List.not_mem_nil, or_false] at hd
  rcases hd with rfl | rfl | rfl | rfl | rfl | rfl | rfl | rfl | rfl | rfl | rfl | rfl | rfl | rfl | rfl | rfl | rfl | rfl
  · exact .inl rfl
  all_goals
    refine .inr ⟨_, _, rfl, ?_⟩
    first
      | exact .inl (by decide)
      | exact .inr ⟨1, by decide, by decide⟩
      | exact .inr ⟨2, by decide, by decide⟩
      | exact .inr ⟨3, by decide, by decide⟩
/-- what the look into a table of sizes gives for a head -/
theorem Tab.get {K : PySem.W.Frag} {w : World} {d : Addr} {xs : List (String × Int)} {ys : List String} (T : Tab K w d xs ys) {s : String} {n : Int} (h : s ∈ ys ∨ ∃ m, (s, m) ∈ xs ∧ m ≠ n) :
    ∃ (uo : Option Value) (v0 : V), PySem.W.nsIn K d (Str.ofString s) = some uo ∧ ((∃ u0, uo = some u0 ∧ RelV v0 u0) ∨ (uo = none ∧ v0 = .non)) ∧ scal v0 (.int n) = true ∧ decide (v0 = .int n) = false := by
  rcases h with h | ⟨m, h, hn⟩
  · exact ⟨none, .non, T.no s h, .inr ⟨rfl, rfl⟩, rfl, decide_eq_false fun z => nomatch z⟩
  · obtain ⟨u0, h1, h2⟩ := T.at_ _ h
    exact ⟨some u0, .int m, h1, .inl ⟨u0, rfl, h2⟩, rfl, decide_eq_false fun z => hn (V.int.inj z)⟩
theorem Tab.got {K : PySem.W.Frag} {w : World} {d : Addr} {xs : List (String × Int)} {ys : List String} (T : Tab K w d xs ys) {s : String} {n : Int} (h : (s, n) ∈ xs) :
    ∃ (uo : Option Value) (v0 : V), PySem.W.nsIn K d (Str.ofString s) = some uo ∧ ((∃ u0, uo = some u0 ∧ RelV v0 u0) ∨ (uo = none ∧ v0 = .non)) ∧ scal v0 (.int n) = true ∧ decide (v0 = .int n) = true := by
  obtain ⟨u0, h1, h2⟩ := T.at_ _ h
  exact ⟨some u0, .int n, h1, .inl ⟨u0, rfl, h2⟩, rfl, decide_eq_true rfl⟩
section
variable {P : Program} {w : World} {K : PySem.W.Frag} {mg : Str → Option Value} {base : Heap} {Cs : Nat → Addr} {fI : Addr} {fdI : FuncData}
theorem scCt : FnScope ["term", "inner"] ["term"] (defScope sCkTerm) := ⟨rfl, rfl, rfl, by decide +kernel, rfl, by decide +kernel, by decide +kernel⟩
theorem ckterm_none {f : Addr} {fd : FuncData} {ps : List Str} : FnOk P w K mg base (L2.CX P w) 9 f fd ps (spCkTerm Cs 9) :=
  ⟨fun vs H Q E x => by
    obtain ⟨v, d, m, f, _, _, h0, h1, _⟩ := x
    cases m with
    | zero => exact h0.elim
    | succ m => omega, fun A outer s H args us vs Q E _ _ _ _ x => by
    obtain ⟨v, d, m, f, _, _, h0, h1, _⟩ := x
    cases m with
    | zero => exact h0.elim
    | succ m => omega⟩
theorem ok_ckterm {f fN fF fC dT : Addr} {fd fdN fdF fdC : FuncData} {k : Nat} (F : Fun K "check_term" "check_term" sCkTerm f fd) (T : Txt K mg) (C : ECls K mg Cs fI) (FI : Fun K "__init__" "TakeError.__init__" sTInit fI fdI) (bI : Binds K fdI ["self", "value"] [])
    (FF : Fun K "is_filled" "is_filled" sFilled fF fdF) (GF : FnOk P w K mg base CX0 1 fF fdF ["thing"] spFilled) (bF : Binds K fdF ["thing"] []) (mF : mg "is_filled" = some (.ref fF))
    (FN : Fun K "check_name" "check_name" sCkName fN fdN) (GN : FnOk P w K mg base (L2.CX P w) 3 fN fdN ["name"] (spCkName Cs)) (bN : Binds K fdN ["name"] []) (mN : mg "check_name" = some (.ref fN))
    (FC : Fun K "fresh" "fresh" sFresh fC fdC) (GC : FnOk P w K mg base CX0 8 fC fdC ["thing"] (spCopy 8)) (bC : Binds K fdC ["thing"] []) (mC : mg "fresh" = some (.ref fC))
    (TT : Tab K w dT szT noT) (mT : mg "TERM_SIZES" = some (.ref dT)) (hk8 : 8 ≤ k)
    (G : FnOk P w K mg base (L2.CX P w) k f fd ["term"] (spCkTerm Cs k)) (b : Binds K fd ["term"] []) (m : mg "check_term" = some (.ref f)) : FnOk P w K mg base (L2.CX P w) (k + 1) f fd ["term"] (spCkTerm Cs (k + 1)) := by
  have GI : FnOk P w K mg base CX0 1 fI fdI ["self", "value"] (spTInit K) := ok_tinit FI
  refine F.okX scCt (fun vs H Q E h => ?_) (fun cdv A outer s H vs Q E hr h => ?_)
  · obtain ⟨v, d, m, f, rfl, _⟩ := h
    rfl
  obtain ⟨v, d, mm, ff, rfl, hR, hT, hk, kk⟩ := h
  obtain ⟨es, n, KD⟩ := TT.kd
  have hm : 1 ≤ mm := by cases mm with
    | zero => exact hT.elim
    | succ j => omega
  have hr1 : Room 1 (A.deeper (envOfC "check_term" (defScope sCkTerm) s.heap.objs.size f cdv)) := hr.mono (by omega)
  have hr2 : Room 2 (A.deeper (envOfC "check_term" (defScope sCkTerm) s.heap.objs.size f cdv)) := hr.mono (by omega)
  have hr3 : Room 3 (A.deeper (envOfC "check_term" (defScope sCkTerm) s.heap.objs.size f cdv)) := hr.mono (by omega)
  have hr8 : Room 8 (A.deeper (envOfC "check_term" (defScope sCkTerm) s.heap.objs.size f cdv)) := hr.mono (by omega)
  refine ⟨_, pss_cons (ps_if (pt_cut (PW.pt (pw_or (pt_not (pt_val (pe_call GF hr1 rfl mF FF.kp bF .nil pass0 (pa_cons (pv 0) pa_nil)))) (pw_or1 (pt_cmpR op_ne (pe_kget KD (pe_glob (v := .ref dT) rfl mT rfl) (pe_ix ix_tup (pv 0) pe_int (fun _ _ => rfl)) ⟨rfl, rfl, rfl, rfl⟩) (pe_callB call_len_seq (by rfl) T.len PySem.boot_len (pa_cons (pv 0) pa_nil)) (nomark _))))))
      (pss_one (ps_raise rfl (takes_of rfl rfl rfl rfl) (pmk_oex (C.oex 3 (by decide)) (C.ini 3 (by decide)) C.tI GI hr2 bI .nil pass0 rfl (C.mg 3 _ rfl) (pa_cons (pe_call GC hr8 rfl mC FC.kp bC .nil pass0 (pa_cons (pv 0) pa_nil)) pa_nil)))) pss_nil)
    (pss_cons (ps_if (pt_cmpR op_eq (pe_ix ix_tup (pv 0) pe_int (fun _ _ => rfl)) pe_str (nomark _)) (pss_one ps_retN) pss_nil)
    (pss_cons (ps_expr (pe_call GN hr3 rfl mN FN.kp bN .nil (passes_call (takes_of rfl rfl rfl rfl) fun _ _ _ _ h => h) (pa_cons (pe_ix ix_tup (pv 0) pe_int (fun _ _ => rfl)) pa_nil)))
    (pss_one (ps_if (pt_cmpR op_eq (pe_ix ix_tup (pv 0) pe_int (fun _ _ => rfl)) pe_str (nomark _))
      (pss_one (ps_for (passes_of rfl) rfl (pi_list (pe_ix ix_tup (pv 0) pe_int (fun _ _ => rfl))) (pg_name (i := 1) scCt.nd rfl (Or.inl rfl)) (pss_one (ps_expr (pe_call G hr rfl m F.kp b .nil (passes_call (takes_of rfl rfl rfl rfl) fun _ _ _ _ h => h) (pa_cons (pv 1) pa_nil)))))) pss_nil)))), ?_⟩
  have a0 : ∀ {s : String} {ys : List V}, atI (V.str (Str.ofString s) :: ys) 0 = some (.str (Str.ofString s)) := atI_nat (j := 0) rfl
  have deq : ∀ {y z : String}, Str.ofString y ≠ Str.ofString z → decide (V.str (Str.ofString y) = V.str (Str.ofString z)) = false := fun h => decide_eq_false fun q => h (V.str.inj q)
  have cs : ∃ ds, d = .tup ds ∧ ((d ∈ badT ∧ ff = some (3, d) ∧ (ds = [] ∨ ∃ s es, ds = S s :: es ∧ (s ∈ noT ∨ ∃ n, (s, n) ∈ szT ∧ n ≠ ((es.length + 1 : Nat) : Int)))) ∨ ∃ s es, ds = S s :: es ∧ (s, ((es.length + 1 : Nat) : Int)) ∈ szT ∧
      ((∃ i, d = .tup [S "number", .leaf (.int i)] ∧ ff = none) ∨ (∃ z, OkT z ∧ d = .tup [S "read", .leaf (.str z)] ∧ ff = nmF z) ∨
        ∃ z ts, OkT z ∧ ts.length ≤ 3 ∧ d = .tup [S "call", .leaf (.str z), .lst ts] ∧ ((nmB z = false ∧ ff = nmF z) ∨ (nmB z = true ∧ FirstF (TmF (mm - 1)) ts ff)))) := by
    cases mm with
    | zero => exact hT.elim
    | succ mm =>
    rcases hT with ⟨h, h2⟩ | h | h | h
    · rcases badT_tab d h with e | ⟨s, es, e, hb⟩
      · exact ⟨_, e, .inl ⟨h, h2, .inl rfl⟩⟩
      · exact ⟨_, e, .inl ⟨h, h2, .inr ⟨s, es, rfl, hb⟩⟩⟩
    · obtain ⟨i, e, h2⟩ := h
      exact ⟨_, e, .inr ⟨_, _, rfl, show (("number", (2 : Int)) : String × Int) ∈ szT by decide, .inl ⟨i, e, h2⟩⟩⟩
    · obtain ⟨z, hz, e, h2⟩ := h
      exact ⟨_, e, .inr ⟨_, _, rfl, show (("read", (2 : Int)) : String × Int) ∈ szT by decide, .inr (.inl ⟨z, hz, e, h2⟩)⟩⟩
    · obtain ⟨z, ts, hz, hl, e, h2⟩ := h
      exact ⟨_, e, .inr ⟨_, _, rfl, show (("call", (3 : Int)) : String × Int) ∈ szT by decide, .inr (.inr ⟨z, ts, hz, hl, e, h2⟩)⟩⟩
  obtain ⟨ds, ed, cs⟩ := cs
  -- is it a term at all
  refine ⟨fun b H' => H' = H ∧ (b = true → d ∈ badT ∧ ff = some (3, d)) ∧ (b = false → ((∃ i, d = .tup [S "number", .leaf (.int i)] ∧ ff = none) ∨ (∃ z, OkT z ∧ d = .tup [S "read", .leaf (.str z)] ∧ ff = nmF z) ∨
        ∃ z ts, OkT z ∧ ts.length ≤ 3 ∧ d = .tup [S "call", .leaf (.str z), .lst ts] ∧ ((nmB z = false ∧ ff = nmF z) ∨ (nmB z = true ∧ FirstF (TmF (mm - 1)) ts ff)))), ?_, ?_⟩
  · subst ed
    obtain ⟨a, xs, rfl, ha, hxs⟩ := id hR
    have sq := SqT.of (K := K) ha
    refine ⟨_, rfl, _, ds, rfl, hR, _, rfl, ?_⟩
    rcases cs with ⟨hbd, hf, rfl | ⟨s0, es0, rfl, hb⟩⟩ | ⟨s0, es0, rfl, hb, good⟩
    · exact iteT ⟨rfl, fun _ => ⟨hbd, hf⟩, fun z => nomatch z⟩
    · obtain ⟨x, ys, rfl, hx, hys⟩ := hxs
      obtain rfl : x = .str (Str.ofString s0) := hx.1
      obtain ⟨uo, v0, g1, g2, g3, g4⟩ := TT.get hb
      refine iteF ⟨rfl, _, rfl, a, _, 0, _, rfl, rfl, sq, a0, _, uo, v0, rfl, g1, g2, _, rfl, a, _, rfl, .inr sq, ?_⟩
      rw [List.length_cons, hys.len]
      refine ⟨g3, _, rfl, ?_⟩
      rw [g4]
      exact ⟨rfl, fun _ => ⟨hbd, hf⟩, fun z => nomatch z⟩
    · obtain ⟨x, ys, rfl, hx, hys⟩ := hxs
      obtain rfl : x = .str (Str.ofString s0) := hx.1
      obtain ⟨uo, v0, g1, g2, g3, g4⟩ := TT.got hb
      refine iteF ⟨rfl, _, rfl, a, _, 0, _, rfl, rfl, sq, a0, _, uo, v0, rfl, g1, g2, _, rfl, a, _, rfl, .inr sq, ?_⟩
      rw [List.length_cons, hys.len]
      refine ⟨g3, _, rfl, ?_⟩
      rw [g4]
      exact ⟨rfl, (fun z => nomatch z), fun _ => good⟩
  rintro bb _ ⟨rfl, ht, hf⟩
  refine ite2 (fun c => ?_) (fun c => ?_)
  · obtain ⟨hbd, e⟩ := ht c
    subst e
    refine ⟨_, rfl, v, d, 6, rfl, by decide, hR, (Good.cp (n := 6) (bad_fits (List.mem_append_right _ hbd))), fun u H1 G1 hs1 hr1 hG1 => ⟨(by show 1 ≤ 1000; decide), ?_⟩⟩
    exact raise_at (C := Cs 3) (C.oex 3 (by decide)) (C.val 3 (by decide)) kk hs1 hr1 hG1
  have good := hf (by simpa using c)
  clear ht hf cs
  rcases good with ⟨i, rfl, e⟩ | ⟨z, hz, rfl, e⟩ | ⟨z, ts, hz, hl3, rfl, e⟩
  · subst e
    obtain ⟨a, ys, rfl, ha, hys⟩ := hR.head
    exact ⟨_, rfl, a, _, 0, _, rfl, rfl, SqT.of ha, a0, rfl, _, rfl, ifT (decide_eq_true rfl) (kk _ (Same.refl _))⟩
  · obtain ⟨a, ys, rfl, ha, hys⟩ := hR.head
    obtain ⟨x, ys', rfl, hx, hy'⟩ := hys
    obtain rfl : x = .str z := hx.1
    have sq := SqT.of (K := K) ha
    refine ⟨_, rfl, a, _, 0, _, rfl, rfl, sq, a0, rfl, _, rfl, ifF (deq (by decide)) ?_⟩
    refine ⟨_, rfl, a, _, 1, _, rfl, rfl, sq, atI_nat (j := 1) rfl, z, rfl, hz, ?_⟩
    subst e
    cases hb : nmB z with
    | false =>
      rw [nmF_f hb] at kk ⊢
      exact kk
    | true =>
      rw [nmF_t hb] at kk ⊢
      intro H2 hs2
      exact ⟨_, rfl, a, _, 0, _, rfl, rfl, SqT.of (hs2 _ _ ha), a0, rfl, _, rfl, ifF (deq (by decide)) (kk H2 hs2)⟩
  · obtain ⟨a, ys, rfl, ha, hys⟩ := hR.head
    obtain ⟨x, ys', rfl, hx, y, ys'', rfl, hy, hn⟩ := hys
    obtain rfl : x = .str z := hx.1
    obtain ⟨lA, xs, rfl, hlA, hxs⟩ := hy
    have sq := SqT.of (K := K) ha
    refine ⟨_, rfl, a, _, 0, _, rfl, rfl, sq, a0, rfl, _, rfl, ifF (deq (by decide)) ?_⟩
    refine ⟨_, rfl, a, _, 1, _, rfl, rfl, sq, atI_nat (j := 1) rfl, z, rfl, hz, ?_⟩
    rcases e with ⟨hb, e⟩ | ⟨hb, e⟩
    · subst e
      rw [nmF_f hb] at kk ⊢
      exact kk
    rw [nmF_t hb]
    intro H2 hs2
    have sq2 := SqT.of (K := K) (hs2 _ _ ha)
    refine ⟨_, rfl, a, _, 0, _, rfl, rfl, sq2, a0, rfl, _, rfl, ifT (decide_eq_true rfl) ?_⟩
    refine ⟨_, rfl, a, _, 2, _, rfl, rfl, sq2, atI_nat (j := 2) rfl, lA, rfl, ⟨_, SqL.of (hs2 _ _ hlA)⟩, ?_⟩
    refine for_list (K := K) (a := lA) (xs := xs) (fun i σ' H' => Same _ H' ∧ FirstF (TmF (mm - 1)) (ts.drop i) ff ∧ ∃ v1, σ' = [some (.ref a), v1]) ⟨hs2, e, none, rfl⟩ (fun i σ' H' _ ⟨h, _⟩ => SqL.of (h _ _ hlA)) ?_ ?_
    · rintro i x σ' H3 hi ⟨hs3, hF, v1, rfl⟩
      obtain ⟨t, ht, hrt⟩ := RWs.item (hxs.same hs3) hi
      obtain ⟨hil, hte⟩ := List.getElem?_eq_some_iff.mp ht
      rw [List.drop_eq_getElem_cons hil, hte] at hF
      rcases hF with ⟨e', h1, h2⟩ | ⟨h1, h2⟩
      · subst h2
        exact ⟨_, rfl, x, t, mm - 1, some e', rfl, hrt, h1, by omega, Thr.same kk hs3⟩
      · exact ⟨_, rfl, x, t, mm - 1, none, rfl, hrt, h1, by omega, fun H4 hs4 => ⟨hs3.trans hs4, h2, _, rfl⟩⟩
    · rintro σ' H3 ⟨hs3, hF, v1, rfl⟩
      rw [hxs.len, List.drop_length] at hF
      have e2 : ff = none := hF
      subst e2
      exact kk H3 hs3
theorem scCd : FnScope ["default"] ["default"] (defScope sCkDef) := ⟨rfl, rfl, rfl, by decide +kernel, rfl, by decide +kernel, by decide +kernel⟩
theorem ok_ckdef {f fT : Addr} {fd fdT : FuncData} (F : Fun K "check_default" "check_default" sCkDef f fd)
    (FT : Fun K "check_term" "check_term" sCkTerm fT fdT) (GT : FnOk P w K mg base (L2.CX P w) 15 fT fdT ["term"] (spCkTerm Cs 15)) (bT : Binds K fdT ["term"] []) (mT : mg "check_term" = some (.ref fT)) : FnOk P w K mg base (L2.CX P w) 16 f fd ["default"] (spCkDef Cs) := by
  refine F.okX scCd (fun vs H Q E h => ?_) (fun cdv A outer s H vs Q E hr h => ?_)
  · obtain ⟨v, d, f, rfl, _⟩ := h
    rfl
  obtain ⟨v, d, ff, rfl, hR, hd, kk⟩ := h
  refine ⟨_, pss_one (ps_if (pt_cmpR op_notN (pv 0) pe_non (nomark _)) (pss_one (ps_expr (pe_call GT hr rfl mT FT.kp bT .nil (passes_call (takes_of rfl rfl rfl rfl) fun _ _ _ _ h => h) (pa_cons (pv 0) pa_nil)))) pss_nil), ?_⟩
  rcases hd with ⟨rfl, rfl⟩ | hT
  · obtain rfl : v = .non := hR.1
    exact ⟨_, rfl, rfl, _, rfl, ifF (by rw [decide_eq_true rfl]; rfl) (kk H (Same.refl H))⟩
  · obtain ⟨ds, e⟩ := hT.tup
    have hnn : (!decide (v = .non)) = true := by
      rw [e] at hR
      obtain ⟨a9, xs9, rfl, _⟩ := hR
      rfl
    refine ⟨_, rfl, rfl, _, rfl, ifT hnn ⟨_, rfl, v, d, 5, ff, rfl, hR, hT, by decide, ?_⟩⟩
    exact kk
theorem scCu : FnScope ["order", "lacks"] ["order", "lacks"] (defScope sCkRules) := ⟨rfl, rfl, rfl, by decide +kernel, rfl, by decide +kernel, by decide +kernel⟩
theorem ok_ckrules {f : Addr} {fd : FuncData} (F : Fun K "check_rules" "check_rules" sCkRules f fd) (C : ECls K mg Cs fI) (FI : Fun K "__init__" "TakeError.__init__" sTInit fI fdI) (bI : Binds K fdI ["self", "value"] []) : FnOk P w K mg base (L2.CX P w) 3 f fd ["order", "lacks"] (spCkRules Cs) := by
  have GI : FnOk P w K mg base CX0 1 fI fdI ["self", "value"] (spTInit K) := ok_tinit FI
  refine F.okX scCu (fun vs H Q E h => ?_) (fun cdv A outer s H vs Q E hr h => ?_)
  · obtain ⟨r, s, rfl, _⟩ := h
    rfl
  obtain ⟨r, s, rfl, kk⟩ := h
  refine ⟨_, pss_cons (ps_if (pt_cmpR op_notIn_seq (pv 0) (pe_tup (pa_cons pe_str (pa_cons pe_str pa_nil))) (by rfl)) (pss_one (ps_raise rfl (takes_of rfl rfl rfl rfl) (pmk_oex (C.oex 5 (by decide)) (C.ini 5 (by decide)) C.tI GI hr bI .nil pass0 rfl (C.mg 5 _ rfl) (pa_cons (pv 0) pa_nil)))) pss_nil)
    (pss_one (ps_if (pt_cmpR op_notIn_seq (pv 1) (pe_tup (pa_cons pe_str (pa_cons pe_str pa_nil))) (by rfl)) (pss_one (ps_raise rfl (takes_of rfl rfl rfl rfl) (pmk_oex (C.oex 5 (by decide)) (C.ini 5 (by decide)) C.tI GI hr bI .nil pass0 rfl (C.mg 5 _ rfl) (pa_cons (pv 1) pa_nil)))) pss_nil)), ?_⟩
  refine ⟨_, rfl, by show 2 ≤ sizeLine; decide, fun t ht => ⟨t, _, rfl, .inr (SqT.of upd_same), rfl, rfl, _, rfl, ?_⟩⟩
  have s1 := same_new ht (.tup [V.str (Str.ofString "soon"), V.str (Str.ofString "late")])
  show if (!ordB r) = true then _ else _
  cases ho : ordB r with
  | false =>
    rw [rule_o ho] at kk
    refine iteT ⟨_, rfl, (by show 1 ≤ 1000; decide), ?_⟩
    exact raise_at (C := Cs 5) (C.oex 5 (by decide)) (C.val 5 (by decide)) kk s1 (rep_leaf leaf_str) fun _ q => nomatch q
  | true =>
    refine iteF ⟨_, rfl, by show 2 ≤ sizeLine; decide, fun t2 ht2 => ⟨t2, _, rfl, .inr (SqT.of upd_same), rfl, rfl, _, rfl, ?_⟩⟩
    have s2 := s1.trans (same_new ht2 (.tup [V.str (Str.ofString "absent"), V.str (Str.ofString "nothing")]))
    show if (!lckB s) = true then _ else _
    cases hl : lckB s with
    | false =>
      rw [rule_l ho hl] at kk
      refine iteT ⟨_, rfl, (by show 1 ≤ 1000; decide), ?_⟩
      exact raise_at (C := Cs 5) (C.oex 5 (by decide)) (C.val 5 (by decide)) kk s2 (rep_leaf leaf_str) fun _ q => nomatch q
    | true =>
      rw [rule_n ho hl] at kk
      exact iteF (kk _ s2)
end
end K03
set_option Elab.async false
set_option linter.all false
set_option maxRecDepth 100000
set_option maxHeartbeats 4000000
namespace K03
open PySem L2 PyProof.Rows
def spCkPart (Cs : Nat → Addr) (k : Nat) : Sp := fun vs H Q E => ∃ (v : V) (d : D) (m : Nat) (f : Fl), vs = [v] ∧ RW H d v ∧ PtF m d f ∧ 2 * m + 17 ≤ k ∧ Out Cs H Q E f
def spCkIn (Cs : Nat → Addr) (row : Bool) (k : Nat) : Sp := fun vs H Q E => ∃ (v : V) (qs : List (Str × D × D)) (r : V) (m : Nat) (f : Fl), vs = [v] ∧ RW H (.tup [S (if row = true then "row" else "record"), .lst (qs.map (ent row)), .leaf r]) v ∧ qs.length ≤ 25 ∧
  ((∃ z, OkT z ∧ r = .str z ∧ nmB z = false ∧ f = nmF z) ∨ ((r = .non ∨ ∃ z, OkT z ∧ r = .str z ∧ nmB z = true) ∧ EsF (PtF m) row [] qs f)) ∧ 2 * m + 18 ≤ k ∧ Out Cs H Q E f
section
variable {P : Program} {w : World} {K : PySem.W.Frag} {mg : Str → Option Value} {base : Heap} {Cs : Nat → Addr} {fI : Addr} {fdI : FuncData}
theorem ckpart_none {f : Addr} {fd : FuncData} {ps : List Str} : FnOk P w K mg base (L2.CX P w) 16 f fd ps (spCkPart Cs 16) :=
  ⟨fun vs H Q E x => by
    obtain ⟨v, d, m, f, _, _, h0, h1, _⟩ := x
    omega, fun A outer s H args us vs Q E _ _ _ _ x => by
    obtain ⟨v, d, m, f, _, _, h0, h1, _⟩ := x
    omega⟩
theorem ckin_none {row : Bool} {f : Addr} {fd : FuncData} {ps : List Str} : FnOk P w K mg base (L2.CX P w) 16 f fd ps (spCkIn Cs row 16) :=
  ⟨fun vs H Q E x => by
    obtain ⟨v, qs, r, m, f, _, _, _, _, h1, _⟩ := x
    omega, fun A outer s H args us vs Q E _ _ _ _ x => by
    obtain ⟨v, qs, r, m, f, _, _, _, _, h1, _⟩ := x
    omega⟩
theorem scCr : FnScope ["part", "inner", "default"] ["part"] (defScope sCkRow) := ⟨rfl, rfl, rfl, by decide +kernel, rfl, by decide +kernel, by decide +kernel⟩
theorem ok_ckrow {f fO fP fD : Addr} {fd fdO fdP fdD : FuncData} {k : Nat} (hk16 : 16 ≤ k) (F : Fun K "check_row" "check_row" sCkRow f fd)
    (FO : Fun K "check_optional_name" "check_optional_name" sCkOpt fO fdO) (GO : FnOk P w K mg base (L2.CX P w) 4 fO fdO ["name"] (spCkOpt Cs)) (bO : Binds K fdO ["name"] []) (mO : mg "check_optional_name" = some (.ref fO))
    (FD : Fun K "check_default" "check_default" sCkDef fD fdD) (GD : FnOk P w K mg base (L2.CX P w) 16 fD fdD ["default"] (spCkDef Cs)) (bD : Binds K fdD ["default"] []) (mD : mg "check_default" = some (.ref fD))
    (FP : Fun K "check_part" "check_part" sCkPart fP fdP) (GP : FnOk P w K mg base (L2.CX P w) k fP fdP ["part"] (spCkPart Cs k)) (bP : Binds K fdP ["part"] []) (mP : mg "check_part" = some (.ref fP)) : FnOk P w K mg base (L2.CX P w) (k + 1) f fd ["part"] (spCkIn Cs true (k + 1)) := by
  refine F.okX scCr (fun vs H Q E h => ?_) (fun cdv A outer s H vs Q E hr h => ?_)
  · obtain ⟨v, qs, r, m, f, rfl, _⟩ := h
    rfl
  obtain ⟨v, qs, r, m, ff, rfl, hR, hl, hc, hk, kk⟩ := h
  have hr4 : Room 4 (A.deeper (envOfC "check_row" (defScope sCkRow) s.heap.objs.size f cdv)) := hr.mono (by omega)
  have hr16 : Room 16 (A.deeper (envOfC "check_row" (defScope sCkRow) s.heap.objs.size f cdv)) := hr.mono (by omega)
  refine ⟨_, pss_cons (ps_expr (pe_call GO hr4 rfl mO FO.kp bO .nil (passes_call (takes_of rfl rfl rfl rfl) fun _ _ _ _ h => h) (pa_cons (pe_ix ix_tup (pv 0) pe_int (fun _ _ => rfl)) pa_nil)))
    (pss_one (ps_for (passes_of rfl) rfl (pi_list (pe_ix ix_tup (pv 0) pe_int (fun _ _ => rfl))) (pg_tup rfl (pgs_cons (pg_name (i := 1) scCr.nd rfl (Or.inl rfl)) (pgs_cons (pg_name (i := 2) scCr.nd rfl (Or.inl rfl)) pgs_nil)))
      (pss_cons (ps_expr (pe_call GP hr rfl mP FP.kp bP .nil (passes_call (takes_of rfl rfl rfl rfl) fun _ _ _ _ h => h) (pa_cons (pv 1) pa_nil))) (pss_one (ps_expr (pe_call GD hr16 rfl mD FD.kp bD .nil (passes_call (takes_of rfl rfl rfl rfl) fun _ _ _ _ h => h) (pa_cons (pv 2) pa_nil))))))), ?_⟩
  obtain ⟨a, ys, rfl, ha, hys⟩ := hR.head
  obtain ⟨x, ys', rfl, hx, hy'⟩ := hys
  obtain ⟨y, ys'', rfl, hy, hn⟩ := hy'
  obtain ⟨lA, xs, rfl, hlA, hxs⟩ := hx
  obtain rfl : y = r := hy.1
  refine ⟨_, rfl, a, _, 2, _, rfl, rfl, SqT.of ha, atI_nat (j := 2) rfl, y, rfl, ?_⟩
  rcases hc with ⟨z, hz, rfl, hb, e⟩ | ⟨ho, hE⟩
  · subst e
    rw [nmF_f hb] at kk
    refine .inr ⟨z, rfl, hz, ?_⟩
    rw [nmF_f hb]
    exact kk
  have rest : ∀ H1, Same H H1 → tFor (iList K (tOp (rIxT K) (tVar 0) (tC (.int 1)))) (gTup K 2 (gCons (gName 1) (gCons (gName 2) gNil))) (tSeq (tDrop (tCall (spCkPart Cs k) [] E (tCons (tVar 1) tNil))) (tDrop (tCall (spCkDef Cs) [] E (tCons (tVar 2) tNil)))) { nx := fun _ H' => Q .non H', rt := Q } [some (.ref a), none, none] H1 := fun H1 hs1 => by
    refine ⟨_, rfl, a, _, 1, _, rfl, rfl, SqT.of (hs1 _ _ ha), atI_nat (j := 1) rfl, lA, rfl, ⟨_, SqL.of (hs1 _ _ hlA)⟩, ?_⟩
    refine for_list (K := K) (a := lA) (xs := xs) (fun i σ' H' => Same H H' ∧ (∃ known, EsF (PtF m) true known (qs.drop i) ff) ∧ ∃ v1 v2, σ' = [some (.ref a), v1, v2]) ⟨hs1, ⟨[], hE⟩, none, none, rfl⟩ (fun i σ' H' _ ⟨h, _⟩ => SqL.of (h _ _ hlA)) ?_ ?_
    · rintro i x σ' H2 hi ⟨hs2, ⟨known, hF⟩, v1, v2, rfl⟩
      obtain ⟨t, ht, hrt⟩ := RWs.item (hxs.same hs2) hi
      rw [List.getElem?_map] at ht
      obtain ⟨q, hqi, rfl⟩ : ∃ q, qs[i]? = some q ∧ ent true q = t := by
        cases e2 : qs[i]? with
        | none =>
          rw [e2] at ht
          cases ht
        | some q =>
          rw [e2] at ht
          exact ⟨q, rfl, Option.some.inj ht⟩
      obtain ⟨hil, hqe⟩ := List.getElem?_eq_some_iff.mp hqi
      rw [List.drop_eq_getElem_cons hil, hqe] at hF
      obtain ⟨e, zs, rfl, he, hzs⟩ := hrt
      obtain ⟨z1, zs1, rfl, h1, z2, zs2, rfl, h2, hn2⟩ := hzs
      obtain rfl : zs2 = [] := hn2
      refine ⟨e, _, rfl, SqT.of he, rfl, _, _, rfl, _, _, rfl, rfl, ?_⟩
      rcases hF with ⟨h, _⟩ | ⟨h, _⟩ | ⟨_, ⟨e', g1, g2⟩ | ⟨g1, ⟨e', g2, g3⟩ | ⟨g2, g3⟩⟩⟩
      · cases h
      · cases h
      · subst g2
        exact ⟨_, rfl, z1, q.2.1, m, some e', rfl, h1, g1, by omega, Thr.same kk hs2⟩
      · subst g3
        exact ⟨_, rfl, z1, q.2.1, m, none, rfl, h1, g1, by omega, fun H3 hs3 => ⟨_, rfl, z2, q.2.2, some e', rfl, h2.same hs3, g2, Thr.same kk (hs2.trans hs3)⟩⟩
      · exact ⟨_, rfl, z1, q.2.1, m, none, rfl, h1, g1, by omega, fun H3 hs3 => ⟨_, rfl, z2, q.2.2, none, rfl, h2.same hs3, g2, fun H4 hs4 => ⟨(hs2.trans hs3).trans hs4, ⟨_, g3⟩, _, _, rfl⟩⟩⟩
    · rintro σ' H2 ⟨hs2, ⟨known, hF⟩, _⟩
      rw [hxs.len, List.length_map, List.drop_length] at hF
      have e2 : ff = none := hF
      subst e2
      exact kk H2 hs2
  rcases ho with rfl | ⟨z, hz, rfl, hb⟩
  · exact .inl ⟨rfl, rest⟩
  · refine .inr ⟨z, rfl, hz, ?_⟩
    rw [nmF_t hb]
    exact rest
theorem scCe : FnScope ["part", "ahead", "field", "inner", "default"] ["part"] (defScope sCkRec) := ⟨rfl, rfl, rfl, by decide +kernel, rfl, by decide +kernel, by decide +kernel⟩
theorem ok_ckrec {f fO fP fD fN : Addr} {fd fdO fdP fdD fdN : FuncData} {k : Nat} (hk16 : 16 ≤ k) (F : Fun K "check_record" "check_record" sCkRec f fd) (C : ECls K mg Cs fI) (FI : Fun K "__init__" "TakeError.__init__" sTInit fI fdI) (bI : Binds K fdI ["self", "value"] [])
    (FO : Fun K "check_optional_name" "check_optional_name" sCkOpt fO fdO) (GO : FnOk P w K mg base (L2.CX P w) 4 fO fdO ["name"] (spCkOpt Cs)) (bO : Binds K fdO ["name"] []) (mO : mg "check_optional_name" = some (.ref fO))
    (FN : Fun K "check_name" "check_name" sCkName fN fdN) (GN : FnOk P w K mg base (L2.CX P w) 3 fN fdN ["name"] (spCkName Cs)) (bN : Binds K fdN ["name"] []) (mN : mg "check_name" = some (.ref fN))
    (FD : Fun K "check_default" "check_default" sCkDef fD fdD) (GD : FnOk P w K mg base (L2.CX P w) 16 fD fdD ["default"] (spCkDef Cs)) (bD : Binds K fdD ["default"] []) (mD : mg "check_default" = some (.ref fD))
    (FP : Fun K "check_part" "check_part" sCkPart fP fdP) (GP : FnOk P w K mg base (L2.CX P w) k fP fdP ["part"] (spCkPart Cs k)) (bP : Binds K fdP ["part"] []) (mP : mg "check_part" = some (.ref fP)) : FnOk P w K mg base (L2.CX P w) (k + 1) f fd ["part"] (spCkIn Cs false (k + 1)) := by
  have GI : FnOk P w K mg base CX0 1 fI fdI ["self", "value"] (spTInit K) := ok_tinit FI
  refine F.okX scCe (fun vs H Q E h => ?_) (fun cdv A outer s H vs Q E hr h => ?_)
  · obtain ⟨v, qs, r, m, f, rfl, _⟩ := h
    rfl
  obtain ⟨v, qs, r, m, ff, rfl, hR, hl, hc, hk, kk⟩ := h
  have hr2 : Room 2 (A.deeper (envOfC "check_record" (defScope sCkRec) s.heap.objs.size f cdv)) := hr.mono (by omega)
  have hr3 : Room 3 (A.deeper (envOfC "check_record" (defScope sCkRec) s.heap.objs.size f cdv)) := hr.mono (by omega)
  have hr4 : Room 4 (A.deeper (envOfC "check_record" (defScope sCkRec) s.heap.objs.size f cdv)) := hr.mono (by omega)
  have hr16 : Room 16 (A.deeper (envOfC "check_record" (defScope sCkRec) s.heap.objs.size f cdv)) := hr.mono (by omega)
  refine ⟨_, Evl.pss_cut (ps_expr (pe_call GO hr4 rfl mO FO.kp bO .nil (passes_call (takes_of rfl rfl rfl rfl) fun _ _ _ _ h => h) (pa_cons (pe_ix ix_tup (pv 0) pe_int (fun _ _ => rfl)) pa_nil)))
    (pss_cons (ps_set (i := 1) scCe.nd rfl (Or.inl rfl) pe_dnewK)
    (pss_one (ps_for (passes_of rfl) rfl (pi_list (pe_ix ix_tup (pv 0) pe_int (fun _ _ => rfl))) (pg_tup rfl (pgs_cons (pg_name (i := 2) scCe.nd rfl (Or.inl rfl)) (pgs_cons (pg_name (i := 3) scCe.nd rfl (Or.inl rfl)) (pgs_cons (pg_name (i := 4) scCe.nd rfl (Or.inl rfl)) pgs_nil))))
      (pss_cons (ps_expr (pe_call GN hr3 rfl mN FN.kp bN .nil (passes_call (takes_of rfl rfl rfl rfl) fun _ _ _ _ h => h) (pa_cons (pv 2) pa_nil)))
      (pss_cons (ps_if (pt_cmp (pc_din (hu_of hr) (pv 2) (pv 1)) rfl) (pss_one (ps_raise rfl (takes_of rfl rfl rfl rfl) (pmk_oex (C.oex 4 (by decide)) (C.ini 4 (by decide)) C.tI GI hr2 bI .nil pass0 rfl (C.mg 4 _ rfl) (pa_cons (pv 2) pa_nil)))) pss_nil)
      (pss_cons (ps_dput (hu_of hr) (pv 1) (pv 2) pe_bl rfl)
      (pss_cons (ps_expr (pe_call GP hr rfl mP FP.kp bP .nil (passes_call (takes_of rfl rfl rfl rfl) fun _ _ _ _ h => h) (pa_cons (pv 3) pa_nil))) (pss_one (ps_expr (pe_call GD hr16 rfl mD FD.kp bD .nil (passes_call (takes_of rfl rfl rfl rfl) fun _ _ _ _ h => h) (pa_cons (pv 4) pa_nil))))))))))), ?_⟩
  obtain ⟨a, ys, rfl, ha, hys⟩ := hR.head
  obtain ⟨x, ys', rfl, hx, hy'⟩ := hys
  obtain ⟨y, ys'', rfl, hy, hn⟩ := hy'
  obtain ⟨lA, xs, rfl, hlA, hxs⟩ := hx
  obtain rfl : y = r := hy.1
  refine ⟨fun σ' H' => Same H H' ∧ EsF (PtF m) false [] qs ff ∧ σ' = [some (.ref a), none, none, none, none], ?_, ?_⟩
  · refine ⟨_, rfl, a, _, 2, _, rfl, rfl, SqT.of ha, atI_nat (j := 2) rfl, y, rfl, ?_⟩
    rcases hc with ⟨z, hz, rfl, hb, e⟩ | ⟨rfl | ⟨z, hz, rfl, hb⟩, hE⟩
    · subst e
      rw [nmF_f hb] at kk
      refine .inr ⟨z, rfl, hz, ?_⟩
      rw [nmF_f hb]
      exact kk
    · exact .inl ⟨rfl, fun H1 hs1 => ⟨hs1, hE, rfl⟩⟩
    · refine .inr ⟨z, rfl, hz, ?_⟩
      rw [nmF_t hb]
      exact fun H1 hs1 => ⟨hs1, hE, rfl⟩
  rintro _ H1 ⟨hs1, hE, rfl⟩
  intro dA hdA
  have s2 := hs1.trans (same_new hdA (.dK []))
  refine ⟨_, rfl, a, _, 1, _, rfl, rfl, SqT.of (s2 _ _ ha), atI_nat (j := 1) rfl, lA, rfl, ⟨_, SqL.of (s2 _ _ hlA)⟩, ?_⟩
  refine for_list (K := K) (a := lA) (xs := xs) (fun i σ' H' => Same H H' ∧ (∃ known, EsF (PtF m) false known (qs.drop i) ff ∧ ∃ kvs : List (Key × V), H' dA = some (.dK kvs) ∧ kvs.length ≤ i ∧ ∀ z, (valV kvs (.inr z)).isSome = decide (z ∈ known)) ∧ ∃ v2 v3 v4, σ' = [some (.ref a), some (.ref dA), v2, v3, v4]) ⟨s2, ⟨[], hE, [], upd_same, Nat.le_refl _, fun _ => rfl⟩, none, none, none, rfl⟩ (fun i σ' H' _ ⟨h, _⟩ => SqL.of (h _ _ hlA)) ?_ ?_
  · rintro i x σ' H2 hi ⟨hs2, ⟨known, hF, kvs, hd2, hkl, hkn⟩, v2, v3, v4, rfl⟩
    obtain ⟨t, ht, hrt⟩ := RWs.item hxs hi
    rw [List.getElem?_map] at ht
    obtain ⟨q, hqi, rfl⟩ : ∃ q, qs[i]? = some q ∧ ent false q = t := by
      cases e : qs[i]? with
      | none =>
        rw [e] at ht
        cases ht
      | some q =>
        rw [e] at ht
        exact ⟨q, rfl, Option.some.inj ht⟩
    obtain ⟨hil, hqe⟩ := List.getElem?_eq_some_iff.mp hqi
    rw [List.drop_eq_getElem_cons hil, hqe] at hF
    obtain ⟨e, zs, rfl, he, hzs⟩ := hrt
    obtain ⟨z0, zs0, rfl, h0, z1, zs1, rfl, h1, z2, zs2, rfl, h2, hn2⟩ := hzs
    obtain rfl : zs2 = [] := hn2
    obtain rfl : z0 = .str q.1 := h0.1
    have okz : OkT q.1 := by
      rcases hF with ⟨_, h, _⟩ | ⟨_, h, _⟩ | ⟨h, _⟩
      · exact h
      · exact h
      · exact (h rfl).1
    refine ⟨e, _, rfl, SqT.of (hs2 _ _ he), rfl, _, _, rfl, _, _, rfl, _, _, rfl, rfl, ?_⟩
    refine ⟨_, rfl, q.1, rfl, okz, ?_⟩
    rcases hF with ⟨_, _, hb, ef⟩ | ⟨_, _, hb, hm, ef⟩ | ⟨hk3, hrest⟩
    · rw [nmF_f hb] at ef ⊢
      subst ef
      exact Thr.same kk hs2
    · rw [nmF_t hb]
      subst ef
      intro H3 hs3
      have hd3 := hs3 _ _ hd2
      refine ⟨_, rfl, _, rfl, dA, _, rfl, DGet.k (k := Sum.inr q.1) hd3, _, rfl, ?_⟩
      refine ifT (by rw [hkn]; exact decide_eq_true hm) ⟨_, rfl, (by show 1 ≤ 1000; decide), ?_⟩
      exact raise_at (C := Cs 4) (C.oex 4 (by decide)) (C.val 4 (by decide)) kk (hs2.trans hs3) (rep_leaf leaf_str) fun _ q => nomatch q
    · obtain ⟨_, hb, hm⟩ := hk3 rfl
      rw [nmF_t hb]
      intro H3 hs3
      have hd3 := hs3 _ _ hd2
      refine ⟨_, rfl, _, rfl, dA, _, rfl, DGet.k (k := Sum.inr q.1) hd3, _, rfl, ?_⟩
      refine ifF (by rw [hkn]; exact decide_eq_false hm) ⟨_, rfl, _, rfl, dA, _, rfl, DPut.k (k := Sum.inr q.1) hd3 (Nat.lt_of_le_of_lt (show kvs.length ≤ 25 by omega) (by decide)), ?_⟩
      have hs4 : Same H (upd H3 dA (.dK (putK kvs (Sum.inr q.1) (.bl true)))) := same_put (hs2.trans hs3) (hs1.free hdA)
      have hd4 : (upd H3 dA (.dK (putK kvs (Sum.inr q.1) (.bl true)))) dA = some (.dK (putK kvs (Sum.inr q.1) (.bl true))) := upd_same
      have hkn4 : ∀ z, (valV (putK kvs (Sum.inr q.1) (.bl true)) (.inr z)).isSome = decide (z ∈ known ++ [q.1]) := fun z => by
        rw [valV_put]
        by_cases hz : (Sum.inr z : Key) = Sum.inr q.1
        · rw [if_pos hz, Sum.inr.inj hz]
          simp
        · rw [if_neg hz, hkn]
          have hz2 : z ≠ q.1 := fun y => hz (by rw [y])
          simp [hz2]
      rcases hrest with ⟨e', g1, g2⟩ | ⟨g1, ⟨e', g2, g3⟩ | ⟨g2, g3⟩⟩
      · subst g2
        exact ⟨_, rfl, z1, q.2.1, m, some e', rfl, h1.same hs4, g1, by omega, Thr.same kk hs4⟩
      · subst g3
        exact ⟨_, rfl, z1, q.2.1, m, none, rfl, h1.same hs4, g1, by omega, fun H5 hs5 => ⟨_, rfl, z2, q.2.2, some e', rfl, h2.same (hs4.trans hs5), g2, Thr.same kk (hs4.trans hs5)⟩⟩
      · exact ⟨_, rfl, z1, q.2.1, m, none, rfl, h1.same hs4, g1, by omega, fun H5 hs5 => ⟨_, rfl, z2, q.2.2, none, rfl, h2.same (hs4.trans hs5), g2, fun H6 hs6 => ⟨(hs4.trans hs5).trans hs6, ⟨_, g3, _, hs6 _ _ (hs5 _ _ hd4), Nat.le_trans (length_putK _ _ _) (by omega), hkn4⟩, _, _, _, rfl⟩⟩⟩
  · rintro σ' H2 ⟨hs2, ⟨known, hF, _⟩, _⟩
    rw [hxs.len, List.length_map, List.drop_length] at hF
    have e2 : ff = none := hF
    subst e2
    exact kk H2 hs2
theorem scCp : FnScope ["part"] ["part"] (defScope sCkPart) := ⟨rfl, rfl, rfl, by decide +kernel, rfl, by decide +kernel, by decide +kernel⟩
theorem ok_ckpart {f fF fN fR fE fC dP : Addr} {fd fdF fdN fdR fdE fdC : FuncData} {k : Nat} (hk16 : 16 ≤ k) (F : Fun K "check_part" "check_part" sCkPart f fd) (T : Txt K mg) (C : ECls K mg Cs fI) (FI : Fun K "__init__" "TakeError.__init__" sTInit fI fdI) (bI : Binds K fdI ["self", "value"] [])
    (FF : Fun K "is_filled" "is_filled" sFilled fF fdF) (GF : FnOk P w K mg base CX0 1 fF fdF ["thing"] spFilled) (bF : Binds K fdF ["thing"] []) (mF : mg "is_filled" = some (.ref fF))
    (FN : Fun K "check_name" "check_name" sCkName fN fdN) (GN : FnOk P w K mg base (L2.CX P w) 3 fN fdN ["name"] (spCkName Cs)) (bN : Binds K fdN ["name"] []) (mN : mg "check_name" = some (.ref fN))
    (FC : Fun K "fresh" "fresh" sFresh fC fdC) (GC : FnOk P w K mg base CX0 8 fC fdC ["thing"] (spCopy 8)) (bC : Binds K fdC ["thing"] []) (mC : mg "fresh" = some (.ref fC))
    (TT : Tab K w dP szP noP) (mT : mg "PART_SIZES" = some (.ref dP))
    (FR : Fun K "check_row" "check_row" sCkRow fR fdR) (GR : FnOk P w K mg base (L2.CX P w) k fR fdR ["part"] (spCkIn Cs true k)) (bR : Binds K fdR ["part"] []) (mR : mg "check_row" = some (.ref fR))
    (FE : Fun K "check_record" "check_record" sCkRec fE fdE) (GE : FnOk P w K mg base (L2.CX P w) k fE fdE ["part"] (spCkIn Cs false k)) (bE : Binds K fdE ["part"] []) (mE : mg "check_record" = some (.ref fE)) : FnOk P w K mg base (L2.CX P w) (k + 1) f fd ["part"] (spCkPart Cs (k + 1)) := by
  have GI : FnOk P w K mg base CX0 1 fI fdI ["self", "value"] (spTInit K) := ok_tinit FI
  refine F.okX scCp (fun vs H Q E h => ?_) (fun cdv A outer s H vs Q E hr h => ?_)
  · obtain ⟨v, d, m, f, rfl, _⟩ := h
    rfl
  obtain ⟨v, d, mm, ff, rfl, hR, hT, hk, kk⟩ := h
  obtain ⟨es, n, KD⟩ := TT.kd
  have hm : 1 ≤ mm := by cases mm with
    | zero => exact hT.elim
    | succ j => omega
  have hr1 : Room 1 (A.deeper (envOfC "check_part" (defScope sCkPart) s.heap.objs.size f cdv)) := hr.mono (by omega)
  have hr2 : Room 2 (A.deeper (envOfC "check_part" (defScope sCkPart) s.heap.objs.size f cdv)) := hr.mono (by omega)
  have hr3 : Room 3 (A.deeper (envOfC "check_part" (defScope sCkPart) s.heap.objs.size f cdv)) := hr.mono (by omega)
  have hr8 : Room 8 (A.deeper (envOfC "check_part" (defScope sCkPart) s.heap.objs.size f cdv)) := hr.mono (by omega)
  refine ⟨_, pss_cons (ps_if (pt_cut (PW.pt (pw_or (pt_not (pt_val (pe_call GF hr1 rfl mF FF.kp bF .nil pass0 (pa_cons (pv 0) pa_nil)))) (pw_or1 (pt_cmpR op_ne (pe_kget KD (pe_glob (v := .ref dP) rfl mT rfl) (pe_ix ix_tup (pv 0) pe_int (fun _ _ => rfl)) ⟨rfl, rfl, rfl, rfl⟩) (pe_callB call_len_seq (by rfl) T.len PySem.boot_len (pa_cons (pv 0) pa_nil)) (nomark _))))))
      (pss_one (ps_raise rfl (takes_of rfl rfl rfl rfl) (pmk_oex (C.oex 2 (by decide)) (C.ini 2 (by decide)) C.tI GI hr2 bI .nil pass0 rfl (C.mg 2 _ rfl) (pa_cons (pe_call GC hr8 rfl mC FC.kp bC .nil pass0 (pa_cons (pv 0) pa_nil)) pa_nil)))) pss_nil)
    (pss_one (ps_if (pt_cmpR op_eq (pe_ix ix_tup (pv 0) pe_int (fun _ _ => rfl)) pe_str (nomark _)) (pss_one (ps_expr (pe_call GN hr3 rfl mN FN.kp bN .nil (passes_call (takes_of rfl rfl rfl rfl) fun _ _ _ _ h => h) (pa_cons (pe_ix ix_tup (pv 0) pe_int (fun _ _ => rfl)) pa_nil))))
      (pss_one (ps_if (pt_cmpR op_eq (pe_ix ix_tup (pv 0) pe_int (fun _ _ => rfl)) pe_str (nomark _)) (pss_one (ps_expr (pe_call GR hr rfl mR FR.kp bR .nil (passes_call (takes_of rfl rfl rfl rfl) fun _ _ _ _ h => h) (pa_cons (pv 0) pa_nil))))
        (pss_one (ps_if (pt_cmpR op_eq (pe_ix ix_tup (pv 0) pe_int (fun _ _ => rfl)) pe_str (nomark _)) (pss_one (ps_expr (pe_call GE hr rfl mE FE.kp bE .nil (passes_call (takes_of rfl rfl rfl rfl) fun _ _ _ _ h => h) (pa_cons (pv 0) pa_nil)))) pss_nil)))))), ?_⟩
  have a0 : ∀ {s : String} {ys : List V}, atI (V.str (Str.ofString s) :: ys) 0 = some (.str (Str.ofString s)) := atI_nat (j := 0) rfl
  have deq : ∀ {y z : String}, Str.ofString y ≠ Str.ofString z → decide (V.str (Str.ofString y) = V.str (Str.ofString z)) = false := fun h => decide_eq_false fun q => h (V.str.inj q)
  have cs : ∃ ds, d = .tup ds ∧ ((d ∈ badP ∧ ff = some (2, d) ∧ (ds = [] ∨ ∃ s es, ds = S s :: es ∧ (s ∈ noP ∨ ∃ n, (s, n) ∈ szP ∧ n ≠ ((es.length + 1 : Nat) : Int)))) ∨ ∃ s es, ds = S s :: es ∧ (s, ((es.length + 1 : Nat) : Int)) ∈ szP ∧
      ((d = .tup [S "any"] ∧ ff = none) ∨ (∃ z, OkT z ∧ d = .tup [S "name", .leaf (.str z)] ∧ ff = nmF z) ∨
        ∃ (row : Bool) (qs : List (Str × D × D)) (r : D), d = .tup [S (if row = true then "row" else "record"), .lst (qs.map (ent row)), r] ∧ qs.length ≤ 25 ∧
      ((∃ z, OkT z ∧ r = .leaf (.str z) ∧ nmB z = false ∧ ff = nmF z) ∨ ((r = .leaf .non ∨ ∃ z, OkT z ∧ r = .leaf (.str z) ∧ nmB z = true) ∧ EsF (PtF (mm - 1)) row [] qs ff)))) := by
    cases mm with
    | zero => exact hT.elim
    | succ mm =>
    rcases hT with ⟨h, h2⟩ | h | h | h
    · rcases badP_tab d h with e | ⟨s, es, e, hb⟩
      · exact ⟨_, e, .inl ⟨h, h2, .inl rfl⟩⟩
      · exact ⟨_, e, .inl ⟨h, h2, .inr ⟨s, es, rfl, hb⟩⟩⟩
    · obtain ⟨e, h2⟩ := h
      exact ⟨_, e, .inr ⟨_, _, rfl, show (("any", (1 : Int)) : String × Int) ∈ szP by decide, .inl ⟨e, h2⟩⟩⟩
    · obtain ⟨z, hz, e, h2⟩ := h
      exact ⟨_, e, .inr ⟨_, _, rfl, show (("name", (2 : Int)) : String × Int) ∈ szP by decide, .inr (.inl ⟨z, hz, e, h2⟩)⟩⟩
    · obtain ⟨row, qs, r, e, h2⟩ := h
      refine ⟨_, e, .inr ⟨_, _, rfl, ?_, .inr (.inr ⟨row, qs, r, e, h2⟩)⟩⟩
      cases row
      · exact show (("record", (3 : Int)) : String × Int) ∈ szP by decide
      · exact show (("row", (3 : Int)) : String × Int) ∈ szP by decide
  obtain ⟨ds, ed, cs⟩ := cs
  -- is it a part at all
  refine ⟨fun b H' => H' = H ∧ (b = true → d ∈ badP ∧ ff = some (2, d)) ∧ (b = false → ((d = .tup [S "any"] ∧ ff = none) ∨ (∃ z, OkT z ∧ d = .tup [S "name", .leaf (.str z)] ∧ ff = nmF z) ∨
        ∃ (row : Bool) (qs : List (Str × D × D)) (r : D), d = .tup [S (if row = true then "row" else "record"), .lst (qs.map (ent row)), r] ∧ qs.length ≤ 25 ∧
      ((∃ z, OkT z ∧ r = .leaf (.str z) ∧ nmB z = false ∧ ff = nmF z) ∨ ((r = .leaf .non ∨ ∃ z, OkT z ∧ r = .leaf (.str z) ∧ nmB z = true) ∧ EsF (PtF (mm - 1)) row [] qs ff)))), ?_, ?_⟩
  · subst ed
    obtain ⟨a, xs, rfl, ha, hxs⟩ := id hR
    have sq := SqT.of (K := K) ha
    refine ⟨_, rfl, _, ds, rfl, hR, _, rfl, ?_⟩
    rcases cs with ⟨hbd, hf, rfl | ⟨s0, es0, rfl, hb⟩⟩ | ⟨s0, es0, rfl, hb, good⟩
    · exact iteT ⟨rfl, fun _ => ⟨hbd, hf⟩, fun z => nomatch z⟩
    · obtain ⟨x, ys, rfl, hx, hys⟩ := hxs
      obtain rfl : x = .str (Str.ofString s0) := hx.1
      obtain ⟨uo, v0, g1, g2, g3, g4⟩ := TT.get hb
      refine iteF ⟨rfl, _, rfl, a, _, 0, _, rfl, rfl, sq, a0, _, uo, v0, rfl, g1, g2, _, rfl, a, _, rfl, .inr sq, ?_⟩
      rw [List.length_cons, hys.len]
      refine ⟨g3, _, rfl, ?_⟩
      rw [g4]
      exact ⟨rfl, fun _ => ⟨hbd, hf⟩, fun z => nomatch z⟩
    · obtain ⟨x, ys, rfl, hx, hys⟩ := hxs
      obtain rfl : x = .str (Str.ofString s0) := hx.1
      obtain ⟨uo, v0, g1, g2, g3, g4⟩ := TT.got hb
      refine iteF ⟨rfl, _, rfl, a, _, 0, _, rfl, rfl, sq, a0, _, uo, v0, rfl, g1, g2, _, rfl, a, _, rfl, .inr sq, ?_⟩
      rw [List.length_cons, hys.len]
      refine ⟨g3, _, rfl, ?_⟩
      rw [g4]
      exact ⟨rfl, (fun z => nomatch z), fun _ => good⟩
  rintro bb _ ⟨rfl, ht, hf⟩
  refine ite2 (fun c => ?_) (fun c => ?_)
  · obtain ⟨hbd, e⟩ := ht c
    subst e
    refine ⟨_, rfl, v, d, 6, rfl, by decide, hR, (Good.cp (n := 6) (bad_fits (List.mem_append_left _ hbd))), fun u H1 G1 hs1 hr1 hG1 => ⟨(by show 1 ≤ 1000; decide), ?_⟩⟩
    exact raise_at (C := Cs 2) (C.oex 2 (by decide)) (C.val 2 (by decide)) kk hs1 hr1 hG1
  have good := hf (by simpa using c)
  clear ht hf cs
  rcases good with ⟨rfl, e⟩ | ⟨z, hz, rfl, e⟩ | ⟨row, qs, r, rfl, hl3, hc⟩
  · subst e
    obtain ⟨a, ys, rfl, ha, hys⟩ := hR.head
    have sq := SqT.of (K := K) ha
    refine ⟨_, rfl, a, _, 0, _, rfl, rfl, sq, a0, rfl, _, rfl, ifF (deq (by decide)) ?_⟩
    refine ⟨_, rfl, a, _, 0, _, rfl, rfl, sq, a0, rfl, _, rfl, ifF (deq (by decide)) ?_⟩
    exact ⟨_, rfl, a, _, 0, _, rfl, rfl, sq, a0, rfl, _, rfl, ifF (deq (by decide)) (kk _ (Same.refl _))⟩
  · subst e
    obtain ⟨a, ys, rfl, ha, hys⟩ := hR.head
    obtain ⟨x, ys', rfl, hx, hy'⟩ := hys
    obtain rfl : x = .str z := hx.1
    have sq := SqT.of (K := K) ha
    refine ⟨_, rfl, a, _, 0, _, rfl, rfl, sq, a0, rfl, _, rfl, ifT (decide_eq_true rfl) ?_⟩
    exact ⟨_, rfl, a, _, 1, _, rfl, rfl, sq, atI_nat (j := 1) rfl, z, rfl, hz, kk⟩
  · obtain ⟨a, ys, rfl, ha, hys⟩ := hR.head
    have sq := SqT.of (K := K) ha
    obtain ⟨r, rfl⟩ : ∃ r', r = .leaf r' := by
      rcases hc with ⟨z, _, rfl, _⟩ | ⟨rfl | ⟨z, _, rfl, _⟩, _⟩
      · exact ⟨_, rfl⟩
      · exact ⟨_, rfl⟩
      · exact ⟨_, rfl⟩
    have hc2 : (∃ z, OkT z ∧ r = .str z ∧ nmB z = false ∧ ff = nmF z) ∨ ((r = .non ∨ ∃ z, OkT z ∧ r = .str z ∧ nmB z = true) ∧ EsF (PtF (mm - 1)) row [] qs ff) := by
      rcases hc with ⟨z, h1, h2, h3⟩ | ⟨h1 | ⟨z, h1, h2, h3⟩, h4⟩
      · exact .inl ⟨z, h1, D.leaf.inj h2, h3⟩
      · exact .inr ⟨.inl (D.leaf.inj h1), h4⟩
      · exact .inr ⟨.inr ⟨z, h1, D.leaf.inj h2, h3⟩, h4⟩
    cases row
    · refine ⟨_, rfl, a, _, 0, _, rfl, rfl, sq, a0, rfl, _, rfl, ifF (deq (by decide)) ?_⟩
      refine ⟨_, rfl, a, _, 0, _, rfl, rfl, sq, a0, rfl, _, rfl, ifF (deq (by decide)) ?_⟩
      refine ⟨_, rfl, a, _, 0, _, rfl, rfl, sq, a0, rfl, _, rfl, ifT (decide_eq_true rfl) ?_⟩
      exact ⟨_, rfl, _, qs, _, mm - 1, ff, rfl, hR, hl3, hc2, by omega, kk⟩
    · refine ⟨_, rfl, a, _, 0, _, rfl, rfl, sq, a0, rfl, _, rfl, ifF (deq (by decide)) ?_⟩
      refine ⟨_, rfl, a, _, 0, _, rfl, rfl, sq, a0, rfl, _, rfl, ifT (decide_eq_true rfl) ?_⟩
      exact ⟨_, rfl, _, qs, _, mm - 1, ff, rfl, hR, hl3, hc2, by omega, kk⟩
end
end K03
set_option Elab.async false
set_option linter.all false
set_option maxRecDepth 100000
set_option maxHeartbeats 2000000
/-! An object made in a try; what a suite asks of the own error that it holds. -/
namespace L2
open PySem PySem.Spec PyProof.Rows
/-- C(e, ..) in a try: a new instance, then __init__, which may raise -/
def tMakeS (C : Addr) (sp : Sp) (E : St → XK) (t : TA) : TE := fun σ H Q => t σ H fun vs H1 => ∀ y dy, H1 y = none → H1 dy = none → dy ≠ y → sp (.ref y :: vs) (upd (upd H1 dy (.own y)) y (.ins C dy [])) (fun v H2 => v = .non ∧ Q (.ref y) H2) (E σ)
def tMakeKS (C : Addr) (m : Nat) (sp : Sp) (gV : List V → List V → List V) (E : St → XK) (tk : TA) : TE := fun σ H Q => tk σ H fun zs H1 => zs.length = m ∧ ∀ y dy, H1 y = none → H1 dy = none → dy ≠ y → sp (gV [.ref y] zs) (upd (upd H1 dy (.own y)) y (.ins C dy [])) (fun v H2 => v = .non ∧ Q (.ref y) H2) (E σ)
section
variable {X : Cx} {CX : CXT} {k : Nat} {f C : Addr} {fd : FuncData} {ps ks : List Str} {sp : Sp} {x : Str} {p pos : Pos} {e : Expr} {es : List Expr} {kws : List Keyword} {t tk : TA} {E : St → XK}
variable {g : List Value → List Value → List Value} {gV : List V → List V → List V}
/-- the class is called with us and keywords, its __init__ bound to qs -/
theorem run_makeS {pins : List (Addr × Obj)} {σ : St} {H : Hp} {s : Shared} {Q : VK} {us ws qs : List Value} {vs : List V} (M : Mk X.K C f) (F : FnOk X.prog X.w X.K X.mg X.base CX k f fd ps sp) (hr : Room (k + 1) X.A) (hx : ∀ σ, PassesAt CX X σ (E σ)) (I : Inv X pins σ H s)
    (hb : ∀ z : Shared, X.K.In z.heap → BindsTo z fd ⟨.ref (s.heap.objs.size + 1) :: us, ks.zip ws⟩ (ps.zip qs)) (r : Vals vs qs)
    (h : sp vs (upd (upd H s.heap.objs.size (.own (s.heap.objs.size + 1))) (s.heap.objs.size + 1) (.ins C s.heap.objs.size [])) (fun v H2 => v = .non ∧ Q (.ref (s.heap.objs.size + 1)) H2) (E σ)) :
    wpAny (model X.prog X.w) X.A (call (.ref C) us (ks.zip ws)) (EP X pins σ Q) X.xe s := by
  have J := Inv.made (C := C) I
  have ran := F.run _ X.stack _ _ ⟨Value.ref (s.heap.objs.size + 1) :: us, ks.zip ws⟩ qs vs _ (E σ) (hr.make C us (ks.zip ws)) (J.env0.make C us (ks.zip ws)) (hb _ J.kIn) r h
  refine wpAny_call (make_map (f := f) I.kIn M.makes M.init (beq_iff_eq.mp M.fn) (codeAny_mono ran fun rr z hz => ?_))
  rcases rr with er | (u | _ | _ | _) <;> first | exact hx σ pins _ _ er z J hz | exact hz.elim | skip
  obtain ⟨v, H', J2, rv, ev, q3⟩ := J.after hz
  subst ev
  exact ⟨rv, V.ref (s.heap.objs.size + 1), H', J2, rfl, q3⟩
theorem pe_makeS (M : Mk X.K C f) (F : FnOk X.prog X.w X.K X.mg X.base CX k f fd ps sp) (hr : Room (k + 1) X.A) (hg : Gl X x) (hm : X.mg x = some (.ref C)) (hb : Binds X.K fd ps []) (hx : ∀ σ, PassesAt CX X σ (E σ)) (ha : PA X (e :: es) t)
    (hdb : (x == ("__debug__" : Str)) = false := by decide) (hs : starEach (e :: es) X.env = (false, eval e X.env) :: starEach es X.env := by rfl) (hpl : (backTo pos (starEach es X.env)).any (·.1) = false := by rfl) :
    PE X (.Call (.Name x p) (e :: es) [] pos) (tMakeS C sp E t) := by
  refine ⟨fun pins s σ H Q I h => wpAny_Call_Name_kw (ld_glob I hg hm ?_ hdb)⟩
  refine PySem.W.callWith_K (h₀ := X.base) I.ok.mod.kin M.kp (thn (ha.run pos pins s σ H _ I h) fun us z ⟨vs, H1, J, r, q⟩ => ⟨J.kIn, ?_⟩) hs hpl
  have hq := q (z.heap.objs.size + 1) z.heap.objs.size (J.hok.fresh (Nat.le_succ _)) (J.hok.fresh (Nat.le_refl _)) (Nat.ne_of_lt (Nat.lt_succ_self _))
  have r2 : Vals (V.ref (z.heap.objs.size + 1) :: vs) (Value.ref (z.heap.objs.size + 1) :: us) := .cons rfl r
  have hl : (Value.ref (z.heap.objs.size + 1) :: us).length = ps.length := by
    rw [← r2.length]
    exact F.len _ _ _ _ hq
  refine run_makeS (ks := []) (ws := []) M F hr hx J (fun y hy => ?_) r2 hq
  have b := hb y (Value.ref (z.heap.objs.size + 1) :: us) hy (by rw [List.append_nil]; exact hl)
  rw [List.append_nil] at b
  exact b
theorem pe_makeKS (M : Mk X.K C f) (F : FnOk X.prog X.w X.K X.mg X.base CX k f fd ps sp) (hr : Room (k + 1) X.A) (hg : Gl X x) (hm : X.mg x = some (.ref C)) (hb : KBn X.K fd ps 1 ks g gV) (hx : ∀ σ, PassesAt CX X σ (E σ)) (hkw : PK X kws tk)
    (hall : (backToKw pos (keywordEach kws X.env)).all (·.1.isSome) = true := by rfl) (hks : (backToKw pos (keywordEach kws X.env)).filterMap (·.1) = ks := by rfl) (hdb : (x == ("__debug__" : Str)) = false := by decide)
    (hpl : ((backTo pos (starEach [] X.env)).any (·.1) || (backToKw pos (keywordEach kws X.env)).any (·.1.isNone)) = false := by rfl) :
    PE X (.Call (.Name x p) [] kws pos) (tMakeKS C ks.length sp gV E tk) := by
  refine ⟨fun pins s σ H Q I h => wpAny_Call_Name_kw (ld_glob I hg hm ?_ hdb)⟩
  refine PySem.W.callWith_KW0 (h₀ := X.base) I.ok.mod.kin M.kp hall ?_ hpl
  refine thn (hkw.run pos pins s σ H _ I h) fun ws z ⟨zs, H1, J, rz, l2, q⟩ => ⟨J.kIn, ?_⟩
  rw [hks]
  have hq := q (z.heap.objs.size + 1) z.heap.objs.size (J.hok.fresh (Nat.le_succ _)) (J.hok.fresh (Nat.le_refl _)) (Nat.ne_of_lt (Nat.lt_succ_self _))
  have r1 : Vals [V.ref (z.heap.objs.size + 1)] [Value.ref (z.heap.objs.size + 1)] := .cons rfl .nil
  exact run_makeS (us := []) M F hr hx J (fun y hy => hb.to y [Value.ref (z.heap.objs.size + 1)] ws hy rfl (rz.length.symm.trans l2)) (hb.rel r1 rz) hq
end
/-! ### the error that a suite holds -/
/-- isinstance(e, c) -/
def rIsS (K : PySem.W.Frag) (a : Addr) (cls : Value) (d : Option Addr) : List V → Hp → VK → Prop := fun xs H Q => ∃ (D dd : Addr) (fs : List (Str × V)) (c : V) (u : Value) (b : Bool), cls = .ref D ∧ d = some dd ∧ ExcW K D ∧ xs = [.ref a, c] ∧ ClsV c u ∧ H dd = some (.xd fs) ∧ PySem.W.kitOne K (.ref D) u = some b ∧ Q (.bl b) H
/-- isinstance(e, (c, ..)) -/
def rIsST (K : PySem.W.Frag) (a : Addr) (cls : Value) (d : Option Addr) : List V → Hp → VK → Prop := fun xs H Q => ∃ (D dd : Addr) (fs : List (Str × V)) (tp : Addr) (cs : List V) (us : List Value) (b : Bool), cls = .ref D ∧ d = some dd ∧ ExcW K D ∧ xs = [.ref a, .ref tp] ∧ H tp = some (.tup cs) ∧ Paired ClsV cs us ∧ H dd = some (.xd fs) ∧ PySem.W.kitAny K (.ref D) us = some b ∧ Q (.bl b) H
/-- e.f -/
def tValS (K : PySem.W.Frag) (f : Str) (a : Addr) (cls : Value) (d : Option Addr) (te : TE) : TE := fun σ H Q => te σ H fun x H1 => ∃ (D dd : Addr) (fs : List (Str × V)) (v : V), x = .ref a ∧ cls = .ref D ∧ d = some dd ∧ ExcW K D ∧ PySem.W.findIn K (.ref D) f = some none ∧ H1 dd = some (.xd fs) ∧ fs.lookup f = some v ∧ Q v H1
section
variable {X : Cx} {a : Addr} {oe : Obj} {cls : Value} {d : Option Addr} {pn : List (Addr × Obj)}
theorem held_at {pins : List (Addr × Obj)} {σ : St} {H : Hp} {s : Shared} {D dd : Addr} {fs : List (Str × V)} (I : Inv (X.suite a ((a, oe) :: pn)) pins σ H s) (hz : Zc (.ref D) (some dd) oe) (hf : ∃ vs, oe.data = .fields vs) (hd : H dd = some (.xd fs)) :
    ∃ od : Obj, PySem.W.InstAt s.heap a oe D (some od) ∧ ∀ (f : Str) (v : V), fs.lookup f = some v → ∃ u, PySem.W.lookIn f od = some (some u) ∧ RelV v u := by
  obtain ⟨ha, _⟩ := I.pin (a, oe) (List.mem_append_left _ List.mem_cons_self)
  obtain ⟨vs, hdat⟩ := hf
  have hx : ObjOk X.prog X.w H s.heap dd (.xd fs) := I.hok dd _ hd
  obtain ⟨mA, hns, hr⟩ := hx
  obtain ⟨od, ho, hl⟩ := lookIn_ns hns
  refine ⟨od, ⟨ha, hz.1, by unfold PySem.W.notCls; rw [hdat] <;> rfl, by rw [hz.2]; exact ho⟩, fun f v e => ?_⟩
  obtain ⟨u, hu, ru⟩ := RelO.some_of (v := v) (o := mA f) (by rw [← e]; exact hr f)
  exact ⟨u, by rw [hl, hu], ru⟩
theorem call_isS (hz : Zc cls d oe) (hf : ∃ vs, oe.data = .fields vs) : CallR (X.suite a ((a, oe) :: pn)) (.builtin "isinstance") (rIsS X.K a cls d) := by
  intro pins s σ H xs us Q I r h
  obtain ⟨D, dd, fs, c, u, b, rfl, rfl, T, rfl, k, hd, e, q⟩ := h
  obtain ⟨u1, u2, rfl, r1, r2⟩ := vals2 r
  have e2 := k.eq r2
  subst e2
  obtain rfl : u1 = Value.ref a := r1
  obtain ⟨od, J, _⟩ := held_at I hz hf hd
  exact PySem.W.kia_one (PySem.W.kitx_exc T.is1 T.ga T.gg T.ex T.ca T.sg T.tk T.ob) I.kIn J e (fun z => nomatch z) fun tk' => ⟨.bl b, H, I.tok tk', rfl, q⟩
theorem call_isST (hz : Zc cls d oe) (hf : ∃ vs, oe.data = .fields vs) : CallR (X.suite a ((a, oe) :: pn)) (.builtin "isinstance") (rIsST X.K a cls d) := by
  intro pins s σ H xs us Q I r h
  obtain ⟨D, dd, fs, tp, cs, ws, b, rfl, rfl, T, rfl, hT, k, hd, e, q⟩ := h
  obtain ⟨u1, u2, rfl, r1, r2⟩ := vals2 r
  obtain rfl : u1 = Value.ref a := r1
  cases (show u2 = Value.ref tp from r2)
  obtain ⟨od, J, _⟩ := held_at I hz hf hd
  obtain ⟨_, its, rv, o, h1, h2, n, h3⟩ := (show ObjOk X.prog X.w H s.heap tp (.tup cs) from I.hok tp _ hT)
  have e3 := ClsV.all k rv
  subst e3
  obtain ⟨oc, od2, dt, sl⟩ := o
  simp only at h2 h3
  subst h2 h3
  exact PySem.W.kia_tup (PySem.W.kitx_exc T.is1 T.ga T.gg T.ex T.ca T.sg T.tk T.ob) I.kIn J h1 e (fun z => nomatch z) fun tk' => ⟨.bl b, H, I.tok tk', rfl, q⟩
theorem pe_valS {e : Expr} {te : TE} {f : Str} {pos : Pos} (hz : Zc cls d oe) (hf : ∃ vs, oe.data = .fields vs) (he : PE (X.suite a ((a, oe) :: pn)) e te) (hb : attributeBase e f X.env (eval e X.env) = eval e X.env := by rfl) :
    PE (X.suite a ((a, oe) :: pn)) (.Attribute e f pos) (tValS X.K f a cls d te) := by
  refine ⟨fun pins s σ H Q I h => attr_of hb (thn (he.run pins s σ H _ I h) fun u s1 hh => ?_)⟩
  obtain ⟨y, H1, J1, ry, D, dd, fs, v, rfl, rfl, rfl, T, hno, hd, hl, q⟩ := hh
  obtain rfl : u = Value.ref a := ry
  obtain ⟨od, J, hfs⟩ := held_at J1 hz hf hd
  obtain ⟨w', hu, ru⟩ := hfs f v hl
  exact HandSPX.exc_get J1.kIn J T.ga T.gg T.ex (PySem.W.findObj_own T.hd hno rfl hu) (handed_of ru) ⟨v, H1, J1.tok _, ru, q⟩
end
end L2
set_option Elab.async false
set_option linter.all false
set_option maxRecDepth 100000
set_option maxHeartbeats 2000000
/-! An own object's method called in a try, where it may raise; by place or by name. -/
namespace L2
open PySem PySem.Spec PyProof.Rows
def tMethT (C : Addr) (m : Str) (sp : Sp) (E : St → XK) (ta : TE) (t : TA) : TE := fun σ H Q => ta σ H fun x H1 => ∃ o dx fs, x = .ref o ∧ H1 o = some (.ins C dx fs) ∧ fs.lookup m = none ∧ t σ H1 fun vs H2 => sp (.ref o :: vs) H2 Q (E σ)
def tMethKT (C : Addr) (m : Str) (sp : Sp) (gV : List V → List V → List V) (E : St → XK) (ta : TE) (tk : TA) : TE := fun σ H Q => ta σ H fun x H1 => ∃ o dx fs, x = .ref o ∧ H1 o = some (.ins C dx fs) ∧ fs.lookup m = none ∧ tk σ H1 fun zs H2 => sp (gV [.ref o] zs) H2 Q (E σ)
section
variable {X : Cx} {CX : CXT} {k : Nat} {f C : Addr} {fd : FuncData} {ps ks : List Str} {sp : Sp} {m : Str} {pos apos : Pos} {o e : Expr} {es : List Expr} {kws : List Keyword} {ta : TE} {t tk : TA} {E : St → XK}
variable {g : List Value → List Value → List Value} {gV : List V → List V → List V}
theorem run_kT {pins : List (Addr × Obj)} {σ : St} {H : Hp} {s : Shared} {Q : VK} {us ws : List Value} {vs zs : List V} (F : FnOk X.prog X.w X.K X.mg X.base CX k f fd ps sp) (hr : Room k X.A) (hb : KBinds X.K fd ps ks g gV) (hx : PassesAt CX X σ (E σ))
    (J : Inv X pins σ H s) (r : Vals vs us) (rz : Vals zs ws) (q : sp (gV vs zs) H Q (E σ)) : wpAny (model X.prog X.w) X.A (call (.ref f) us (ks.zip ws)) (EP X pins σ Q) X.xe s := by
  have both := hb.rel r rz
  have ran := F.run X.A X.stack s H ⟨us, ks.zip ws⟩ (g us ws) (gV vs zs) Q (E σ) hr J.env0 (hb.to s us ws J.kIn (both.length.symm.trans (F.len _ _ _ _ q))) both q
  refine wpAny_call (codeAny_mono ran fun rr z hz => ?_)
  rcases rr with er | (u | _ | _ | _) <;> first | exact hx pins H _ er z J hz | exact hz.elim | exact J.after hz
theorem pe_methT {pl : Sem Bool} (he : PE X o ta) (c : Cls X.K C) (hm : Meth X.K C m f) (F : FnOk X.prog X.w X.K X.mg X.base CX k f fd ps sp) (hr : Room k X.A) (hb : Binds X.K fd ps []) (hx : ∀ σ, PassesAt CX X σ (E σ)) (ha : PA X (e :: es) t)
    (hst : starEach (e :: es) X.env = (false, eval e X.env) :: starEach es X.env := by rfl) (hpl : (backTo pos (starEach es X.env)).any (·.1) = false := by rfl)
    (ht : eval (.Call (.Attribute o m apos) (e :: es) [] pos) X.env = (do
      let ov ← eval o X.env
      standAt apos.atName
      let (g0, first) ← holding [ov] (getMethod ov m pl)
      callWith pos g0 first (backTo pos (starEach (e :: es) X.env)) (backToKw pos (keywordEach [] X.env))) := by rfl) :
    PE X (.Call (.Attribute o m apos) (e :: es) [] pos) (tMethT C m sp E ta t) := by
  refine ⟨fun pins s σ H Q J h => ?_⟩
  refine PySem.W.methodCall_KW (pl := pl) (thn (he.run pins s σ H _ J h) fun u s1 ⟨x, H1, J1, rx, a, dx, fs, ex, ea, l, q⟩ => ?_) ht
  subst ex
  cases (show u = Value.ref a from rx)
  refine getmeth_ok J1 ea c hm l ?_
  refine PySem.W.callWith_K (first := [.ref a]) (h₀ := X.base) J.ok.mod.kin hm.kp (thn (ha.run pos pins s1 σ H1 _ J1 q) fun us s2 ⟨vs, H2, J2, r, q2⟩ => ⟨J2.kIn, ?_⟩) hst hpl
  exact run_fnS (us := .ref a :: us) (vs := .ref a :: vs) F hr hb (hx σ) J2 (.cons rfl r) q2
theorem pe_methKT {pl : Sem Bool} (he : PE X o ta) (c : Cls X.K C) (hm : Meth X.K C m f) (F : FnOk X.prog X.w X.K X.mg X.base CX k f fd ps sp) (hr : Room k X.A) (hb : KBinds X.K fd ps ks g gV) (hx : ∀ σ, PassesAt CX X σ (E σ)) (hkw : PK X kws tk)
    (hall : (backToKw pos (keywordEach kws X.env)).all (·.1.isSome) = true := by rfl) (hks : (backToKw pos (keywordEach kws X.env)).filterMap (·.1) = ks := by rfl)
    (hpl : ((backTo pos (starEach [] X.env)).any (·.1) || (backToKw pos (keywordEach kws X.env)).any (·.1.isNone)) = false := by rfl)
    (ht : eval (.Call (.Attribute o m apos) [] kws pos) X.env = (do
      let ov ← eval o X.env
      standAt apos.atName
      let (g0, first) ← holding [ov] (getMethod ov m pl)
      callWith pos g0 first (backTo pos (starEach [] X.env)) (backToKw pos (keywordEach kws X.env))) := by rfl) :
    PE X (.Call (.Attribute o m apos) [] kws pos) (tMethKT C m sp gV E ta tk) := by
  refine ⟨fun pins s σ H Q J h => ?_⟩
  refine PySem.W.methodCall_KW (pl := pl) (thn (he.run pins s σ H _ J h) fun u s1 ⟨x, H1, J1, rx, a, dx, fs, ex, ea, l, q⟩ => ?_) ht
  subst ex
  cases (show u = Value.ref a from rx)
  refine getmeth_ok J1 ea c hm l ?_
  refine PySem.W.callWith_KW0 (first := [.ref a]) (h₀ := X.base) J.ok.mod.kin hm.kp hall ?_ hpl
  refine thn (hkw.run pos pins s1 σ H1 _ J1 q) fun ws s2 ⟨zs, H2, J2, rz, q2⟩ => ⟨J2.kIn, ?_⟩
  rw [hks]
  exact run_kT (us := [.ref a]) (vs := [.ref a]) F hr hb (hx σ) J2 (.cons rfl .nil) rz q2
end
end L2
set_option Elab.async false
set_option linter.all false
set_option maxRecDepth 100000
set_option maxHeartbeats 4000000
namespace K03
open PySem L2 PyProof.Rows
abbrev sInit : Stmt := inClass sPattern 0
abbrev sGPart : Stmt := inClass sPattern 1
abbrev sGOrd : Stmt := inClass sPattern 2
abbrev sGLck : Stmt := inClass sPattern 3
/-! ### a pattern in the heap -/
/-- lists and tuples stand -/
def LT1 (H H1 : Hp) : Prop := ∀ b xs, (H b = some (.lst xs) → H1 b = some (.lst xs)) ∧ (H b = some (.tup xs) → H1 b = some (.tup xs))
theorem LT1.ins {H H1 : Hp} {x C dx : Addr} {fs : List (Str × V)} (hx : H x = some (.ins C dx fs)) (b : But x H H1) : LT1 H H1 := fun c xs => by
  have n : ∀ {o}, H c = some o → (∀ C dx fs, o ≠ HO.ins C dx fs) → c ≠ x := fun e q z => by
    rw [z, hx] at e
    exact q _ _ _ (Option.some.inj e).symm
  exact ⟨fun e => b c _ (n e fun _ _ _ z => nomatch z) e, fun e => b c _ (n e fun _ _ _ z => nomatch z) e⟩
mutual
theorem Rep.lt {H H1 : Hp} (k : LT1 H H1) : ∀ {d : D} {v : V} {F : List Addr}, Rep H d v F → Rep H1 d v F
  | .leaf w, u, F, h => h
  | .lst ds, u, F, h => by
    obtain ⟨a, xs, G, e, ha, hr, hn, rfl⟩ := h
    exact ⟨a, xs, G, e, (k a xs).1 ha, Reps.lt k hr, hn, rfl⟩
  | .tup ds, u, F, h => by
    obtain ⟨a, xs, e, ha, hr⟩ := h
    exact ⟨a, xs, e, (k a xs).2 ha, Reps.lt k hr⟩
theorem Reps.lt {H H1 : Hp} (k : LT1 H H1) : ∀ {ds : List D} {xs : List V} {F : List Addr}, Reps H ds xs F → Reps H1 ds xs F
  | [], xs, F, h => h
  | d :: ds, xs, F, h => by
    obtain ⟨x, ys, F1, F2, e, h1, h2, hd, rfl⟩ := h
    exact ⟨x, ys, F1, F2, e, Rep.lt k h1, Reps.lt k h2, hd, rfl⟩
end
theorem po_ : ¬ (("_part" : Str) = "_order") := by decide +kernel
theorem pl_ : ¬ (("_part" : Str) = "_lacks") := by decide +kernel
theorem ol_ : ¬ (("_order" : Str) = "_lacks") := by decide +kernel
def pfs (v : V) (r s : Str) : List (Str × V) := putF "_lacks" (.str s) (putF "_order" (.str r) (putF "_part" v []))
theorem pfs_part (v : V) (r s : Str) : (pfs v r s).lookup ("_part" : Str) = some v := by
  unfold pfs
  rw [lookup_putF, if_neg pl_, lookup_putF, if_neg po_, lookup_putF, if_pos rfl]
theorem pfs_order (v : V) (r s : Str) : (pfs v r s).lookup ("_order" : Str) = some (.str r) := by
  unfold pfs
  rw [lookup_putF, if_neg ol_, lookup_putF, if_pos rfl]
theorem pfs_lacks (v : V) (r s : Str) : (pfs v r s).lookup ("_lacks" : Str) = some (.str s) := by
  unfold pfs
  rw [lookup_putF, if_pos rfl]
def PatAt (C : Addr) (H : Hp) (o : Addr) (d : D) (r s : Str) (G : List Addr) : Prop := ∃ dx v, H o = some (.ins C dx (pfs v r s)) ∧ Rep H d v G
structure PCls (K : PySem.W.Frag) (C : Addr) : Prop where
  cl : Cls K C
  nP : NoAttr K C "_part"
  nO : NoAttr K C "_order"
  nL : NoAttr K C "_lacks"
def spInit (Cs : Nat → Addr) (C : Addr) : Sp := fun vs H Q E => ∃ (x dx : Addr) (v : V) (r s : Str) (d : D) (f : Fl), vs = [.ref x, v, .str r, .str s] ∧ H x = some (.ins C dx []) ∧ RW H d v ∧ PlanF d r s f ∧ Good 40 d ∧
  (f = none → ∀ u H' G, But x H H' → H' x = some (.ins C dx (pfs u r s)) → Rep H' d u G → (∀ a ∈ G, H a = none) → Q .non H') ∧ ∀ e, f = some e → Thr Cs H E e
def spGPart (C : Addr) : Sp := fun vs H Q _ => ∃ (o : Addr) (d : D) (r s : Str) (G : List Addr), vs = [.ref o] ∧ PatAt C H o d r s G ∧ Good 40 d ∧ ∀ u H' G', Same H H' → Rep H' d u G' → (∀ a ∈ G', H a = none) → Q u H'
def spGOrd (C : Addr) : Sp := fun vs H Q _ => ∃ (o : Addr) (d : D) (r s : Str) (G : List Addr), vs = [.ref o] ∧ PatAt C H o d r s G ∧ Q (.str r) H
def spGLck (C : Addr) : Sp := fun vs H Q _ => ∃ (o : Addr) (d : D) (r s : Str) (G : List Addr), vs = [.ref o] ∧ PatAt C H o d r s G ∧ Q (.str s) H
def turnKw {α : Type} (us ws : List α) : List α := us ++ ((ws.drop 1).take 1 ++ (ws.take 1 ++ ws.drop 2))
/-- what catching tells: a pattern, or of which classes the error is and what it holds -/
def flagsOf (i : Nat) : List Bool := [decide (1 = 0 ∨ 1 = i), decide (2 = 0 ∨ 2 = i), decide (3 = 0 ∨ 3 = i), decide (4 = 0 ∨ 4 = i), decide (5 = 0 ∨ 5 = i), true]
def CRes (C : Addr) (H H' : Hp) (l : Addr) (d : D) (r s : Str) (f : Fl) : Prop := match f with
  | none => ∃ o G, H' l = some (.lst [.str (Str.ofString "made"), .ref o]) ∧ H o = none ∧ PatAt C H' o d r s G ∧ ∀ a ∈ G, H a = none
  | some e => ∃ fl u G, H' l = some (.lst [.str (Str.ofString "refused"), .ref fl, u]) ∧ H' fl = some (.lst ((flagsOf e.1 ++ [false]).map V.bl)) ∧ Rep H' e.2 u G ∧ l ∉ G ∧ fl ∉ G ∧ ∀ a ∈ G, H a = none
def spCaught (C : Addr) : Sp := fun vs H Q _ => ∃ (v : V) (t : Addr) (mode : Int) (u : V) (d : D) (r s : Str) (f : Fl), vs = [v, .ref t, .int mode] ∧ RW H d v ∧ H t = some (.tup [u, .str r, .str s]) ∧ PlanF d r s f ∧ Good 40 d ∧ (∀ e, f = some e → VOk e) ∧
  ∀ l H', Same H H' → H l = none → CRes C H H' l d r s f → Q (.ref l) H'
theorem same_ins {H : Hp} {x dx C : Addr} (hx : H x = none) (hdx : H dx = none) : Same H (upd (upd H dx (.own x)) x (.ins C dx [])) := fun b o e => by
  rw [upd_ne (ne_of_none e hx), upd_ne (ne_of_none e hdx)]
  exact e
theorem But.same {x : Addr} {H H1 H2 : Hp} (s : Same H H1) (b : But x H1 H2) (hx : H x = none) : Same H H2 := fun c o e => b c o (fun z => by
  rw [z, hx] at e
  cases e) (s c o e)
def tIx (K : PySem.W.Frag) (i : Int) : TE := tOp (rIxT K) (tVar 1) (tC (.int i))
def t_try (K : PySem.W.Frag) (Cs : Nat → Addr) (C : Addr) : WX → TS := fun W => tIfS (tTest (tOp rEq (tVar 2) (tC (.int 0))))
  (tAsg (tLst (tCons (tC (.str (Str.ofString "made"))) (tCons (tMakeS C (spInit Cs C) (WE W) (tCons (tVar 0) (tCons (tOp (rIxT K) (tVar 1) (tC (.int 1))) (tCons (tOp (rIxT K) (tVar 1) (tC (.int 2))) tNil)))) tNil))) (gName 3))
  (tAsg (tLst (tCons (tC (.str (Str.ofString "made"))) (tCons (tMakeKS C (["order", "part", "lacks"] : List Str).length (spInit Cs C) turnKw (WE W) (tCons (tOp (rIxT K) (tVar 1) (tC (.int 1))) (tCons (tVar 0) (tCons (tOp (rIxT K) (tVar 1) (tC (.int 2))) tNil)))) tNil))) (gName 3))
def tIsA (K : PySem.W.Frag) (a : Addr) (cls : Value) (d : Option Addr) (v : V) : TE := tCB (rIsS K a cls d) (tCons (tVar 4) (tCons (tC v) tNil))
def t_suite (K : PySem.W.Frag) (Cs : Nat → Addr) : Addr → Value → Option Addr → TS := fun a cls d =>
  tSeq (tAsg (tLst (tCons (tIsA K a cls d (.ref (Cs 1))) (tCons (tIsA K a cls d (.ref (Cs 2))) (tCons (tIsA K a cls d (.ref (Cs 3))) tNil)))) (gName 5))
  (tSeq (tAsg (tOp rCat (tVar 5) (tLst (tCons (tIsA K a cls d (.ref (Cs 4))) (tCons (tIsA K a cls d (.ref (Cs 5))) (tCons (tIsA K a cls d (.ty "ValueError")) tNil))))) (gName 5))
  (tSeq (tAsg (tCB (rIsST K a cls d) (tCons (tVar 4) (tCons (tTup (tCons (tC (.ref (Cs 6))) (tCons (tC (.ref (Cs 7))) (tCons (tC (.ref (Cs 8))) (tCons (tC (.ref (Cs 9))) (tCons (tC (.ref (Cs 10))) tNil)))))) tNil))) (gName 6))
  (tAsg (tLst (tCons (tC (.str (Str.ofString "refused"))) (tCons (tOp rCat (tVar 5) (tLst (tCons (tVar 6) tNil))) (tCons (tValS K "value" a cls d (tVar 4)) tNil)))) (gName 3))))
section
variable {P : Program} {w : World} {K : PySem.W.Frag} {mg : Str → Option Value} {base : Heap} {Cs : Nat → Addr} {fI0 : Addr} {fdI0 : FuncData}
theorem scIn : FnScope ["self", "part", "order", "lacks"] ["self", "part", "order", "lacks"] (defScope sInit) := ⟨rfl, rfl, rfl, by decide +kernel, rfl, by decide +kernel, by decide +kernel⟩
theorem ok_init {f C fP fU fF : Addr} {fd fdP fdU fdF : FuncData} (F : Fun K "__init__" "Pattern.__init__" sInit f fd) (CC : PCls K C)
    (FP : Fun K "check_part" "check_part" sCkPart fP fdP) (GP : FnOk P w K mg base (L2.CX P w) 31 fP fdP ["part"] (spCkPart Cs 31)) (bP : Binds K fdP ["part"] []) (mP : mg "check_part" = some (.ref fP))
    (FU : Fun K "check_rules" "check_rules" sCkRules fU fdU) (GU : FnOk P w K mg base (L2.CX P w) 3 fU fdU ["order", "lacks"] (spCkRules Cs)) (bU : Binds K fdU ["order", "lacks"] []) (mU : mg "check_rules" = some (.ref fU))
    (FF : Fun K "fresh" "fresh" sFresh fF fdF) (GF : FnOk P w K mg base CX0 50 fF fdF ["thing"] (spCopy 50)) (bF : Binds K fdF ["thing"] []) (mF : mg "fresh" = some (.ref fF)) : FnOk P w K mg base (L2.CX P w) 51 f fd ["self", "part", "order", "lacks"] (spInit Cs C) := by
  refine F.okX scIn (fun vs H Q E h => ?_) (fun cdv A outer s H vs Q E hr h => ?_)
  · obtain ⟨x, dx, v, r, s, d, f, rfl, _⟩ := h
    rfl
  obtain ⟨x, dx, v, r, s, d, ff, rfl, hx, hR, hT, hGd, kk, ke⟩ := h
  have hr3 := hr.mono (show 3 ≤ 50 by decide)
  have hr31 := hr.mono (show 31 ≤ 50 by decide)
  refine ⟨_, pss_cons (ps_expr (pe_call GP hr31 rfl mP FP.kp bP .nil (passes_call (takes_of rfl rfl rfl rfl) fun _ _ _ _ h => h) (pa_cons (pv 1) pa_nil)))
    (pss_cons (ps_expr (pe_call GU hr3 rfl mU FU.kp bU .nil (passes_call (takes_of rfl rfl rfl rfl) fun _ _ _ _ h => h) (pa_cons (pv 2) (pa_cons (pv 3) pa_nil))))
    (pss_cons (ps_fld (pv 0) (pe_call GF hr rfl mF FF.kp bF .nil pass0 (pa_cons (pv 1) pa_nil)) rfl)
    (pss_cons (ps_fld (pv 0) (pv 2) rfl) (pss_one (ps_fld (pv 0) (pv 3) rfl))))), ?_⟩
  rcases hT with ⟨e, h1, h2⟩ | ⟨h1, h2⟩
  · exact ⟨_, rfl, v, d, 7, some e, rfl, hR, h1, by decide, ke e h2⟩
  refine ⟨_, rfl, v, d, 7, none, rfl, hR, h1, by decide, fun H1 hs1 => ⟨_, rfl, _, rfl, r, s, rfl, ?_⟩⟩
  rw [← h2]
  cases ff with
  | some e => exact Thr.same (ke e rfl) hs1
  | none =>
    intro H2 hs2
    have hs12 := hs1.trans hs2
    refine ⟨_, rfl, v, d, 40, rfl, by decide, hR.same hs12, hGd.cp, fun u H3 G hs3 hr3 hG => ?_⟩
    have hs123 := hs12.trans hs3
    have hx3 := hs123 _ _ hx
    refine ⟨_, rfl, x, C, dx, [], rfl, hx3, CC.cl, CC.nP, (by show 0 < 1000; decide), _, rfl, _, rfl, x, C, dx, _, rfl, upd_same, CC.cl, CC.nO, (by show 1 < 1000; decide), _, rfl, _, rfl, x, C, dx, _, rfl, upd_same, CC.cl, CC.nL, (by show 2 < 1000; decide), ?_⟩
    have hb : But x H3 (upd (upd (upd H3 x (.ins C dx (putF "_part" u []))) x (.ins C dx (putF "_order" (.str r) (putF "_part" u [])))) x (.ins C dx (pfs u r s))) := fun b o n e => by
      rw [upd_ne n, upd_ne n, upd_ne n]
      exact e
    exact kk rfl u _ G ((But.of hs123).trans hb) upd_same (hr3.lt (.ins hx3 hb)) fun a ha => hs12.free (hG a ha)
theorem scGp : FnScope ["self"] ["self"] (defScope sGPart) := ⟨rfl, rfl, rfl, by decide +kernel, rfl, by decide +kernel, by decide +kernel⟩
theorem ok_gpart {f C fF : Addr} {fd fdF : FuncData} (F : Fun K "part" "Pattern.part" sGPart f fd) (CC : PCls K C)
    (FF : Fun K "fresh" "fresh" sFresh fF fdF) (GF : FnOk P w K mg base CX0 50 fF fdF ["thing"] (spCopy 50)) (bF : Binds K fdF ["thing"] []) (mF : mg "fresh" = some (.ref fF)) : FnOk P w K mg base CX0 51 f fd ["self"] (spGPart C) := by
  refine F.ok scGp (fun vs H Q E h => ?_) (fun cdv A outer s H vs Q E hr h => ?_)
  · obtain ⟨o, d, r, s, G, rfl, _⟩ := h
    rfl
  obtain ⟨o, d, r, s, G, rfl, ⟨dx, v, ho, hR⟩, hT, kk⟩ := h
  refine ⟨_, pss_one (ps_ret (pe_call GF hr rfl mF FF.kp bF .nil pass0 (pa_cons (pe_fld (pv 0) rfl) pa_nil))), ?_⟩
  exact ⟨_, rfl, o, C, dx, _, _, rfl, ho, CC.cl, CC.nP, pfs_part _ _ _, v, d, 40, rfl, by decide, hR.rw, hT.cp, fun u H3 G3 hs3 hr3 hG => kk u H3 G3 hs3 hr3 hG⟩
theorem scGo : FnScope ["self"] ["self"] (defScope sGOrd) := ⟨rfl, rfl, rfl, by decide +kernel, rfl, by decide +kernel, by decide +kernel⟩
theorem ok_gord {f C : Addr} {fd : FuncData} (F : Fun K "order" "Pattern.order" sGOrd f fd) (CC : PCls K C) : FnOk P w K mg base CX0 1 f fd ["self"] (spGOrd C) := by
  refine F.ok scGo (fun vs H Q E h => ?_) (fun cdv A outer s H vs Q E hr h => ?_)
  · obtain ⟨o, d, r, s, G, rfl, _⟩ := h
    rfl
  obtain ⟨o, d, r, s, G, rfl, ⟨dx, v, ho, hR⟩, kk⟩ := h
  exact ⟨_, pss_one (ps_ret (pe_fld (pv 0) rfl)), _, rfl, o, C, dx, _, _, rfl, ho, CC.cl, CC.nO, pfs_order _ _ _, kk⟩
theorem scGl : FnScope ["self"] ["self"] (defScope sGLck) := ⟨rfl, rfl, rfl, by decide +kernel, rfl, by decide +kernel, by decide +kernel⟩
theorem ok_glck {f C : Addr} {fd : FuncData} (F : Fun K "lacks" "Pattern.lacks" sGLck f fd) (CC : PCls K C) : FnOk P w K mg base CX0 1 f fd ["self"] (spGLck C) := by
  refine F.ok scGl (fun vs H Q E h => ?_) (fun cdv A outer s H vs Q E hr h => ?_)
  · obtain ⟨o, d, r, s, G, rfl, _⟩ := h
    rfl
  obtain ⟨o, d, r, s, G, rfl, ⟨dx, v, ho, hR⟩, kk⟩ := h
  exact ⟨_, pss_one (ps_ret (pe_fld (pv 0) rfl)), _, rfl, o, C, dx, _, _, rfl, ho, CC.cl, CC.nL, pfs_lacks _ _ _, kk⟩
theorem kb_init {fI : Addr} {fdI : FuncData} (F : Fun K "__init__" "Pattern.__init__" sInit fI fdI) : KBn K fdI ["self", "part", "order", "lacks"] 1 ["order", "part", "lacks"] turnKw turnKw := by
  obtain ⟨oc, od, kV, doc, pm, an, cdv, ct, osl, rfl, lk, hcd⟩ := F.ex
  refine ⟨fun s us ws _ h1 h2 => ?_, fun r1 r2 => r1.append (((r2.drop 1).take 1).append ((r2.take 1).append (r2.drop 2)))⟩
  match us, h1, ws, h2 with
  | [_], _, [_, _, _], _ => exact .of_eq rfl
theorem scCg : FnScope ["handed", "plan", "mode", "found", "e", "flags", "rest"] ["handed", "plan", "mode"] (defScope sCaught) := ⟨rfl, rfl, rfl, by decide +kernel, rfl, by decide +kernel, by decide +kernel⟩
theorem ok_caught {f C fI : Addr} {fd fdI : FuncData} (F : Fun K "_law_ta_caught" "_law_ta_caught" sCaught f fd) (T : Txt K mg) (zV : mg "ValueError" = none) (CC : PCls K C) (M : Mk K C fI) (mP : mg "Pattern" = some (.ref C)) (EC : ECls K mg Cs fI0)
    (FI : Fun K "__init__" "Pattern.__init__" sInit fI fdI) (GI : FnOk P w K mg base (L2.CX P w) 51 fI fdI ["self", "part", "order", "lacks"] (spInit Cs C)) (bI : Binds K fdI ["self", "part", "order", "lacks"] []) : FnOk P w K mg base CX0 54 f fd ["handed", "plan", "mode"] (spCaught C) := by
  refine F.ok scCg (fun vs H Q E h => ?_) (fun cdv A outer s H vs Q E hr h => ?_)
  · obtain ⟨v, t, mode, u, d, r, s, f, rfl, _⟩ := h
    rfl
  obtain ⟨v, t, mode, u, d, r, s, ff, rfl, hR, ht, hT, hGd, hv, kk⟩ := h
  have hr52 := hr.mono (show 51 + 1 ≤ 53 by decide)
  refine ⟨_, pss_cons (ps_set (i := 3) scCg.nd rfl (Or.inl rfl) (pe_lst pa_nil))
    (pss_cons (ps_try_as (i := 4) (tb := t_try K Cs C) (ts := t_suite K Cs) (Wout := fun _ _ _ _ => False) rfl rfl scCg.nd rfl rfl ⟨rfl, by decide, Or.inl (EC.mg 0 _ rfl)⟩ takes0
      (fun W pn xe tk _ => pss_one (ps_if (pt_cmpR op_eq (pv 2) pe_int (nomark _))
          (pss_one (ps_set (i := 3) scCg.nd rfl (Or.inl rfl) (by exact (pe_lst (pa_cons pe_str (pa_cons (pe_makeS M GI hr52 rfl mP bI (fun σ => passAt tk σ) (by exact (pa_cons (pv 0) (pa_cons (pe_ix ix_tup (pv 1) pe_int (fun _ _ => rfl)) (pa_cons (pe_ix ix_tup (pv 1) pe_int (fun _ _ => rfl)) pa_nil))))) pa_nil))))))
          (pss_one (ps_set (i := 3) scCg.nd rfl (Or.inl rfl) (by exact (pe_lst (pa_cons pe_str (pa_cons (pe_makeKS (ks := ["order", "part", "lacks"]) M GI hr52 rfl mP (kb_init FI) (fun σ => passAt tk σ) (by exact (pk_cons (pe_ix ix_tup (pv 1) pe_int (fun _ _ => rfl)) (pk_cons (pv 0) (pk_cons (pe_ix ix_tup (pv 1) pe_int (fun _ _ => rfl)) pk_nil))))) pa_nil))))))))
      (fun a oe cls d pn hz hf => pss_cons (ps_set (i := 5) scCg.nd rfl (Or.inl rfl) (by exact (pe_lst
            (pa_cons (pe_callB (call_isS hz hf) (by rfl) T.isi boot_isinstance (pa_cons (pv 4) (pa_cons (pe_glob (v := .ref (Cs 1)) rfl (EC.mg 1 _ rfl) rfl) pa_nil)))
            (pa_cons (pe_callB (call_isS hz hf) (by rfl) T.isi boot_isinstance (pa_cons (pv 4) (pa_cons (pe_glob (v := .ref (Cs 2)) rfl (EC.mg 2 _ rfl) rfl) pa_nil)))
            (pa_cons (pe_callB (call_isS hz hf) (by rfl) T.isi boot_isinstance (pa_cons (pv 4) (pa_cons (pe_glob (v := .ref (Cs 3)) rfl (EC.mg 3 _ rfl) rfl) pa_nil))) pa_nil))))))
          (pss_cons (ps_set (i := 5) scCg.nd rfl (Or.inl rfl) (by exact (pe_op op_cat (pv 5) (pe_lst
            (pa_cons (pe_callB (call_isS hz hf) (by rfl) T.isi boot_isinstance (pa_cons (pv 4) (pa_cons (pe_glob (v := .ref (Cs 4)) rfl (EC.mg 4 _ rfl) rfl) pa_nil)))
            (pa_cons (pe_callB (call_isS hz hf) (by rfl) T.isi boot_isinstance (pa_cons (pv 4) (pa_cons (pe_glob (v := .ref (Cs 5)) rfl (EC.mg 5 _ rfl) rfl) pa_nil)))
            (pa_cons (pe_callB (call_isS hz hf) (by rfl) T.isi boot_isinstance (pa_cons (pv 4) (pa_cons (pe_bltn (v := .ty "ValueError") (by rfl) zV (by decide +kernel) rfl) pa_nil))) pa_nil)))))))
          (pss_cons (ps_set (i := 6) scCg.nd rfl (Or.inl rfl) (by exact (pe_callB (call_isST hz hf) (by rfl) T.isi boot_isinstance (pa_cons (pv 4) (pa_cons (pe_tup
            (pa_cons (pe_glob (v := .ref (Cs 6)) rfl (EC.mg 6 _ rfl) rfl) (pa_cons (pe_glob (v := .ref (Cs 7)) rfl (EC.mg 7 _ rfl) rfl) (pa_cons (pe_glob (v := .ref (Cs 8)) rfl (EC.mg 8 _ rfl) rfl)
            (pa_cons (pe_glob (v := .ref (Cs 9)) rfl (EC.mg 9 _ rfl) rfl) (pa_cons (pe_glob (v := .ref (Cs 10)) rfl (EC.mg 10 _ rfl) rfl) pa_nil)))))) pa_nil)))))
          (pss_one (ps_set (i := 3) scCg.nd rfl (Or.inl rfl) (by exact (pe_lst (pa_cons pe_str (pa_cons (pe_op op_cat (pv 5) (pe_lst (pa_cons (pv 6) pa_nil))) (pa_cons (pe_valS hz hf (pv 4)) pa_nil)))))))))))
    (pss_one (ps_ret (pv 3)))), ?_⟩
  have t1 : atI [u, V.str r, V.str s] 1 = some (.str r) := atI_nat (j := 1) rfl
  have t2 : atI [u, V.str r, V.str s] 2 = some (.str s) := atI_nat (j := 2) rfl
  refine ⟨by show 0 ≤ sizeLine; decide, fun l0 hl0 => ?_⟩
  have s0 := same_new hl0 (.lst [])
  show t_try K Cs C _ _ _ (upd H l0 (.lst []))
  generalize upd H l0 (.lst []) = H0 at s0
  have ht0 := SqT.of (K := K) (s0 _ _ ht)
  -- it is made
  have made : ff = none → ∀ (H1 : Hp) (o : Addr) (G : List Addr), Same H H1 → H o = none → PatAt C H1 o d r s G → (∀ a ∈ G, H a = none) → (3 - 1 ≤ sizeLine) ∧ ∀ l, H1 l = none → Q (.ref l) (upd H1 l (.lst [.str (Str.ofString "made"), .ref o])) := fun hf H1 o G hs ho pa hG => by
    refine ⟨by decide, fun l hl => ?_⟩
    subst hf
    have st := same_new hl (.lst [.str (Str.ofString "made"), .ref o])
    obtain ⟨dx, w1, e1, e2⟩ := pa
    exact kk l _ (hs.trans st) (hs.free hl) ⟨o, G, upd_same, ho, ⟨dx, w1, st _ _ e1, e2.same st⟩, hG⟩
  -- it is refused
  have refused : ∀ (D : L2.Ends) (σ : L2.St), σ = [some v, some (.ref t), some (.int mode), some (.ref l0), none, none, none] → (∀ (l : Addr) (H' : Hp) (v5 v6 : Option V), Q (.ref l) H' → D.nx [some v, some (.ref t), some (.int mode), some (.ref l), none, v5, v6] H') → ∀ e, ff = some e → ∀ H1, Same H H1 → Thr Cs H1 (WE (wAs K (.ref (Cs 0)) 4 (t_suite K Cs) (fun _ _ _ _ => False) D) σ) e := by
    rintro D _ rfl hD ⟨c, dat⟩ rfl H1 hs1 dd H2 w G hs2 hdd0 hdd hr hG
    obtain ⟨hc1, hc5, _⟩ := hv _ rfl
    have hc : c < 11 := Nat.lt_of_le_of_lt hc5 (by decide)
    have hs := hs1.trans hs2
    refine ⟨true, EC.exm c hc, fun _ a _ => ?_, fun z => nomatch z⟩
    have ew := EC.ew c hc
    have kit := fun j hj => EC.kit c j hc hj
    refine ⟨_, rfl, Cs c, dd, _, .ref (Cs 1), .ref (Cs 1), _, rfl, rfl, ew, rfl, .own _, hdd, kit 1 (by decide), _, rfl, Cs c, dd, _, .ref (Cs 2), .ref (Cs 2), _, rfl, rfl, ew, rfl, .own _, hdd, kit 2 (by decide), _, rfl, Cs c, dd, _, .ref (Cs 3), .ref (Cs 3), _, rfl, rfl, ew, rfl, .own _, hdd, kit 3 (by decide), by show 3 ≤ sizeLine; decide, fun l1 hl1 => ?_⟩
    have s1 := same_new hl1 (.lst [V.bl (decide (1 = 0 ∨ 1 = c)), V.bl (decide (2 = 0 ∨ 2 = c)), V.bl (decide (3 = 0 ∨ 3 = c))])
    have hdd1 := s1 _ _ hdd
    have hr1 := hr.same s1
    have hl11 : (upd H2 l1 (.lst [V.bl (decide (1 = 0 ∨ 1 = c)), V.bl (decide (2 = 0 ∨ 2 = c)), V.bl (decide (3 = 0 ∨ 3 = c))])) l1 = some (.lst [V.bl (decide (1 = 0 ∨ 1 = c)), V.bl (decide (2 = 0 ∨ 2 = c)), V.bl (decide (3 = 0 ∨ 3 = c))]) := upd_same
    show tSeq _ _ _ _ (upd H2 l1 (.lst [V.bl (decide (1 = 0 ∨ 1 = c)), V.bl (decide (2 = 0 ∨ 2 = c)), V.bl (decide (3 = 0 ∨ 3 = c))]))
    generalize upd H2 l1 (.lst [V.bl (decide (1 = 0 ∨ 1 = c)), V.bl (decide (2 = 0 ∨ 2 = c)), V.bl (decide (3 = 0 ∨ 3 = c))]) = H3 at s1 hdd1 hr1 hl11
    refine ⟨_, rfl, _, rfl, Cs c, dd, _, .ref (Cs 4), .ref (Cs 4), _, rfl, rfl, ew, rfl, .own _, hdd1, kit 4 (by decide), _, rfl, Cs c, dd, _, .ref (Cs 5), .ref (Cs 5), _, rfl, rfl, ew, rfl, .own _, hdd1, kit 5 (by decide), _, rfl, Cs c, dd, _, .ty "ValueError", .type "ValueError", _, rfl, rfl, ew, rfl, .ty _, hdd1, EC.kitV c hc, by show 3 ≤ sizeLine; decide, fun l2 hl2 => ?_⟩
    have s2 := same_new hl2 (.lst [V.bl (decide (4 = 0 ∨ 4 = c)), V.bl (decide (5 = 0 ∨ 5 = c)), V.bl true])
    refine ⟨l1, l2, _, _, rfl, rfl, s2 _ _ hl11, upd_same, by show 3 + 3 ≤ sizeLine; decide, fun l3 hl3 => ?_⟩
    have hl33 : (upd (upd H3 l2 (.lst [V.bl (decide (4 = 0 ∨ 4 = c)), V.bl (decide (5 = 0 ∨ 5 = c)), V.bl true])) l3 (.lst ((flagsOf c).map V.bl))) l3 = some (.lst ((flagsOf c).map V.bl)) := upd_same
    have s3 := (s1.trans s2).trans (same_new hl3 (.lst ((flagsOf c).map V.bl)))
    show tSeq _ _ _ _ (upd (upd H3 l2 (.lst [V.bl (decide (4 = 0 ∨ 4 = c)), V.bl (decide (5 = 0 ∨ 5 = c)), V.bl true])) l3 (.lst ((flagsOf c).map V.bl)))
    generalize upd (upd H3 l2 (.lst [V.bl (decide (4 = 0 ∨ 4 = c)), V.bl (decide (5 = 0 ∨ 5 = c)), V.bl true])) l3 (.lst ((flagsOf c).map V.bl)) = H4 at s3 hl33
    refine ⟨_, rfl, by show 5 ≤ sizeLine; decide, fun tp htp => ?_⟩
    have s4 := s3.trans (same_new htp (.tup [V.ref (Cs 6), V.ref (Cs 7), V.ref (Cs 8), V.ref (Cs 9), V.ref (Cs 10)]))
    have no : ∀ j, j < 11 → 6 ≤ j → PySem.W.kitOne K (.ref (Cs c)) (.ref (Cs j)) = some false := fun j hj h6 => by
      rw [kit j hj, decide_eq_false (by omega)]
    refine ⟨Cs c, dd, _, tp, _, _, false, rfl, rfl, ew, rfl, upd_same, .cons (.own _) (.cons (.own _) (.cons (.own _) (.cons (.own _) (.cons (.own _) .nil)))), s4 _ _ hdd,
      kitAny_cons (no 6 (by decide) (by decide)) (fun _ => kitAny_cons (no 7 (by decide) (by decide)) (fun _ => kitAny_cons (no 8 (by decide) (by decide)) (fun _ => kitAny_cons (no 9 (by decide) (by decide)) (fun _ => kitAny_cons (no 10 (by decide) (by decide)) (fun _ => kitAny_nil) fun z => nomatch z) fun z => nomatch z) fun z => nomatch z) fun z => nomatch z) (fun z => nomatch z), ?_⟩
    have hl34 := (same_new htp (.tup [V.ref (Cs 6), V.ref (Cs 7), V.ref (Cs 8), V.ref (Cs 9), V.ref (Cs 10)])) _ _ hl33
    generalize upd H4 tp (.tup [V.ref (Cs 6), V.ref (Cs 7), V.ref (Cs 8), V.ref (Cs 9), V.ref (Cs 10)]) = H5 at s4 hl34
    refine ⟨_, rfl, _, rfl, by show 1 ≤ sizeLine; decide, fun l5 hl5 => ?_⟩
    have s5 := s4.trans (same_new hl5 (.lst [V.bl false]))
    have hl35 := same_new hl5 (.lst [V.bl false]) _ _ hl34
    have hl55 : (upd H5 l5 (.lst [V.bl false])) l5 = some (.lst [V.bl false]) := upd_same
    refine ⟨l3, l5, _, _, rfl, rfl, hl35, hl55, by show 6 + 1 ≤ sizeLine; decide, fun l6 hl6 => ?_⟩
    have s6 := s5.trans (same_new hl6 (.lst ((flagsOf c).map V.bl ++ [V.bl false])))
    have hl66 : (upd (upd H5 l5 (.lst [V.bl false])) l6 (.lst ((flagsOf c).map V.bl ++ [V.bl false]))) l6 = some (.lst ((flagsOf c).map V.bl ++ [V.bl false])) := upd_same
    refine ⟨_, rfl, Cs c, dd, _, w, rfl, rfl, rfl, ew, EC.val c hc, s6 _ _ hdd, rfl, by show 3 ≤ sizeLine; decide, fun l7 hl7 => ?_⟩
    have st := same_new hl7 (.lst [V.str (Str.ofString "refused"), V.ref l6, w])
    have s7 := s6.trans st
    have r7 := hr.same s7
    have nin : ∀ {y : Addr} {Hy : Hp}, Same H2 Hy → Hy y = none → y ∉ G := fun sy hy z => by
      obtain ⟨zs, e⟩ := hr.at_ _ z
      rw [sy _ _ e] at hy
      cases hy
    refine hD l7 _ _ _ (kk l7 _ (hs.trans s7) ((hs.trans s6).free hl7) ⟨l6, w, G, upd_same, ?_, r7, nin s6 hl7, nin s5 hl6, fun a ha => hs1.free (hG a ha)⟩)
    rw [st _ _ hl66, List.map_append]
    rfl
  -- both ways of passing
  have go : ∀ (y dy : Addr) (Qi : VK) (D : L2.Ends) (σ : L2.St), H0 y = none → H0 dy = none → σ = [some v, some (.ref t), some (.int mode), some (.ref l0), none, none, none] → (∀ (l : Addr) (H' : Hp) (v5 v6 : Option V), Q (.ref l) H' → D.nx [some v, some (.ref t), some (.int mode), some (.ref l), none, v5, v6] H') →
      (ff = none → ∀ (H1 : Hp) (G : List Addr), Same H H1 → H y = none → PatAt C H1 y d r s G → (∀ a ∈ G, H a = none) → Qi .non H1) → spInit Cs C [.ref y, v, .str r, .str s] (upd (upd H0 dy (.own y)) y (.ins C dy [])) Qi (WE (wAs K (.ref (Cs 0)) 4 (t_suite K Cs) (fun _ _ _ _ => False) D) σ) := fun y dy Qi D σ hy hdy eσ hD hR1 => by
    have st := same_ins (C := C) hy hdy
    have sy := s0.trans st
    refine ⟨y, dy, v, r, s, d, ff, rfl, upd_same, hR.same sy, hT, hGd, fun hf w1 H' Go hb hx' hrw hG => ?_, fun e he => refused D σ eσ hD e he _ sy⟩
    have sx : Same H0 H' := But.same st hb hy
    exact hR1 hf H' Go (s0.trans sx) (s0.free hy) ⟨dy, w1, hx', hrw⟩ fun a ha => sy.free (hG a ha)
  refine ⟨_, rfl, rfl, _, rfl, ?_⟩
  refine ite2 (fun _ => ?_) (fun _ => ?_)
  · refine ⟨_, rfl, _, rfl, t, _, 1, _, rfl, rfl, ht0, t1, _, rfl, t, _, 2, _, rfl, rfl, ht0, t2, fun y dy hy hdy _ => ?_⟩
    refine go y dy _ _ _ hy hdy rfl ?_ ?_
    · exact fun l H' v5 v6 q => ⟨_, rfl, q⟩
    · intro hf H1 G hs ho pa hG
      obtain ⟨g1, g2⟩ := made hf H1 y G hs ho pa hG
      exact ⟨rfl, g1, fun l hl => ⟨_, rfl, g2 l hl⟩⟩
  · refine ⟨_, rfl, t, _, 1, _, rfl, rfl, ht0, t1, _, rfl, _, rfl, t, _, 2, _, rfl, rfl, ht0, t2, rfl, fun y dy hy hdy _ => ?_⟩
    refine go y dy _ _ _ hy hdy rfl ?_ ?_
    · exact fun l H' v5 v6 q => ⟨_, rfl, q⟩
    · intro hf H1 G hs ho pa hG
      obtain ⟨g1, g2⟩ := made hf H1 y G hs ho pa hG
      exact ⟨rfl, g1, fun l hl => ⟨_, rfl, g2 l hl⟩⟩
end
end K03
set_option Elab.async false
set_option linter.all false
set_option maxRecDepth 100000
set_option maxHeartbeats 4000000
namespace K03
open PySem L2 PyProof.Rows
mutual
theorem fits_mark {c : Nat} : ∀ {n : Nat} (d : D) (k : Int), Fits c n d → Fits (c + 1) n (mark d k).1
  | 0, d, k, h => by
    obtain ⟨v, rfl⟩ := h
    exact ⟨v, rfl⟩
  | n + 1, .leaf v, k, h => trivial
  | n + 1, .lst ds, k, h => by
    refine ⟨?_, fun e he => ?_⟩
    · rw [List.length_append, marks_len]
      exact Nat.succ_le_succ h.1
    · rcases List.mem_append.mp he with z | z
      · exact fits_marks ds k h.2 e z
      · rw [List.mem_singleton.mp z]
        exact Fits.leaf
  | n + 1, .tup ds, k, h => by
    refine ⟨?_, fun e he => fits_marks ds k h.2 e he⟩
    rw [marks_len]
    exact Nat.le_succ_of_le h.1
theorem fits_marks {c : Nat} : ∀ {n : Nat} (ds : List D) (k : Int), (∀ e ∈ ds, Fits c n e) → ∀ e ∈ (marks ds k).1, Fits (c + 1) n e
  | n, [], k, h, e, he => nomatch he
  | n, d :: ds, k, h, e, he => by
    rcases List.mem_cons.mp he with z | z
    · rw [z]
      exact fits_mark d k (h d List.mem_cons_self)
    · exact fits_marks ds _ (fun e m => h e (List.mem_cons_of_mem _ m)) e z
end
def wordsT : List Str := ["InvalidName", "InvalidPart", "InvalidTerm", "DoubleField", "InvalidRule"].map Str.ofString
theorem words_is : ∀ c, c < 6 → 1 ≤ c → wordsT.map (fun z => decide (V.str (wd c) = V.str z)) ++ [true, false] = flagsOf c ++ [false] := by decide +kernel
theorem flags_shaped : ∀ c, c < 6 → SeqAt.shaped (.list ((flagsOf c ++ [false]).map PyData.bool)) = true := by decide +kernel
theorem flags_eqv : ∀ c, c < 6 → PyData.eqv (.list ((flagsOf c ++ [false]).map PyData.bool)) (.list ((flagsOf c ++ [false]).map PyData.bool)) = true := by decide +kernel
theorem dpAll_bl {K : PySem.W.Frag} {H : Hp} : ∀ bs : List Bool, DpAll K H (bs.map V.bl) (bs.map PyData.bool)
  | [] => .nil
  | b :: bs => .cons (.bl b) (dpAll_bl bs)
/-- what was caught, wherever it stands -/
def CWide (C : Addr) (H : Hp) (l : Addr) (d : D) (r s : Str) (f : Fl) : Prop := match f with
  | none => ∃ o G, H l = some (.lst [.str (Str.ofString "made"), .ref o]) ∧ PatAt C H o d r s G
  | some e => ∃ fl u, H l = some (.lst [.str (Str.ofString "refused"), .ref fl, u]) ∧ H fl = some (.lst ((flagsOf e.1 ++ [false]).map V.bl)) ∧ RW H e.2 u
theorem CRes.wide {C : Addr} {H H' : Hp} {l : Addr} {d : D} {r s : Str} {f : Fl} (h : CRes C H H' l d r s f) : CWide C H' l d r s f := by
  cases f with
  | none =>
    obtain ⟨o, G, h1, _, h2, _⟩ := h
    exact ⟨o, G, h1, h2⟩
  | some e =>
    obtain ⟨fl, u, G, h1, h2, h3, _⟩ := h
    exact ⟨fl, u, h1, h2, h3.rw⟩
def spCRight (C : Addr) : Sp := fun vs H Q _ => ∃ (l t lf : Addr) (u : V) (d : D) (r s : Str) (f : Fl), vs = [.ref l, .ref t, .ref lf] ∧ CWide C H l d r s f ∧ H t = some (.tup [u, .str r, .str s]) ∧ RW H d u ∧ FRes H lf f ∧ Good 40 d ∧ OkT r ∧ OkT s ∧ (∀ e, f = some e → VOk e) ∧
  ∀ H', Same H H' → Q (.bl true) H'
section
variable {P : Program} {w : World} {K : PySem.W.Frag} {mg : Str → Option Value} {base : Heap}
theorem scCR : FnScope ["found", "plan", "fault", "made", "words", "word"] ["found", "plan", "fault"] (defScope sCRight) := ⟨rfl, rfl, rfl, by decide +kernel, rfl, by decide +kernel, by decide +kernel⟩
theorem ok_cright {f C fG fO fL fS pP pO pL : Addr} {fd fdG fdO fdL fdS : FuncData} (F : Fun K "_law_ta_caught_right" "_law_ta_caught_right" sCRight f fd) (T : Txt K mg) (CC : PCls K C)
    (pg : PropOf K C "part" pP fG) (GG : FnOk P w K mg base CX0 51 fG fdG ["self"] (spGPart C)) (bG : Binds K fdG ["self"] [])
    (po : PropOf K C "order" pO fO) (GO : FnOk P w K mg base CX0 1 fO fdO ["self"] (spGOrd C)) (bO : Binds K fdO ["self"] [])
    (pl : PropOf K C "lacks" pL fL) (GL : FnOk P w K mg base CX0 1 fL fdL ["self"] (spGLck C)) (bL : Binds K fdL ["self"] [])
    (FS : Fun K "_law_ta_same" "_law_ta_same" sSame fS fdS) (GS : FnOk P w K mg base CX0 50 fS fdS ["told", "owed"] (spSame 50)) (bS : Binds K fdS ["told", "owed"] []) (mS : mg "_law_ta_same" = some (.ref fS)) : FnOk P w K mg base CX0 53 f fd ["found", "plan", "fault"] (spCRight C) := by
  refine F.ok scCR (fun vs H Q E h => ?_) (fun cdv A outer s H vs Q E hr h => ?_)
  · obtain ⟨l, t, lf, u, d, r, s, f, rfl, _⟩ := h
    rfl
  obtain ⟨l, t, lf, u, d, r, s, ff, rfl, hC, ht, hu, hF, hGd, hr0, hs0, hv, kk⟩ := h
  have hr1 := hr.mono (show 1 ≤ 52 by decide)
  have hr50 := hr.mono (show 50 ≤ 52 by decide)
  have hr51 := hr.mono (show 51 ≤ 52 by decide)
  refine ⟨_, pss_cons (ps_if (pt_cmpR (op_eqD hr.units) (pv 2) (pe_lst pa_nil) (nomark _))
      (pss_cons (ps_if (pt_cmpR op_ne (pe_ix ix_list (pv 0) pe_int (fun _ _ => rfl)) pe_str (nomark _)) pss_never pss_nil)
      (pss_cons (ps_set (i := 3) scCR.nd rfl (Or.inl rfl) (pe_ix ix_list (pv 0) pe_int (fun _ _ => rfl)))
      (pss_one (ps_ret (pe_and (pe_call GS hr50 rfl mS FS.kp bS .nil pass0 (pa_cons (pe_prop (pv 3) CC.cl pg GG (hr.mono (show 51 + 1 ≤ 52 by decide)) bG .nil pass0 rfl) (pa_cons (pe_ix ix_tup (pv 1) pe_int (fun _ _ => rfl)) pa_nil)))
        (pe_one (pe_cmpR (op_eqD hr.units) (pe_tup (pa_cons (pe_prop (pv 3) CC.cl po GO (hr.mono (show 1 + 1 ≤ 52 by decide)) bO .nil pass0 rfl) (pa_cons (pe_prop (pv 3) CC.cl pl GL (hr.mono (show 1 + 1 ≤ 52 by decide)) bL .nil pass0 rfl) pa_nil)))
          (pe_tup (pa_cons (pe_ix ix_tup (pv 1) pe_int (fun _ _ => rfl)) (pa_cons (pe_ix ix_tup (pv 1) pe_int (fun _ _ => rfl)) pa_nil))) (nomark _)))))))) pss_nil)
    (pss_cons (ps_if (pt_cmpR op_ne (pe_ix ix_list (pv 0) pe_int (fun _ _ => rfl)) pe_str (nomark _)) pss_never pss_nil)
    (pss_cons (ps_set (i := 4) scCR.nd rfl (Or.inl rfl) (pe_lst (pa_cons pe_str (pa_cons pe_str (pa_cons pe_str (pa_cons pe_str (pa_cons pe_str pa_nil)))))))
    (pss_cons (ps_if (pt_cmpR (op_neD hr.units) (pe_ix ix_list (pv 0) pe_int (fun _ _ => rfl)) (pe_op op_cat (pe_lc (own := [("word", 5)]) (g := gName 5) (tt := tYes) rfl scCR.nd (pi_list (pv 4)) (blkOk_by (N := ["found", "plan", "fault", "made", "words", "word"]) (sc := defScope sCRight) (by decide +kernel)) (fun _ _ _ _ _ => pg_name (i := 5) scCR.nd rfl (Or.inl rfl)) (fun _ _ _ _ _ => pts_nil)
        (fun _ _ _ _ _ => pe_cmpR op_eq (pe_ix (show IxR _ (rIxL K) from ix_list) (pv 2) pe_int (fun _ _ => rfl)) (pv 5) (nomark _))) (pe_lst (pa_cons pe_bl (pa_cons pe_bl pa_nil)))) (nomark _)) pss_never pss_nil)
    (pss_one (ps_ret (pe_call GS hr50 rfl mS FS.kp bS .nil pass0 (pa_cons (pe_ix ix_list (pv 0) pe_int (fun _ _ => rfl)) (pa_cons (pe_ix ix_list (pv 2) pe_int (fun _ _ => rfl)) pa_nil)))))))), ?_⟩
  have t0 : atI [u, V.str r, V.str s] 0 = some u := atI_nat (j := 0) rfl
  have t1 : atI [u, V.str r, V.str s] 1 = some (.str r) := atI_nat (j := 1) rfl
  have t2 : atI [u, V.str r, V.str s] 2 = some (.str s) := atI_nat (j := 2) rfl
  refine ⟨_, rfl, by show 0 ≤ sizeLine; decide, fun q hq => ?_⟩
  have s1 := same_new hq (.lst [])
  have hF1 := hF.same s1
  refine eq_found hF1 hv (SqL.of upd_same) ⟨_, rfl, ?_⟩
  generalize upd H q (.lst []) = H1 at s1 hF1
  cases ff with
  | none =>
    refine iteT ?_
    obtain ⟨o, G, hl, dx, w1, ho, hR⟩ := hC
    have hl1 := s1 _ _ hl
    have pat : ∀ {H2 : Hp}, Same H H2 → PatAt C H2 o d r s G := fun s2 => ⟨dx, w1, s2 _ _ ho, hR.same s2⟩
    refine ⟨_, rfl, l, _, _, _, rfl, rfl, SqL.of hl1, atI_nat (j := 0) rfl, rfl, _, rfl, ifF (by rw [decide_eq_true rfl]; rfl) ?_⟩
    refine ⟨_, rfl, l, _, _, _, rfl, rfl, SqL.of hl1, atI_nat (j := 1) rfl, ?_⟩
    refine ⟨_, rfl, o, dx, _, rfl, s1 _ _ ho, o, d, r, s, G, rfl, pat s1, hGd, fun u2 H2 G2 hs2 hr2 hG2 => ?_⟩
    have hs12 := s1.trans hs2
    refine ⟨_, rfl, t, _, 0, _, rfl, rfl, SqT.of (hs12 _ _ ht), t0, u2, u, d, 40, rfl, by decide, hr2.rw, hu.same hs12, hGd.cp, fun H3 hs3 => ⟨true, rfl, iteT ?_⟩⟩
    have hs13 := hs12.trans hs3
    refine ⟨_, rfl, o, dx, _, rfl, hs13 _ _ ho, o, d, r, s, G, rfl, pat hs13, _, rfl, o, dx, _, rfl, hs13 _ _ ho, o, d, r, s, G, rfl, pat hs13, by show 2 ≤ sizeLine; decide, fun p1 hp1 => ?_⟩
    have s4 := hs13.trans (same_new hp1 (.tup [V.str r, V.str s]))
    have hp11 : (upd H3 p1 (.tup [V.str r, V.str s])) p1 = some (.tup [V.str r, V.str s]) := upd_same
    refine ⟨_, rfl, t, _, 1, _, rfl, rfl, SqT.of (s4 _ _ ht), t1, _, rfl, t, _, 2, _, rfl, rfl, SqT.of (s4 _ _ ht), t2, by show 2 ≤ sizeLine; decide, fun p2 hp2 => ?_⟩
    have s5 := same_new hp2 (.tup [V.str r, V.str s])
    have sh : SeqAt.shaped (.tuple [.str r, .str s]) = true := by simp [SeqAt.shaped, PyData.canLay0, PyData.canLayAll0, PyData.depth, PyData.depthAll, tx_ok hr0, tx_ok hs0]
    refine ⟨.tuple [.str r, .str s], .tuple [.str r, .str s], .tup (SqT.of (s5 _ _ hp11)) (.cons (.str _) (.cons (.str _) .nil)), .tup (SqT.of upd_same) (.cons (.str _) (.cons (.str _) .nil)), sh, sh, ?_⟩
    have e1 : PyData.eqv (.tuple [.str r, .str s]) (.tuple [.str r, .str s]) = true := by simp [PyData.eqv, PyData.eqvAll]
    rw [e1]
    exact kk _ (s4.trans s5)
  | some e =>
    refine iteF ?_
    obtain ⟨hc1, hc5, hGe⟩ := hv e rfl
    have hc6 : e.1 < 6 := by omega
    obtain ⟨fl, x, hl, hfl, hx⟩ := hC
    obtain ⟨y, hlf1, hy1⟩ := hF1
    have hl1 := s1 _ _ hl
    refine ⟨_, rfl, l, _, _, _, rfl, rfl, SqL.of hl1, atI_nat (j := 0) rfl, rfl, _, rfl, ifF (by rw [decide_eq_true rfl]; rfl) ?_⟩
    refine ⟨by show 5 ≤ sizeLine; decide, fun lw hlw => ?_⟩
    have s2 := same_new hlw (.lst (wordsT.map V.str))
    have hlw2 : (upd H1 lw (.lst (wordsT.map V.str))) lw = some (.lst (wordsT.map V.str)) := upd_same
    show tSeq _ _ _ _ (upd H1 lw (.lst (wordsT.map V.str)))
    generalize upd H1 lw (.lst (wordsT.map V.str)) = H2 at s2 hlw2
    have s12 := s1.trans s2
    have hlf2 := s2 _ _ hlf1
    refine ⟨_, rfl, l, _, _, _, rfl, rfl, SqL.of (s12 _ _ hl), atI_nat (j := 1) rfl, _, rfl, lw, rfl, ⟨_, SqL.of hlw2⟩, fun D0 hD => ?_⟩
    have hwl : (wordsT.map V.str).length = 5 := rfl
    refine lc_list (K := K) (a := lw) (xs := wordsT.map V.str) (fun i H' => Same H2 H' ∧ H' D0 = some (.lst (((wordsT.take i).map fun z => decide (V.str (wd e.1) = V.str z)).map V.bl))) ⟨same_new hD _, upd_same⟩ (fun i H' _ ⟨h, _⟩ => SqL.of (h _ _ hlw2)) ?_ ?_
    · rintro i z H3 hi ⟨hs3, hD3⟩
      rw [List.getElem?_map] at hi
      obtain ⟨z0, hz0, rfl⟩ : ∃ z0, wordsT[i]? = some z0 ∧ V.str z0 = z := by
        cases e2 : wordsT[i]? with
        | none =>
          rw [e2] at hi
          cases hi
        | some q =>
          rw [e2] at hi
          exact ⟨q, rfl, Option.some.inj hi⟩
      have hi5 := (List.getElem?_eq_some_iff.mp hz0).1
      refine ⟨rfl, ?_⟩
      show tOp rEq (tOp (rIxL K) (tVar 2) (tC (.int 0))) (tVar 5) _ H3 _
      refine ⟨_, rfl, lf, _, _, _, rfl, rfl, SqL.of (hs3 _ _ hlf2), atI_nat (j := 0) rfl, _, rfl, rfl, ?_⟩
      refine ⟨_, hD3, ?_, same_put hs3 hD, ?_⟩
      · rw [List.length_map, List.length_map, List.length_take]
        exact Nat.lt_of_le_of_lt (Nat.min_le_right _ _) (by show 5 < sizeLine; decide)
      · rw [upd_same, List.take_add_one, hz0, List.map_append, List.map_append]
        rfl
    · rintro H3 ⟨hs3, hD3⟩
      rw [List.length_map, List.take_length] at hD3
      refine ⟨by show 2 ≤ sizeLine; decide, fun l4 hl4 => ?_⟩
      have s4 := same_new hl4 (.lst [V.bl true, V.bl false])
      refine ⟨D0, l4, _, _, rfl, rfl, s4 _ _ hD3, upd_same, by show 5 + 2 ≤ sizeLine; decide, fun l5 hl5 => ?_⟩
      have ew : ((wordsT.map fun z => decide (V.str (wd e.1) = V.str z)).map V.bl) ++ [V.bl true, V.bl false] = (flagsOf e.1 ++ [false]).map V.bl := by
        rw [← words_is e.1 hc6 hc1, List.map_append]
        rfl
      rw [ew]
      have s5 := same_new hl5 (.lst ((flagsOf e.1 ++ [false]).map V.bl))
      have s15 := ((s12.trans hs3).trans s4).trans s5
      refine ⟨.list ((flagsOf e.1 ++ [false]).map PyData.bool), .list ((flagsOf e.1 ++ [false]).map PyData.bool), .lst (SqL.of (s15 _ _ hfl)) (dpAll_bl _), .lst (SqL.of upd_same) (dpAll_bl _), flags_shaped _ hc6, flags_shaped _ hc6, _, rfl, ?_⟩
      rw [flags_eqv _ hc6]
      refine iteF ⟨_, rfl, l, _, _, _, rfl, rfl, SqL.of (s15 _ _ hl), atI_nat (j := 2) rfl, _, rfl, lf, _, _, _, rfl, rfl, SqL.of ((((s2.trans hs3).trans s4).trans s5) _ _ hlf1), atI_nat (j := 1) rfl, ?_⟩
      exact ⟨x, y, e.2, 6, rfl, by decide, hx.same s15, hy1.same (((s2.trans hs3).trans s4).trans s5), hGe.cp, fun H6 hs6 => kk H6 (s15.trans hs6)⟩
end
end K03
set_option Elab.async false
set_option linter.all false
set_option maxRecDepth 100000
set_option maxHeartbeats 4000000
namespace K03
open PySem L2 PyProof.Rows
/-! ### no list of three numbers, as a purse is -/
def isInt : D → Bool
  | .leaf (.int _) => true
  | _ => false
def npB : Nat → D → Bool
  | 0, d => match d with
    | .leaf _ => true
    | _ => false
  | _ + 1, .leaf _ => true
  | n + 1, .lst ds => !(decide (ds.length = 3) && ds.all isInt) && ds.all (npB n)
  | n + 1, .tup ds => ds.all (npB n)
theorem np_all : (badP ++ badT).all (npB 8) = true := by decide +kernel
theorem np_bad {d : D} (h : d ∈ badP ++ badT) : npB 8 d = true := List.all_eq_true.mp np_all d h
def NP (e : Nat × D) : Prop := npB 8 e.2 = true
theorem np_leaf {c : Nat} {v : V} : NP (c, .leaf v) := rfl
theorem np_nm {z : Str} {e : Nat × D} (h : nmF z = some e) : NP e := by
  unfold nmF at h
  split at h
  · cases h
  · cases h
    rfl
theorem first_np {α : Type} {R : α → Fl → Prop} {e : Nat × D} : ∀ {ts : List α}, (∀ t e', R t (some e') → NP e') → FirstF R ts (some e) → NP e
  | [], _, h => by cases h
  | t :: ts, hR, h => by
    rcases h with ⟨e', h1, h2⟩ | ⟨_, h2⟩
    · cases h2
      exact hR t _ h1
    · exact first_np hR h2
theorem TmF.np : ∀ {n : Nat} {d : D} {e : Nat × D}, TmF n d (some e) → NP e
  | 0, _, _, h => h.elim
  | n + 1, d, e, h => by
    rcases h with ⟨h, h2⟩ | ⟨i, _, h2⟩ | ⟨z, hz, _, h2⟩ | ⟨z, ts, hz, _, _, ⟨_, h2⟩ | ⟨_, h2⟩⟩
    · cases h2
      exact np_bad (List.mem_append_right _ h)
    · cases h2
    · exact np_nm h2.symm
    · exact np_nm h2.symm
    · exact first_np (fun t e' h => TmF.np h) h2
theorem DfF.np {d : D} {e : Nat × D} (h : DfF d (some e)) : NP e := by
  rcases h with ⟨_, h⟩ | h
  · cases h
  · exact h.np
theorem es_np {R : D → Fl → Prop} {row : Bool} {e : Nat × D} (hR : ∀ d e', R d (some e') → NP e') : ∀ {known : List Str} {qs : List (Str × D × D)}, EsF R row known qs (some e) → NP e
  | _, [], h => by cases h
  | known, q :: qs, h => by
    rcases h with ⟨_, hz, _, h2⟩ | ⟨_, hz, _, _, h2⟩ | ⟨_, ⟨e', h1, h2⟩ | ⟨_, ⟨e', h1, h2⟩ | ⟨_, h2⟩⟩⟩
    · exact np_nm h2.symm
    · cases h2
      rfl
    · cases h2
      exact hR _ _ h1
    · cases h2
      exact h1.np
    · exact es_np hR h2
theorem PtF.np : ∀ {n : Nat} {d : D} {e : Nat × D}, PtF n d (some e) → NP e
  | 0, _, _, h => h.elim
  | n + 1, d, e, h => by
    rcases h with ⟨h, h2⟩ | ⟨_, h2⟩ | ⟨z, hz, _, h2⟩ | ⟨row, qs, r, _, _, ⟨z, hz, _, _, h2⟩ | ⟨_, h2⟩⟩
    · cases h2
      exact np_bad (List.mem_append_left _ h)
    · cases h2
    · exact np_nm h2.symm
    · exact np_nm h2.symm
    · exact es_np (fun d e' h => PtF.np h) h2
theorem rule_np {r s : Str} {e : Nat × D} (h : ruleF r s = some e) : NP e := by
  unfold ruleF at h
  split at h
  · cases h
    rfl
  · split at h
    · cases h
      rfl
    · cases h
theorem PlanF.np {d : D} {r s : Str} {e : Nat × D} (h : PlanF d r s (some e)) : NP e := by
  rcases h with ⟨e', h, h2⟩ | ⟨_, h⟩
  · cases h2
    exact h.np
  · exact rule_np h.symm
theorem int_of {H : Hp} {d : D} {i : Int} (h : RW H d (.int i)) : isInt d = true := by
  cases d with
  | leaf w =>
    obtain ⟨rfl, _⟩ := h
    rfl
  | lst ds =>
    obtain ⟨a, xs, e, _⟩ := h
    cases e
  | tup ds =>
    obtain ⟨a, xs, e, _⟩ := h
    cases e
theorem ints_of {H : Hp} : ∀ {ds : List D} {is : List Int}, RWs H ds (is.map V.int) → ds.length = is.length ∧ ds.all isInt = true
  | [], is, h => by
    have e : is.map V.int = [] := h
    rw [List.map_eq_nil_iff.mp e]
    exact ⟨rfl, rfl⟩
  | d :: ds, [], h => by
    obtain ⟨x, ys, e, _⟩ := h
    cases e
  | d :: ds, i :: is, h => by
    obtain ⟨x, ys, e, h1, h2⟩ := h
    have e1 : V.int i = x := (List.cons.inj e).1
    have e2 : is.map V.int = ys := (List.cons.inj e).2
    subst e1
    subst e2
    obtain ⟨a, b⟩ := ints_of h2
    refine ⟨by rw [List.length_cons, List.length_cons, a], ?_⟩
    rw [List.all_cons, int_of h1, b]
    rfl
section
variable {H H1 : Hp} {p : Addr} {a b c : Int}
theorem rw_buts {n : Nat} (ih : ∀ (d : D) (v : V), npB n d = true → RW H d v → RW H1 d v) : ∀ {ds : List D} {xs : List V}, ds.all (npB n) = true → RWs H ds xs → RWs H1 ds xs
  | [], xs, _, h => h
  | d :: ds, xs, k, h => by
    obtain ⟨x, ys, e, h1, h2⟩ := h
    rw [List.all_cons] at k
    obtain ⟨k1, k2⟩ := Bool.and_eq_true_iff.mp k
    exact ⟨x, ys, e, ih d x k1 h1, rw_buts ih k2 h2⟩
theorem rw_but (hp : H p = some (.lst [.int a, .int b, .int c])) (s : But p H H1) : ∀ {n : Nat} (d : D) (v : V), npB n d = true → RW H d v → RW H1 d v
  | 0, .leaf w, v, _, h => h
  | 0, .lst ds, v, k, _ => by cases k
  | 0, .tup ds, v, k, _ => by cases k
  | n + 1, .leaf w, v, _, h => h
  | n + 1, .lst ds, v, k, h => by
    obtain ⟨q, xs, e, hq, hr⟩ := h
    have k' : (!(decide (ds.length = 3) && ds.all isInt) && ds.all (npB n)) = true := k
    obtain ⟨k1, k2⟩ := Bool.and_eq_true_iff.mp k'
    by_cases hz : q = p
    · subst hz
      rw [hp] at hq
      have e2 := HO.lst.inj (Option.some.inj hq)
      subst e2
      obtain ⟨z1, z2⟩ := ints_of (is := [a, b, c]) hr
      rw [z2, decide_eq_true (show ds.length = 3 from z1)] at k1
      cases k1
    · exact ⟨q, xs, e, s q _ hz hq, rw_buts (fun d v => rw_but hp s d v) k2 hr⟩
  | n + 1, .tup ds, v, k, h => by
    obtain ⟨q, xs, e, hq, hr⟩ := h
    refine ⟨q, xs, e, s q _ (fun z => ?_) hq, rw_buts (fun d v => rw_but hp s d v) k hr⟩
    subst z
    rw [hp] at hq
    cases hq
theorem FRes.but {l : Addr} {f : Fl} (h : FRes H l f) (hp : H p = some (.lst [.int a, .int b, .int c])) (s : But p H H1) (hl : l ≠ p) (hn : ∀ e, f = some e → NP e) : FRes H1 l f := by
  cases f with
  | none => exact s _ _ hl h
  | some e =>
    obtain ⟨v, h1, h2⟩ := h
    exact ⟨v, s _ _ hl h1, rw_but hp s _ _ (hn e rfl) h2⟩
end
end K03
set_option Elab.async false
set_option linter.all false
set_option maxRecDepth 100000
set_option maxHeartbeats 4000000
namespace K03
open PySem L2 PyProof.Rows
/-- changes of what was not there are none -/
theorem same_kp {S : Addr → Prop} {H0 H1 H2 : Hp} (h : Same H0 H1) (k : Kp S H1 H2) (hS : ∀ a, S a → H0 a = none) : Same H0 H2 := fun b o e => k b o (h b o e) (.inl fun z => by
  rw [hS b z] at e
  cases e)
theorem not_in {H : Hp} {d : D} {v : V} {G : List Addr} {a : Addr} (h : Rep H d v G) (ha : H a = none) : a ∉ G := fun z => by
  obtain ⟨zs, e⟩ := h.at_ _ z
  rw [ha] at e
  cases e
theorem rep_but {p : Addr} {H H1 : Hp} {d : D} {v : V} {G : List Addr} {n : Nat} (h : Rep H d v G) (s : But p H H1) (hp : Purse H p n) (hG : p ∉ G) : Rep H1 d v G :=
  h.kp (s.kp hp) fun a ha z => hG (by rw [← z]; exact ha)
/-- what is told: the value of the error, or the part -/
def ofF (d : D) : Fl → D
  | none => d
  | some e => e.2
def spRefus : Sp := fun vs H Q _ => ∃ (p t : Addr) (n : Nat) (u : V) (d : D) (r s : Str) (G : List Addr), vs = [.ref p, .ref t] ∧ Purse H p n ∧ n + 3 < 10 ^ 60 ∧ H t = some (.tup [u, .str r, .str s]) ∧ Rep H d u G ∧ p ∉ G ∧ PtW 7 d ∧ OkT r ∧ OkT s ∧
  ∀ H', But p H H' → Purse H' p (n + 3) → Q (.bl true) H'
section
variable {P : Program} {w : World} {K : PySem.W.Frag} {mg : Str → Option Value} {base : Heap}
theorem scRf : FnScope ["purse", "plan", "fault", "handed", "turn", "found", "told", "owed"] ["purse", "plan"] (defScope sRefus) := ⟨rfl, rfl, rfl, by decide +kernel, rfl, by decide +kernel, by decide +kernel⟩
theorem ok_refus {f C fC fF fY fT fR fM fS fG pP : Addr} {fd fdC fdF fdY fdT fdR fdM fdS fdG : FuncData} (F : Fun K "_law_ta_refusals" "_law_ta_refusals" sRefus f fd) (T : Txt K mg) (CC : PCls K C)
    (FC : Fun K "_law_coin" "_law_coin" sCoin fC fdC) (GC : FnOk P w K mg base CX0 1 fC fdC ["purse", "many"] spCoin) (bC : Binds K fdC ["purse", "many"] []) (mC : mg "_law_coin" = some (.ref fC))
    (FF : Fun K "_law_ta_fault" "_law_ta_fault" sFault fF fdF) (GF : FnOk P w K mg base CX0 17 fF fdF ["plan"] spFault) (bF : Binds K fdF ["plan"] []) (mF : mg "_law_ta_fault" = some (.ref fF))
    (FY : Fun K "_law_copied" "_law_copied" sCopied fY fdY) (GY : FnOk P w K mg base CX0 50 fY fdY ["thing"] (spCopy 50)) (bY : Binds K fdY ["thing"] []) (mY : mg "_law_copied" = some (.ref fY))
    (FT : Fun K "_law_ta_caught" "_law_ta_caught" sCaught fT fdT) (GT : FnOk P w K mg base CX0 54 fT fdT ["handed", "plan", "mode"] (spCaught C)) (bT : Binds K fdT ["handed", "plan", "mode"] []) (mT : mg "_law_ta_caught" = some (.ref fT))
    (FR : Fun K "_law_ta_caught_right" "_law_ta_caught_right" sCRight fR fdR) (GR : FnOk P w K mg base CX0 53 fR fdR ["found", "plan", "fault"] (spCRight C)) (bR : Binds K fdR ["found", "plan", "fault"] []) (mR : mg "_law_ta_caught_right" = some (.ref fR))
    (FM : Fun K "_law_ta_mark" "_law_ta_mark" sMark fM fdM) (GM : FnOk P w K mg base CX0 50 fM fdM ["thing", "tally"] (spMark 50)) (bM : Binds K fdM ["thing", "tally"] []) (mM : mg "_law_ta_mark" = some (.ref fM))
    (FS : Fun K "_law_ta_same" "_law_ta_same" sSame fS fdS) (GS : FnOk P w K mg base CX0 50 fS fdS ["told", "owed"] (spSame 50)) (bS : Binds K fdS ["told", "owed"] []) (mS : mg "_law_ta_same" = some (.ref fS))
    (pg : PropOf K C "part" pP fG) (GG : FnOk P w K mg base CX0 51 fG fdG ["self"] (spGPart C)) (bG : Binds K fdG ["self"] []) : FnOk P w K mg base CX0 55 f fd ["purse", "plan"] spRefus := by
  refine F.ok scRf (fun vs H Q E h => ?_) (fun cdv A outer s H vs Q E hr h => ?_)
  · obtain ⟨p, t, n, u, d, r, s, G, rfl, _⟩ := h
    rfl
  obtain ⟨p, t, n, u, d, r, s, G, rfl, hp, hn, ht, hu, hpG, hW, hr0, hs0, kk⟩ := h
  have hr1 := hr.mono (show 1 ≤ 54 by decide)
  have hr17 := hr.mono (show 17 ≤ 54 by decide)
  have hr50 := hr.mono (show 50 ≤ 54 by decide)
  have hr52 := hr.mono (show 51 + 1 ≤ 54 by decide)
  have hr53 := hr.mono (show 53 ≤ 54 by decide)
  refine ⟨_, pss_cons (ps_par (i := 2) (j := 3) rfl scRf.nd rfl rfl (by decide) rfl rfl (pa_cons (pe_call GF hr17 rfl mF FF.kp bF .nil pass0 (pa_cons (pv 1) pa_nil)) (pa_cons (pe_call GY hr50 rfl mY FY.kp bY .nil pass0 (pa_cons (pe_ix ix_tup (pv 1) pe_int (fun _ _ => rfl)) pa_nil)) pa_nil)) rfl)
    (pss_cons (ps_for PassesOwn.never rfl (pi_range1 rfl T.range (pa_cons pe_int pa_nil)) (pg_name (i := 4) scRf.nd rfl (Or.inl rfl))
      (pss_cons (ps_set (i := 5) scRf.nd rfl (Or.inl rfl) (pe_call GT hr rfl mT FT.kp bT .nil pass0 (pa_cons (pv 3) (pa_cons (pv 1) (pa_cons (pe_call GC hr1 rfl mC FC.kp bC .nil pass0 (pa_cons (pv 0) (pa_cons pe_int pa_nil))) pa_nil)))))
      (pss_cons (ps_if (pt_not (pt_val (pe_call GR hr53 rfl mR FR.kp bR .nil pass0 (pa_cons (pv 5) (pa_cons (pv 1) (pa_cons (pv 2) pa_nil)))))) pss_never pss_nil)
      (Evl.pss_cut (ps_set (i := 6) scRf.nd rfl (Or.inl rfl) (pe_ifExp (pt_cmpR op_eq (pe_ix ix_list (pv 5) pe_int (fun _ _ => rfl)) pe_str (nomark _)) (pe_ix ix_list (pv 5) pe_int (fun _ _ => rfl))
          (pe_prop (pe_ix ix_list (pv 5) pe_int (fun _ _ => rfl)) CC.cl pg GG hr52 bG .nil pass0 rfl)))
      (Evl.pss_cut (ps_set (i := 7) scRf.nd rfl (Or.inl rfl) (pe_call GY hr50 rfl mY FY.kp bY .nil pass0 (pa_cons (pe_ifExp (pt_cmpR op_eq (pe_ix ix_list (pv 5) pe_int (fun _ _ => rfl)) pe_str (nomark _)) (pe_ix ix_list (pv 2) pe_int (fun _ _ => rfl)) (pe_ix ix_tup (pv 1) pe_int (fun _ _ => rfl))) pa_nil)))
      (pss_cons (ps_expr (pe_call GM hr50 rfl mM FM.kp bM .nil pass0 (pa_cons (pv 6) (pa_cons (pe_lst (pa_cons pe_int pa_nil)) pa_nil))))
      (pss_cons (ps_expr (pe_call GM hr50 rfl mM FM.kp bM .nil pass0 (pa_cons (pv 7) (pa_cons (pe_lst (pa_cons pe_int pa_nil)) pa_nil))))
      (pss_one (ps_if (PW.pt (pw_or (pt_not (pt_val (pe_call GS hr50 rfl mS FS.kp bS .nil pass0 (pa_cons (pv 6) (pa_cons (pv 7) pa_nil))))) (pw_or1 (pt_not (pt_val (pe_call GS hr50 rfl mS FS.kp bS .nil pass0 (pa_cons (pv 3) (pa_cons (pe_ix ix_tup (pv 1) pe_int (fun _ _ => rfl)) pa_nil)))))))) pss_never pss_nil)))))))))
    (pss_one (ps_ret pe_bl))), ?_⟩
  have t0 : atI [u, V.str r, V.str s] 0 = some u := atI_nat (j := 0) rfl
  obtain ⟨ff, hT⟩ := plan_ex (r := r) (s := s) hW
  have hGd : Good 40 d := hW.good.le (by decide)
  have hv : ∀ e, ff = some e → VOk e := fun e he => by
    subst he
    exact hT.ok hr0 hs0
  have hnp : ∀ e, ff = some e → NP e := fun e he => by
    subst he
    exact hT.np
  have hFit : Fits 30 40 (ofF d ff) := by
    cases ff with
    | none => exact hGd.1
    | some e => exact ((hv e rfl).2.2.le (by decide)).1
  have htp : t ≠ p := fun z => by
    obtain ⟨x, y, c, e, _⟩ := hp
    rw [z, e] at ht
    cases ht
  refine ⟨_, rfl, t, d, r, s, u, ff, rfl, ht, hu.rw, hT, hGd, hr0, hs0, fun lf H1 hs1 hlf0 hF1 => ?_⟩
  refine ⟨_, rfl, t, _, 0, _, rfl, rfl, SqT.of (hs1 _ _ ht), t0, u, d, 40, rfl, by decide, hu.rw.same hs1, hGd.cp, fun h H2 Gh hs2 hh hGh => ?_⟩
  have hs := hs1.trans hs2
  have ht2 := hs _ _ ht
  have hF2 := hF1.same hs2
  have hu2 := hu.same hs
  have hp2 := hp.same hs
  have hlfp : lf ≠ p := hp.ne hlf0
  have hphG : p ∉ Gh := fun z => by
    obtain ⟨o, ho⟩ := (hp.same hs1).some
    rw [hGh p z] at ho
    cases ho
  obtain ⟨pa, pb, pc, hpl, _⟩ := id hp2
  refine ⟨_, _, rfl, ?_⟩
  refine ⟨3, rfl, by decide, by decide, ?_⟩
  refine for_range (lo := 0) (n := 3) (fun i σ' H' => But p H2 H' ∧ Purse H' p (n + i) ∧ ∃ v4 v5 v6 v7 : Option V, σ' = [some (.ref p), some (.ref t), some (.ref lf), some h, v4, v5, v6, v7]) ⟨But.refl _ _, hp2, _, _, _, _, rfl⟩ ?_ ?_
  · rintro i σ' H3 hi ⟨hb3, hp3, v4, v5, v6, v7, rfl⟩
    refine ⟨_, rfl, _, rfl, _, rfl, p, 2, n + i, rfl, hp3, by omega, by decide, by decide, fun dr H4 d0 d1 hb4 hp4 => ?_⟩
    have hb := hb3.trans hb4
    have ht4 := hb _ _ htp ht2
    have hF4 := hF2.but hpl hb hlfp hnp
    have hu4 := rep_but hu2 hb hp2 hpG
    have hh4 := rep_but hh hb hp2 hphG
    refine ⟨h, t, dr, u, d, r, s, ff, rfl, hh4.rw, ht4, hT, hGd, hv, fun l H5 hs5 hl0 hC => ?_⟩
    refine ⟨_, rfl, _, rfl, _, rfl, l, t, lf, u, d, r, s, ff, rfl, hC.wide, hs5 _ _ ht4, hu4.rw.same hs5, hF4.same hs5, hGd, hr0, hs0, hv, fun H6 hs6 => ⟨_, rfl, iteF ?_⟩⟩
    have s46 := hs5.trans hs6
    -- told
    refine ⟨fun σ' H' => Same H6 H' ∧ ∃ (u1 : V) (G1 : List Addr), Rep H' (ofF d ff) u1 G1 ∧ (∀ a ∈ G1, H4 a = none) ∧ σ' = [some (.ref p), some (.ref t), some (.ref lf), some h, some (.int (0 + (i : Int))), some (.ref l), some u1, v7], ?_, ?_⟩
    · cases ff with
      | none =>
        obtain ⟨o, G', hl, ho, pat, hG'⟩ := hC
        have hl6 := hs6 _ _ hl
        obtain ⟨dx, w1, eo, hRo⟩ := pat
        refine ⟨_, rfl, l, _, _, _, rfl, rfl, SqL.of hl6, atI_nat (j := 0) rfl, rfl, _, rfl, ifF (decide_eq_false (by decide +kernel)) ?_⟩
        refine ⟨_, rfl, l, _, _, _, rfl, rfl, SqL.of hl6, atI_nat (j := 1) rfl, o, dx, _, rfl, hs6 _ _ eo, o, d, r, s, G', rfl, ⟨dx, w1, hs6 _ _ eo, hRo.same hs6⟩, hGd, fun u2 H7 G2 hs7 hr7 hG2 => ?_⟩
        exact ⟨hs7, u2, G2, hr7, fun a ha => s46.free (hG2 a ha), rfl⟩
      | some e =>
        obtain ⟨fl, u1, G1, hl, _, hr1', _, _, hG1⟩ := hC
        have hl6 := hs6 _ _ hl
        refine ⟨_, rfl, l, _, _, _, rfl, rfl, SqL.of hl6, atI_nat (j := 0) rfl, rfl, _, rfl, ifT (decide_eq_true rfl) ?_⟩
        exact ⟨_, rfl, l, _, _, _, rfl, rfl, SqL.of hl6, atI_nat (j := 2) rfl, Same.refl _, u1, G1, hr1'.same hs6, hG1, rfl⟩
    rintro _ H7 ⟨hs7, u1, G1, hr1', hG1, rfl⟩
    have s47 := s46.trans hs7
    -- owed
    refine ⟨fun σ' H' => Same H7 H' ∧ ∃ (u2 : V) (G2 : List Addr), Rep H' (ofF d ff) u2 G2 ∧ (∀ a ∈ G2, H7 a = none) ∧ σ' = [some (.ref p), some (.ref t), some (.ref lf), some h, some (.int (0 + (i : Int))), some (.ref l), some u1, some u2], ?_, ?_⟩
    · cases ff with
      | none =>
        obtain ⟨o, G', hl, _⟩ := hC
        have hl7 := hs7 _ _ (hs6 _ _ hl)
        refine ⟨_, rfl, l, _, _, _, rfl, rfl, SqL.of hl7, atI_nat (j := 0) rfl, rfl, _, rfl, ifF (decide_eq_false (by decide +kernel)) ?_⟩
        refine ⟨_, rfl, t, _, 0, _, rfl, rfl, SqT.of (s47 _ _ ht4), t0, u, d, 40, rfl, by decide, hu4.rw.same s47, hGd.cp, fun u2 H8 G2 hs8 hr8 hG2 => ?_⟩
        exact ⟨hs8, u2, G2, hr8, hG2, rfl⟩
      | some e =>
        obtain ⟨fl, _, _, hl, _⟩ := hC
        have hl7 := hs7 _ _ (hs6 _ _ hl)
        obtain ⟨x, hlf4, hx4⟩ := hF4
        refine ⟨_, rfl, l, _, _, _, rfl, rfl, SqL.of hl7, atI_nat (j := 0) rfl, rfl, _, rfl, ifT (decide_eq_true rfl) ?_⟩
        refine ⟨_, rfl, lf, _, _, _, rfl, rfl, SqL.of (s47 _ _ hlf4), atI_nat (j := 1) rfl, x, e.2, 6, rfl, by decide, hx4.same s47, (hv e rfl).2.2.cp, fun u2 H8 G2 hs8 hr8 hG2 => ?_⟩
        exact ⟨hs8, u2, G2, hr8, hG2, rfl⟩
    rintro _ H8 ⟨hs8, u2, G2, hr2, hG2, rfl⟩
    have s48 := s47.trans hs8
    have h12 : ∀ a ∈ G1, a ∉ G2 := fun a ha z => not_in hr1' (hG2 a z) ha
    refine ⟨_, rfl, by show 1 ≤ sizeLine; decide, fun tl htl => ?_⟩
    have sl := same_new htl (.lst [.int 0])
    refine ⟨u1, tl, ofF d ff, G1, 40, 0, rfl, by decide, (hr1'.same hs8).same sl, hFit.wide (by decide), upd_same, not_in (hr1'.same hs8) htl, fun H9 kp9 hr9 _ => ?_⟩
    have s49 : Same H4 H9 := same_kp (s48.trans sl) kp9 fun a z => by
      rcases z with z | rfl
      · exact hG1 a z
      · exact s48.free htl
    have hr20 := (hr2.same sl).kp kp9 fun a ha z => by
      rcases z with z | rfl
      · exact h12 a z ha
      · exact not_in hr2 htl ha
    have hG24 : ∀ a ∈ G2, H4 a = none := fun a ha => s47.free (hG2 a ha)
    clear hr1' hr2 sl kp9 htl hs8 s48
    refine ⟨_, rfl, by show 1 ≤ sizeLine; decide, fun tl2 htl2 => ?_⟩
    have sl := same_new htl2 (.lst [.int 0])
    refine ⟨u2, tl2, ofF d ff, G2, 40, 0, rfl, by decide, hr20.same sl, hFit.wide (by decide), upd_same, not_in hr20 htl2, fun H10 kp10 hr10 _ => ?_⟩
    have s410 : Same H4 H10 := same_kp (s49.trans sl) kp10 fun a z => by
      rcases z with z | rfl
      · exact hG24 a z
      · exact s49.free htl2
    have hr1b := (hr9.same sl).kp kp10 fun a ha z => by
      rcases z with z | rfl
      · exact h12 a ha z
      · exact not_in hr9 htl2 ha
    refine ⟨_, rfl, _, rfl, u1, u2, _, 40, rfl, by decide, hr1b.rw, hr10.rw, (fits_mark (ofF d ff) 0 hFit).wide (by decide), fun H11 hs11 => ⟨_, rfl, iteF ?_⟩⟩
    have s411 := s410.trans hs11
    refine ⟨_, rfl, _, rfl, t, _, 0, _, rfl, rfl, SqT.of (s411 _ _ ht4), t0, h, u, d, 40, rfl, by decide, hh4.rw.same s411, hu4.rw.same s411, hGd.cp, fun H12 hs12 => ⟨_, rfl, iteF ?_⟩⟩
    have s412 := s411.trans hs12
    exact ⟨hb.trans (.of s412), hp4.same s412, _, _, _, _, rfl⟩
  · rintro σ' H3 ⟨hb3, hp3, v4, v5, v6, v7, rfl⟩
    exact kk H3 ((But.of hs).trans hb3) hp3
end
end K03
set_option Elab.async false
set_option linter.all false
set_option maxRecDepth 100000
set_option maxHeartbeats 4000000
namespace K03.Cl
open PySem L2 PyProof.Rows
theorem lt_all : ((List.range 123).all fun c => if 97 ≤ c then decide (c ∈ LT.cps.toList) else true) = true := by decide +kernel
theorem lt_mem {c : Nat} (h0 : 97 ≤ c) (h1 : c ≤ 122) : c ∈ LT.cps.toList := by
  have h := List.all_eq_true.mp lt_all c (List.mem_range.mpr (by omega))
  rw [if_pos h0] at h
  exact of_decide_eq_true h
theorem nm_ok {z : Str} (h : okName z) : nmB z = true := by
  obtain ⟨h1, h2, h3⟩ := h
  unfold nmB
  rw [decide_eq_true h1, decide_eq_true h2]
  show (z.cps.toList.all fun c => decide (c ∈ LT.cps.toList)) = true
  exact List.all_eq_true.mpr fun c hc => decide_eq_true (lt_mem (h3 c hc).1 (h3 c hc).2)
theorem okT {z : Str} (h : okName z) : OkT z := (tx_name h).mono (by decide)
theorem first_none {α : Type} {R : α → Fl → Prop} : ∀ {ts : List α}, (∀ t ∈ ts, R t none) → FirstF R ts none
  | [], _ => rfl
  | t :: ts, h => .inr ⟨h t List.mem_cons_self, first_none fun u m => h u (List.mem_cons_of_mem _ m)⟩
theorem TmOk.to : ∀ {n : Nat} {d : D}, TmOk n d → TmW n d ∧ TmF n d none
  | 0, _, h => h.elim
  | n + 1, d, h => by
    rcases h with ⟨i, e⟩ | ⟨z, hz, e⟩ | ⟨z, ts, hz, e, hl, ht⟩
    · exact ⟨.inr (.inl ⟨i, e⟩), .inr (.inl ⟨i, e, rfl⟩)⟩
    · exact ⟨.inr (.inr (.inl ⟨z, okT hz, e⟩)), .inr (.inr (.inl ⟨z, okT hz, e, (nmF_t (nm_ok hz)).symm⟩))⟩
    · exact ⟨.inr (.inr (.inr ⟨z, ts, okT hz, e, hl, fun t m => (ht t m).to.1⟩)), .inr (.inr (.inr ⟨z, ts, okT hz, hl, e, .inr ⟨nm_ok hz, first_none fun t m => (ht t m).to.2⟩⟩))⟩
theorem Df.to {d : D} (h : Df d) : DfW d ∧ DfF d none := by
  rcases h with h | h
  · exact ⟨.inl h, .inl ⟨h, rfl⟩⟩
  · exact ⟨.inr h.to.1, .inr h.to.2⟩
theorem es_none {R : D → Fl → Prop} {row : Bool} : ∀ {qs : List (Str × D × D)} {known : List Str}, (∀ q ∈ qs, R q.2.1 none ∧ DfF q.2.2 none) → (row = false → (known ++ qs.map (·.1)).Nodup ∧ ∀ q ∈ qs, okName q.1) → EsF R row known qs none
  | [], _, _, _ => rfl
  | q :: qs, known, h, k => by
    refine .inr (.inr ⟨fun e => ?_, .inr ⟨(h q List.mem_cons_self).1, .inr ⟨(h q List.mem_cons_self).2, es_none (fun x m => h x (List.mem_cons_of_mem _ m)) fun e => ?_⟩⟩⟩)
    · obtain ⟨nd, ok⟩ := k e
      have oq := ok q List.mem_cons_self
      refine ⟨okT oq, nm_ok oq, fun z => ?_⟩
      exact (List.nodup_append.mp nd).2.2 q.1 z q.1 (by rw [List.map_cons]; exact List.mem_cons_self) rfl
    · obtain ⟨nd, ok⟩ := k e
      refine ⟨?_, fun x m => ok x (List.mem_cons_of_mem _ m)⟩
      rw [List.map_cons] at nd
      rw [List.append_assoc]
      exact nd
theorem ent_row {qs : List (Str × D × D)} : qs.map (ent true) = (qs.map fun q => (Str.ofString "", q.2)).map (ent true) := by
  rw [List.map_map]
  rfl
theorem PtOk.to : ∀ {n : Nat} {d : D}, PtOk n d → PtW n d ∧ PtF n d none
  | 0, _, h => h.elim
  | n + 1, d, h => by
    rcases h with e | ⟨z, hz, e⟩ | ⟨row, qs, r, e, hr, hl, hq, hf⟩
    · exact ⟨.inr (.inl e), .inr (.inl ⟨e, rfl⟩)⟩
    · exact ⟨.inr (.inr (.inl ⟨z, okT hz, e⟩)), .inr (.inr (.inl ⟨z, okT hz, e, (nmF_t (nm_ok hz)).symm⟩))⟩
    · have hr' : OptW r := hr.imp id fun ⟨z, hz, e⟩ => ⟨z, okT hz, e⟩
      have hr2 : r = .leaf .non ∨ ∃ z, OkT z ∧ r = .leaf (.str z) ∧ nmB z = true := hr.imp id fun ⟨z, hz, e⟩ => ⟨z, okT hz, e, nm_ok hz⟩
      have hk : ∀ q ∈ qs, (PtW n q.2.1 ∧ PtF n q.2.1 none) ∧ DfW q.2.2 ∧ DfF q.2.2 none := fun q m => ⟨(hq q m).1.to, (hq q m).2.to⟩
      cases row with
      | false =>
        obtain ⟨nd, ok⟩ := hf rfl
        exact ⟨.inr (.inr (.inr ⟨false, qs, r, e, hr', hl, fun q m => ⟨okT (ok q m), (hk q m).1.1, (hk q m).2.1⟩⟩)),
          .inr (.inr (.inr ⟨false, qs, r, e, hl, .inr ⟨hr2, es_none (fun q m => ⟨(hk q m).1.2, (hk q m).2.2⟩) fun _ => ⟨nd, ok⟩⟩⟩))⟩
      | true =>
        have e' : d = .tup [S (if true = true then "row" else "record"), .lst ((qs.map fun q => (Str.ofString "", q.2)).map (ent true)), r] := by
          rw [← ent_row]
          exact e
        have tx0 : OkT (Str.ofString "") := tx_of (by decide +kernel)
        refine ⟨.inr (.inr (.inr ⟨true, _, r, e', hr', by rw [List.length_map]; exact hl, fun q m => ?_⟩)), .inr (.inr (.inr ⟨true, _, r, e', by rw [List.length_map]; exact hl, .inr ⟨hr2, es_none (fun q m => ?_) fun z => nomatch z⟩⟩))⟩
        · obtain ⟨q0, m0, rfl⟩ := List.mem_map.mp m
          exact ⟨tx0, (hk q0 m0).1.1, (hk q0 m0).2.1⟩
        · obtain ⟨q0, m0, rfl⟩ := List.mem_map.mp m
          exact ⟨(hk q0 m0).1.2, (hk q0 m0).2.2⟩
end K03.Cl
set_option Elab.async false
set_option linter.all false
set_option maxRecDepth 100000
set_option maxHeartbeats 4000000
namespace K03
open PySem L2 PyProof.Rows
abbrev sMWith : Stmt := inClass sPattern 5
theorem plan_none {d : D} {r s : Str} (h : PtF 7 d none) (hr : ordB r = true) (hs : lckB s = true) : PlanF d r s none := .inr ⟨h, (rule_n hr hs).symm⟩
/-- what never raises where it is called so -/
theorem passX {X : Cx} : Passes (L2.CX X.prog X.w) X E0 := fun _ _ _ _ _ _ _ h => by
  obtain ⟨_, _, _, _, _, _, _, _, _, _, _, _, e⟩ := h
  exact e.elim
def spMWith (Cs : Nat → Addr) (C : Addr) : Sp := fun vs H Q E => ∃ (o : Addr) (d : D) (r s r' : Str) (G : List Addr), vs = [.ref o, .str r'] ∧ PatAt C H o d r s G ∧ Good 40 d ∧ PtF 7 d none ∧
  (ruleF r' s = none → ∀ o' H' G', Same H H' → H o' = none → PatAt C H' o' d r' s G' → (∀ a ∈ G', H a = none) → Q (.ref o') H') ∧ ∀ e, ruleF r' s = some e → Thr Cs H E e
def spMade (C : Addr) : Sp := fun vs H Q _ => ∃ (p t : Addr) (n : Nat) (v : V) (d : D) (r s : Str), vs = [.ref p, .ref t] ∧ Purse H p n ∧ n + 1 < 10 ^ 60 ∧ H t = some (.tup [v, .str r, .str s]) ∧ RW H d v ∧ Good 40 d ∧ PtF 7 d none ∧ ordB r = true ∧ lckB s = true ∧
  ∀ o H' G, But p H H' → Purse H' p (n + 1) → H o = none → PatAt C H' o d r s G → (∀ a ∈ G, H a = none) → Q (.ref o) H'
theorem pfs_with (v : V) (r s : Str) : (pfs v r s).lookup ("with_order" : Str) = none := by
  unfold pfs
  rw [lookup_putF, if_neg (by decide +kernel), lookup_putF, if_neg (by decide +kernel), lookup_putF, if_neg (by decide +kernel)]
  rfl
/-- a pattern was made; else all stands but the purse -/
structure Done (C : Addr) (H : Hp) (p : Addr) (n : Nat) (d : D) (r s : Str) (H' : Hp) (o : Addr) (Go : List Addr) : Prop where
  bt : But p H H'
  pu : Purse H' p n
  pa : PatAt C H' o d r s Go
  no : H o = none
  nw : ∀ a ∈ Go, H a = none
theorem Done.kp {C p o : Addr} {H H1 H2 : Hp} {n m : Nat} {d : D} {r s : Str} {Go : List Addr} {S : Addr → Prop} (h : Done C H p n d r s H1 o Go) (hp : Purse H p m) (k : Kp S H1 H2) (hS : ∀ a, S a → H a = none ∧ a ∉ Go) : Done C H p n d r s H2 o Go := by
  have np : ¬ S p := fun z => by
    obtain ⟨po, e⟩ := hp.some
    rw [(hS p z).1] at e
    cases e
  refine ⟨fun b o n e => k b o (h.bt b o n e) (.inl fun z => ?_), ?_, ?_, h.no, h.nw⟩
  · rw [(hS b z).1] at e
    cases e
  · obtain ⟨x, y, z, e, q⟩ := h.pu
    exact ⟨x, y, z, k _ _ e (.inl np), q⟩
  · obtain ⟨dx, v, e, q⟩ := h.pa
    exact ⟨dx, v, k.there e (fun _ z => nomatch z), q.kp k fun a ha z => (hS a z).2 ha⟩
section
variable {P : Program} {w : World} {K : PySem.W.Frag} {mg : Str → Option Value} {base : Heap} {Cs : Nat → Addr}
theorem scMw : FnScope ["self", "order"] ["self", "order"] (defScope sMWith) := ⟨rfl, rfl, rfl, by decide +kernel, rfl, by decide +kernel, by decide +kernel⟩
theorem ok_mwith {f C fI : Addr} {fd fdI : FuncData} (F : Fun K "with_order" "Pattern.with_order" sMWith f fd) (CC : PCls K C) (M : Mk K C fI) (mC : mg "Pattern" = some (.ref C))
    (GI : FnOk P w K mg base (L2.CX P w) 51 fI fdI ["self", "part", "order", "lacks"] (spInit Cs C)) (bI : Binds K fdI ["self", "part", "order", "lacks"] []) : FnOk P w K mg base (L2.CX P w) 53 f fd ["self", "order"] (spMWith Cs C) := by
  refine F.okX scMw (fun vs H Q E h => ?_) (fun cdv A outer s H vs Q E hr h => ?_)
  · obtain ⟨o, d, r, s, r', G, rfl, _⟩ := h
    rfl
  obtain ⟨o, d, r, s, r', G, rfl, ⟨dx, v, ho, hR⟩, hGd, hT, kk, ke⟩ := h
  refine ⟨_, pss_one (ps_ret (pe_make M GI hr rfl mC bI .nil (passes_call (takes_of rfl rfl rfl rfl) fun _ _ _ _ h => h) (pa_cons (pe_fld (pv 0) rfl) (pa_cons (pv 1) (pa_cons (pe_fld (pv 0) rfl) pa_nil))))), ?_⟩
  refine ⟨_, rfl, o, C, dx, _, _, rfl, ho, CC.cl, CC.nP, pfs_part _ _ _, _, rfl, _, rfl, o, C, dx, _, _, rfl, ho, CC.cl, CC.nL, pfs_lacks _ _ _, ?_⟩
  intro x dx2 hx hdx hne
  have st := same_ins (C := C) hx hdx
  refine ⟨x, dx2, v, r', s, d, ruleF r' s, rfl, upd_same, hR.rw.same st, .inr ⟨hT, rfl⟩, hGd, fun e u H' G' hb hx' hr2 hG => ⟨rfl, kk e x H' G' (But.same st hb hx) hx ⟨dx2, u, hx', hr2⟩ fun a ha => st.free (hG a ha)⟩, fun e he => (ke e he).same st⟩
end
end K03
set_option Elab.async false
set_option linter.all false
set_option maxRecDepth 100000
set_option maxHeartbeats 4000000
namespace K03
open PySem L2 PyProof.Rows
def turnM {α : Type} (us ws : List α) : List α := us ++ (ws.drop 1 ++ ws.take 1)
section
variable {P : Program} {w : World} {K : PySem.W.Frag} {mg : Str → Option Value} {base : Heap} {Cs : Nat → Addr}
theorem kb_initM {fI : Addr} {fdI : FuncData} (F : Fun K "__init__" "Pattern.__init__" sInit fI fdI) : KBn K fdI ["self", "part", "order", "lacks"] 1 ["lacks", "part", "order"] turnM turnM := by
  obtain ⟨oc, od, kV, doc, pm, an, cdv, ct, osl, rfl, lk, hcd⟩ := F.ex
  refine ⟨fun s us ws _ h1 h2 => ?_, fun r1 r2 => r1.append ((r2.drop 1).append (r2.take 1))⟩
  match us, h1, ws, h2 with
  | [_], _, [_, _, _], _ => exact .of_eq rfl
theorem scMd : FnScope ["purse", "plan", "handed", "road", "made", "again"] ["purse", "plan"] (defScope sMade) := ⟨rfl, rfl, rfl, by decide +kernel, rfl, by decide +kernel, by decide +kernel⟩
theorem ok_made {f C fC fY fI fW fG fM pP pO : Addr} {fd fdC fdY fdI fdW fdG fdM : FuncData} (F : Fun K "_law_ta_made" "_law_ta_made" sMade f fd) (T : Txt K mg) (CC : PCls K C) (M : Mk K C fI) (mP : mg "Pattern" = some (.ref C))
    (FC : Fun K "_law_coin" "_law_coin" sCoin fC fdC) (GC : FnOk P w K mg base CX0 1 fC fdC ["purse", "many"] spCoin) (bC : Binds K fdC ["purse", "many"] []) (mC : mg "_law_coin" = some (.ref fC))
    (FY : Fun K "_law_copied" "_law_copied" sCopied fY fdY) (GY : FnOk P w K mg base CX0 50 fY fdY ["thing"] (spCopy 50)) (bY : Binds K fdY ["thing"] []) (mY : mg "_law_copied" = some (.ref fY))
    (FI : Fun K "__init__" "Pattern.__init__" sInit fI fdI) (GI : FnOk P w K mg base (L2.CX P w) 51 fI fdI ["self", "part", "order", "lacks"] (spInit Cs C)) (bI : Binds K fdI ["self", "part", "order", "lacks"] [])
    (mW : Meth K C "with_order" fW) (GW : FnOk P w K mg base (L2.CX P w) 53 fW fdW ["self", "order"] (spMWith Cs C)) (bW : Binds K fdW ["self", "order"] [])
    (pg : PropOf K C "part" pP fG) (GG : FnOk P w K mg base CX0 51 fG fdG ["self"] (spGPart C)) (bG : Binds K fdG ["self"] [])
    (FM : Fun K "_law_ta_mark" "_law_ta_mark" sMark fM fdM) (GM : FnOk P w K mg base CX0 50 fM fdM ["thing", "tally"] (spMark 50)) (bM : Binds K fdM ["thing", "tally"] []) (mM : mg "_law_ta_mark" = some (.ref fM)) :
    FnOk P w K mg base CX0 54 f fd ["purse", "plan"] (spMade C) := by
  refine F.ok scMd (fun vs H Q E h => ?_) (fun cdv A outer s H vs Q E hr h => ?_)
  · obtain ⟨p, t, n, v, d, r, s, rfl, _⟩ := h
    rfl
  obtain ⟨p, t, n, v, d, r, s, rfl, hp, hn, ht, hR, hGd, hT, hrd, hlk, kk⟩ := h
  have hr1 := hr.mono (show 1 ≤ 53 by decide)
  have hr40 := hr.mono (show 50 ≤ 53 by decide)
  have hr42 := hr.mono (show 51 + 1 ≤ 53 by decide)
  refine ⟨_, Evl.pss_cut (ps_par (i := 2) (j := 3) rfl scMd.nd rfl rfl (by decide) rfl rfl (pa_cons (pe_call GY hr40 rfl mY FY.kp bY .nil pass0 (pa_cons (pe_ix ix_tup (pv 1) pe_int (fun _ _ => rfl)) pa_nil)) (pa_cons (pe_call GC hr1 rfl mC FC.kp bC .nil pass0 (pa_cons (pv 0) (pa_cons pe_int pa_nil))) pa_nil)) (by rfl))
    (Evl.pss_cut (ps_if (pt_cmpR op_eq (pv 3) pe_int (nomark _)) (pss_one (ps_set (i := 4) scMd.nd rfl (Or.inl rfl) (pe_make M GI hr42 rfl mP bI .nil passX (pa_cons (pv 2) (pa_cons (pe_ix ix_tup (pv 1) pe_int (fun _ _ => rfl)) (pa_cons (pe_ix ix_tup (pv 1) pe_int (fun _ _ => rfl)) pa_nil))))))
      (pss_one (ps_if (pt_cmpR op_eq (pv 3) pe_int (nomark _)) (pss_one (ps_set (i := 4) scMd.nd rfl (Or.inl rfl) (pe_makeK0 M GI hr42 rfl mP (kb_initM FI) passX (pk_cons (pe_ix ix_tup (pv 1) pe_int (fun _ _ => rfl)) (pk_cons (pv 2) (pk_cons (pe_ix ix_tup (pv 1) pe_int (fun _ _ => rfl)) pk_nil))))))
        (pss_one (ps_if (pt_cmpR op_eq (pv 3) pe_int (nomark _)) (pss_one (ps_set (i := 4) scMd.nd rfl (Or.inl rfl) (pe_meth (pe_make M GI hr42 rfl mP bI .nil passX (pa_cons (pv 2) (pa_cons (pe_ix ix_list (pe_lst (pa_cons pe_str (pa_cons pe_str pa_nil))) (pe_callTy call_int1 (by rfl) T.int boot_int (pa_cons (pe_cmpR op_eq (pe_ix ix_tup (pv 1) pe_int (fun _ _ => rfl)) pe_str (nomark _)) pa_nil)) (fun _ _ => rfl)) (pa_cons (pe_ix ix_tup (pv 1) pe_int (fun _ _ => rfl)) pa_nil))))
            CC.cl mW GW hr bW .nil passX (pa_cons (pe_ix ix_tup (pv 1) pe_int (fun _ _ => rfl)) pa_nil))))
          (Evl.pss_cut (ps_set (i := 5) scMd.nd rfl (Or.inl rfl) (pe_prop (pe_make M GI hr42 rfl mP bI .nil passX (pa_cons (pv 2) (pa_cons (pe_ix ix_tup (pv 1) pe_int (fun _ _ => rfl)) (pa_cons (pe_ix ix_tup (pv 1) pe_int (fun _ _ => rfl)) pa_nil)))) CC.cl pg GG hr42 bG .nil pass0 rfl))
          (pss_cons (ps_set (i := 4) scMd.nd rfl (Or.inl rfl) (pe_make M GI hr42 rfl mP bI .nil passX (pa_cons (pv 5) (pa_cons (pe_ix ix_tup (pv 1) pe_int (fun _ _ => rfl)) (pa_cons (pe_ix ix_tup (pv 1) pe_int (fun _ _ => rfl)) pa_nil)))))
          (pss_one (ps_expr (pe_call GM hr40 rfl mM FM.kp bM .nil pass0 (pa_cons (pv 5) (pa_cons (pe_lst (pa_cons pe_int pa_nil)) pa_nil))))))))))))
    (pss_cons (ps_expr (pe_call GM hr40 rfl mM FM.kp bM .nil pass0 (pa_cons (pv 2) (pa_cons (pe_lst (pa_cons pe_int pa_nil)) pa_nil))))
    (pss_one (ps_ret (pv 4))))), ?_⟩
  obtain ⟨po, hpo⟩ := hp.some
  have htp : t ≠ p := fun z => by
    obtain ⟨x, y, z', e, _⟩ := hp
    rw [z, e] at ht
    cases ht
  have t0 : atI [v, V.str r, V.str s] 0 = some v := atI_nat (j := 0) rfl
  have t1 : atI [v, V.str r, V.str s] 1 = some (.str r) := atI_nat (j := 1) rfl
  have t2 : atI [v, V.str r, V.str s] 2 = some (.str s) := atI_nat (j := 2) rfl
  refine ⟨fun σ' H' => ∃ (u : V) (G : List Addr) (rd : Int), But p H H' ∧ Purse H' p (n + 1) ∧ Rep H' d u G ∧ (∀ a ∈ G, H a = none) ∧ σ' = [some (.ref p), some (.ref t), some u, some (.int rd), none, none], ?_, ?_⟩
  · refine ⟨_, rfl, t, _, 0, _, rfl, rfl, SqT.of ht, t0, v, d, 40, rfl, by decide, hR, hGd.cp, fun u H1 G hs1 hr1 hG => ⟨_, rfl, p, 4, n, rfl, hp.same hs1, by omega, by decide, by decide, fun rd H2 r0 r1 hb hp2 => ⟨_, _, rfl, u, G, rd, (But.of hs1).trans hb, hp2, hr1.kp (hb.kp (hp.same hs1)) fun a ha z => hp.ne (hG a ha) z, hG, rfl⟩⟩⟩
  rintro _ H2 ⟨u, G, rd, hb2, hp2, hr2, hG, rfl⟩
  have ht2 := SqT.of (K := K) (hb2 _ _ htp ht)
  have mk : ∀ (Hx : Hp) (u' : V) (r' : Str), ordB r' = true → But p H Hx → Purse Hx p (n + 1) → RW Hx d u' → ∀ x dx : Addr, Hx x = none → Hx dx = none → ∀ Q' : Hp → Prop, (∀ H' Go, Done C H p (n + 1) d r' s H' x Go → Same Hx H' → (∀ a ∈ Go, Hx a = none) → Q' H') →
      spInit Cs C [.ref x, u', .str r', .str s] (upd (upd Hx dx (.own x)) x (.ins C dx [])) (fun v H3 => v = .non ∧ Q' H3) E0 := fun Hx u' r' hr' hbx hpx hw x dx hx hdx Q' q => by
    have st := same_ins (C := C) hx hdx
    refine ⟨x, dx, u', r', s, d, none, rfl, upd_same, hw.same st, plan_none hT hr' hlk, hGd, fun _ w H' Go hb hx' hrw hG => ?_, fun e he => nomatch he⟩
    have sx : Same Hx H' := But.same st hb hx
    have fr : ∀ {a}, Hx a = none → H a = none := fun e => hbx.free hpo hpx.some e
    exact ⟨rfl, q H' Go ⟨hbx.trans (.of sx), hpx.same sx, ⟨dx, w, hx', hrw⟩, fr hx, fun a ha => fr (st.free (hG a ha))⟩ sx fun a ha => st.free (hG a ha)⟩
  have apart : ∀ {Hx : Hp} {e : D} {u' : V} {G' Go : List Addr}, Rep Hx e u' G' → (∀ a ∈ Go, Hx a = none) → ∀ a, a ∈ G' → a ∉ Go := fun hr h a ha z => by
    obtain ⟨zs, q⟩ := hr.at_ a ha
    rw [h a z] at q
    cases q
  refine ⟨fun σ' H' => ∃ (o : Addr) (Go : List Addr) (v5 : Option V), Done C H p (n + 1) d r s H' o Go ∧ Rep H' d u G ∧ (∀ a ∈ G, a ∉ Go) ∧ σ' = [some (.ref p), some (.ref t), some u, some (.int rd), some (.ref o), v5], ?_, ?_⟩
  · refine ⟨_, rfl, rfl, _, rfl, ?_⟩
    refine ite2 (fun _ => ?_) (fun _ => ?_)
    · exact ⟨_, rfl, _, rfl, t, _, 1, _, rfl, rfl, ht2, t1, _, rfl, t, _, 2, _, rfl, rfl, ht2, t2, fun x dx hx hdx hne => mk H2 u r hrd hb2 hp2 hr2.rw x dx hx hdx _ fun H' Go hD hs hGo => ⟨x, Go, none, hD, hr2.same hs, apart hr2 hGo, rfl⟩⟩
    refine ⟨_, rfl, rfl, _, rfl, ?_⟩
    refine ite2 (fun _ => ?_) (fun _ => ?_)
    · exact ⟨_, rfl, t, _, 2, _, rfl, rfl, ht2, t2, _, rfl, _, rfl, t, _, 1, _, rfl, rfl, ht2, t1, rfl, rfl, fun x dx hx hdx hne => mk H2 u r hrd hb2 hp2 hr2.rw x dx hx hdx _ fun H' Go hD hs hGo => ⟨x, Go, none, hD, hr2.same hs, apart hr2 hGo, rfl⟩⟩
    refine ⟨_, rfl, rfl, _, rfl, ?_⟩
    refine ite2 (fun _ => ?_) (fun _ => ?_)
    · refine ⟨_, rfl, by show 2 ≤ sizeLine; decide, fun q hq => ?_⟩
      have sq := same_new hq (.lst [V.str (Str.ofString "late"), V.str (Str.ofString "soon")])
      have ht3 := SqT.of (K := K) (sq _ _ (hb2 _ _ htp ht))
      refine ⟨_, rfl, t, _, 1, _, rfl, rfl, ht3, t1, rfl, .inr ⟨_, rfl, ?_⟩⟩
      obtain ⟨r', hr', hat⟩ : ∃ r' : Str, ordB r' = true ∧ atI [V.str (Str.ofString "late"), V.str (Str.ofString "soon")] (if decide (V.str r = V.str (Str.ofString "late")) = true then (1 : Int) else 0) = some (.str r') := by
        split
        · exact ⟨_, (by decide +kernel), at_ofN (j := 1) rfl rfl⟩
        · exact ⟨_, (by decide +kernel), at_ofN (j := 0) rfl rfl⟩
      have hb3 := hb2.trans (But.of sq)
      have hr3 := hr2.same sq
      refine ⟨q, _, _, _, rfl, rfl, SqL.of upd_same, hat, _, rfl, t, _, 2, _, rfl, rfl, ht3, t2, fun x dx hx hdx hne => mk _ u r' hr' hb3 (hp2.same sq) hr3.rw x dx hx hdx _ fun H' Go hD hs hGo => ?_⟩
      obtain ⟨dx2, w2, e1, e2⟩ := hD.pa
      refine ⟨x, dx2, _, rfl, e1, pfs_with _ _ _, _, rfl, t, _, 1, _, rfl, rfl, SqT.of (hD.bt _ _ htp ht), t1, x, d, r', s, r, Go, rfl, hD.pa, hGd, hT, fun _ o' H'' G' hs2 ho' pat' hG' => ?_, fun e he => ?_⟩
      rotate_left
      · rw [rule_n hrd hlk] at he
        cases he
      have fr : ∀ {a}, H' a = none → H a = none := fun e => hD.bt.free hpo hD.pu.some e
      exact ⟨o', G', none, ⟨hD.bt.trans (.of hs2), hD.pu.same hs2, pat', fr ho', fun a ha => fr (hG' a ha)⟩, (hr3.same hs).same hs2, apart (hr3.same hs) hG', rfl⟩
    · refine ⟨fun σ' H' => ∃ (u2 : V) (G2 : List Addr), But p H H' ∧ Purse H' p (n + 1) ∧ Rep H' d u G ∧ Rep H' d u2 G2 ∧ (∀ a ∈ G2, H a = none) ∧ (∀ a ∈ G, a ∉ G2) ∧ σ' = [some (.ref p), some (.ref t), some u, some (.int rd), none, some u2], ?_, ?_⟩
      · refine ⟨_, rfl, _, rfl, t, _, 1, _, rfl, rfl, ht2, t1, _, rfl, t, _, 2, _, rfl, rfl, ht2, t2, fun x dx hx hdx hne => mk H2 u r hrd hb2 hp2 hr2.rw x dx hx hdx _ fun H' Go hD hs hGo => ?_⟩
        obtain ⟨dx2, w2, e1, e2⟩ := hD.pa
        refine ⟨x, dx2, _, rfl, e1, x, d, r, s, Go, rfl, hD.pa, hGd, fun u2 H'' G2 hs2 hr3 hG2 => ?_⟩
        exact ⟨u2, G2, hD.bt.trans (.of hs2), hD.pu.same hs2, (hr2.same hs).same hs2, hr3, fun a ha => hD.bt.free hpo hD.pu.some (hG2 a ha), apart (hr2.same hs) hG2, rfl⟩
      rintro _ H3 ⟨u2, G2, hb3, hp3, hr3, hr32, hG2, hap2, rfl⟩
      have ht3 := SqT.of (K := K) (hb3 _ _ htp ht)
      refine ⟨_, rfl, _, rfl, t, _, 1, _, rfl, rfl, ht3, t1, _, rfl, t, _, 2, _, rfl, rfl, ht3, t2, fun x dx hx hdx hne => mk H3 u2 r hrd hb3 hp3 hr32.rw x dx hx hdx _ fun H4 Go hD hs hGo => ?_⟩
      have hr4 := hr3.same hs
      have hr42 := hr32.same hs
      have hapG := apart hr3 hGo
      have hap2G := apart hr32 hGo
      refine ⟨_, rfl, by show 1 ≤ sizeLine; decide, fun tl htl => ?_⟩
      have sl := same_new htl (.lst [.int 0])
      have nin : ∀ {e : D} {y : V} {G' : List Addr}, Rep H4 e y G' → tl ∉ G' := fun hy z => by
        obtain ⟨zs, e⟩ := hy.at_ tl z
        rw [htl] at e
        cases e
      have ntlo : tl ∉ Go := by
        obtain ⟨dx2, w2, e1, e2⟩ := hD.pa
        exact nin e2
      have htl0 : H tl = none := hD.bt.free hpo hD.pu.some htl
      refine ⟨u2, tl, d, G2, 40, 0, rfl, by decide, hr42.same sl, hGd.cp, upd_same, nin hr42, fun H5 kp hr5 ht5 => ?_⟩
      have hD5 : Done C H p (n + 1) d r s H5 x Go := hD.kp hp ((Kp.same sl).trans kp) fun a z => by
        rcases z with z | rfl
        · exact ⟨hG2 a z, hap2G a z⟩
        · exact ⟨htl0, ntlo⟩
      refine ⟨x, Go, _, hD5, (hr4.same sl).kp kp fun a ha z => ?_, hapG, rfl⟩
      rcases z with z | rfl
      · exact hap2 a ha z
      · exact nin hr4 ha
  rintro _ H3 ⟨o, Go, v5, hD, hr3, hap, rfl⟩
  refine ⟨_, rfl, by show 1 ≤ sizeLine; decide, fun tl htl => ?_⟩
  have sl := same_new htl (.lst [.int 0])
  have ntl : tl ∉ G := fun z => by
    obtain ⟨zs, e⟩ := hr3.at_ tl z
    rw [htl] at e
    cases e
  have ntl2 : tl ∉ Go := fun z => by
    obtain ⟨dx2, w2, e1, e2⟩ := hD.pa
    obtain ⟨zs, e⟩ := e2.at_ tl z
    rw [htl] at e
    cases e
  have htl0 : H tl = none := hD.bt.free hpo hD.pu.some htl
  refine ⟨u, tl, d, G, 40, 0, rfl, by decide, hr3.same sl, hGd.cp, upd_same, ntl, fun H4 kp hr4 ht4 => ⟨_, rfl, ?_⟩⟩
  have hD4 : Done C H p (n + 1) d r s H4 o Go := hD.kp hp ((Kp.same sl).trans kp) fun a z => by
    rcases z with z | rfl
    · exact ⟨hG a z, hap a z⟩
    · exact ⟨htl0, ntl2⟩
  exact kk o H4 Go hD4.bt hD4.pu hD4.no hD4.pa hD4.nw
end
end K03
set_option Elab.async false
set_option linter.all false
set_option maxRecDepth 100000
set_option maxHeartbeats 4000000
namespace K03
open PySem L2 PyProof.Rows
def spByOrd (C : Addr) : Sp := fun vs H Q _ => ∃ (o : Addr) (w : Str) (mode : Int) (d : D) (r s : Str) (G : List Addr), vs = [.ref o, .str w, .int mode] ∧ PatAt C H o d r s G ∧ Good 40 d ∧ PtF 7 d none ∧ lckB s = true ∧
  ∀ l H', Same H H' → H l = none → (ordB w = true → ∃ o' G', H' l = some (.lst [.str (Str.ofString "made"), .ref o']) ∧ PatAt C H' o' d w s G') → (ordB w = false → H' l = some (.lst [.str (Str.ofString "refused"), .bl true])) → Q (.ref l) H'
def pairO {α : Type} : List α → List α → List α
  | [x], [y] => [x, y]
  | _, _ => []
def t_tryO (Cs : Nat → Addr) (C : Addr) : WX → TS := fun W => tAsg (tLst (tCons (tC (.str (Str.ofString "made"))) (tCons (tIf (tTest (tOp rEq (tVar 2) (tC (.int 0))))
  (tMethT C "with_order" (spMWith Cs C) (WE W) (tVar 0) (tCons (tVar 1) tNil)) (tMethKT C "with_order" (spMWith Cs C) pairO (WE W) (tVar 0) (tCons (tVar 1) tNil))) tNil))) (gName 3)
def tIsAny (K : PySem.W.Frag) (Cs : Nat → Addr) (a : Addr) (cls : Value) (d : Option Addr) (js : List Nat) : TE := tCB (rIsST K a cls d) (tCons (tVar 4) (tCons (tTup (js.foldr (fun j t => tCons (tC (.ref (Cs j))) t) tNil)) tNil))
def t_suiteO (K : PySem.W.Frag) (Cs : Nat → Addr) : Addr → Value → Option Addr → TS := fun a cls d =>
  tSeq (tAsg (tIsAny K Cs a cls d [1, 2, 3, 4, 6, 7]) (gName 5))
  (tSeq (tAsg (tOrV (tVar 5) (tIsAny K Cs a cls d [8, 9, 10])) (gName 5))
  (tAsg (tLst (tCons (tC (.str (Str.ofString "refused"))) (tCons (tAndV (tIsA K a cls d (.ref (Cs 5))) (tAndV (tNotV (tVar 5)) (tOp rEq (tValS K "value" a cls d (tVar 4)) (tVar 1)))) tNil))) (gName 3)))
section
variable {P : Program} {w : World} {K : PySem.W.Frag} {mg : Str → Option Value} {base : Heap} {Cs : Nat → Addr} {fI0 : Addr} {fdI0 : FuncData}
theorem kb_with {fW : Addr} {fdW : FuncData} (F : Fun K "with_order" "Pattern.with_order" sMWith fW fdW) : KBinds K fdW ["self", "order"] ["order"] pairO pairO := by
  obtain ⟨oc, od, kV, doc, pm, an, cdv, ct, osl, rfl, lk, hcd⟩ := F.ex
  refine ⟨fun s us ws _ hl => ?_, fun {vs us zs ws} r1 r2 => ?_⟩
  · match us, ws, hl with
    | [_], [_], _ => exact .of_eq rfl
    | [], _, hl => cases hl
    | [_], [], hl => cases hl
    | [_], _ :: _ :: _, hl => cases hl
    | _ :: _ :: _, _, hl => cases hl
  · match r1, r2 with
    | .cons a .nil, .cons b .nil => exact .cons a (.cons b .nil)
    | .nil, _ => exact .nil
    | .cons _ .nil, .nil => exact .nil
    | .cons _ .nil, .cons _ (.cons _ _) => exact .nil
    | .cons _ (.cons _ _), _ => exact .nil
theorem scBo : FnScope ["made", "word", "mode", "found", "e", "other"] ["made", "word", "mode"] (defScope sByOrd) := ⟨rfl, rfl, rfl, by decide +kernel, rfl, by decide +kernel, by decide +kernel⟩
theorem ok_byord {f C fO : Addr} {fd fdO : FuncData} (F : Fun K "_law_ta_by_order" "_law_ta_by_order" sByOrd f fd) (T : Txt K mg) (CC : PCls K C) (EC : ECls K mg Cs fI0)
    (FO : Fun K "with_order" "Pattern.with_order" sMWith fO fdO) (mO : Meth K C "with_order" fO) (GO : FnOk P w K mg base (L2.CX P w) 53 fO fdO ["self", "order"] (spMWith Cs C)) (bO : Binds K fdO ["self", "order"] []) : FnOk P w K mg base CX0 54 f fd ["made", "word", "mode"] (spByOrd C) := by
  refine F.ok scBo (fun vs H Q E h => ?_) (fun cdv A outer s H vs Q E hr h => ?_)
  · obtain ⟨o, w, mode, d, r, s, G, rfl, _⟩ := h
    rfl
  obtain ⟨o, wd0, mode, d, r, s, G, rfl, pat, hGd, hT, hlk, kk⟩ := h
  refine ⟨_, pss_cons (ps_set (i := 3) scBo.nd rfl (Or.inl rfl) (pe_lst pa_nil))
    (pss_cons (ps_try_as (i := 4) (tb := t_tryO Cs C) (ts := t_suiteO K Cs) (Wout := fun _ _ _ _ => False) rfl rfl scBo.nd rfl rfl ⟨rfl, by decide, Or.inl (EC.mg 0 _ rfl)⟩ takes0
      (fun W pn xe tk _ => pss_one (ps_set (i := 3) scBo.nd rfl (Or.inl rfl) (by exact (pe_lst (pa_cons pe_str (pa_cons (pe_ifExp (pt_cmpR op_eq (pv 2) pe_int (nomark _))
          (pe_methT (pv 0) CC.cl mO GO hr bO (fun σ => passAt tk σ) (by exact (pa_cons (pv 1) pa_nil)))
          (pe_methKT (pv 0) CC.cl mO GO hr (kb_with FO) (fun σ => passAt tk σ) (by exact (pk_cons (pv 1) pk_nil)))) pa_nil))))))
      (fun a oe cls d pn hz hf => pss_cons (ps_set (i := 5) scBo.nd rfl (Or.inl rfl) (by exact (pe_callB (call_isST hz hf) (by rfl) T.isi boot_isinstance (pa_cons (pv 4) (pa_cons (pe_tup
            (pa_cons (pe_glob (v := .ref (Cs 1)) rfl (EC.mg 1 _ rfl) rfl) (pa_cons (pe_glob (v := .ref (Cs 2)) rfl (EC.mg 2 _ rfl) rfl) (pa_cons (pe_glob (v := .ref (Cs 3)) rfl (EC.mg 3 _ rfl) rfl)
            (pa_cons (pe_glob (v := .ref (Cs 4)) rfl (EC.mg 4 _ rfl) rfl) (pa_cons (pe_glob (v := .ref (Cs 6)) rfl (EC.mg 6 _ rfl) rfl) (pa_cons (pe_glob (v := .ref (Cs 7)) rfl (EC.mg 7 _ rfl) rfl) pa_nil))))))) pa_nil)))))
          (pss_cons (ps_set (i := 5) scBo.nd rfl (Or.inl rfl) (by exact (pe_or (pv 5) (pe_one (pe_callB (call_isST hz hf) (by rfl) T.isi boot_isinstance (pa_cons (pv 4) (pa_cons (pe_tup
            (pa_cons (pe_glob (v := .ref (Cs 8)) rfl (EC.mg 8 _ rfl) rfl) (pa_cons (pe_glob (v := .ref (Cs 9)) rfl (EC.mg 9 _ rfl) rfl) (pa_cons (pe_glob (v := .ref (Cs 10)) rfl (EC.mg 10 _ rfl) rfl) pa_nil)))) pa_nil)))))))
          (pss_one (ps_set (i := 3) scBo.nd rfl (Or.inl rfl) (by exact (pe_lst (pa_cons pe_str (pa_cons (pe_and (pe_callB (call_isS hz hf) (by rfl) T.isi boot_isinstance (pa_cons (pv 4) (pa_cons (pe_glob (v := .ref (Cs 5)) rfl (EC.mg 5 _ rfl) rfl) pa_nil)))
            (pe_and (pe_not (pv 5)) (pe_one (pe_cmpR op_eq (pe_valS hz hf (pv 4)) (pv 1) (nomark _))))) pa_nil)))))))))
    (pss_one (ps_ret (pv 3)))), ?_⟩
  obtain ⟨dx, v, ho, hR⟩ := id pat
  refine ⟨by show 0 ≤ sizeLine; decide, fun l0 hl0 => ?_⟩
  have s0 := same_new hl0 (.lst [])
  show t_tryO Cs C _ _ _ (upd H l0 (.lst []))
  generalize upd H l0 (.lst []) = H0 at s0
  have made : ruleF wd0 s = none → ∀ (H1 : Hp) (o' : Addr) (G' : List Addr), Same H0 H1 → PatAt C H1 o' d wd0 s G' → (3 - 1 ≤ sizeLine) ∧ ∀ l, H1 l = none → Q (.ref l) (upd H1 l (.lst [.str (Str.ofString "made"), .ref o'])) := fun hb H1 o' G' hs pa => by
    refine ⟨by decide, fun l hl => ?_⟩
    have st := same_new hl (.lst [.str (Str.ofString "made"), .ref o'])
    obtain ⟨dx', w1, e1, e2⟩ := pa
    refine kk l _ ((s0.trans hs).trans st) ((s0.trans hs).free hl) (fun _ => ⟨o', G', upd_same, dx', w1, st _ _ e1, e2.same st⟩) (fun z => ?_)
    rw [rule_o z] at hb
    cases hb
  have refused : ∀ (D : L2.Ends) (σ : L2.St), σ = [some (.ref o), some (.str wd0), some (.int mode), some (.ref l0), none, none] → (∀ (l : Addr) (H' : Hp) (v5 : Option V), Q (.ref l) H' → D.nx [some (.ref o), some (.str wd0), some (.int mode), some (.ref l), none, v5] H') → ∀ e, ruleF wd0 s = some e → Thr Cs H0 (WE (wAs K (.ref (Cs 0)) 4 (t_suiteO K Cs) (fun _ _ _ _ => False) D) σ) e := by
    rintro D _ rfl hD e he
    have hb : ordB wd0 = false := by
      cases hb : ordB wd0 with
      | false => rfl
      | true =>
        rw [rule_n hb hlk] at he
        cases he
    rw [rule_o hb] at he
    cases he
    intro dd H2 w G hs2 hdd0 hdd hr hG
    obtain ⟨rfl, _, rfl⟩ := hr
    have c5 : (5 : Nat) < 11 := by decide
    have ew := EC.ew 5 c5
    have kit := fun j hj => EC.kit 5 j c5 hj
    have no : ∀ j, j < 11 → j ≠ 0 → j ≠ 5 → PySem.W.kitOne K (.ref (Cs 5)) (.ref (Cs j)) = some false := fun j hj h0 h5 => by
      rw [kit j hj, decide_eq_false (by omega)]
    refine ⟨true, EC.exm 5 c5, fun _ a _ => ?_, fun z => nomatch z⟩
    refine ⟨_, rfl, by show 6 ≤ sizeLine; decide, fun tp htp => ?_⟩
    have s1 := same_new htp (.tup [V.ref (Cs 1), V.ref (Cs 2), V.ref (Cs 3), V.ref (Cs 4), V.ref (Cs 6), V.ref (Cs 7)])
    refine ⟨Cs 5, dd, _, tp, _, _, false, rfl, rfl, ew, rfl, upd_same, .cons (.own _) (.cons (.own _) (.cons (.own _) (.cons (.own _) (.cons (.own _) (.cons (.own _) .nil))))), s1 _ _ hdd,
      kitAny_cons (no 1 (by decide) (by decide) (by decide)) (fun _ => kitAny_cons (no 2 (by decide) (by decide) (by decide)) (fun _ => kitAny_cons (no 3 (by decide) (by decide) (by decide)) (fun _ => kitAny_cons (no 4 (by decide) (by decide) (by decide)) (fun _ => kitAny_cons (no 6 (by decide) (by decide) (by decide)) (fun _ => kitAny_cons (no 7 (by decide) (by decide) (by decide)) (fun _ => kitAny_nil) fun z => nomatch z) fun z => nomatch z) fun z => nomatch z) fun z => nomatch z) fun z => nomatch z) (fun z => nomatch z), ?_⟩
    refine ⟨_, rfl, false, rfl, iteF ⟨_, rfl, by show 3 ≤ sizeLine; decide, fun tp2 htp2 => ?_⟩⟩
    have s2 := s1.trans (same_new htp2 (.tup [V.ref (Cs 8), V.ref (Cs 9), V.ref (Cs 10)]))
    refine ⟨Cs 5, dd, _, tp2, _, _, false, rfl, rfl, ew, rfl, upd_same, .cons (.own _) (.cons (.own _) (.cons (.own _) .nil)), s2 _ _ hdd,
      kitAny_cons (no 8 (by decide) (by decide) (by decide)) (fun _ => kitAny_cons (no 9 (by decide) (by decide) (by decide)) (fun _ => kitAny_cons (no 10 (by decide) (by decide) (by decide)) (fun _ => kitAny_nil) fun z => nomatch z) fun z => nomatch z) (fun z => nomatch z), ?_⟩
    refine ⟨_, rfl, Cs 5, dd, _, .ref (Cs 5), .ref (Cs 5), _, rfl, rfl, ew, rfl, .own _, s2 _ _ hdd, kit 5 c5, _, rfl, ifT (decide_eq_true (.inr rfl)) ?_⟩
    refine ⟨_, rfl, false, rfl, _, rfl, iteT ?_⟩
    refine ⟨_, rfl, Cs 5, dd, _, .str wd0, rfl, rfl, rfl, ew, EC.val 5 c5, s2 _ _ hdd, rfl, _, rfl, rfl, ?_⟩
    rw [decide_eq_true rfl]
    refine ⟨by show 2 ≤ sizeLine; decide, fun l hl => ?_⟩
    have st := same_new hl (.lst [V.str (Str.ofString "refused"), V.bl true])
    exact hD l _ _ (kk l _ (((s0.trans hs2).trans s2).trans st) (((s0.trans hs2).trans s2).free hl) (fun z => by
      rw [hb] at z
      cases z) fun _ => upd_same)
  have ho0 := s0 _ _ ho
  have pat0 : PatAt C H0 o d r s G := ⟨dx, v, ho0, hR.same s0⟩
  refine ⟨_, rfl, rfl, _, rfl, ?_⟩
  refine ite2 (fun _ => ?_) (fun _ => ?_)
  · refine ⟨_, rfl, o, dx, _, rfl, ho0, pfs_with _ _ _, _, rfl, o, d, r, s, wd0, G, rfl, pat0, hGd, hT, fun hn o' H1 G' hs ho' pa hG' => ?_, fun e he => ?_⟩
    rotate_left
    · refine refused _ _ rfl ?_ e he
      exact fun l H' v5 q => ⟨_, rfl, q⟩
    obtain ⟨g1, g2⟩ := made hn H1 o' G' hs pa
    exact ⟨g1, fun l hl => ⟨_, rfl, g2 l hl⟩⟩
  · refine ⟨_, rfl, o, dx, _, rfl, ho0, pfs_with _ _ _, _, rfl, o, d, r, s, wd0, G, rfl, pat0, hGd, hT, fun hn o' H1 G' hs ho' pa hG' => ?_, fun e he => ?_⟩
    rotate_left
    · refine refused _ _ rfl ?_ e he
      exact fun l H' v5 q => ⟨_, rfl, q⟩
    obtain ⟨g1, g2⟩ := made hn H1 o' G' hs pa
    exact ⟨g1, fun l hl => ⟨_, rfl, g2 l hl⟩⟩
end
end K03
set_option Elab.async false
set_option linter.all false
set_option maxRecDepth 100000
set_option maxHeartbeats 4000000
namespace K03
open PySem L2 PyProof.Rows
theorem two_sh {x y : Str} (hx : OkT x) (hy : OkT y) : SeqAt.shaped (.tuple [.str x, .str y]) = true := by simp [SeqAt.shaped, PyData.canLay0, PyData.canLayAll0, PyData.depth, PyData.depthAll, tx_ok hx, tx_ok hy]
theorem two_eq {x y : Str} : PyData.eqv (.tuple [.str x, .str y]) (.tuple [.str x, .str y]) = true := by simp [PyData.eqv, PyData.eqvAll]
def refT : PyData := .list [.str (Str.ofString "refused"), .bool true]
theorem ref_sh : SeqAt.shaped refT = true := by decide +kernel
theorem ref_eq : PyData.eqv refT refT = true := by decide +kernel
theorem PatAt.but {C o p : Addr} {H H1 : Hp} {d : D} {r s : Str} {G : List Addr} {n : Nat} (h : PatAt C H o d r s G) (b : But p H H1) (hp : Purse H p n) (hG : p ∉ G) : PatAt C H1 o d r s G := by
  obtain ⟨dx, v, e1, e2⟩ := h
  refine ⟨dx, v, b _ _ (fun z => ?_) e1, rep_but e2 b hp hG⟩
  obtain ⟨x, y, c, e, _⟩ := hp
  rw [z, e] at e1
  cases e1
theorem PatAt.same {C o : Addr} {H H1 : Hp} {d : D} {r s : Str} {G : List Addr} (h : PatAt C H o d r s G) (b : Same H H1) : PatAt C H1 o d r s G := by
  obtain ⟨dx, v, e1, e2⟩ := h
  exact ⟨dx, v, b _ _ e1, e2.same b⟩
theorem word_at {r s : Str} (hr : OkT r) (hs : OkT s) {i : Int} (h0 : 0 ≤ i) (h1 : i < 6) : ∃ w : Str, OkT w ∧ atI [V.str r, V.str s, V.str (Str.ofString "soon"), V.str (Str.ofString "late"), V.str (Str.ofString "soon "), V.str (Str.ofString "")] i = some (.str w) := by
  have e : i = ((0 : Nat) : Int) ∨ i = ((1 : Nat) : Int) ∨ i = ((2 : Nat) : Int) ∨ i = ((3 : Nat) : Int) ∨ i = ((4 : Nat) : Int) ∨ i = ((5 : Nat) : Int) := by omega
  rcases e with e | e | e | e | e | e
  · exact ⟨_, hr, at_ofN e rfl⟩
  · exact ⟨_, hs, at_ofN e rfl⟩
  · exact ⟨_, tx_of (by decide +kernel), at_ofN e rfl⟩
  · exact ⟨_, tx_of (by decide +kernel), at_ofN e rfl⟩
  · exact ⟨_, tx_of (by decide +kernel), at_ofN e rfl⟩
  · exact ⟨_, tx_of (by decide +kernel), at_ofN e rfl⟩
def cR : Nat := Cl.cPl + 100
def spRight : Sp := fun vs H Q _ => ∃ (p : Addr) (n : Nat), vs = [.ref p] ∧ Purse H p n ∧ n + cR < 10 ^ 60 ∧ ∀ H', But p H H' → Purse H' p (n + cR) → Q (.bl true) H'
section
variable {P : Program} {w : World} {K : PySem.W.Frag} {mg : Str → Option Value} {base : Heap}
theorem scRt : FnScope ["purse", "plan", "sound", "made", "turn", "word", "found"] ["purse"] (defScope sRight) := ⟨rfl, rfl, rfl, by decide +kernel, rfl, by decide +kernel, by decide +kernel⟩
theorem ok_right {f C fC fP fR fD fB fS fG fO fL pP pO pL : Addr} {fd fdC fdP fdR fdD fdB fdS fdG fdO fdL : FuncData} (F : Fun K "_law_right" "_law_right" sRight f fd) (T : Txt K mg) (CC : PCls K C)
    (FC : Fun K "_law_coin" "_law_coin" sCoin fC fdC) (GC : FnOk P w K mg base CX0 1 fC fdC ["purse", "many"] spCoin) (bC : Binds K fdC ["purse", "many"] []) (mC : mg "_law_coin" = some (.ref fC))
    (FP : Fun K "_law_ta_plan" "_law_ta_plan" sPlan fP fdP) (GP : FnOk P w K mg base CX0 16 fP fdP ["purse", "is_great", "wrong", "kinds"] Cl.spPlan) (bP : Binds K fdP ["purse", "is_great", "wrong", "kinds"] []) (mP : mg "_law_ta_plan" = some (.ref fP))
    (FR : Fun K "_law_ta_refusals" "_law_ta_refusals" sRefus fR fdR) (GR : FnOk P w K mg base CX0 55 fR fdR ["purse", "plan"] spRefus) (bR : Binds K fdR ["purse", "plan"] []) (mR : mg "_law_ta_refusals" = some (.ref fR))
    (FD : Fun K "_law_ta_made" "_law_ta_made" sMade fD fdD) (GD : FnOk P w K mg base CX0 54 fD fdD ["purse", "plan"] (spMade C)) (bD : Binds K fdD ["purse", "plan"] []) (mD : mg "_law_ta_made" = some (.ref fD))
    (FB : Fun K "_law_ta_by_order" "_law_ta_by_order" sByOrd fB fdB) (GB : FnOk P w K mg base CX0 54 fB fdB ["made", "word", "mode"] (spByOrd C)) (bB : Binds K fdB ["made", "word", "mode"] []) (mB : mg "_law_ta_by_order" = some (.ref fB))
    (FS : Fun K "_law_ta_same" "_law_ta_same" sSame fS fdS) (GS : FnOk P w K mg base CX0 50 fS fdS ["told", "owed"] (spSame 50)) (bS : Binds K fdS ["told", "owed"] []) (mS : mg "_law_ta_same" = some (.ref fS))
    (pg : PropOf K C "part" pP fG) (GG : FnOk P w K mg base CX0 51 fG fdG ["self"] (spGPart C)) (bG : Binds K fdG ["self"] [])
    (po : PropOf K C "order" pO fO) (GO : FnOk P w K mg base CX0 1 fO fdO ["self"] (spGOrd C)) (bO : Binds K fdO ["self"] [])
    (pl : PropOf K C "lacks" pL fL) (GL : FnOk P w K mg base CX0 1 fL fdL ["self"] (spGLck C)) (bL : Binds K fdL ["self"] []) :
    FnOk P w K mg base CX0 56 f fd ["purse"] spRight := by
  refine F.ok scRt (fun vs H Q E h => ?_) (fun cdv A outer s H vs Q E hr h => ?_)
  · obtain ⟨p, n, rfl, _⟩ := h
    rfl
  obtain ⟨p, n, rfl, hp, hn, kk⟩ := h
  have hr1 := hr.mono (show 1 ≤ 55 by decide)
  have hr16 := hr.mono (show 16 ≤ 55 by decide)
  have hr50 := hr.mono (show 50 ≤ 55 by decide)
  have hr52 := hr.mono (show 51 + 1 ≤ 55 by decide)
  have hr2 := hr.mono (show 1 + 1 ≤ 55 by decide)
  have hr54 := hr.mono (show 54 ≤ 55 by decide)
  have e1 : cR = Cl.cPl + 100 := rfl
  refine ⟨_, pss_cons (ps_set (i := 1) scRt.nd rfl (Or.inl rfl) (pe_call GP hr16 rfl mP FP.kp bP .nil pass0 (pa_cons (pv 0) (pa_cons (pe_cmpR op_eq (pe_call GC hr1 rfl mC FC.kp bC .nil pass0 (pa_cons (pv 0) (pa_cons pe_int pa_nil))) pe_int (nomark _))
        (pa_cons pe_int (pa_cons (pe_lst (pa_cons pe_str pa_nil)) pa_nil))))))
    (pss_cons (ps_if (pt_not (pt_val (pe_call GR hr rfl mR FR.kp bR .nil pass0 (pa_cons (pv 0) (pa_cons (pv 1) pa_nil))))) pss_never pss_nil)
    (Evl.pss_cut (ps_set (i := 2) scRt.nd rfl (Or.inl rfl) (pe_ifExp (pt_cmpR op_eq (pe_call GC hr1 rfl mC FC.kp bC .nil pass0 (pa_cons (pv 0) (pa_cons pe_int pa_nil))) pe_int (nomark _))
        (pe_tup (pa_cons (pe_ix ix_tup (pv 1) pe_int (fun _ _ => rfl)) (pa_cons pe_str (pa_cons pe_str pa_nil)))) (pe_tup (pa_cons (pe_ix ix_tup (pv 1) pe_int (fun _ _ => rfl)) (pa_cons pe_str (pa_cons pe_str pa_nil))))))
    (pss_cons (ps_set (i := 3) scRt.nd rfl (Or.inl rfl) (pe_call GD hr54 rfl mD FD.kp bD .nil pass0 (pa_cons (pv 0) (pa_cons (pv 2) pa_nil))))
    (pss_cons (ps_for PassesOwn.never rfl (pi_range1 rfl T.range (pa_cons pe_int pa_nil)) (pg_name (i := 4) scRt.nd rfl (Or.inl rfl))
      (pss_cons (ps_set (i := 5) scRt.nd rfl (Or.inl rfl) (pe_ix ix_list (pe_lst (pa_cons (pe_ix ix_tup (pv 1) pe_int (fun _ _ => rfl)) (pa_cons (pe_ix ix_tup (pv 1) pe_int (fun _ _ => rfl)) (pa_cons pe_str (pa_cons pe_str (pa_cons pe_str (pa_cons pe_str pa_nil)))))))
          (pe_call GC hr1 rfl mC FC.kp bC .nil pass0 (pa_cons (pv 0) (pa_cons pe_int pa_nil))) (fun _ _ => rfl)))
      (pss_cons (ps_set (i := 6) scRt.nd rfl (Or.inl rfl) (pe_call GB hr54 rfl mB FB.kp bB .nil pass0 (pa_cons (pv 3) (pa_cons (pv 5) (pa_cons (pe_call GC hr1 rfl mC FC.kp bC .nil pass0 (pa_cons (pv 0) (pa_cons pe_int pa_nil))) pa_nil)))))
      (Evl.pss_cut (ps_if (pt_cmpR op_in_seq (pv 5) (pe_tup (pa_cons pe_str (pa_cons pe_str pa_nil))) (by rfl))
          (pss_cons (ps_if (PW.pt (pw_or (pt_cmpR op_ne (pe_ix ix_list (pv 6) pe_int (fun _ _ => rfl)) pe_str (nomark _)) (pw_or1 (pt_not (pt_val (pe_call GS hr50 rfl mS FS.kp bS .nil pass0 (pa_cons (pe_prop (pe_ix ix_list (pv 6) pe_int (fun _ _ => rfl)) CC.cl pg GG hr52 bG .nil pass0 rfl) (pa_cons (pe_ix ix_tup (pv 1) pe_int (fun _ _ => rfl)) pa_nil)))))))) pss_never pss_nil)
          (pss_one (ps_if (pt_cmpR (op_neD hr.units) (pe_tup (pa_cons (pe_prop (pe_ix ix_list (pv 6) pe_int (fun _ _ => rfl)) CC.cl po GO hr2 bO .nil pass0 rfl) (pa_cons (pe_prop (pe_ix ix_list (pv 6) pe_int (fun _ _ => rfl)) CC.cl pl GL hr2 bL .nil pass0 rfl) pa_nil)))
              (pe_tup (pa_cons (pv 5) (pa_cons (pe_ix ix_tup (pv 2) pe_int (fun _ _ => rfl)) pa_nil))) (nomark _)) pss_never pss_nil)))
          (pss_one (ps_if (pt_cmpR (op_neD hr.units) (pv 6) (pe_lst (pa_cons pe_str (pa_cons pe_bl pa_nil))) (nomark _)) pss_never pss_nil)))
      (pss_one (ps_if (PW.pt (pw_or (pt_cmpR (op_neD hr.units) (pe_tup (pa_cons (pe_prop (pv 3) CC.cl po GO hr2 bO .nil pass0 rfl) (pa_cons (pe_prop (pv 3) CC.cl pl GL hr2 bL .nil pass0 rfl) pa_nil)))
              (pe_tup (pa_cons (pe_ix ix_tup (pv 2) pe_int (fun _ _ => rfl)) (pa_cons (pe_ix ix_tup (pv 2) pe_int (fun _ _ => rfl)) pa_nil))) (nomark _))
            (pw_or1 (pt_not (pt_val (pe_call GS hr50 rfl mS FS.kp bS .nil pass0 (pa_cons (pe_prop (pv 3) CC.cl pg GG hr52 bG .nil pass0 rfl) (pa_cons (pe_ix ix_tup (pv 1) pe_int (fun _ _ => rfl)) pa_nil)))))))) pss_never pss_nil))))))
    (pss_one (ps_ret pe_bl)))))), ?_⟩
  refine ⟨_, rfl, _, rfl, p, 4, n, rfl, hp, by omega, by decide, by decide, fun d1 H1 a1 a2 hb1 hp1 => ⟨rfl, ?_⟩⟩
  refine ⟨by show 1 ≤ sizeLine; decide, fun kA hkA => ?_⟩
  have st := same_new hkA (.lst [V.str (Str.ofString "rule")])
  have hb3 := hb1.trans (.of st)
  have hp3 := hp1.same st
  have hk3 : (upd H1 kA (.lst [V.str (Str.ofString "rule")])) kA = some (.lst [V.str (Str.ofString "rule")]) := upd_same
  generalize upd H1 kA (.lst [V.str (Str.ofString "rule")]) = H3 at hb3 hp3 hk3 st
  refine ⟨p, kA, _, n + 1, rfl, hp3, by omega, hk3, (hp1.ne hkA), fun t d r s G H4 hb4 hp4 ht0 hPl hG hOk => ?_⟩
  obtain ⟨⟨u, ht, hR⟩, hr0, hs0⟩ := hPl
  obtain ⟨hW, hT⟩ := hOk.to
  have hGd : Good 40 d := hW.good.le (by decide)
  have hpG : p ∉ G := fun z => by
    obtain ⟨o, ho⟩ := hp3.some
    rw [hG p z] at ho
    cases ho
  have htp : t ≠ p := hp3.ne ht0
  refine ⟨_, rfl, _, rfl, p, t, _, u, d, r, s, G, rfl, hp4, by omega, ht, hR, hpG, hW, hr0, hs0, fun H5 hb5 hp5 => ⟨_, rfl, iteF ?_⟩⟩
  have hb05 := (hb3.trans hb4).trans hb5
  have ht5 := hb5 _ _ htp ht
  have hR5 := rep_but hR hb5 hp4 hpG
  clear hb1 hp1 hb3 hp3 hk3 st hb4 hb5 ht hR
  -- what is sound
  refine ⟨fun σ' H' => But p H5 H' ∧ Purse H' p (n + 1 + Cl.cPl + 3 + 1) ∧ ∃ (t2 : Addr) (so sl : Str), t2 ≠ p ∧ H' t2 = some (.tup [u, .str so, .str sl]) ∧ ordB so = true ∧ lckB sl = true ∧ OkT so ∧ OkT sl ∧ σ' = [some (.ref p), some (.ref t), some (.ref t2), none, none, none, none], ?_, ?_⟩
  · refine ⟨_, rfl, p, 2, _, rfl, hp5, by omega, by decide, by decide, fun d2 H6 a3 a4 hb6 hp6 => ⟨rfl, _, rfl, ?_⟩⟩
    have t0 : atI [u, V.str r, V.str s] 0 = some u := atI_nat (j := 0) rfl
    have ht6 := SqT.of (K := K) (hb6 _ _ htp ht5)
    refine ite2 (fun _ => ?_) (fun _ => ?_)
    · refine ⟨_, rfl, t, _, 0, _, rfl, rfl, ht6, t0, by show 3 ≤ sizeLine; decide, fun q hq => ?_⟩
      have sq := same_new hq (.tup [u, V.str (Str.ofString "late"), V.str (Str.ofString "nothing")])
      exact ⟨hb6.trans (.of sq), hp6.same sq, q, _, _, hp6.ne hq, upd_same, (by decide +kernel), (by decide +kernel), tx_of (by decide +kernel), tx_of (by decide +kernel), rfl⟩
    · refine ⟨_, rfl, t, _, 0, _, rfl, rfl, ht6, t0, by show 3 ≤ sizeLine; decide, fun q hq => ?_⟩
      have sq := same_new hq (.tup [u, V.str (Str.ofString "soon"), V.str (Str.ofString "absent")])
      exact ⟨hb6.trans (.of sq), hp6.same sq, q, _, _, hp6.ne hq, upd_same, (by decide +kernel), (by decide +kernel), tx_of (by decide +kernel), tx_of (by decide +kernel), rfl⟩
  rintro _ H6 ⟨hb6, hp6, t2, so, sl, ht2p, ht2, hso, hsl, hso0, hsl0, rfl⟩
  have ht6 := hb6 _ _ htp ht5
  have hR6 := rep_but hR5 hb6 hp5 hpG
  have hb06 := hb05.trans hb6
  clear hb05 hb6 ht5 hR5 hp5
  refine ⟨_, rfl, _, rfl, p, t2, _, u, d, so, sl, rfl, hp6, by omega, ht2, hR6.rw, hGd, hT, hso, hsl, fun o H7 Go hb7 hp7 ho0 pat hGo => ?_⟩
  have ht7 := hb7 _ _ htp ht6
  have ht27 := hb7 _ _ ht2p ht2
  have hR7 := rep_but hR6 hb7 hp6 hpG
  have hb07 := hb06.trans hb7
  have hpGo : p ∉ Go := fun z => by
    obtain ⟨x, hx⟩ := hp6.some
    rw [hGo p z] at hx
    cases hx
  clear ht6 ht2 hR6 hb06 hb7 ho0 hGo hp6
  refine ⟨4, rfl, by decide, by decide, ?_⟩
  refine for_range (lo := 0) (n := 4) (fun i σ' H' => But p H7 H' ∧ Purse H' p (n + 1 + Cl.cPl + 3 + 1 + 1 + i * 2) ∧ ∃ v4 v5 v6 : Option V, σ' = [some (.ref p), some (.ref t), some (.ref t2), some (.ref o), v4, v5, v6]) ⟨But.refl _ _, hp7.mono (by omega), _, _, _, rfl⟩ ?_ ?_
  · rintro i σ' H8 hi ⟨hb8, hp8, v4, v5, v6, rfl⟩
    have t0 : atI [u, V.str r, V.str s] 0 = some u := atI_nat (j := 0) rfl
    have t1 : atI [u, V.str r, V.str s] 1 = some (.str r) := atI_nat (j := 1) rfl
    have t2' : atI [u, V.str r, V.str s] 2 = some (.str s) := atI_nat (j := 2) rfl
    have q1 : atI [u, V.str so, V.str sl] 1 = some (.str so) := atI_nat (j := 1) rfl
    have q2 : atI [u, V.str so, V.str sl] 2 = some (.str sl) := atI_nat (j := 2) rfl
    have ht8 := hb8 _ _ htp ht7
    refine ⟨_, rfl, t, _, 1, _, rfl, rfl, SqT.of ht8, t1, _, rfl, t, _, 2, _, rfl, rfl, SqT.of ht8, t2', by show 6 ≤ sizeLine; decide, fun q hq => ?_⟩
    have sq := same_new hq (.lst [V.str r, V.str s, V.str (Str.ofString "soon"), V.str (Str.ofString "late"), V.str (Str.ofString "soon "), V.str (Str.ofString "")])
    have hqq : (upd H8 q (.lst [V.str r, V.str s, V.str (Str.ofString "soon"), V.str (Str.ofString "late"), V.str (Str.ofString "soon "), V.str (Str.ofString "")])) q = some (.lst [V.str r, V.str s, V.str (Str.ofString "soon"), V.str (Str.ofString "late"), V.str (Str.ofString "soon "), V.str (Str.ofString "")]) := upd_same
    refine ⟨_, rfl, p, 6, _, rfl, hp8.same sq, by omega, by decide, by decide, fun d3 H9 a5 a6 hb9 hp9 => ?_⟩
    obtain ⟨wd0, hwd, hat⟩ := word_at hr0 hs0 a5 a6
    refine ⟨q, _, _, _, rfl, rfl, SqL.of (hb9 _ _ (hp8.ne hq) hqq), hat, ?_⟩
    refine ⟨_, rfl, _, rfl, _, rfl, p, 2, _, rfl, hp9, by omega, by decide, by decide, fun d4 H10 a7 a8 hb10 hp10 => ?_⟩
    have hb := ((hb8.trans (.of sq)).trans hb9).trans hb10
    have ht10 := hb _ _ htp ht7
    have ht210 := hb _ _ ht2p ht27
    have pat10 := pat.but hb hp7 hpGo
    have hR10 := rep_but hR7 hb hp7 hpG
    refine ⟨o, wd0, d4, d, so, sl, Go, rfl, pat10, hGd, hT, hsl, fun l H11 hs11 hl0 hm hf => ?_⟩
    -- what was told
    refine ⟨fun σ' H' => Same H10 H' ∧ σ' = [some (.ref p), some (.ref t), some (.ref t2), some (.ref o), some (.int (0 + (i : Int))), some (.str wd0), some (.ref l)], ?_, ?_⟩
    · refine ⟨_, rfl, by show 2 ≤ sizeLine; decide, fun pp hpp => ⟨pp, _, rfl, .inr (SqT.of upd_same), rfl, rfl, _, rfl, ?_⟩⟩
      have sp := same_new hpp (.tup [V.str (Str.ofString "soon"), V.str (Str.ofString "late")])
      have s1 := hs11.trans sp
      show if ordB wd0 = true then _ else _
      cases hb0 : ordB wd0 with
      | true =>
        refine iteT ?_
        obtain ⟨o', G', hl, pa'⟩ := hm hb0
        have hl2 := sp _ _ hl
        have pa2 := pa'.same sp
        obtain ⟨dx', w', ho', _⟩ := id pa2
        refine ⟨_, rfl, l, _, _, _, rfl, rfl, SqL.of hl2, atI_nat (j := 0) rfl, rfl, _, rfl, ifF (by rw [decide_eq_true rfl]; rfl) ?_⟩
        refine ⟨_, rfl, l, _, _, _, rfl, rfl, SqL.of hl2, atI_nat (j := 1) rfl, o', dx', _, rfl, ho', o', d, wd0, sl, G', rfl, pa2, hGd, fun u2 H12 G2 hs12 hr12 hG2 => ?_⟩
        have s2 := s1.trans hs12
        refine ⟨_, rfl, t, _, 0, _, rfl, rfl, SqT.of (s2 _ _ ht10), t0, u2, u, d, 40, rfl, by decide, hr12.rw, hR10.rw.same s2, hGd.cp, fun H13 hs13 => ⟨_, rfl, iteF ?_⟩⟩
        have s3 := s2.trans hs13
        have pa3 := (pa2.same hs12).same hs13
        have hl3 := hs13 _ _ (hs12 _ _ hl2)
        obtain ⟨dx3, w3, ho3, _⟩ := id pa3
        refine ⟨_, rfl, l, _, _, _, rfl, rfl, SqL.of hl3, atI_nat (j := 1) rfl, o', dx3, _, rfl, ho3, o', d, wd0, sl, G', rfl, pa3, _, rfl, l, _, _, _, rfl, rfl, SqL.of hl3, atI_nat (j := 1) rfl, o', dx3, _, rfl, ho3, o', d, wd0, sl, G', rfl, pa3, by show 2 ≤ sizeLine; decide, fun p1 hp1 => ?_⟩
        have sp1 := same_new hp1 (.tup [V.str wd0, V.str sl])
        have hp11 : (upd H13 p1 (.tup [V.str wd0, V.str sl])) p1 = some (.tup [V.str wd0, V.str sl]) := upd_same
        refine ⟨_, rfl, _, rfl, t2, _, 2, _, rfl, rfl, SqT.of ((s3.trans sp1) _ _ ht210), q2, by show 2 ≤ sizeLine; decide, fun p2 hp2 => ?_⟩
        have sp2 := same_new hp2 (.tup [V.str wd0, V.str sl])
        refine ⟨.tuple [.str wd0, .str sl], .tuple [.str wd0, .str sl], .tup (SqT.of (sp2 _ _ hp11)) (.cons (.str _) (.cons (.str _) .nil)), .tup (SqT.of upd_same) (.cons (.str _) (.cons (.str _) .nil)), two_sh hwd hsl0, two_sh hwd hsl0, _, rfl, ?_⟩
        rw [two_eq]
        exact iteF ⟨(s3.trans sp1).trans sp2, rfl⟩
      | false =>
        refine iteF ?_
        have hl2 := sp _ _ (hf hb0)
        refine ⟨_, rfl, by show 2 ≤ sizeLine; decide, fun q3 hq3 => ?_⟩
        have s3 := same_new hq3 (.lst [V.str (Str.ofString "refused"), V.bl true])
        refine ⟨refT, refT, .lst (SqL.of (s3 _ _ hl2)) (.cons (.str _) (.cons (.bl _) .nil)), .lst (SqL.of upd_same) (.cons (.str _) (.cons (.bl _) .nil)), ref_sh, ref_sh, _, rfl, ?_⟩
        rw [ref_eq]
        exact iteF ⟨s1.trans s3, rfl⟩
    rintro _ H12 ⟨hs12, rfl⟩
    have pat12 := pat10.same hs12
    obtain ⟨dx, w0, ho12, _⟩ := id pat12
    refine ⟨_, rfl, o, dx, _, rfl, ho12, o, d, so, sl, Go, rfl, pat12, _, rfl, o, dx, _, rfl, ho12, o, d, so, sl, Go, rfl, pat12, by show 2 ≤ sizeLine; decide, fun p1 hp1 => ?_⟩
    have sp1 := hs12.trans (same_new hp1 (.tup [V.str so, V.str sl]))
    have hp11 : (upd H12 p1 (.tup [V.str so, V.str sl])) p1 = some (.tup [V.str so, V.str sl]) := upd_same
    refine ⟨_, rfl, t2, _, 1, _, rfl, rfl, SqT.of (sp1 _ _ ht210), q1, _, rfl, t2, _, 2, _, rfl, rfl, SqT.of (sp1 _ _ ht210), q2, by show 2 ≤ sizeLine; decide, fun p2 hp2 => ?_⟩
    have sn2 := same_new hp2 (.tup [V.str so, V.str sl])
    have sp2 := sp1.trans sn2
    refine ⟨.tuple [.str so, .str sl], .tuple [.str so, .str sl], .tup (SqT.of (sn2 _ _ hp11)) (.cons (.str _) (.cons (.str _) .nil)), .tup (SqT.of upd_same) (.cons (.str _) (.cons (.str _) .nil)), two_sh hso0 hsl0, two_sh hso0 hsl0, _, rfl, ?_⟩
    rw [two_eq]
    refine iteF ?_
    have pat13 := pat10.same sp2
    obtain ⟨dx3, w3, ho13, _⟩ := id pat13
    refine ⟨_, rfl, o, dx3, _, rfl, ho13, o, d, so, sl, Go, rfl, pat13, hGd, fun u2 H14 G2 hs14 hr14 hG2 => ?_⟩
    have s14 := sp2.trans hs14
    refine ⟨_, rfl, t, _, 0, _, rfl, rfl, SqT.of (s14 _ _ ht10), t0, u2, u, d, 40, rfl, by decide, hr14.rw, hR10.rw.same s14, hGd.cp, fun H15 hs15 => ⟨_, rfl, iteF ?_⟩⟩
    have s15 := s14.trans hs15
    refine ⟨hb.trans (.of s15), (hp10.same s15).mono (by omega), _, _, _, rfl⟩
  · rintro σ' H8 ⟨hb8, hp8, v4, v5, v6, rfl⟩
    exact kk H8 (hb07.trans hb8) (hp8.mono (by omega))
end
end K03
set_option Elab.async false
set_option linter.all false
set_option maxRecDepth 100000
set_option maxHeartbeats 4000000
namespace K03
open PySem L2 PyProof.Rows
/-! ### the law -/
def spLaw (K : PySem.W.Frag) : Sp := fun vs H Q _ => ∃ (a : Addr) (ns : List Int), vs = [.ref a] ∧ SqL K H a (ns.map V.int) ∧ ns.length ≤ 63 ∧ ∀ H', Q (.bl true) H'
section
variable {P : Program} {w : World} {K : PySem.W.Frag} {mg : Str → Option Value} {base : Heap}
theorem scL : FnScope ["script", "spot", "purse", "turn"] ["script"] (defScope sLaw) := ⟨rfl, rfl, rfl, by decide +kernel, rfl, by decide +kernel, by decide +kernel⟩
theorem ok_law {f fP fR : Addr} {fd fdP fdR : FuncData} (F : Fun K "law" "law" sLaw f fd) (T : Txt K mg) (GP : FnOk P w K mg base CX0 1 fP fdP ["script", "place"] (spPurse K)) (bP : Binds K fdP ["script", "place"] []) (mP : mg "_law_purse" = some (.ref fP)) (kP : PySem.W.keepIn K (.ref fP) = true)
    (GR : FnOk P w K mg base CX0 56 fR fdR ["purse"] spRight) (bR : Binds K fdR ["purse"] []) (mR : mg "_law_right" = some (.ref fR)) (kR : PySem.W.keepIn K (.ref fR) = true) : FnOk P w K mg base CX0 57 f fd ["script"] (spLaw K) := by
  refine F.ok scL (fun vs H Q E h => ?_) (fun cdv A outer s H vs Q E hr h => ?_)
  · obtain ⟨a, ns, rfl, _⟩ := h
    rfl
  obtain ⟨a, ns, rfl, hS, hl, kk⟩ := h
  have hr1 : Room 1 (A.deeper (envOfC "law" (defScope sLaw) s.heap.objs.size f cdv)) := hr.mono (by decide)
  refine ⟨_, pss_cons (ps_for PassesOwn.never rfl (pi_range1 rfl T.range (pa_cons (pe_callB (call_max2 rfl) (by rfl) T.max boot_max (pa_cons pe_int (pa_cons (pe_callB (call_min2 rfl) (by rfl) T.min boot_min (pa_cons pe_int (pa_cons (pe_callB call_len_seq (by rfl) T.len PySem.boot_len (pa_cons (pv 0) pa_nil)) pa_nil))) pa_nil))) pa_nil)) (pg_name (i := 1) scL.nd rfl (Or.inl rfl))
      (pss_cons (ps_set (i := 2) scL.nd rfl (Or.inl rfl) (pe_call GP hr1 rfl mP kP bP .nil pass0 (pa_cons (pv 0) (pa_cons (pv 1) pa_nil))))
      (pss_one (ps_for PassesOwn.never rfl (pi_range1 rfl T.range (pa_cons pe_int pa_nil)) (pg_name (i := 3) scL.nd rfl (Or.inl rfl))
        (pss_one (ps_if (pt_not (pt_val (pe_call GR hr rfl mR kR bR .nil pass0 (pa_cons (pv 2) pa_nil)))) pss_never pss_nil))))))
    (pss_one (ps_ret pe_bl)), ?_⟩
  refine ⟨_, rfl, a, _, rfl, .inl hS, _, _, rfl, _, _, rfl, _, rfl, ?_, ?_, ?_⟩
  · split <;> split <;> omega
  · split <;> split <;> omega
  refine for_range (lo := 0) (fun i σ' H' => Same H H' ∧ ∃ v1 v2 v3 : Option V, σ' = [some (.ref a), v1, v2, v3]) ⟨Same.refl _, _, _, _, rfl⟩ ?_ ?_
  · rintro i σ' H1 hi ⟨hs1, v1, v2, v3, rfl⟩
    have hi6 : i ≤ 100 := by
      revert hi
      split <;> split <;> omega
    refine ⟨_, rfl, _, rfl, a, ns, i, by rw [Int.zero_add]; rfl, hs1.seq hS, hl, hi6, fun p H2 hp hs2 hpu => ?_⟩
    refine ⟨2, rfl, by decide, by decide, ?_⟩
    refine for_range (lo := 0) (n := 2) (fun j σ' H' => (But p H1 H' ∧ Purse H' p (j * cR)) ∧ ∃ v1 v3 : Option V, σ' = [some (.ref a), v1, some (.ref p), v3]) ⟨⟨.of hs2, by rw [Nat.zero_mul]; exact hpu⟩, _, _, rfl⟩ ?_ ?_
    · rintro j σ' H3 hj ⟨hA3, w1, w3, rfl⟩
      have hc : cR < 10 ^ 50 := by decide
      have hj3 : j * cR ≤ 1 * cR := Nat.mul_le_mul_right cR (by omega)
      refine ⟨_, rfl, p, j * cR, rfl, hA3.2, by omega, fun H4 hb4 hp4 => ⟨true, rfl, ?_⟩⟩
      refine ⟨⟨hA3.1.trans hb4, ?_⟩, _, _, rfl⟩
      rw [Nat.succ_mul]
      exact hp4
    · rintro σ' H3 ⟨hA3, w1, w3, rfl⟩
      refine ⟨fun b o e => ?_, _, _, _, rfl⟩
      have e1 := hs1 b o e
      exact hA3.1 b o (ne_of_none e1 hp) e1
  · rintro σ' H1 _
    exact kk H1
end
end K03
set_option Elab.async false
set_option linter.all false
set_option maxRecDepth 100000
set_option maxHeartbeats 4000000
namespace K03
open PySem L2 PyProof.Rows
/-! ### what the classes say, as one word -/
def clsOne (K : PySem.W.Frag) (C fI : Addr) : Bool :=
  decide (PySem.W.findIn K (.ref C) "__setattr__" = some (some (.builtin "object.__setattr__"))) && (decide (PySem.W.subIn K (.ref C) (.type "BaseException") = some true) && (decide (PySem.W.typeIn K (.ref C) = some (.type "type")) &&
  (PySem.W.keepIn K (.ref C) && ((PySem.W.clsIn K C).isSome && (decide (PySem.W.findIn K (.ref C) "__getattribute__" = some (some (.builtin "BaseException.__getattribute__"))) && (decide (PySem.W.findIn K (.ref C) "__getattr__" = some none) &&
  (PySem.W.hasDictIn K C && (decide (PySem.W.findIn K (.ref C) "__class__" = some (some (.builtin "object.__class__"))) && (decide (PySem.W.specialIn K (.builtin "object.__class__") "__get__" = some (some (.builtin "getset_descriptor.__get__"))) &&
  (decide (PySem.W.takesIn K (.builtin "object.__class__") = some true) && (decide (PySem.W.mroIn K C (.type "object") = some true) && (decide (PySem.W.findIn K (.ref C) "__init__" = some (some (.ref fI))) &&
  (decide (PySem.W.findIn K (.ref C) "value" = some none) && decide (PySem.W.kitOne K (.ref C) (.type "ValueError") = some true))))))))))))))
def clsAll (K : PySem.W.Frag) (Cs : List Addr) (fI : Addr) : Bool :=
  ((List.range 11).all fun j => clsOne K (Cs.getD j 0) fI) && (((List.range 11).all fun i => (List.range 11).all fun j => decide (PySem.W.kitOne K (.ref (Cs.getD i 0)) (.ref (Cs.getD j 0)) = some (decide (j = 0 ∨ j = i)))) &&
    (List.range 11).all fun j => decide (PySem.W.exmOne K (.ref (Cs.getD j 0)) (.ref (Cs.getD 0 0)) = some true))
theorem cls_of {K : PySem.W.Frag} {mg : Str → Option Value} {Cs : List Addr} {fI : Addr} (pk : clsAll K Cs fI = true) (tI : PySem.W.typeIn K (.ref fI) = some (.type "function")) (hm : ∀ j x, cNames[j]? = some x → mg x = some (.ref (Cs.getD j 0)))
    (hx : ∀ j, j < 11 → ∃ nm q N bs bm sn sub ab col dd k0 k1 k2 k3 k5, K.lookup (Cs.getD j 0) = some (excClassObj nm q (Cs.getD j 0) N bs bm true sn sub ab col dd k0 k1 k2 k3 k5 "ValueError.__new__") ∧ PySem.HandSPX.refsVE bm = true) :
    ECls K mg (fun j => Cs.getD j 0) fI := by
  obtain ⟨p1, p23⟩ := Bool.and_eq_true_iff.mp pk
  obtain ⟨p2, p3⟩ := Bool.and_eq_true_iff.mp p23
  have one : ∀ j, j < 11 → clsOne K (Cs.getD j 0) fI = true := fun j hj => List.all_eq_true.mp p1 j (List.mem_range.mpr hj)
  have two : ∀ i j, i < 11 → j < 11 → PySem.W.kitOne K (.ref (Cs.getD i 0)) (.ref (Cs.getD j 0)) = some (decide (j = 0 ∨ j = i)) := fun i j hi hj =>
    of_decide_eq_true (List.all_eq_true.mp (List.all_eq_true.mp p2 i (List.mem_range.mpr hi)) j (List.mem_range.mpr hj))
  have three : ∀ j, j < 11 → PySem.W.exmOne K (.ref (Cs.getD j 0)) (.ref (Cs.getD 0 0)) = some true := fun j hj => of_decide_eq_true (List.all_eq_true.mp p3 j (List.mem_range.mpr hj))
  have each : ∀ j, j < 11 → OexC K (Cs.getD j 0) ∧ ExcW K (Cs.getD j 0) ∧ PySem.W.findIn K (.ref (Cs.getD j 0)) "__init__" = some (some (.ref fI)) ∧ PySem.W.findIn K (.ref (Cs.getD j 0)) "value" = some none ∧ PySem.W.kitOne K (.ref (Cs.getD j 0)) (.type "ValueError") = some true := fun j hj => by
    have h := one j hj
    unfold clsOne at h
    obtain ⟨h1, h⟩ := Bool.and_eq_true_iff.mp h
    obtain ⟨h2, h⟩ := Bool.and_eq_true_iff.mp h
    obtain ⟨h3, h⟩ := Bool.and_eq_true_iff.mp h
    obtain ⟨h4, h⟩ := Bool.and_eq_true_iff.mp h
    obtain ⟨h5, h⟩ := Bool.and_eq_true_iff.mp h
    obtain ⟨h6, h⟩ := Bool.and_eq_true_iff.mp h
    obtain ⟨h7, h⟩ := Bool.and_eq_true_iff.mp h
    obtain ⟨h8, h⟩ := Bool.and_eq_true_iff.mp h
    obtain ⟨h9, h⟩ := Bool.and_eq_true_iff.mp h
    obtain ⟨h10, h⟩ := Bool.and_eq_true_iff.mp h
    obtain ⟨h11, h⟩ := Bool.and_eq_true_iff.mp h
    obtain ⟨h12, h⟩ := Bool.and_eq_true_iff.mp h
    obtain ⟨h13, h⟩ := Bool.and_eq_true_iff.mp h
    obtain ⟨h14, h15⟩ := Bool.and_eq_true_iff.mp h
    exact ⟨⟨hx j hj, of_decide_eq_true h1, of_decide_eq_true h2, of_decide_eq_true h3, h4⟩, ⟨h5, of_decide_eq_true h6, of_decide_eq_true h7, of_decide_eq_true h2, h8, of_decide_eq_true h9, of_decide_eq_true h10, of_decide_eq_true h11, of_decide_eq_true h12⟩,
      of_decide_eq_true h13, of_decide_eq_true h14, of_decide_eq_true h15⟩
  exact ⟨hm, fun j hj => (each j hj).1, fun j hj => (each j hj).2.1, fun j hj => (each j hj).2.2.1, fun j hj => (each j hj).2.2.2.1, tI, two, fun j hj => (each j hj).2.2.2.2, three⟩
theorem all_mk {l : PySem.W.OpenLaw} {w : World} {K : PySem.W.Frag} {h : Heap} {mg : Str → Option Value} {fa : Addr} (X : K.In h) (G : h.Ns mainGlobals mg) (hfa : mg "law" = some (.ref fa))
    {C pP pO pL dT dP : Addr} {rP rO rL : List Value} {t8 t9 u0 u1 u2 v0 v1 v2 v3 : Tok} {f_fresh : Addr} {od_fresh an_fresh : Option Addr} {sl_fresh : Array (Option Value)}
    {oc_fresh kV_fresh dc_fresh pm_fresh cd_fresh ct_fresh : Value} {f_fil : Addr} {od_fil an_fil : Option Addr} {sl_fil : Array (Option Value)} {oc_fil kV_fil dc_fil pm_fil cd_fil ct_fil : Value} {f_ckn : Addr}
    {od_ckn an_ckn : Option Addr} {sl_ckn : Array (Option Value)} {oc_ckn kV_ckn dc_ckn pm_ckn cd_ckn ct_ckn : Value} {f_cko : Addr} {od_cko an_cko : Option Addr} {sl_cko : Array (Option Value)}
    {oc_cko kV_cko dc_cko pm_cko cd_cko ct_cko : Value} {f_ckt : Addr} {od_ckt an_ckt : Option Addr} {sl_ckt : Array (Option Value)} {oc_ckt kV_ckt dc_ckt pm_ckt cd_ckt ct_ckt : Value} {f_ckd : Addr}
    {od_ckd an_ckd : Option Addr} {sl_ckd : Array (Option Value)} {oc_ckd kV_ckd dc_ckd pm_ckd cd_ckd ct_ckd : Value} {f_ckp : Addr} {od_ckp an_ckp : Option Addr} {sl_ckp : Array (Option Value)}
    {oc_ckp kV_ckp dc_ckp pm_ckp cd_ckp ct_ckp : Value} {f_ckr : Addr} {od_ckr an_ckr : Option Addr} {sl_ckr : Array (Option Value)} {oc_ckr kV_ckr dc_ckr pm_ckr cd_ckr ct_ckr : Value} {f_cke : Addr}
    {od_cke an_cke : Option Addr} {sl_cke : Array (Option Value)} {oc_cke kV_cke dc_cke pm_cke cd_cke ct_cke : Value} {f_cku : Addr} {od_cku an_cku : Option Addr} {sl_cku : Array (Option Value)}
    {oc_cku kV_cku dc_cku pm_cku cd_cku ct_cku : Value} {f_purse : Addr} {od_purse an_purse : Option Addr} {sl_purse : Array (Option Value)} {oc_purse kV_purse dc_purse pm_purse cd_purse ct_purse : Value} {f_coin : Addr}
    {od_coin an_coin : Option Addr} {sl_coin : Array (Option Value)} {oc_coin kV_coin dc_coin pm_coin cd_coin ct_coin : Value} {f_words : Addr} {od_words an_words : Option Addr} {sl_words : Array (Option Value)}
    {oc_words kV_words dc_words pm_words cd_words ct_words : Value} {f_copied : Addr} {od_copied an_copied : Option Addr} {sl_copied : Array (Option Value)} {oc_copied kV_copied dc_copied pm_copied cd_copied ct_copied : Value} {f_term : Addr}
    {od_term an_term : Option Addr} {sl_term : Array (Option Value)} {oc_term kV_term dc_term pm_term cd_term ct_term : Value} {f_name : Addr} {od_name an_name : Option Addr} {sl_name : Array (Option Value)}
    {oc_name kV_name dc_name pm_name cd_name ct_name : Value} {f_part : Addr} {od_part an_part : Option Addr} {sl_part : Array (Option Value)} {oc_part kV_part dc_part pm_part cd_part ct_part : Value} {f_def : Addr}
    {od_def an_def : Option Addr} {sl_def : Array (Option Value)} {oc_def kV_def dc_def pm_def cd_def ct_def : Value} {f_plan : Addr} {od_plan an_plan : Option Addr} {sl_plan : Array (Option Value)}
    {oc_plan kV_plan dc_plan pm_plan cd_plan ct_plan : Value} {f_rules : Addr} {od_rules an_rules : Option Addr} {sl_rules : Array (Option Value)} {oc_rules kV_rules dc_rules pm_rules cd_rules ct_rules : Value} {f_isnm : Addr}
    {od_isnm an_isnm : Option Addr} {sl_isnm : Array (Option Value)} {oc_isnm kV_isnm dc_isnm pm_isnm cd_isnm ct_isnm : Value} {f_tmf : Addr} {od_tmf an_tmf : Option Addr} {sl_tmf : Array (Option Value)}
    {oc_tmf kV_tmf dc_tmf pm_tmf cd_tmf ct_tmf : Value} {f_ptf : Addr} {od_ptf an_ptf : Option Addr} {sl_ptf : Array (Option Value)} {oc_ptf kV_ptf dc_ptf pm_ptf cd_ptf ct_ptf : Value} {f_fault : Addr}
    {od_fault an_fault : Option Addr} {sl_fault : Array (Option Value)} {oc_fault kV_fault dc_fault pm_fault cd_fault ct_fault : Value} {f_mark : Addr} {od_mark an_mark : Option Addr} {sl_mark : Array (Option Value)}
    {oc_mark kV_mark dc_mark pm_mark cd_mark ct_mark : Value} {f_same : Addr} {od_same an_same : Option Addr} {sl_same : Array (Option Value)} {oc_same kV_same dc_same pm_same cd_same ct_same : Value} {f_caught : Addr}
    {od_caught an_caught : Option Addr} {sl_caught : Array (Option Value)} {oc_caught kV_caught dc_caught pm_caught cd_caught ct_caught : Value} {f_cright : Addr} {od_cright an_cright : Option Addr} {sl_cright : Array (Option Value)}
    {oc_cright kV_cright dc_cright pm_cright cd_cright ct_cright : Value} {f_refus : Addr} {od_refus an_refus : Option Addr} {sl_refus : Array (Option Value)} {oc_refus kV_refus dc_refus pm_refus cd_refus ct_refus : Value} {f_made : Addr}
    {od_made an_made : Option Addr} {sl_made : Array (Option Value)} {oc_made kV_made dc_made pm_made cd_made ct_made : Value} {f_byord : Addr} {od_byord an_byord : Option Addr} {sl_byord : Array (Option Value)}
    {oc_byord kV_byord dc_byord pm_byord cd_byord ct_byord : Value} {f_right : Addr} {od_right an_right : Option Addr} {sl_right : Array (Option Value)} {oc_right kV_right dc_right pm_right cd_right ct_right : Value} {f_law : Addr}
    {od_law an_law : Option Addr} {sl_law : Array (Option Value)} {oc_law kV_law dc_law pm_law cd_law ct_law : Value} {f_init : Addr} {od_init an_init : Option Addr} {sl_init : Array (Option Value)}
    {oc_init kV_init dc_init pm_init cd_init ct_init : Value} {f_gpart : Addr} {od_gpart an_gpart : Option Addr} {sl_gpart : Array (Option Value)} {oc_gpart kV_gpart dc_gpart pm_gpart cd_gpart ct_gpart : Value} {f_gord : Addr}
    {od_gord an_gord : Option Addr} {sl_gord : Array (Option Value)} {oc_gord kV_gord dc_gord pm_gord cd_gord ct_gord : Value} {f_glck : Addr} {od_glck an_glck : Option Addr} {sl_glck : Array (Option Value)}
    {oc_glck kV_glck dc_glck pm_glck cd_glck ct_glck : Value} {f_mwith : Addr} {od_mwith an_mwith : Option Addr} {sl_mwith : Array (Option Value)} {oc_mwith kV_mwith dc_mwith pm_mwith cd_mwith ct_mwith : Value} {f_tinit : Addr}
    {od_tinit an_tinit : Option Addr} {sl_tinit : Array (Option Value)} {oc_tinit kV_tinit dc_tinit pm_tinit cd_tinit ct_tinit : Value} {C0 N0 : Addr} {nm0 q0 : Str} {bs0 sub0 : List Value}
    {sn0 : List Str} {ab0 : Bool} {col0 : Option Bool} {dd0 : Option Addr} {x00 x01 x02 x03 x05 : Option Value} {C1 N1 : Addr}
    {nm1 q1 : Str} {bs1 sub1 : List Value} {sn1 : List Str} {ab1 : Bool} {col1 : Option Bool} {dd1 : Option Addr}
    {x10 x11 x12 x13 x15 : Option Value} {C2 N2 : Addr} {nm2 q2 : Str} {bs2 sub2 : List Value} {sn2 : List Str} {ab2 : Bool}
    {col2 : Option Bool} {dd2 : Option Addr} {x20 x21 x22 x23 x25 : Option Value} {C3 N3 : Addr} {nm3 q3 : Str} {bs3 sub3 : List Value}
    {sn3 : List Str} {ab3 : Bool} {col3 : Option Bool} {dd3 : Option Addr} {x30 x31 x32 x33 x35 : Option Value} {C4 N4 : Addr}
    {nm4 q4 : Str} {bs4 sub4 : List Value} {sn4 : List Str} {ab4 : Bool} {col4 : Option Bool} {dd4 : Option Addr}
    {x40 x41 x42 x43 x45 : Option Value} {C5 N5 : Addr} {nm5 q5 : Str} {bs5 sub5 : List Value} {sn5 : List Str} {ab5 : Bool}
    {col5 : Option Bool} {dd5 : Option Addr} {x50 x51 x52 x53 x55 : Option Value} {C6 N6 : Addr} {nm6 q6 : Str} {bs6 sub6 : List Value}
    {sn6 : List Str} {ab6 : Bool} {col6 : Option Bool} {dd6 : Option Addr} {x60 x61 x62 x63 x65 : Option Value} {C7 N7 : Addr}
    {nm7 q7 : Str} {bs7 sub7 : List Value} {sn7 : List Str} {ab7 : Bool} {col7 : Option Bool} {dd7 : Option Addr}
    {x70 x71 x72 x73 x75 : Option Value} {C8 N8 : Addr} {nm8 q8 : Str} {bs8 sub8 : List Value} {sn8 : List Str} {ab8 : Bool}
    {col8 : Option Bool} {dd8 : Option Addr} {x80 x81 x82 x83 x85 : Option Value} {C9 N9 : Addr} {nm9 q9 : Str} {bs9 sub9 : List Value}
    {sn9 : List Str} {ab9 : Bool} {col9 : Option Bool} {dd9 : Option Addr} {x90 x91 x92 x93 x95 : Option Value} {C10 N10 : Addr}
    {nm10 q10 : Str} {bs10 sub10 : List Value} {sn10 : List Str} {ab10 : Bool} {col10 : Option Bool} {dd10 : Option Addr}
    {x100 x101 x102 x103 x105 : Option Value}
    (aC0 : PySem.W.nsIn K mainGlobals "TakeError" = some (some (.ref C0)))
    (aC1 : PySem.W.nsIn K mainGlobals "InvalidName" = some (some (.ref C1)))
    (aC2 : PySem.W.nsIn K mainGlobals "InvalidPart" = some (some (.ref C2)))
    (aC3 : PySem.W.nsIn K mainGlobals "InvalidTerm" = some (some (.ref C3)))
    (aC4 : PySem.W.nsIn K mainGlobals "DoubleField" = some (some (.ref C4)))
    (aC5 : PySem.W.nsIn K mainGlobals "InvalidRule" = some (some (.ref C5)))
    (aC6 : PySem.W.nsIn K mainGlobals "InvalidAnswer" = some (some (.ref C6)))
    (aC7 : PySem.W.nsIn K mainGlobals "UnknownPlace" = some (some (.ref C7)))
    (aC8 : PySem.W.nsIn K mainGlobals "TakeEnded" = some (some (.ref C8)))
    (aC9 : PySem.W.nsIn K mainGlobals "NothingToUndo" = some (some (.ref C9)))
    (aC10 : PySem.W.nsIn K mainGlobals "Unreadable" = some (some (.ref C10)))
    (xL0 : K.lookup C0 = some (excClassObj nm0 q0 C0 N0 bs0 [.type "ValueError", .type "Exception", .type "BaseException", .type "object"] true sn0 sub0 ab0 col0 dd0 x00 x01 x02 x03 x05 "ValueError.__new__"))
    (xL1 : K.lookup C1 = some (excClassObj nm1 q1 C1 N1 bs1 [.ref C0, .type "ValueError", .type "Exception", .type "BaseException", .type "object"] true sn1 sub1 ab1 col1 dd1 x10 x11 x12 x13 x15 "ValueError.__new__"))
    (xL2 : K.lookup C2 = some (excClassObj nm2 q2 C2 N2 bs2 [.ref C0, .type "ValueError", .type "Exception", .type "BaseException", .type "object"] true sn2 sub2 ab2 col2 dd2 x20 x21 x22 x23 x25 "ValueError.__new__"))
    (xL3 : K.lookup C3 = some (excClassObj nm3 q3 C3 N3 bs3 [.ref C0, .type "ValueError", .type "Exception", .type "BaseException", .type "object"] true sn3 sub3 ab3 col3 dd3 x30 x31 x32 x33 x35 "ValueError.__new__"))
    (xL4 : K.lookup C4 = some (excClassObj nm4 q4 C4 N4 bs4 [.ref C0, .type "ValueError", .type "Exception", .type "BaseException", .type "object"] true sn4 sub4 ab4 col4 dd4 x40 x41 x42 x43 x45 "ValueError.__new__"))
    (xL5 : K.lookup C5 = some (excClassObj nm5 q5 C5 N5 bs5 [.ref C0, .type "ValueError", .type "Exception", .type "BaseException", .type "object"] true sn5 sub5 ab5 col5 dd5 x50 x51 x52 x53 x55 "ValueError.__new__"))
    (xL6 : K.lookup C6 = some (excClassObj nm6 q6 C6 N6 bs6 [.ref C0, .type "ValueError", .type "Exception", .type "BaseException", .type "object"] true sn6 sub6 ab6 col6 dd6 x60 x61 x62 x63 x65 "ValueError.__new__"))
    (xL7 : K.lookup C7 = some (excClassObj nm7 q7 C7 N7 bs7 [.ref C0, .type "ValueError", .type "Exception", .type "BaseException", .type "object"] true sn7 sub7 ab7 col7 dd7 x70 x71 x72 x73 x75 "ValueError.__new__"))
    (xL8 : K.lookup C8 = some (excClassObj nm8 q8 C8 N8 bs8 [.ref C0, .type "ValueError", .type "Exception", .type "BaseException", .type "object"] true sn8 sub8 ab8 col8 dd8 x80 x81 x82 x83 x85 "ValueError.__new__"))
    (xL9 : K.lookup C9 = some (excClassObj nm9 q9 C9 N9 bs9 [.ref C0, .type "ValueError", .type "Exception", .type "BaseException", .type "object"] true sn9 sub9 ab9 col9 dd9 x90 x91 x92 x93 x95 "ValueError.__new__"))
    (xL10 : K.lookup C10 = some (excClassObj nm10 q10 C10 N10 bs10 [.ref C0, .type "ValueError", .type "Exception", .type "BaseException", .type "object"] true sn10 sub10 ab10 col10 dd10 x100 x101 x102 x103 x105 "ValueError.__new__"))
    (aI : PySem.W.findIn K (.ref C0) "__init__" = some (some (.ref f_tinit)))
    (tI : PySem.W.typeIn K (.ref f_tinit) = some (.type "function"))
    (a_fresh : PySem.W.nsIn K mainGlobals "fresh" = some (some (.ref f_fresh)))
    (l_fresh : K.lookup f_fresh = some ⟨oc_fresh, od_fresh, .func (PySem.W.fnOf "fresh" "fresh" (defArgs sFresh) (defBody sFresh) (defScope sFresh) .none kV_fresh dc_fresh pm_fresh an_fresh cd_fresh ct_fresh), sl_fresh⟩)
    (c_fresh : PySem.W.codeIn K cd_fresh "fresh" = true)
    (k_fresh : PySem.W.keepIn K (.ref f_fresh) = true)
    (a_fil : PySem.W.nsIn K mainGlobals "is_filled" = some (some (.ref f_fil)))
    (l_fil : K.lookup f_fil = some ⟨oc_fil, od_fil, .func (PySem.W.fnOf "is_filled" "is_filled" (defArgs sFilled) (defBody sFilled) (defScope sFilled) .none kV_fil dc_fil pm_fil an_fil cd_fil ct_fil), sl_fil⟩)
    (c_fil : PySem.W.codeIn K cd_fil "is_filled" = true)
    (k_fil : PySem.W.keepIn K (.ref f_fil) = true)
    (a_ckn : PySem.W.nsIn K mainGlobals "check_name" = some (some (.ref f_ckn)))
    (l_ckn : K.lookup f_ckn = some ⟨oc_ckn, od_ckn, .func (PySem.W.fnOf "check_name" "check_name" (defArgs sCkName) (defBody sCkName) (defScope sCkName) .none kV_ckn dc_ckn pm_ckn an_ckn cd_ckn ct_ckn), sl_ckn⟩)
    (c_ckn : PySem.W.codeIn K cd_ckn "check_name" = true)
    (k_ckn : PySem.W.keepIn K (.ref f_ckn) = true)
    (a_cko : PySem.W.nsIn K mainGlobals "check_optional_name" = some (some (.ref f_cko)))
    (l_cko : K.lookup f_cko = some ⟨oc_cko, od_cko, .func (PySem.W.fnOf "check_optional_name" "check_optional_name" (defArgs sCkOpt) (defBody sCkOpt) (defScope sCkOpt) .none kV_cko dc_cko pm_cko an_cko cd_cko ct_cko), sl_cko⟩)
    (c_cko : PySem.W.codeIn K cd_cko "check_optional_name" = true)
    (k_cko : PySem.W.keepIn K (.ref f_cko) = true)
    (a_ckt : PySem.W.nsIn K mainGlobals "check_term" = some (some (.ref f_ckt)))
    (l_ckt : K.lookup f_ckt = some ⟨oc_ckt, od_ckt, .func (PySem.W.fnOf "check_term" "check_term" (defArgs sCkTerm) (defBody sCkTerm) (defScope sCkTerm) .none kV_ckt dc_ckt pm_ckt an_ckt cd_ckt ct_ckt), sl_ckt⟩)
    (c_ckt : PySem.W.codeIn K cd_ckt "check_term" = true)
    (k_ckt : PySem.W.keepIn K (.ref f_ckt) = true)
    (a_ckd : PySem.W.nsIn K mainGlobals "check_default" = some (some (.ref f_ckd)))
    (l_ckd : K.lookup f_ckd = some ⟨oc_ckd, od_ckd, .func (PySem.W.fnOf "check_default" "check_default" (defArgs sCkDef) (defBody sCkDef) (defScope sCkDef) .none kV_ckd dc_ckd pm_ckd an_ckd cd_ckd ct_ckd), sl_ckd⟩)
    (c_ckd : PySem.W.codeIn K cd_ckd "check_default" = true)
    (k_ckd : PySem.W.keepIn K (.ref f_ckd) = true)
    (a_ckp : PySem.W.nsIn K mainGlobals "check_part" = some (some (.ref f_ckp)))
    (l_ckp : K.lookup f_ckp = some ⟨oc_ckp, od_ckp, .func (PySem.W.fnOf "check_part" "check_part" (defArgs sCkPart) (defBody sCkPart) (defScope sCkPart) .none kV_ckp dc_ckp pm_ckp an_ckp cd_ckp ct_ckp), sl_ckp⟩)
    (c_ckp : PySem.W.codeIn K cd_ckp "check_part" = true)
    (k_ckp : PySem.W.keepIn K (.ref f_ckp) = true)
    (a_ckr : PySem.W.nsIn K mainGlobals "check_row" = some (some (.ref f_ckr)))
    (l_ckr : K.lookup f_ckr = some ⟨oc_ckr, od_ckr, .func (PySem.W.fnOf "check_row" "check_row" (defArgs sCkRow) (defBody sCkRow) (defScope sCkRow) .none kV_ckr dc_ckr pm_ckr an_ckr cd_ckr ct_ckr), sl_ckr⟩)
    (c_ckr : PySem.W.codeIn K cd_ckr "check_row" = true)
    (k_ckr : PySem.W.keepIn K (.ref f_ckr) = true)
    (a_cke : PySem.W.nsIn K mainGlobals "check_record" = some (some (.ref f_cke)))
    (l_cke : K.lookup f_cke = some ⟨oc_cke, od_cke, .func (PySem.W.fnOf "check_record" "check_record" (defArgs sCkRec) (defBody sCkRec) (defScope sCkRec) .none kV_cke dc_cke pm_cke an_cke cd_cke ct_cke), sl_cke⟩)
    (c_cke : PySem.W.codeIn K cd_cke "check_record" = true)
    (k_cke : PySem.W.keepIn K (.ref f_cke) = true)
    (a_cku : PySem.W.nsIn K mainGlobals "check_rules" = some (some (.ref f_cku)))
    (l_cku : K.lookup f_cku = some ⟨oc_cku, od_cku, .func (PySem.W.fnOf "check_rules" "check_rules" (defArgs sCkRules) (defBody sCkRules) (defScope sCkRules) .none kV_cku dc_cku pm_cku an_cku cd_cku ct_cku), sl_cku⟩)
    (c_cku : PySem.W.codeIn K cd_cku "check_rules" = true)
    (k_cku : PySem.W.keepIn K (.ref f_cku) = true)
    (a_purse : PySem.W.nsIn K mainGlobals "_law_purse" = some (some (.ref f_purse)))
    (l_purse : K.lookup f_purse = some ⟨oc_purse, od_purse, .func (PySem.W.fnOf "_law_purse" "_law_purse" (defArgs sPurse) (defBody sPurse) (defScope sPurse) .none kV_purse dc_purse pm_purse an_purse cd_purse ct_purse), sl_purse⟩)
    (c_purse : PySem.W.codeIn K cd_purse "_law_purse" = true)
    (k_purse : PySem.W.keepIn K (.ref f_purse) = true)
    (a_coin : PySem.W.nsIn K mainGlobals "_law_coin" = some (some (.ref f_coin)))
    (l_coin : K.lookup f_coin = some ⟨oc_coin, od_coin, .func (PySem.W.fnOf "_law_coin" "_law_coin" (defArgs sCoin) (defBody sCoin) (defScope sCoin) .none kV_coin dc_coin pm_coin an_coin cd_coin ct_coin), sl_coin⟩)
    (c_coin : PySem.W.codeIn K cd_coin "_law_coin" = true)
    (k_coin : PySem.W.keepIn K (.ref f_coin) = true)
    (a_words : PySem.W.nsIn K mainGlobals "_law_words" = some (some (.ref f_words)))
    (l_words : K.lookup f_words = some ⟨oc_words, od_words, .func (PySem.W.fnOf "_law_words" "_law_words" (defArgs sWords) (defBody sWords) (defScope sWords) .none kV_words dc_words pm_words an_words cd_words ct_words), sl_words⟩)
    (c_words : PySem.W.codeIn K cd_words "_law_words" = true)
    (k_words : PySem.W.keepIn K (.ref f_words) = true)
    (a_copied : PySem.W.nsIn K mainGlobals "_law_copied" = some (some (.ref f_copied)))
    (l_copied : K.lookup f_copied = some ⟨oc_copied, od_copied, .func (PySem.W.fnOf "_law_copied" "_law_copied" (defArgs sCopied) (defBody sCopied) (defScope sCopied) .none kV_copied dc_copied pm_copied an_copied cd_copied ct_copied), sl_copied⟩)
    (c_copied : PySem.W.codeIn K cd_copied "_law_copied" = true)
    (k_copied : PySem.W.keepIn K (.ref f_copied) = true)
    (a_term : PySem.W.nsIn K mainGlobals "_law_ta_term" = some (some (.ref f_term)))
    (l_term : K.lookup f_term = some ⟨oc_term, od_term, .func (PySem.W.fnOf "_law_ta_term" "_law_ta_term" (defArgs sTerm) (defBody sTerm) (defScope sTerm) .none kV_term dc_term pm_term an_term cd_term ct_term), sl_term⟩)
    (c_term : PySem.W.codeIn K cd_term "_law_ta_term" = true)
    (k_term : PySem.W.keepIn K (.ref f_term) = true)
    (a_name : PySem.W.nsIn K mainGlobals "_law_ta_name" = some (some (.ref f_name)))
    (l_name : K.lookup f_name = some ⟨oc_name, od_name, .func (PySem.W.fnOf "_law_ta_name" "_law_ta_name" (defArgs sName) (defBody sName) (defScope sName) .none kV_name dc_name pm_name an_name cd_name ct_name), sl_name⟩)
    (c_name : PySem.W.codeIn K cd_name "_law_ta_name" = true)
    (k_name : PySem.W.keepIn K (.ref f_name) = true)
    (a_part : PySem.W.nsIn K mainGlobals "_law_ta_part" = some (some (.ref f_part)))
    (l_part : K.lookup f_part = some ⟨oc_part, od_part, .func (PySem.W.fnOf "_law_ta_part" "_law_ta_part" (defArgs sPart) (defBody sPart) (defScope sPart) .none kV_part dc_part pm_part an_part cd_part ct_part), sl_part⟩)
    (c_part : PySem.W.codeIn K cd_part "_law_ta_part" = true)
    (k_part : PySem.W.keepIn K (.ref f_part) = true)
    (a_def : PySem.W.nsIn K mainGlobals "_law_ta_default" = some (some (.ref f_def)))
    (l_def : K.lookup f_def = some ⟨oc_def, od_def, .func (PySem.W.fnOf "_law_ta_default" "_law_ta_default" (defArgs sDefault) (defBody sDefault) (defScope sDefault) .none kV_def dc_def pm_def an_def cd_def ct_def), sl_def⟩)
    (c_def : PySem.W.codeIn K cd_def "_law_ta_default" = true)
    (k_def : PySem.W.keepIn K (.ref f_def) = true)
    (a_plan : PySem.W.nsIn K mainGlobals "_law_ta_plan" = some (some (.ref f_plan)))
    (l_plan : K.lookup f_plan = some ⟨oc_plan, od_plan, .func (PySem.W.fnOf "_law_ta_plan" "_law_ta_plan" (defArgs sPlan) (defBody sPlan) (defScope sPlan) .none kV_plan dc_plan pm_plan an_plan cd_plan ct_plan), sl_plan⟩)
    (c_plan : PySem.W.codeIn K cd_plan "_law_ta_plan" = true)
    (k_plan : PySem.W.keepIn K (.ref f_plan) = true)
    (a_rules : PySem.W.nsIn K mainGlobals "_law_ta_rules" = some (some (.ref f_rules)))
    (l_rules : K.lookup f_rules = some ⟨oc_rules, od_rules, .func (PySem.W.fnOf "_law_ta_rules" "_law_ta_rules" (defArgs sRules) (defBody sRules) (defScope sRules) .none kV_rules dc_rules pm_rules an_rules cd_rules ct_rules), sl_rules⟩)
    (c_rules : PySem.W.codeIn K cd_rules "_law_ta_rules" = true)
    (k_rules : PySem.W.keepIn K (.ref f_rules) = true)
    (a_isnm : PySem.W.nsIn K mainGlobals "_law_ta_is_name" = some (some (.ref f_isnm)))
    (l_isnm : K.lookup f_isnm = some ⟨oc_isnm, od_isnm, .func (PySem.W.fnOf "_law_ta_is_name" "_law_ta_is_name" (defArgs sIsName) (defBody sIsName) (defScope sIsName) .none kV_isnm dc_isnm pm_isnm an_isnm cd_isnm ct_isnm), sl_isnm⟩)
    (c_isnm : PySem.W.codeIn K cd_isnm "_law_ta_is_name" = true)
    (k_isnm : PySem.W.keepIn K (.ref f_isnm) = true)
    (a_tmf : PySem.W.nsIn K mainGlobals "_law_ta_term_fault" = some (some (.ref f_tmf)))
    (l_tmf : K.lookup f_tmf = some ⟨oc_tmf, od_tmf, .func (PySem.W.fnOf "_law_ta_term_fault" "_law_ta_term_fault" (defArgs sTmFault) (defBody sTmFault) (defScope sTmFault) .none kV_tmf dc_tmf pm_tmf an_tmf cd_tmf ct_tmf), sl_tmf⟩)
    (c_tmf : PySem.W.codeIn K cd_tmf "_law_ta_term_fault" = true)
    (k_tmf : PySem.W.keepIn K (.ref f_tmf) = true)
    (a_ptf : PySem.W.nsIn K mainGlobals "_law_ta_part_fault" = some (some (.ref f_ptf)))
    (l_ptf : K.lookup f_ptf = some ⟨oc_ptf, od_ptf, .func (PySem.W.fnOf "_law_ta_part_fault" "_law_ta_part_fault" (defArgs sPtFault) (defBody sPtFault) (defScope sPtFault) .none kV_ptf dc_ptf pm_ptf an_ptf cd_ptf ct_ptf), sl_ptf⟩)
    (c_ptf : PySem.W.codeIn K cd_ptf "_law_ta_part_fault" = true)
    (k_ptf : PySem.W.keepIn K (.ref f_ptf) = true)
    (a_fault : PySem.W.nsIn K mainGlobals "_law_ta_fault" = some (some (.ref f_fault)))
    (l_fault : K.lookup f_fault = some ⟨oc_fault, od_fault, .func (PySem.W.fnOf "_law_ta_fault" "_law_ta_fault" (defArgs sFault) (defBody sFault) (defScope sFault) .none kV_fault dc_fault pm_fault an_fault cd_fault ct_fault), sl_fault⟩)
    (c_fault : PySem.W.codeIn K cd_fault "_law_ta_fault" = true)
    (k_fault : PySem.W.keepIn K (.ref f_fault) = true)
    (a_mark : PySem.W.nsIn K mainGlobals "_law_ta_mark" = some (some (.ref f_mark)))
    (l_mark : K.lookup f_mark = some ⟨oc_mark, od_mark, .func (PySem.W.fnOf "_law_ta_mark" "_law_ta_mark" (defArgs sMark) (defBody sMark) (defScope sMark) .none kV_mark dc_mark pm_mark an_mark cd_mark ct_mark), sl_mark⟩)
    (c_mark : PySem.W.codeIn K cd_mark "_law_ta_mark" = true)
    (k_mark : PySem.W.keepIn K (.ref f_mark) = true)
    (a_same : PySem.W.nsIn K mainGlobals "_law_ta_same" = some (some (.ref f_same)))
    (l_same : K.lookup f_same = some ⟨oc_same, od_same, .func (PySem.W.fnOf "_law_ta_same" "_law_ta_same" (defArgs sSame) (defBody sSame) (defScope sSame) .none kV_same dc_same pm_same an_same cd_same ct_same), sl_same⟩)
    (c_same : PySem.W.codeIn K cd_same "_law_ta_same" = true)
    (k_same : PySem.W.keepIn K (.ref f_same) = true)
    (a_caught : PySem.W.nsIn K mainGlobals "_law_ta_caught" = some (some (.ref f_caught)))
    (l_caught : K.lookup f_caught = some ⟨oc_caught, od_caught, .func (PySem.W.fnOf "_law_ta_caught" "_law_ta_caught" (defArgs sCaught) (defBody sCaught) (defScope sCaught) .none kV_caught dc_caught pm_caught an_caught cd_caught ct_caught), sl_caught⟩)
    (c_caught : PySem.W.codeIn K cd_caught "_law_ta_caught" = true)
    (k_caught : PySem.W.keepIn K (.ref f_caught) = true)
    (a_cright : PySem.W.nsIn K mainGlobals "_law_ta_caught_right" = some (some (.ref f_cright)))
    (l_cright : K.lookup f_cright = some ⟨oc_cright, od_cright, .func (PySem.W.fnOf "_law_ta_caught_right" "_law_ta_caught_right" (defArgs sCRight) (defBody sCRight) (defScope sCRight) .none kV_cright dc_cright pm_cright an_cright cd_cright ct_cright), sl_cright⟩)
    (c_cright : PySem.W.codeIn K cd_cright "_law_ta_caught_right" = true)
    (k_cright : PySem.W.keepIn K (.ref f_cright) = true)
    (a_refus : PySem.W.nsIn K mainGlobals "_law_ta_refusals" = some (some (.ref f_refus)))
    (l_refus : K.lookup f_refus = some ⟨oc_refus, od_refus, .func (PySem.W.fnOf "_law_ta_refusals" "_law_ta_refusals" (defArgs sRefus) (defBody sRefus) (defScope sRefus) .none kV_refus dc_refus pm_refus an_refus cd_refus ct_refus), sl_refus⟩)
    (c_refus : PySem.W.codeIn K cd_refus "_law_ta_refusals" = true)
    (k_refus : PySem.W.keepIn K (.ref f_refus) = true)
    (a_made : PySem.W.nsIn K mainGlobals "_law_ta_made" = some (some (.ref f_made)))
    (l_made : K.lookup f_made = some ⟨oc_made, od_made, .func (PySem.W.fnOf "_law_ta_made" "_law_ta_made" (defArgs sMade) (defBody sMade) (defScope sMade) .none kV_made dc_made pm_made an_made cd_made ct_made), sl_made⟩)
    (c_made : PySem.W.codeIn K cd_made "_law_ta_made" = true)
    (k_made : PySem.W.keepIn K (.ref f_made) = true)
    (a_byord : PySem.W.nsIn K mainGlobals "_law_ta_by_order" = some (some (.ref f_byord)))
    (l_byord : K.lookup f_byord = some ⟨oc_byord, od_byord, .func (PySem.W.fnOf "_law_ta_by_order" "_law_ta_by_order" (defArgs sByOrd) (defBody sByOrd) (defScope sByOrd) .none kV_byord dc_byord pm_byord an_byord cd_byord ct_byord), sl_byord⟩)
    (c_byord : PySem.W.codeIn K cd_byord "_law_ta_by_order" = true)
    (k_byord : PySem.W.keepIn K (.ref f_byord) = true)
    (a_right : PySem.W.nsIn K mainGlobals "_law_right" = some (some (.ref f_right)))
    (l_right : K.lookup f_right = some ⟨oc_right, od_right, .func (PySem.W.fnOf "_law_right" "_law_right" (defArgs sRight) (defBody sRight) (defScope sRight) .none kV_right dc_right pm_right an_right cd_right ct_right), sl_right⟩)
    (c_right : PySem.W.codeIn K cd_right "_law_right" = true)
    (k_right : PySem.W.keepIn K (.ref f_right) = true)
    (a_law : PySem.W.nsIn K mainGlobals "law" = some (some (.ref f_law)))
    (l_law : K.lookup f_law = some ⟨oc_law, od_law, .func (PySem.W.fnOf "law" "law" (defArgs sLaw) (defBody sLaw) (defScope sLaw) .none kV_law dc_law pm_law an_law cd_law ct_law), sl_law⟩)
    (c_law : PySem.W.codeIn K cd_law "law" = true)
    (k_law : PySem.W.keepIn K (.ref f_law) = true)
    (aC : PySem.W.nsIn K mainGlobals "Pattern" = some (some (.ref C)))
    (cPg : PySem.W.plainGet K C Str.empty = true)
    (cHd : PySem.W.hasDictIn K C = true)
    (cPo : PySem.W.plainOver K C = true)
    (cSa : PySem.W.findIn K (.ref C) "__setattr__" = some (some (.builtin "object.__setattr__")))
    (nP : PySem.W.findIn K (.ref C) "_part" = some none)
    (nO : PySem.W.findIn K (.ref C) "_order" = some none)
    (nL : PySem.W.findIn K (.ref C) "_lacks" = some none)
    (mkM : PySem.W.makesIn K C = true)
    (mkI : PySem.W.findIn K (.ref C) "__init__" = some (some (.ref f_init)))
    (mkK : PySem.W.keepIn K (.ref C) = true)
    (i_init : PySem.W.isFn K (.ref f_init) = true)
    (w_mwith : PySem.W.findIn K (.ref C) "with_order" = some (some (.ref f_mwith)))
    (i_mwith : PySem.W.isFn K (.ref f_mwith) = true)
    (p1_gpart : PySem.W.findIn K (.ref C) "part" = some (some (.ref pP)))
    (p2_gpart : PySem.W.specialIn K (.ref pP) "__get__" = some (some (.builtin "property.__get__")))
    (p3_gpart : PySem.W.takesIn K (.ref pP) = some true)
    (p4_gpart : PySem.W.recIn K pP "property" = some (.ref f_gpart :: rP))
    (p1_gord : PySem.W.findIn K (.ref C) "order" = some (some (.ref pO)))
    (p2_gord : PySem.W.specialIn K (.ref pO) "__get__" = some (some (.builtin "property.__get__")))
    (p3_gord : PySem.W.takesIn K (.ref pO) = some true)
    (p4_gord : PySem.W.recIn K pO "property" = some (.ref f_gord :: rO))
    (p1_glck : PySem.W.findIn K (.ref C) "lacks" = some (some (.ref pL)))
    (p2_glck : PySem.W.specialIn K (.ref pL) "__get__" = some (some (.builtin "property.__get__")))
    (p3_glck : PySem.W.takesIn K (.ref pL) = some true)
    (p4_glck : PySem.W.recIn K pL "property" = some (.ref f_glck :: rL))
    (l_init : K.lookup f_init = some ⟨oc_init, od_init, .func (PySem.W.fnOf "__init__" "Pattern.__init__" (defArgs sInit) (defBody sInit) (defScope sInit) .none kV_init dc_init pm_init an_init cd_init ct_init), sl_init⟩)
    (c_init : PySem.W.codeIn K cd_init "Pattern.__init__" = true)
    (k_init : PySem.W.keepIn K (.ref f_init) = true)
    (l_gpart : K.lookup f_gpart = some ⟨oc_gpart, od_gpart, .func (PySem.W.fnOf "part" "Pattern.part" (defArgs sGPart) (defBody sGPart) (defScope sGPart) .none kV_gpart dc_gpart pm_gpart an_gpart cd_gpart ct_gpart), sl_gpart⟩)
    (c_gpart : PySem.W.codeIn K cd_gpart "Pattern.part" = true)
    (k_gpart : PySem.W.keepIn K (.ref f_gpart) = true)
    (l_gord : K.lookup f_gord = some ⟨oc_gord, od_gord, .func (PySem.W.fnOf "order" "Pattern.order" (defArgs sGOrd) (defBody sGOrd) (defScope sGOrd) .none kV_gord dc_gord pm_gord an_gord cd_gord ct_gord), sl_gord⟩)
    (c_gord : PySem.W.codeIn K cd_gord "Pattern.order" = true)
    (k_gord : PySem.W.keepIn K (.ref f_gord) = true)
    (l_glck : K.lookup f_glck = some ⟨oc_glck, od_glck, .func (PySem.W.fnOf "lacks" "Pattern.lacks" (defArgs sGLck) (defBody sGLck) (defScope sGLck) .none kV_glck dc_glck pm_glck an_glck cd_glck ct_glck), sl_glck⟩)
    (c_glck : PySem.W.codeIn K cd_glck "Pattern.lacks" = true)
    (k_glck : PySem.W.keepIn K (.ref f_glck) = true)
    (l_mwith : K.lookup f_mwith = some ⟨oc_mwith, od_mwith, .func (PySem.W.fnOf "with_order" "Pattern.with_order" (defArgs sMWith) (defBody sMWith) (defScope sMWith) .none kV_mwith dc_mwith pm_mwith an_mwith cd_mwith ct_mwith), sl_mwith⟩)
    (c_mwith : PySem.W.codeIn K cd_mwith "Pattern.with_order" = true)
    (k_mwith : PySem.W.keepIn K (.ref f_mwith) = true)
    (l_tinit : K.lookup f_tinit = some ⟨oc_tinit, od_tinit, .func (PySem.W.fnOf "__init__" "TakeError.__init__" (defArgs sTInit) (defBody sTInit) (defScope sTInit) .none kV_tinit dc_tinit pm_tinit an_tinit cd_tinit ct_tinit), sl_tinit⟩)
    (c_tinit : PySem.W.codeIn K cd_tinit "TakeError.__init__" = true)
    (k_tinit : PySem.W.keepIn K (.ref f_tinit) = true)
    (aT : PySem.W.nsIn K mainGlobals "TERM_SIZES" = some (some (.ref dT)))
    (aP : PySem.W.nsIn K mainGlobals "PART_SIZES" = some (some (.ref dP)))
    (aN : PySem.W.nsIn K mainGlobals "LONGEST_NAME" = some (some (.int 8 t8)))
    (aL : PySem.W.nsIn K mainGlobals "LETTERS" = some (some (.str LT t9)))
    (kT : He.dicW K dT = some (He.keysIn w.params ["read", "number", "call"]))
    (kP : He.dicW K dP = some (He.keysIn w.params ["name", "any", "row", "record"]))
    (eT0 : PySem.W.nsIn K dT "read" = some (some (.int 2 u0)))
    (eT1 : PySem.W.nsIn K dT "number" = some (some (.int 2 u1)))
    (eT2 : PySem.W.nsIn K dT "call" = some (some (.int 3 u2)))
    (eP0 : PySem.W.nsIn K dP "name" = some (some (.int 2 v0)))
    (eP1 : PySem.W.nsIn K dP "any" = some (some (.int 1 v1)))
    (eP2 : PySem.W.nsIn K dP "row" = some (some (.int 3 v2)))
    (eP3 : PySem.W.nsIn K dP "record" = some (some (.int 3 v3)))
    (nT0 : PySem.W.nsIn K dT (Str.ofString "reads") = some none)
    (nT1 : PySem.W.nsIn K dT (Str.ofString "name") = some none)
    (nT2 : PySem.W.nsIn K dT (Str.ofString "") = some none)
    (nT3 : PySem.W.nsIn K dT (Str.ofString "any") = some none)
    (nT4 : PySem.W.nsIn K dT (Str.ofString "Read") = some none)
    (nQ0 : PySem.W.nsIn K dP (Str.ofString "rows") = some none)
    (nQ1 : PySem.W.nsIn K dP (Str.ofString "read") = some none)
    (nQ2 : PySem.W.nsIn K dP (Str.ofString "") = some none)
    (nQ3 : PySem.W.nsIn K dP (Str.ofString "Any") = some none)
    (nQ4 : PySem.W.nsIn K dP (Str.ofString "names") = some none)
    (nQ5 : PySem.W.nsIn K dP (Str.ofString "call") = some none)
    (nQ6 : PySem.W.nsIn K dP (Str.ofString "take") = some none)
    (nQ7 : PySem.W.nsIn K dP (Str.ofString "set") = some none)
    (nQ8 : PySem.W.nsIn K dP (Str.ofString "cases") = some none)
    (z_len : PySem.W.nsIn K mainGlobals "len" = some none)
    (z_max : PySem.W.nsIn K mainGlobals "max" = some none)
    (z_min : PySem.W.nsIn K mainGlobals "min" = some none)
    (z_abs : PySem.W.nsIn K mainGlobals "abs" = some none)
    (z_int : PySem.W.nsIn K mainGlobals "int" = some none)
    (z_range : PySem.W.nsIn K mainGlobals "range" = some none)
    (z_set : PySem.W.nsIn K mainGlobals "set" = some none)
    (z_list : PySem.W.nsIn K mainGlobals "list" = some none)
    (z_tuple : PySem.W.nsIn K mainGlobals "tuple" = some none)
    (z_all : PySem.W.nsIn K mainGlobals "all" = some none)
    (z_repr : PySem.W.nsIn K mainGlobals "repr" = some none)
    (z_isinstance : PySem.W.nsIn K mainGlobals "isinstance" = some none)
    (z_dict : PySem.W.nsIn K mainGlobals "dict" = some none)
    (z_bool : PySem.W.nsIn K mainGlobals "bool" = some none)
    (z_str : PySem.W.nsIn K mainGlobals "str" = some none)
    (z_ValueError : PySem.W.nsIn K mainGlobals "ValueError" = some none)
    (pk : clsAll K [C0, C1, C2, C3, C4, C5, C6, C7, C8, C9, C10] f_tinit = true)
    : ∃ fd : FuncData, (∀ (s : Shared) (v : Value), BindsTo s fd ⟨[v], []⟩ [("script", v)]) ∧ ∀ base : Heap, K.In base → base.Ns mainGlobals mg → FnOk l.prog w K mg base CX0 57 fa fd ["script"] (spLaw K) := by
  have e := hfa.symm.trans (PySem.W.mg_of X G a_law)
  cases e
  have m_fresh := PySem.W.mg_of X G a_fresh
  have m_fil := PySem.W.mg_of X G a_fil
  have m_ckn := PySem.W.mg_of X G a_ckn
  have m_cko := PySem.W.mg_of X G a_cko
  have m_ckt := PySem.W.mg_of X G a_ckt
  have m_ckd := PySem.W.mg_of X G a_ckd
  have m_ckp := PySem.W.mg_of X G a_ckp
  have m_ckr := PySem.W.mg_of X G a_ckr
  have m_cke := PySem.W.mg_of X G a_cke
  have m_cku := PySem.W.mg_of X G a_cku
  have m_purse := PySem.W.mg_of X G a_purse
  have m_coin := PySem.W.mg_of X G a_coin
  have m_words := PySem.W.mg_of X G a_words
  have m_copied := PySem.W.mg_of X G a_copied
  have m_term := PySem.W.mg_of X G a_term
  have m_name := PySem.W.mg_of X G a_name
  have m_part := PySem.W.mg_of X G a_part
  have m_def := PySem.W.mg_of X G a_def
  have m_plan := PySem.W.mg_of X G a_plan
  have m_rules := PySem.W.mg_of X G a_rules
  have m_isnm := PySem.W.mg_of X G a_isnm
  have m_tmf := PySem.W.mg_of X G a_tmf
  have m_ptf := PySem.W.mg_of X G a_ptf
  have m_fault := PySem.W.mg_of X G a_fault
  have m_mark := PySem.W.mg_of X G a_mark
  have m_same := PySem.W.mg_of X G a_same
  have m_caught := PySem.W.mg_of X G a_caught
  have m_cright := PySem.W.mg_of X G a_cright
  have m_refus := PySem.W.mg_of X G a_refus
  have m_made := PySem.W.mg_of X G a_made
  have m_byord := PySem.W.mg_of X G a_byord
  have m_right := PySem.W.mg_of X G a_right
  have m_law := PySem.W.mg_of X G a_law
  have y_len := PySem.W.mg_none_of X G z_len
  have y_max := PySem.W.mg_none_of X G z_max
  have y_min := PySem.W.mg_none_of X G z_min
  have y_abs := PySem.W.mg_none_of X G z_abs
  have y_int := PySem.W.mg_none_of X G z_int
  have y_range := PySem.W.mg_none_of X G z_range
  have y_set := PySem.W.mg_none_of X G z_set
  have y_list := PySem.W.mg_none_of X G z_list
  have y_tuple := PySem.W.mg_none_of X G z_tuple
  have y_all := PySem.W.mg_none_of X G z_all
  have y_repr := PySem.W.mg_none_of X G z_repr
  have y_isinstance := PySem.W.mg_none_of X G z_isinstance
  have y_dict := PySem.W.mg_none_of X G z_dict
  have y_bool := PySem.W.mg_none_of X G z_bool
  have y_str := PySem.W.mg_none_of X G z_str
  have y_ValueError := PySem.W.mg_none_of X G z_ValueError
  have T : Txt K mg := ⟨y_len, y_max, y_min, y_abs, y_int, y_range, y_set, y_list, y_tuple, y_all, y_repr, y_isinstance⟩
  have F_fresh := fun_mk (st := sFresh) l_fresh c_fresh k_fresh
  have b_fresh := F_fresh.binds (ps := ["thing"]) fun _ _ _ _ _ _ us hl => match us, hl with | [_], _ => rfl
  have F_fil := fun_mk (st := sFilled) l_fil c_fil k_fil
  have b_fil := F_fil.binds (ps := ["thing"]) fun _ _ _ _ _ _ us hl => match us, hl with | [_], _ => rfl
  have F_ckn := fun_mk (st := sCkName) l_ckn c_ckn k_ckn
  have b_ckn := F_ckn.binds (ps := ["name"]) fun _ _ _ _ _ _ us hl => match us, hl with | [_], _ => rfl
  have F_cko := fun_mk (st := sCkOpt) l_cko c_cko k_cko
  have b_cko := F_cko.binds (ps := ["name"]) fun _ _ _ _ _ _ us hl => match us, hl with | [_], _ => rfl
  have F_ckt := fun_mk (st := sCkTerm) l_ckt c_ckt k_ckt
  have b_ckt := F_ckt.binds (ps := ["term"]) fun _ _ _ _ _ _ us hl => match us, hl with | [_], _ => rfl
  have F_ckd := fun_mk (st := sCkDef) l_ckd c_ckd k_ckd
  have b_ckd := F_ckd.binds (ps := ["default"]) fun _ _ _ _ _ _ us hl => match us, hl with | [_], _ => rfl
  have F_ckp := fun_mk (st := sCkPart) l_ckp c_ckp k_ckp
  have b_ckp := F_ckp.binds (ps := ["part"]) fun _ _ _ _ _ _ us hl => match us, hl with | [_], _ => rfl
  have F_ckr := fun_mk (st := sCkRow) l_ckr c_ckr k_ckr
  have b_ckr := F_ckr.binds (ps := ["part"]) fun _ _ _ _ _ _ us hl => match us, hl with | [_], _ => rfl
  have F_cke := fun_mk (st := sCkRec) l_cke c_cke k_cke
  have b_cke := F_cke.binds (ps := ["part"]) fun _ _ _ _ _ _ us hl => match us, hl with | [_], _ => rfl
  have F_cku := fun_mk (st := sCkRules) l_cku c_cku k_cku
  have b_cku := F_cku.binds (ps := ["order", "lacks"]) fun _ _ _ _ _ _ us hl => match us, hl with | [_, _], _ => rfl
  have F_purse := fun_mk (st := sPurse) l_purse c_purse k_purse
  have b_purse := F_purse.binds (ps := ["script", "place"]) fun _ _ _ _ _ _ us hl => match us, hl with | [_, _], _ => rfl
  have F_coin := fun_mk (st := sCoin) l_coin c_coin k_coin
  have b_coin := F_coin.binds (ps := ["purse", "many"]) fun _ _ _ _ _ _ us hl => match us, hl with | [_, _], _ => rfl
  have F_words := fun_mk (st := sWords) l_words c_words k_words
  have b_words := F_words.binds (ps := ["purse", "many"]) fun _ _ _ _ _ _ us hl => match us, hl with | [_, _], _ => rfl
  have F_copied := fun_mk (st := sCopied) l_copied c_copied k_copied
  have b_copied := F_copied.binds (ps := ["thing"]) fun _ _ _ _ _ _ us hl => match us, hl with | [_], _ => rfl
  have F_term := fun_mk (st := sTerm) l_term c_term k_term
  have b_term := F_term.binds (ps := ["purse", "labels", "left", "deep"]) fun _ _ _ _ _ _ us hl => match us, hl with | [_, _, _, _], _ => rfl
  have F_name := fun_mk (st := sName) l_name c_name k_name
  have b_name := F_name.binds (ps := ["purse", "names", "left"]) fun _ _ _ _ _ _ us hl => match us, hl with | [_, _, _], _ => rfl
  have F_part := fun_mk (st := sPart) l_part c_part k_part
  have b_part := F_part.binds (ps := ["purse", "labels", "left", "deep"]) fun _ _ _ _ _ _ us hl => match us, hl with | [_, _, _, _], _ => rfl
  have F_def := fun_mk (st := sDefault) l_def c_def k_def
  have b_def := F_def.binds (ps := ["purse", "labels", "left"]) fun _ _ _ _ _ _ us hl => match us, hl with | [_, _, _], _ => rfl
  have F_plan := fun_mk (st := sPlan) l_plan c_plan k_plan
  have b_plan := F_plan.binds (ps := ["purse", "is_great", "wrong", "kinds"]) fun _ _ _ _ _ _ us hl => match us, hl with | [_, _, _, _], _ => rfl
  have F_rules := fun_mk (st := sRules) l_rules c_rules k_rules
  have b_rules := F_rules.binds (ps := ["purse", "left"]) fun _ _ _ _ _ _ us hl => match us, hl with | [_, _], _ => rfl
  have F_isnm := fun_mk (st := sIsName) l_isnm c_isnm k_isnm
  have b_isnm := F_isnm.binds (ps := ["text"]) fun _ _ _ _ _ _ us hl => match us, hl with | [_], _ => rfl
  have F_tmf := fun_mk (st := sTmFault) l_tmf c_tmf k_tmf
  have b_tmf := F_tmf.binds (ps := ["term"]) fun _ _ _ _ _ _ us hl => match us, hl with | [_], _ => rfl
  have F_ptf := fun_mk (st := sPtFault) l_ptf c_ptf k_ptf
  have b_ptf := F_ptf.binds (ps := ["piece"]) fun _ _ _ _ _ _ us hl => match us, hl with | [_], _ => rfl
  have F_fault := fun_mk (st := sFault) l_fault c_fault k_fault
  have b_fault := F_fault.binds (ps := ["plan"]) fun _ _ _ _ _ _ us hl => match us, hl with | [_], _ => rfl
  have F_mark := fun_mk (st := sMark) l_mark c_mark k_mark
  have b_mark := F_mark.binds (ps := ["thing", "tally"]) fun _ _ _ _ _ _ us hl => match us, hl with | [_, _], _ => rfl
  have F_same := fun_mk (st := sSame) l_same c_same k_same
  have b_same := F_same.binds (ps := ["told", "owed"]) fun _ _ _ _ _ _ us hl => match us, hl with | [_, _], _ => rfl
  have F_caught := fun_mk (st := sCaught) l_caught c_caught k_caught
  have b_caught := F_caught.binds (ps := ["handed", "plan", "mode"]) fun _ _ _ _ _ _ us hl => match us, hl with | [_, _, _], _ => rfl
  have F_cright := fun_mk (st := sCRight) l_cright c_cright k_cright
  have b_cright := F_cright.binds (ps := ["found", "plan", "fault"]) fun _ _ _ _ _ _ us hl => match us, hl with | [_, _, _], _ => rfl
  have F_refus := fun_mk (st := sRefus) l_refus c_refus k_refus
  have b_refus := F_refus.binds (ps := ["purse", "plan"]) fun _ _ _ _ _ _ us hl => match us, hl with | [_, _], _ => rfl
  have F_made := fun_mk (st := sMade) l_made c_made k_made
  have b_made := F_made.binds (ps := ["purse", "plan"]) fun _ _ _ _ _ _ us hl => match us, hl with | [_, _], _ => rfl
  have F_byord := fun_mk (st := sByOrd) l_byord c_byord k_byord
  have b_byord := F_byord.binds (ps := ["made", "word", "mode"]) fun _ _ _ _ _ _ us hl => match us, hl with | [_, _, _], _ => rfl
  have F_right := fun_mk (st := sRight) l_right c_right k_right
  have b_right := F_right.binds (ps := ["purse"]) fun _ _ _ _ _ _ us hl => match us, hl with | [_], _ => rfl
  have F_law := fun_mk (st := sLaw) l_law c_law k_law
  have F_init := fun_mk (st := sInit) l_init c_init k_init
  have b_init := F_init.binds (ps := ["self", "part", "order", "lacks"]) fun _ _ _ _ _ _ us hl => match us, hl with | [_, _, _, _], _ => rfl
  have F_gpart := fun_mk (st := sGPart) l_gpart c_gpart k_gpart
  have b_gpart := F_gpart.binds (ps := ["self"]) fun _ _ _ _ _ _ us hl => match us, hl with | [_], _ => rfl
  have F_gord := fun_mk (st := sGOrd) l_gord c_gord k_gord
  have b_gord := F_gord.binds (ps := ["self"]) fun _ _ _ _ _ _ us hl => match us, hl with | [_], _ => rfl
  have F_glck := fun_mk (st := sGLck) l_glck c_glck k_glck
  have b_glck := F_glck.binds (ps := ["self"]) fun _ _ _ _ _ _ us hl => match us, hl with | [_], _ => rfl
  have F_mwith := fun_mk (st := sMWith) l_mwith c_mwith k_mwith
  have b_mwith := F_mwith.binds (ps := ["self", "order"]) fun _ _ _ _ _ _ us hl => match us, hl with | [_, _], _ => rfl
  have F_tinit := fun_mk (st := sTInit) l_tinit c_tinit k_tinit
  have b_tinit := F_tinit.binds (ps := ["self", "value"]) fun _ _ _ _ _ _ us hl => match us, hl with | [_, _], _ => rfl
  have EC : ECls K mg (fun j => ([C0, C1, C2, C3, C4, C5, C6, C7, C8, C9, C10] : List Addr).getD j 0) f_tinit := by
    refine cls_of pk tI (fun j x e => ?_) (fun j hj => ?_)
    · have hx : x = cNames.getD j Str.empty ∧ j < 11 := by
        have hj : j < cNames.length := (List.getElem?_eq_some_iff.mp e).1
        rw [List.getD_eq_getElem?_getD, e]
        exact ⟨rfl, hj⟩
      obtain ⟨rfl, hj⟩ := hx
      have cs : j = 0 ∨ j = 1 ∨ j = 2 ∨ j = 3 ∨ j = 4 ∨ j = 5 ∨ j = 6 ∨ j = 7 ∨ j = 8 ∨ j = 9 ∨ j = 10 := by omega
      rcases cs with rfl | rfl | rfl | rfl | rfl | rfl | rfl | rfl | rfl | rfl | rfl
      · exact PySem.W.mg_of X G aC0
      · exact PySem.W.mg_of X G aC1
      · exact PySem.W.mg_of X G aC2
      · exact PySem.W.mg_of X G aC3
      · exact PySem.W.mg_of X G aC4
      · exact PySem.W.mg_of X G aC5
      · exact PySem.W.mg_of X G aC6
      · exact PySem.W.mg_of X G aC7
      · exact PySem.W.mg_of X G aC8
      · exact PySem.W.mg_of X G aC9
      · exact PySem.W.mg_of X G aC10
    · have cs : j = 0 ∨ j = 1 ∨ j = 2 ∨ j = 3 ∨ j = 4 ∨ j = 5 ∨ j = 6 ∨ j = 7 ∨ j = 8 ∨ j = 9 ∨ j = 10 := by omega
      rcases cs with rfl | rfl | rfl | rfl | rfl | rfl | rfl | rfl | rfl | rfl | rfl
      · exact ⟨_, _, _, _, _, _, _, _, _, _, _, _, _, _, _, xL0, rfl⟩
      · exact ⟨_, _, _, _, _, _, _, _, _, _, _, _, _, _, _, xL1, rfl⟩
      · exact ⟨_, _, _, _, _, _, _, _, _, _, _, _, _, _, _, xL2, rfl⟩
      · exact ⟨_, _, _, _, _, _, _, _, _, _, _, _, _, _, _, xL3, rfl⟩
      · exact ⟨_, _, _, _, _, _, _, _, _, _, _, _, _, _, _, xL4, rfl⟩
      · exact ⟨_, _, _, _, _, _, _, _, _, _, _, _, _, _, _, xL5, rfl⟩
      · exact ⟨_, _, _, _, _, _, _, _, _, _, _, _, _, _, _, xL6, rfl⟩
      · exact ⟨_, _, _, _, _, _, _, _, _, _, _, _, _, _, _, xL7, rfl⟩
      · exact ⟨_, _, _, _, _, _, _, _, _, _, _, _, _, _, _, xL8, rfl⟩
      · exact ⟨_, _, _, _, _, _, _, _, _, _, _, _, _, _, _, xL9, rfl⟩
      · exact ⟨_, _, _, _, _, _, _, _, _, _, _, _, _, _, _, xL10, rfl⟩
  have mC := PySem.W.mg_of X G aC
  have mT := PySem.W.mg_of X G aT
  have mP := PySem.W.mg_of X G aP
  have mN := PySem.W.mg_of X G aN
  have mL := PySem.W.mg_of X G aL
  have CC : PCls K C := ⟨⟨cPg, cHd, cPo, cSa⟩, nP, nO, nL⟩
  have M : Mk K C f_init := ⟨mkM, mkI, i_init, mkK⟩
  have TT : Tab K w dT szT noT := ⟨He.dicW_ok kT, fun q hq => by
    simp at hq
    rcases hq with rfl | rfl | rfl
    · exact ⟨_, eT0, _, rfl⟩
    · exact ⟨_, eT1, _, rfl⟩
    · exact ⟨_, eT2, _, rfl⟩, fun q hq => by
    simp at hq
    rcases hq with rfl | rfl | rfl | rfl | rfl
    · exact nT0
    · exact nT1
    · exact nT2
    · exact nT3
    · exact nT4⟩
  have TP : Tab K w dP szP noP := ⟨He.dicW_ok kP, fun q hq => by
    simp at hq
    rcases hq with rfl | rfl | rfl | rfl
    · exact ⟨_, eP0, _, rfl⟩
    · exact ⟨_, eP1, _, rfl⟩
    · exact ⟨_, eP2, _, rfl⟩
    · exact ⟨_, eP3, _, rfl⟩, fun q hq => by
    simp at hq
    rcases hq with rfl | rfl | rfl | rfl | rfl | rfl | rfl | rfl | rfl
    · exact nQ0
    · exact nQ1
    · exact nQ2
    · exact nQ3
    · exact nQ4
    · exact nQ5
    · exact nQ6
    · exact nQ7
    · exact nQ8⟩
  have qP : PropOf K C "part" pP f_gpart := ⟨p1_gpart, p2_gpart, p3_gpart, _, p4_gpart⟩
  have qO : PropOf K C "order" pO f_gord := ⟨p1_gord, p2_gord, p3_gord, _, p4_gord⟩
  have qL : PropOf K C "lacks" pL f_glck := ⟨p1_glck, p2_glck, p3_glck, _, p4_glck⟩
  refine ⟨PySem.W.fnOf "law" "law" (defArgs sLaw) (defBody sLaw) (defScope sLaw) .none kV_law dc_law pm_law an_law cd_law ct_law, fun s v => .of_eq rfl, fun base _ _ => ?_⟩
  have GC := ok_coin (P := l.prog) (w := w) (base := base) F_coin T
  have GWo := ok_words (P := l.prog) (w := w) (base := base) F_words T F_coin b_coin m_coin
  have GFr : ∀ n, FnOk l.prog w K mg base CX0 n f_fresh _ ["thing"] (spCopy n) := fun n => Nat.rec copy_none (fun n ih => ok_fresh F_fresh T ih b_fresh m_fresh y_dict) n
  have GCo : ∀ n, FnOk l.prog w K mg base CX0 n f_copied _ ["thing"] (spCopy n) := fun n => Nat.rec copy_none (fun n ih => ok_copied F_copied T ih b_copied m_copied) n
  have GMa : ∀ n, FnOk l.prog w K mg base CX0 n f_mark _ ["thing", "tally"] (spMark n) := fun n => Nat.rec mark_none (fun n ih => ok_mark F_mark T ih b_mark m_mark y_dict) n
  have GSa : ∀ n, FnOk l.prog w K mg base CX0 n f_same _ ["told", "owed"] (spSame n) := fun n => Nat.rec same_none (fun n ih => ok_same F_same T ih b_same m_same y_dict y_bool y_str) n
  have GNm := Cl.ok_name (P := l.prog) (w := w) (base := base) F_name T F_coin GC b_coin m_coin
  have GTm : ∀ n, FnOk l.prog w K mg base CX0 n f_term _ ["purse", "labels", "left", "deep"] (Cl.spTerm n) := fun n => Nat.rec Cl.term_none (fun n ih => Cl.ok_term F_term T F_coin GC b_coin m_coin F_name GNm b_name m_name ih b_term m_term) n
  have GDf := Cl.ok_default (P := l.prog) (w := w) (base := base) F_def T F_coin GC b_coin m_coin F_term (GTm 7) b_term m_term
  have GPt : ∀ n, FnOk l.prog w K mg base CX0 n f_part _ ["purse", "labels", "left", "deep"] (Cl.spPart n) := fun n => Nat.rec Cl.part_none (fun n ih => Cl.ok_part F_part T F_coin GC b_coin m_coin F_name GNm b_name m_name F_def GDf b_def m_def ih b_part m_part) n
  have GRu := ok_rules (P := l.prog) (w := w) (base := base) F_rules T F_coin GC b_coin m_coin
  have GPl := Cl.ok_plan (P := l.prog) (w := w) (base := base) F_plan T F_coin GC b_coin m_coin F_words GWo b_words m_words F_part (GPt 15) b_part m_part F_rules GRu b_rules m_rules
  have GNi := ok_isnm (P := l.prog) (w := w) (base := base) F_isnm T
  have GTf : ∀ n, FnOk l.prog w K mg base CX0 n f_tmf _ ["term"] (spTmFault n) := fun n => Nat.rec tmf_none (fun n ih => ok_tmf F_tmf T F_isnm GNi b_isnm m_isnm ih b_tmf m_tmf) n
  have GPf : ∀ n, FnOk l.prog w K mg base CX0 n f_ptf _ ["piece"] (spPtFault n) := fun n => Nat.rec ptf_none (fun n ih => ok_ptf F_ptf T F_isnm GNi b_isnm m_isnm F_tmf (GTf 7) b_tmf m_tmf ih b_ptf m_ptf) n
  have GFa := ok_fault (P := l.prog) (w := w) (base := base) F_fault F_ptf (GPf 16) b_ptf m_ptf
  have GFi := ok_filled (P := l.prog) (w := w) (base := base) F_fil T
  have GKn := ok_ckname (P := l.prog) (w := w) (base := base) F_ckn T y_str mN mL EC F_tinit b_tinit
  have GKo := ok_ckopt (P := l.prog) (w := w) (base := base) F_cko F_ckn GKn b_ckn m_ckn
  have GKt : ∀ n, FnOk l.prog w K mg base (L2.CX l.prog w) (9 + n) f_ckt _ ["term"] (spCkTerm (fun j => ([C0, C1, C2, C3, C4, C5, C6, C7, C8, C9, C10] : List Addr).getD j 0) (9 + n)) := fun n => Nat.rec ckterm_none (fun n ih => ok_ckterm (k := 9 + n) F_ckt T EC F_tinit b_tinit F_fil GFi b_fil m_fil F_ckn GKn b_ckn m_ckn F_fresh (GFr 8) b_fresh m_fresh TT mT (by omega) ih b_ckt m_ckt) n
  have GKd := ok_ckdef (P := l.prog) (w := w) (base := base) F_ckd F_ckt (GKt 6) b_ckt m_ckt
  have GKp : ∀ n, FnOk l.prog w K mg base (L2.CX l.prog w) (16 + n) f_ckp _ ["part"] (spCkPart (fun j => ([C0, C1, C2, C3, C4, C5, C6, C7, C8, C9, C10] : List Addr).getD j 0) (16 + n)) ∧ FnOk l.prog w K mg base (L2.CX l.prog w) (16 + n) f_ckr _ ["part"] (spCkIn (fun j => ([C0, C1, C2, C3, C4, C5, C6, C7, C8, C9, C10] : List Addr).getD j 0) true (16 + n)) ∧ FnOk l.prog w K mg base (L2.CX l.prog w) (16 + n) f_cke _ ["part"] (spCkIn (fun j => ([C0, C1, C2, C3, C4, C5, C6, C7, C8, C9, C10] : List Addr).getD j 0) false (16 + n)) := fun n => Nat.rec ⟨ckpart_none, ckin_none, ckin_none⟩
    (fun n ih => ⟨ok_ckpart (k := 16 + n) (by omega) F_ckp T EC F_tinit b_tinit F_fil GFi b_fil m_fil F_ckn GKn b_ckn m_ckn F_fresh (GFr 8) b_fresh m_fresh TP mP F_ckr ih.2.1 b_ckr m_ckr F_cke ih.2.2 b_cke m_cke,
      ok_ckrow (k := 16 + n) (by omega) F_ckr F_cko GKo b_cko m_cko F_ckd GKd b_ckd m_ckd F_ckp ih.1 b_ckp m_ckp, ok_ckrec (k := 16 + n) (by omega) F_cke EC F_tinit b_tinit F_cko GKo b_cko m_cko F_ckn GKn b_ckn m_ckn F_ckd GKd b_ckd m_ckd F_ckp ih.1 b_ckp m_ckp⟩) n
  have GKu := ok_ckrules (P := l.prog) (w := w) (mg := mg) (base := base) F_cku EC F_tinit b_tinit
  have GIn := ok_init (P := l.prog) (w := w) (base := base) F_init CC F_ckp (GKp 15).1 b_ckp m_ckp F_cku GKu b_cku m_cku F_fresh (GFr 50) b_fresh m_fresh
  have GGp := ok_gpart (P := l.prog) (w := w) (base := base) F_gpart CC F_fresh (GFr 50) b_fresh m_fresh
  have GGo := ok_gord (P := l.prog) (w := w) (mg := mg) (base := base) F_gord CC
  have GGl := ok_glck (P := l.prog) (w := w) (mg := mg) (base := base) F_glck CC
  have GCa := ok_caught (P := l.prog) (w := w) (base := base) F_caught T y_ValueError CC M mC EC F_init GIn b_init
  have GCr := ok_cright (P := l.prog) (w := w) (base := base) F_cright T CC qP GGp b_gpart qO GGo b_gord qL GGl b_glck F_same (GSa 50) b_same m_same
  have GRf := ok_refus (P := l.prog) (w := w) (base := base) F_refus T CC F_coin GC b_coin m_coin F_fault GFa b_fault m_fault F_copied (GCo 50) b_copied m_copied F_caught GCa b_caught m_caught F_cright GCr b_cright m_cright F_mark (GMa 50) b_mark m_mark F_same (GSa 50) b_same m_same qP GGp b_gpart
  have wW : Meth K C "with_order" f_mwith := ⟨w_mwith, i_mwith, k_mwith⟩
  have GMw := ok_mwith (P := l.prog) (w := w) (base := base) F_mwith CC M mC GIn b_init
  have GMd := ok_made (P := l.prog) (w := w) (base := base) (pO := pO) F_made T CC M mC F_coin GC b_coin m_coin F_copied (GCo 50) b_copied m_copied F_init GIn b_init wW GMw b_mwith qP GGp b_gpart F_mark (GMa 50) b_mark m_mark
  have GBo := ok_byord (P := l.prog) (w := w) (base := base) F_byord T CC EC F_mwith wW GMw b_mwith
  have GR := ok_right (P := l.prog) (w := w) (base := base) F_right T CC F_coin GC b_coin m_coin F_plan GPl b_plan m_plan F_refus GRf b_refus m_refus F_made GMd b_made m_made F_byord GBo b_byord m_byord F_same (GSa 50) b_same m_same qP GGp b_gpart qO GGo b_gord qL GGl b_glck
  exact ok_law F_law T (ok_purse F_purse T) b_purse m_purse k_purse GR b_right m_right k_right
end K03
set_option Elab.async false
set_option maxRecDepth 100000
namespace K03
open PySem L2 PyProof.Rows
theorem walk {l : PySem.W.OpenLaw} {q : Program} {loose : List Str} {XP : (Str → Option Value) → Heap → Prop} {YP : World → Heap → Prop} {d : DefRec} {K : Params → PySem.W.Frag} (hn : l.most = some 63) (hdf : d.params.defaults = [])
    (hY : ∀ (w : World) (h : Heap), YP w h → (K w.params).In h)
    (F : ∀ (w : World) (mg : Str → Option Value) (fa : Addr) (h : Heap), (K w.params).In h → h.Ns mainGlobals mg → mg d.name = some (.ref fa) →
      ∃ fd : FuncData, (∀ (s : Shared) (u : Value), BindsTo s fd ⟨[u], []⟩ [("script", u)]) ∧ ∀ base : Heap, (K w.params).In base → base.Ns mainGlobals mg → FnOk l.prog w (K w.params) mg base CX0 57 fa fd ["script"] (spLaw (K w.params))) :
    PySem.W.WalkO q loose XP YP l.row.toRowW d [] (fun f vs => PySem.call f vs) :=
  L2.walk_of (n := 63) (k := 57) (x := "script") (CX := fun _ => CX0) (sp := fun w => spLaw (K w.params)) hn (by decide) hdf ⟨rfl, by decide, by decide⟩ hY F (fun _ _ a ns hl _ hS => ⟨a, ns, rfl, hS, hl, fun _ => rfl⟩) fun _ _ _ _ _ z => z
end K03
open PySem PySem.W PyProof.Rows
set_option maxRecDepth 100000 in
set_option maxHeartbeats 0 in
theorem PySem.Challenge.cw_partedvalues_k07_rules_refused_holds : PySem.Challenge.rw_partedvalues_k07_rules_refused.Holds := by
  w_on; o_law; k_head; (case hw => w_witness2)
  k_fill
  refine K03.walk (l := PySem.Challenge.rw_partedvalues_k07_rules_refused) rfl rfl (fun w h Y => PySem.W.kIn_of Y) ?F
  case F =>
    intro w mg fa h KX G hmg
    refine' K03.all_mk KX G hmg ?aC0 ?aC1 ?aC2 ?aC3 ?aC4 ?aC5 ?aC6 ?aC7 ?aC8 ?aC9 ?aC10 ?xL0 ?xL1 ?xL2 ?xL3 ?xL4 ?xL5 ?xL6 ?xL7 ?xL8 ?xL9 ?xL10 ?aI ?tI ?a_fresh ?l_fresh ?c_fresh ?k_fresh ?a_fil ?l_fil ?c_fil ?k_fil ?a_ckn ?l_ckn ?c_ckn ?k_ckn ?a_cko ?l_cko ?c_cko ?k_cko ?a_ckt ?l_ckt ?c_ckt ?k_ckt ?a_ckd ?l_ckd ?c_ckd ?k_ckd ?a_ckp ?l_ckp ?c_ckp ?k_ckp ?a_ckr ?l_ckr ?c_ckr ?k_ckr ?a_cke ?l_cke ?c_cke ?k_cke ?a_cku ?l_cku ?c_cku ?k_cku ?a_purse ?l_purse ?c_purse ?k_purse ?a_coin ?l_coin ?c_coin ?k_coin ?a_words ?l_words ?c_words ?k_words ?a_copied ?l_copied ?c_copied ?k_copied ?a_term ?l_term ?c_term ?k_term ?a_name ?l_name ?c_name ?k_name ?a_part ?l_part ?c_part ?k_part ?a_def ?l_def ?c_def ?k_def ?a_plan ?l_plan ?c_plan ?k_plan ?a_rules ?l_rules ?c_rules ?k_rules ?a_isnm ?l_isnm ?c_isnm ?k_isnm ?a_tmf ?l_tmf ?c_tmf ?k_tmf ?a_ptf ?l_ptf ?c_ptf ?k_ptf ?a_fault ?l_fault ?c_fault ?k_fault ?a_mark ?l_mark ?c_mark ?k_mark ?a_same ?l_same ?c_same ?k_same ?a_caught ?l_caught ?c_caught ?k_caught ?a_cright ?l_cright ?c_cright ?k_cright ?a_refus ?l_refus ?c_refus ?k_refus ?a_made ?l_made ?c_made ?k_made ?a_byord ?l_byord ?c_byord ?k_byord ?a_right ?l_right ?c_right ?k_right ?a_law ?l_law ?c_law ?k_law ?aC ?cPg ?cHd ?cPo ?cSa ?nP ?nO ?nL ?mkM ?mkI ?mkK ?i_init ?w_mwith ?i_mwith ?p1_gpart ?p2_gpart ?p3_gpart ?p4_gpart ?p1_gord ?p2_gord ?p3_gord ?p4_gord ?p1_glck ?p2_glck ?p3_glck ?p4_glck ?l_init ?c_init ?k_init ?l_gpart ?c_gpart ?k_gpart ?l_gord ?c_gord ?k_gord ?l_glck ?c_glck ?k_glck ?l_mwith ?c_mwith ?k_mwith ?l_tinit ?c_tinit ?k_tinit ?aT ?aP ?aN ?aL ?kT ?kP ?eT0 ?eT1 ?eT2 ?eP0 ?eP1 ?eP2 ?eP3 ?nT0 ?nT1 ?nT2 ?nT3 ?nT4 ?nQ0 ?nQ1 ?nQ2 ?nQ3 ?nQ4 ?nQ5 ?nQ6 ?nQ7 ?nQ8 ?z_len ?z_max ?z_min ?z_abs ?z_int ?z_range ?z_set ?z_list ?z_tuple ?z_all ?z_repr ?z_isinstance ?z_dict ?z_bool ?z_str ?z_ValueError ?pk
    (case aC0 => k_is)
    (case aC1 => k_is)
    (case aC2 => k_is)
    (case aC3 => k_is)
    (case aC4 => k_is)
    (case aC5 => k_is)
    (case aC6 => k_is)
    (case aC7 => k_is)
    (case aC8 => k_is)
    (case aC9 => k_is)
    (case aC10 => k_is)
    (case xL0 => k_is)
    (case xL1 => k_is)
    (case xL2 => k_is)
    (case xL3 => k_is)
    (case xL4 => k_is)
    (case xL5 => k_is)
    (case xL6 => k_is)
    (case xL7 => k_is)
    (case xL8 => k_is)
    (case xL9 => k_is)
    (case xL10 => k_is)
    (case aI => k_is)
    (case tI => k_is)
    (case a_fresh => k_is)
    (case l_fresh => k_is)
    (case c_fresh => k_is)
    (case k_fresh => k_is)
    (case a_fil => k_is)
    (case l_fil => k_is)
    (case c_fil => k_is)
    (case k_fil => k_is)
    (case a_ckn => k_is)
    (case l_ckn => k_is)
    (case c_ckn => k_is)
    (case k_ckn => k_is)
    (case a_cko => k_is)
    (case l_cko => k_is)
    (case c_cko => k_is)
    (case k_cko => k_is)
    (case a_ckt => k_is)
    (case l_ckt => k_is)
    (case c_ckt => k_is)
    (case k_ckt => k_is)
    (case a_ckd => k_is)
    (case l_ckd => k_is)
    (case c_ckd => k_is)
    (case k_ckd => k_is)
    (case a_ckp => k_is)
    (case l_ckp => k_is)
    (case c_ckp => k_is)
    (case k_ckp => k_is)
    (case a_ckr => k_is)
    (case l_ckr => k_is)
    (case c_ckr => k_is)
    (case k_ckr => k_is)
    (case a_cke => k_is)
    (case l_cke => k_is)
    (case c_cke => k_is)
    (case k_cke => k_is)
    (case a_cku => k_is)
    (case l_cku => k_is)
    (case c_cku => k_is)
    (case k_cku => k_is)
    (case a_purse => k_is)
    (case l_purse => k_is)
    (case c_purse => k_is)
    (case k_purse => k_is)
    (case a_coin => k_is)
    (case l_coin => k_is)
    (case c_coin => k_is)
    (case k_coin => k_is)
    (case a_words => k_is)
    (case l_words => k_is)
    (case c_words => k_is)
    (case k_words => k_is)
    (case a_copied => k_is)
    (case l_copied => k_is)
    (case c_copied => k_is)
    (case k_copied => k_is)
    (case a_term => k_is)
    (case l_term => k_is)
    (case c_term => k_is)
    (case k_term => k_is)
    (case a_name => k_is)
    (case l_name => k_is)
    (case c_name => k_is)
    (case k_name => k_is)
    (case a_part => k_is)
    (case l_part => k_is)
    (case c_part => k_is)
    (case k_part => k_is)
    (case a_def => k_is)
    (case l_def => k_is)
    (case c_def => k_is)
    (case k_def => k_is)
    (case a_plan => k_is)
    (case l_plan => k_is)
    (case c_plan => k_is)
    (case k_plan => k_is)
    (case a_rules => k_is)
    (case l_rules => k_is)
    (case c_rules => k_is)
    (case k_rules => k_is)
    (case a_isnm => k_is)
    (case l_isnm => k_is)
    (case c_isnm => k_is)
    (case k_isnm => k_is)
    (case a_tmf => k_is)
    (case l_tmf => k_is)
    (case c_tmf => k_is)
    (case k_tmf => k_is)
    (case a_ptf => k_is)
    (case l_ptf => k_is)
    (case c_ptf => k_is)
    (case k_ptf => k_is)
    (case a_fault => k_is)
    (case l_fault => k_is)
    (case c_fault => k_is)
    (case k_fault => k_is)
    (case a_mark => k_is)
    (case l_mark => k_is)
    (case c_mark => k_is)
    (case k_mark => k_is)
    (case a_same => k_is)
    (case l_same => k_is)
    (case c_same => k_is)
    (case k_same => k_is)
    (case a_caught => k_is)
    (case l_caught => k_is)
    (case c_caught => k_is)
    (case k_caught => k_is)
    (case a_cright => k_is)
    (case l_cright => k_is)
    (case c_cright => k_is)
    (case k_cright => k_is)
    (case a_refus => k_is)
    (case l_refus => k_is)
    (case c_refus => k_is)
    (case k_refus => k_is)
    (case a_made => k_is)
    (case l_made => k_is)
    (case c_made => k_is)
    (case k_made => k_is)
    (case a_byord => k_is)
    (case l_byord => k_is)
    (case c_byord => k_is)
    (case k_byord => k_is)
    (case a_right => k_is)
    (case l_right => k_is)
    (case c_right => k_is)
    (case k_right => k_is)
    (case a_law => k_is)
    (case l_law => k_is)
    (case c_law => k_is)
    (case k_law => k_is)
    (case aC => k_is)
    (case cPg => k_is)
    (case cHd => k_is)
    (case cPo => k_is)
    (case cSa => k_is)
    (case nP => k_is)
    (case nO => k_is)
    (case nL => k_is)
    (case mkM => k_is)
    (case mkI => k_is)
    (case mkK => k_is)
    (case i_init => k_is)
    (case w_mwith => k_is)
    (case i_mwith => k_is)
    (case p1_gpart => k_is)
    (case p2_gpart => k_is)
    (case p3_gpart => k_is)
    (case p4_gpart => k_is)
    (case p1_gord => k_is)
    (case p2_gord => k_is)
    (case p3_gord => k_is)
    (case p4_gord => k_is)
    (case p1_glck => k_is)
    (case p2_glck => k_is)
    (case p3_glck => k_is)
    (case p4_glck => k_is)
    (case l_init => k_is)
    (case c_init => k_is)
    (case k_init => k_is)
    (case l_gpart => k_is)
    (case c_gpart => k_is)
    (case k_gpart => k_is)
    (case l_gord => k_is)
    (case c_gord => k_is)
    (case k_gord => k_is)
    (case l_glck => k_is)
    (case c_glck => k_is)
    (case k_glck => k_is)
    (case l_mwith => k_is)
    (case c_mwith => k_is)
    (case k_mwith => k_is)
    (case l_tinit => k_is)
    (case c_tinit => k_is)
    (case k_tinit => k_is)
    (case aT => k_is)
    (case aP => k_is)
    (case aN => k_is)
    (case aL => k_is)
    (case kT => first | k_is | rfl | kernel_rfl)
    (case kP => first | k_is | rfl | kernel_rfl)
    (case eT0 => k_is)
    (case eT1 => k_is)
    (case eT2 => k_is)
    (case eP0 => k_is)
    (case eP1 => k_is)
    (case eP2 => k_is)
    (case eP3 => k_is)
    (case nT0 => k_is)
    (case nT1 => k_is)
    (case nT2 => k_is)
    (case nT3 => k_is)
    (case nT4 => k_is)
    (case nQ0 => k_is)
    (case nQ1 => k_is)
    (case nQ2 => k_is)
    (case nQ3 => k_is)
    (case nQ4 => k_is)
    (case nQ5 => k_is)
    (case nQ6 => k_is)
    (case nQ7 => k_is)
    (case nQ8 => k_is)
    (case z_len => k_is)
    (case z_max => k_is)
    (case z_min => k_is)
    (case z_abs => k_is)
    (case z_int => k_is)
    (case z_range => k_is)
    (case z_set => k_is)
    (case z_list => k_is)
    (case z_tuple => k_is)
    (case z_all => k_is)
    (case z_repr => k_is)
    (case z_isinstance => k_is)
    (case z_dict => k_is)
    (case z_bool => k_is)
    (case z_str => k_is)
    (case z_ValueError => k_is)
    (case pk => kernel_rfl)
#print axioms PySem.Challenge.cw_partedvalues_k07_rules_refused_holds
