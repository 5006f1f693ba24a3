import PyProof.Rows.All
import Wide.All
import OpenK.AllK
import Wide.FinOn
import HandS.ExcInit
import HandS.IsInst
import HandS.Wide
import HandS.Defaults
import KE.KExcIs
import HandS.SetFor
import HandS.Strs
import HandS.More
import HandS.SetBool
import HandS.ForMost
import HandS.NamedTupGet
import HandS.Property
import HandS.SlotsOwn
import HandS.Evl
import HandS.Deep
import HandS.Walk
import HandS.MakeKwOnly
import HandS.WordsExc
import HandS.ExcIs
import HandS.Exc
import HandS.ExcOwn
import HandS.HeadHook3
import PySem.Challenge.RW_partedvalues_k58_without_and_exchanged
set_option Elab.async false
set_option linter.all false
set_option maxRecDepth 100000
set_option maxHeartbeats 2000000
/-! An own exception made as a value, with positional or keyword arguments. -/
namespace PySem
namespace KwX
open PySem.W PySem.Calls PyProof.Rows PySem.HandSPX
section
variable {M : Model} {A : Around} {E : Value → Shared → Prop} {hh : Heap} {gg : Array GenState} {dr : Drawn} {tt : Nat} {oss : OsState}
variable {nm q : Str} {C N : Addr} {bs bm mb : List Value} {hdct : Bool} {sn : List Str} {sub : List Value} {ab : Bool} {col : Option Bool} {dd : Option Addr} {k0 k1 k2 k3 k5 : Option Value} {B newId initId : String}
/-- the look at the arguments of the maker, whatever the keywords -/
theorem chk_new (F : ExcBaseFacts B newId initId mb) (hT : ∀ Y : String, bm.contains (.type Y) = mb.contains (.type Y)) {ps : List Value} {kws : List (Str × Value)} {Q : Unit → Shared → Prop}
    (hC : hh.get? C = some (excClassObj nm q C N bs bm hdct sn sub ab col dd k0 k1 k2 k3 k5 newId)) (hq : Q () ⟨hh, gg, dr, tt, oss⟩) :
    wpAny M A (checkBuiltinCall newId ⟨.ref C :: ps, kws⟩) Q E ⟨hh, gg, dr, tt, oss⟩ := by
  have w1 : (Value.ref C :: bm).contains (.type B) = true := by
    rw [List.contains_cons, hT, F.hasB, Bool.or_true]
  have w2 := F.noStar
  simp only [checkBuiltinCall, F.newKind, F.newSplit, F.newRow]
  repeat
    first
      | refine wpAny_loadPart_at hC ?_
      | (refine wpAny_isSubtype_exc hC ?_; rw [w1])
      | refine wpAny_staticBase_exc hC ?_
      | refine wpAny_madeBy_exc hC ?_
      | simp only [bne_self_eq_false, Bool.false_eq_true, if_false]
      | wp_step
  exact hq
end

section
variable {prog : Program} {w : World} {A : Around} {E : Value → Shared → Prop} {R : Result → Shared → Prop} {hh : Heap} {gg : Array GenState} {dr : Drawn} {tt : Nat} {oss : OsState}
variable {nm q : Str} {C N : Addr} {bs bm mb : List Value} {hdct : Bool} {sn : List Str} {sub : List Value} {ab : Bool} {col : Option Bool} {dd : Option Addr} {k0 k1 k2 k3 k5 : Option Value} {B newId initId : String}
/-- the maker's own run -/
theorem made_kw (F : ExcBaseFacts B newId initId mb) (hT : ∀ Y : String, bm.contains (.type Y) = mb.contains (.type Y)) {ps : List Value} {kws : List (Str × Value)}
    (hC : hh.get? C = some (excClassObj nm q C N bs bm hdct sn sub ab col dd k0 k1 k2 k3 k5 newId)) (hz : ps.length ≤ sizeLine)
    (hq : R (.ok (.ret (.ref (hh.objs.size + 1)))) ⟨(hh.push (W.kdv_tup ps)).push (excO C hh.objs.size), gg, dr, tt, oss⟩) :
    codeAny (model prog w) A (.builtin newId ⟨.ref C :: ps, kws⟩) R ⟨hh, gg, dr, tt, oss⟩ := by
  have w0 := F.ends
  have wB : (Value.ref C :: bm).contains (.type B) = true := by
    rw [List.contains_cons, hT, F.hasB, Bool.or_true]
  have wA : (Value.ref C :: bm).contains (.type "AttributeError") = false := by
    rw [List.contains_cons, hT, F.noAttr]
    rfl
  have wN : (Value.ref C :: bm).contains (.type "NameError") = false := by
    rw [List.contains_cons, hT, F.noName]
    rfl
  refine codeAny_builtinAt F.entry ?_
  unfold Builtin.«BaseException.__new__»
  refine wpAt_bind ?_
  show wpAt _ _ _ (stack >>= _) _ _ _
  refine wpAt_bind (wpAt_stack fun p below => wpAt_of_wpAny ?_)
  wp_walk
  refine wpAt_of_wpAny ?_
  rw [F.owner]
  repeat
    first
      | with_reducible refine wpAny_madeHere_exc F.canon hC ?_
      | with_reducible refine wpAny_loadPart_at hC ?_
      | (with_reducible refine wpAny_isSubtype_exc hC ?_; first | rw [wB] | rw [wA] | rw [wN])
      | wp_step
  show R _ _
  rw [Heap.size_push]
  exact hq
/-- type.__call__ of such a class: the maker, then its own __init__ -/
theorem called_kw (F : ExcBaseFacts B newId initId mb) (hT : ∀ Y : String, bm.contains (.type Y) = mb.contains (.type Y)) {ps : List Value} {kws : List (Str × Value)} {fI : Addr} {Q : Fin → Shared → Prop}
    (hC : hh.get? C = some (excClassObj nm q C N bs bm hdct sn sub ab col dd k0 k1 k2 k3 k5 newId))
    (hi : W.Looks (model prog w) hh (typeLookup (.ref C) "__init__") (some (.ref fI))) (hb : ∀ me, W.Looks (model prog w) hh (bindSpecial (.ref fI) me) (.ref fI, [me])) (hz : ps.length ≤ sizeLine)
    (hq : codeAny (model prog w) A (.call (.ref fI) ⟨.ref (hh.objs.size + 1) :: ps, kws⟩)
      (fun r z => match r with | .ok (.ret v) => v = .none ∧ Q (.done (.ret (.ref (hh.objs.size + 1)))) z | .ok _ => False | .error e => E e z)
      ⟨(hh.push (W.kdv_tup ps)).push (excO C hh.objs.size), gg, dr, tt, oss⟩) :
    wpAny (model prog w) A (Builtin.«type.__call__» ⟨.ref C :: ps, kws⟩) Q E ⟨hh, gg, dr, tt, oss⟩ := by
  repeat
    first
      | with_reducible refine wpAny_loadPart_at hC ?_
      | with_reducible refine wpAny_madeBy_exc hC ?_
      | wp_step
  refine codeAny_call_builtin_code (Code.quiet_builtin _ F.quiet) (chk_new F hT hC ?_)
  refine made_kw F hT hC hz ?_
  show wpAny _ _ _ _ _ _
  have kp : ∀ b o, hh.get? b = some o → ((hh.push (W.kdv_tup ps)).push (excO C hh.objs.size)).get? b = some o := fun b o e =>
    Heap.get?_push_of_some _ (Heap.get?_push_of_some _ e)
  have hC1 := kp _ _ hC
  have hx : ((hh.push (W.kdv_tup ps)).push (excO C hh.objs.size)).get? (hh.objs.size + 1) = some (excO C hh.objs.size) := by heap_get
  have wC : (Value.ref C :: bm).contains (.ref C) = true := by simp
  have i1 := hi.keeps kp
  have b1 := (hb (.ref (hh.objs.size + 1))).keeps kp
  unfold isInstance
  repeat
    first
      | with_reducible refine wpAny_loadPart_at hx ?_
      | (with_reducible refine wpAny_isSubtype_exc hC1 ?_; rw [wC])
      | wp_step
  show wpAny _ _ (typeLookup (.ref C) _) _ _ _
  refine i1.at ?_
  refine wpAny_holding (wpAny_bind (b1.at ?_))
  refine wpAny_bind (wpAny_call (codeAny_mono hq fun r z hz => ?_))
  rcases r with e | (v | _ | _ | _) <;> first | exact hz | exact hz.elim | skip
  obtain ⟨rfl, hz⟩ := hz
  first
    | exact wpAny_pure (wpAny_pure hz)
    | (wp_walk; exact hz)
theorem call_kw (F : ExcBaseFacts B newId initId mb) (hT : ∀ Y : String, bm.contains (.type Y) = mb.contains (.type Y)) {ps : List Value} {kws : List (Str × Value)} {fI : Addr}
    (hC : hh.get? C = some (excClassObj nm q C N bs bm hdct sn sub ab col dd k0 k1 k2 k3 k5 newId))
    (hi : W.Looks (model prog w) hh (typeLookup (.ref C) "__init__") (some (.ref fI))) (hb : ∀ me, W.Looks (model prog w) hh (bindSpecial (.ref fI) me) (.ref fI, [me])) (hz : ps.length ≤ sizeLine)
    (hq : codeAny (model prog w) (A.under (.builtin "type.__call__" ⟨.ref C :: ps, kws⟩)) (.call (.ref fI) ⟨.ref (hh.objs.size + 1) :: ps, kws⟩) (W.InitBack (hh.objs.size + 1) R)
      ⟨(hh.push (W.kdv_tup ps)).push (excO C hh.objs.size), gg, dr, tt, oss⟩) :
    codeAny (model prog w) A (.call (.ref C) ⟨ps, kws⟩) R ⟨hh, gg, dr, tt, oss⟩ := by
  have f1 := tc_lookup
  have f2 := tc_bind (.ref C)
  have hTy : (⟨hh, gg, dr, tt, oss⟩ : Shared).TypeIs (.ref C) "type" := ⟨_, hC, rfl⟩
  refine codeAny_of_tree ?_
  show wpAny _ _ (callAny (.ref C) _) _ _ _
  repeat
    any_goals
      first
        | assumption
        | with_reducible refine wpAny_loadPart_at hC ?_
        | wp_step
  refine ⟨rfl, ?_⟩
  refine codeAny_call_builtin_at (Code.quiet_builtin _ (by decide +kernel)) entry_typeCall (wpAny_check_type_call_sub hC (called_kw F hT hC hi hb hz ?_))
  refine codeAny_mono hq fun r z hz => ?_
  rcases r with e | (v | _ | _ | _) <;> exact hz
end
end KwX
end PySem

namespace L2
open PySem PySem.Spec PyProof.Rows
/-- at a: an exception of the class at C whose dict at d holds fs -/
def ExcAt (H : Hp) (a C : Addr) (fs : List (Str × V)) : Prop := ∃ d : Addr, H a = some (exo a C (some d)) ∧ H d = some (exd d fs)
/-- C(.., k = v, ..), C an own error class with an own (or inherited) __init__: a value -/
def tExcN (C : Addr) (n m : Nat) (sp : Sp) (gV : List V → List V → List V) (t tk : TA) : TE := fun σ H Q => t σ H fun vs H1 => tk σ H1 fun zs H2 => vs.length = n ∧ zs.length = m ∧ vs.length ≤ 1000 ∧
  ∀ x, H2 x = none → sp (gV (.ref x :: vs) zs) (upd H2 x (exo x C none)) (fun v H3 => v = .non ∧ Q (.ref x) H3) (fun _ _ _ => False)
section
variable {X : Cx} {CX : CXT} {k n : Nat} {fI C : Addr} {fd : FuncData} {ps ks : List Str} {sp : Sp} {x : Str} {p pos : Pos} {e : Expr} {es : List Expr} {kws : List Keyword} {t tk : TA}
variable {g : List Value → List Value → List Value} {gV : List V → List V → List V}
theorem run_excN {pins : List (Addr × Obj)} {σ : St} {H : Hp} {s : Shared} {Q : VK} {us ws : List Value} {vs zs : List V} (T : OexC X.K C) (iC : PySem.W.findIn X.K (.ref C) "__init__" = some (some (.ref fI)))
    (tI : PySem.W.typeIn X.K (.ref fI) = some (.type "function")) (F1 : FnOk X.prog X.w X.K X.mg X.base CX k fI fd ps sp) (hr : Room (k + 1) X.A) (hb : KBn X.K fd ps (n + 1) ks g gV)
    (hx : Passes CX X (fun _ _ _ => False)) (I : Inv X pins σ H s) (r : Vals vs us) (rz : Vals zs ws) (l1 : vs.length = n) (l2 : zs.length = ks.length) (l3 : vs.length ≤ 1000)
    (h : ∀ x, H x = none → sp (gV (.ref x :: vs) zs) (upd H x (exo x C none)) (fun v H3 => v = .non ∧ Q (.ref x) H3) (fun _ _ _ => False)) :
    wpAny (model X.prog X.w) X.A (call (.ref C) us (ks.zip ws)) (EP X pins σ Q) X.xe s := by
  obtain ⟨nm, q, N, bs, bm, sn, sub, ab, col, dd, k0, k1, k2, k3, k5, hC, hbm⟩ := T.cls
  obtain ⟨hp, gg, dr, tk', os⟩ := s
  have hsz : hp.objs.size ≤ hp.objs.size + 1 := Nat.le_succ _
  have hq := h (hp.objs.size + 1) (I.hok.fresh hsz)
  have kp : ∀ b o, hp.get? b = some o → ((hp.push (PySem.W.kdv_tup us)).push (PySem.HandSPX.excO C hp.objs.size)).get? b = some o := fun b o e =>
    Heap.get?_push_of_some _ (Heap.get?_push_of_some _ e)
  have hget : ((hp.push (PySem.W.kdv_tup us)).push (PySem.HandSPX.excO C hp.objs.size)).get? (hp.objs.size + 1) = some (PySem.HandSPX.excO C hp.objs.size) := by heap_get
  have I2 : Inv X pins σ (upd H (hp.objs.size + 1) (exo (hp.objs.size + 1) C none)) ⟨(hp.push (PySem.W.kdv_tup us)).push (PySem.HandSPX.excO C hp.objs.size), gg, dr, tk', os⟩ :=
    I.laid (t' := tk') kp hsz (exo_ok hget)
  have r1 : Vals (V.ref (hp.objs.size + 1) :: vs) (Value.ref (hp.objs.size + 1) :: us) := .cons rfl r
  have r2 := hb.rel r1 rz
  have e1 : (Value.ref (hp.objs.size + 1) :: us).length = n + 1 := by
    rw [List.length_cons, ← Paired.length r, l1]
  have e2 : ws.length = ks.length := (Paired.length rz).symm.trans l2
  have e3 : us.length ≤ sizeLine := by
    rw [← Paired.length r, sizeLine_eq]
    omega
  refine wpAny_call (PySem.KwX.call_kw F.excBase_ValueError (fun Y => PySem.HandSPX.refsVE_contains Y bm hbm) (I.kIn _ _ hC) (PySem.W.looks_findIn I.kIn iC) (fun me => PySem.W.bind_fn I.kIn me tI) e3
    (codeAny_mono (F1.run _ X.stack _ _ ⟨Value.ref (hp.objs.size + 1) :: us, ks.zip ws⟩ (g (Value.ref (hp.objs.size + 1) :: us) ws) _ _ (fun _ _ _ => False) (hr.make C us (ks.zip ws))
      (I2.env0.make C us (ks.zip ws)) (hb.to _ (Value.ref (hp.objs.size + 1) :: us) ws I2.kIn e1 e2) r2 hq) fun r z hz => ?_))
  cases r with
  | error er => exact hx pins σ _ _ er z I2 hz
  | ok fl =>
    cases fl with
    | ret u =>
      obtain ⟨v, H3, I3, rv, ev, q3⟩ := I2.after hz
      subst ev
      exact ⟨rv, ⟨V.ref (hp.objs.size + 1), H3, I3, rfl, q3⟩⟩
    | next => exact False.elim hz
    | brk => exact False.elim hz
    | cont => exact False.elim hz
/-- C(k = v, ..) -/
theorem pe_excK (T : OexC X.K C) (iC : PySem.W.findIn X.K (.ref C) "__init__" = some (some (.ref fI))) (tI : PySem.W.typeIn X.K (.ref fI) = some (.type "function"))
    (F1 : FnOk X.prog X.w X.K X.mg X.base CX k fI fd ps sp) (hr : Room (k + 1) X.A) (hg : Gl X x) (hm : X.mg x = some (.ref C)) (hb : KBn X.K fd ps 1 ks g gV) (hx : Passes CX X (fun _ _ _ => False)) (hkw : PK X kws tk)
    (hall : (backToKw pos (keywordEach kws X.env)).all (·.1.isSome) = true := by rfl) (hks : (backToKw pos (keywordEach kws X.env)).filterMap (·.1) = ks := by rfl)
    (hdb : (x == ("__debug__" : Str)) = false := by decide)
    (hpl : ((backTo pos (starEach [] X.env)).any (·.1) || (backToKw pos (keywordEach kws X.env)).any (·.1.isNone)) = false := by rfl) :
    PE X (.Call (.Name x p) [] kws pos) (tExcN C 0 ks.length sp gV tNil tk) := by
  refine ⟨fun pins s σ H Q I h => ?_⟩
  refine wpAny_Call_Name_kw (ld_glob I hg hm ?_ hdb)
  refine PySem.W.callWith_KW0 (h₀ := X.base) I.ok.mod.kin T.kC hall ?_ hpl
  refine thn (hkw.run pos pins s σ H _ I h) fun ws s2 ⟨zs, H2, I2, rz, l1, l2, l3, q2⟩ => ⟨I2.kIn, ?_⟩
  rw [hks]
  exact run_excN (us := []) (vs := []) T iC tI F1 hr hb hx I2 .nil rz rfl l2 l3 q2
/-- C(e, ..) -/
theorem pe_excP {ds : List Value} {dvs : List V} (T : OexC X.K C) (iC : PySem.W.findIn X.K (.ref C) "__init__" = some (some (.ref fI))) (tI : PySem.W.typeIn X.K (.ref fI) = some (.type "function"))
    (F1 : FnOk X.prog X.w X.K X.mg X.base CX k fI fd ps sp) (hr : Room (k + 1) X.A) (hg : Gl X x) (hm : X.mg x = some (.ref C)) (hb : KBn X.K fd ps (n + 1) [] g gV) (hx : Passes CX X (fun _ _ _ => False)) (ha : PA X (e :: es) t)
    (hdb : (x == ("__debug__" : Str)) = false := by decide) (he : starEach (e :: es) X.env = (false, eval e X.env) :: starEach es X.env := by rfl) (hpl : (backTo pos (starEach es X.env)).any (·.1) = false := by rfl) :
    PE X (.Call (.Name x p) (e :: es) [] pos) (tExcN C n 0 sp gV t tNil) := by
  refine ⟨fun pins s σ H Q I h => ?_⟩
  refine wpAny_Call_Name_kw (ld_glob I hg hm ?_ hdb)
  refine PySem.W.callWith_K (h₀ := X.base) I.ok.mod.kin T.kC (thn (ha.run pos pins s σ H _ I h) fun us s1 ⟨vs, H1, I1, r, l1, l2, l3, q⟩ => ⟨I1.kIn, ?_⟩) he hpl
  exact run_excN (ws := []) (zs := []) (ks := []) T iC tI F1 hr hb hx I1 r .nil l1 rfl l3 q
end

/-! ### a field of such an exception, its class -/
/-- what an own error class says, so that isinstance and the fields of its instances are told -/
structure ExcW (K : PySem.W.Frag) (C : Addr) : Prop where
  is1 : (PySem.W.clsIn K C).isSome = true
  ga : PySem.W.findIn K (.ref C) "__getattribute__" = some (some (.builtin "BaseException.__getattribute__"))
  gg : PySem.W.findIn K (.ref C) "__getattr__" = some none
  ex : PySem.W.subIn K (.ref C) (.type "BaseException") = some true
  hd : PySem.W.hasDictIn K C = true
  ca : PySem.W.findIn K (.ref C) "__class__" = some (some (.builtin "object.__class__"))
  sg : PySem.W.specialIn K (.builtin "object.__class__") "__get__" = some (some (.builtin "getset_descriptor.__get__"))
  tk : PySem.W.takesIn K (.builtin "object.__class__") = some true
  ob : PySem.W.mroIn K C (.type "object") = some true
def tExF (K : PySem.W.Frag) (f : Str) (to : TE) : TE := fun σ H Q => to σ H fun x H1 => ∃ (a C : Addr) (fs : List (Str × V)) (v : V), x = .ref a ∧ ExcAt H1 a C fs ∧ ExcW K C ∧ PySem.W.findIn K (.ref C) f = some none ∧ fs.lookup f = some v ∧ Q v H1
section
variable {X : Cx} {o : Expr} {to : TE} {f : Str} {pos : Pos}
theorem Inv.excAt {pins : List (Addr × Obj)} {σ : St} {H : Hp} {s : Shared} {a C : Addr} {fs : List (Str × V)} (I : Inv X pins σ H s) (h : ExcAt H a C fs) :
    ∃ (ox od : Obj), PySem.W.InstAt s.heap a ox C (some od) ∧ ∀ (f : Str) (v : V), fs.lookup f = some v → ∃ u, PySem.W.lookIn f od = some (some u) ∧ RelV v u := by
  obtain ⟨d, ha, hd⟩ := h
  obtain ⟨t1, e1⟩ := exo_at I.hok ha
  obtain ⟨mA, hns, rel⟩ := exd_at I.hok hd
  obtain ⟨od, ho, hl⟩ := lookIn_ns hns
  refine ⟨_, od, ⟨e1, rfl, rfl, ho⟩, fun f v e => ?_⟩
  obtain ⟨u, hu, ru⟩ := RelO.some_of (v := v) (o := mA f) (by rw [← e]; exact rel f)
  exact ⟨u, by rw [hl, hu], ru⟩
/-- error.f -/
theorem pe_exF (ho : PE X o to) (hb : attributeBase o f X.env (eval o X.env) = eval o X.env := by rfl) : PE X (.Attribute o f pos) (tExF X.K f to) := by
  refine ⟨fun pins s σ H Q I h => ?_⟩
  refine attr_of hb (thn (ho.run pins s σ H _ I h) fun u s1 ⟨x, H1, I1, rx, a, C, fs, v, ex, ha, T, hno, hl, q⟩ => ?_)
  subst ex
  obtain rfl : u = Value.ref a := rx
  obtain ⟨ox, od, J, hf⟩ := I1.excAt ha
  obtain ⟨w', hu, ru⟩ := hf f v hl
  exact HandSPX.exc_get I1.kIn J T.ga T.gg T.ex (PySem.W.findObj_own T.hd hno rfl hu) (handed_of ru) ⟨v, H1, I1.tok _, ru, q⟩
/-- isinstance(error, c) -/
def rIsX (K : PySem.W.Frag) : List V → Hp → VK → Prop := fun xs H Q => ∃ (a C : Addr) (fs : List (Str × V)) (c : V) (u : Value) (b : Bool), xs = [.ref a, c] ∧ ClsV c u ∧ ExcAt H a C fs ∧ ExcW K C ∧
  PySem.W.kitOne K (.ref C) u = some b ∧ Q (.bl b) H
theorem call_isX : CallR X (.builtin "isinstance") (rIsX X.K) := by
  intro pins s σ H xs us Q I r h
  obtain ⟨a, C, fs, c, u, b, rfl, k, ha, T, e, q⟩ := h
  obtain ⟨u1, u2, rfl, r1, r2⟩ := vals2 r
  have e2 := k.eq r2
  subst e2
  obtain rfl : u1 = Value.ref a := r1
  obtain ⟨ox, od, J, _⟩ := I.excAt ha
  exact PySem.W.kia_one (PySem.W.kitx_exc T.is1 T.ga T.gg T.ex T.ca T.sg T.tk T.ob) I.kIn J e (fun z => nomatch z) fun tk' => ⟨.bl b, H, I.tok tk', rfl, q⟩
end

/-! ### powers of great numbers, repr of None and of truths -/
def CPowW (i j : Int) : Prop := 0 ≤ j ∧ j ≤ 3 ∧ i.natAbs < 2 ^ 10000
theorem op_powW {X : Cx} : OpR X (binaryOp .Pow) (rI CPowW fun i j => .int (i ^ j.toNat)) := opI fun i j _ _ _ _ _ hc q => by
  obtain ⟨h0, h1, h2⟩ := hc
  refine pow_int h0 ?_ q
  have b1 : Builtin.Int.intBits i ≤ i.natAbs.log2 + 1 := by
    unfold Builtin.Int.intBits
    split <;> omega
  have b2 : i.natAbs.log2 < 10000 := PySem.Flt.log2_lt_of (by decide) h2
  have b3 : (Builtin.Int.intBits i : Int) ≤ 10000 := by omega
  have b4 : (Builtin.Int.intBits i : Int) * j ≤ 10000 * 3 := Int.mul_le_mul b3 h1 h0 (by decide)
  exact Int.le_trans b4 (by decide)
def rRepr : List V → Hp → VK → Prop := fun xs H Q => (xs = [.non] ∧ Q (.str "None") H) ∨ ∃ b, xs = [.bl b] ∧ Q (.str (if b then "True" else "False")) H
theorem call_reprNB {X : Cx} : CallR X (.builtin "repr") rRepr := by
  intro pins s σ H xs us Q I r h
  rcases h with ⟨rfl, q⟩ | ⟨b, rfl, q⟩
  · obtain ⟨u, rfl, r1⟩ := vals1 r
    obtain rfl : u = Value.none := r1
    exact PySem.P.repr_of_none ⟨.str _, H, I.tok _, ⟨_, rfl⟩, q⟩
  · obtain ⟨u, rfl, r1⟩ := vals1 r
    obtain rfl : u = Value.bool b := r1
    exact PySem.P.repr_of_bool ⟨.str _, H, I.tok _, ⟨_, rfl⟩, q⟩
end L2
set_option Elab.async false
set_option linter.all false
set_option maxRecDepth 100000
set_option maxHeartbeats 2000000
/-! Sets of texts: made of a list, measured, sorted. -/
namespace TxSet
open PySem PySem.Spec PyProof.Rows L2
/-- a member of the set's table: a text under its hash -/
def Mem1 (w : World) (e : Int × Value) : Prop := ∃ k tk, e.2 = Value.str k tk ∧ e.1 = hashStr w k
def txt (e : Int × Value) : Str := match e.2 with
  | .str k _ => k
  | _ => Str.empty
/-- the set at a holds just the texts L; its table can be walked -/
def SetT (w : World) (h : Heap) (a : Addr) (L : List Str) : Prop :=
  ∃ o es ep t, h.get? a = some o ∧ o.ExactSet ∧ o.data = .set es ep t ∧ (∀ e ∈ es.toList, Mem1 w e) ∧ (es.toList.map txt).Perm L ∧ L.Nodup ∧
    es.size < scanBound ∧ t.fits es.size = true ∧ Ris t.place.toList ∧ (w.params.followText "set-order" = true ∨ t.led = true)
section
variable {P : Program} {w : World} {h h' : Heap} {a : Addr} {L : List Str}
theorem SetT.at (R : SetT w h a L) (k : ∀ o, h.get? a = some o → h'.get? a = some o) : SetT w h' a L := by
  obtain ⟨o, es, ep, t, ho, r⟩ := R
  exact ⟨o, es, ep, t, k o ho, r⟩
theorem txt_is {e : Int × Value} (g : Mem1 w e) (k : Str) : (strKind P w).is k e.2 = true ↔ txt e = k := by
  obtain ⟨k', tk, h1, _⟩ := g
  unfold txt
  rw [h1]
  show Value.isStrOf k (.str k' tk) = true ↔ k' = k
  simp [Value.isStrOf]
theorem mem_elems {l : List (Int × Value)} (g : ∀ e ∈ l, Mem1 w e) : ElemsOf (strKind P w) l := fun e he => by
  obtain ⟨k, tk, h1, h2⟩ := g e he
  refine ⟨⟨k, ?_, h2⟩, ?_⟩
  · rw [h1]
    exact strKind_is P w k tk
  · rw [h1]
    rfl
theorem mem_txt {l : List (Int × Value)} (g : ∀ e ∈ l, Mem1 w e) (k : Str) : k ∈ l.map txt ↔ ∃ e ∈ l, (strKind P w).is k e.2 = true := by
  constructor
  · intro z
    obtain ⟨e, he, q⟩ := List.mem_map.mp z
    exact ⟨e, he, (txt_is (g e he) k).2 q⟩
  · rintro ⟨e, he, q⟩
    exact List.mem_map.mpr ⟨e, he, (txt_is (g e he) k).1 q⟩
end
/-- one text more -/
def ins (L : List Str) (k : Str) : List Str := if k ∈ L then L else k :: L
def dd (xs : List Str) : List Str := xs.foldl ins []
section
variable {P : Program} {w : World} {A : Around} {E : Value → Shared → Prop} {s : Shared} {a : Addr} {L : List Str}
theorem add_tail {g : Bool → Sem Unit} (hg : ∀ (b : Bool) (z : Shared) (Q' : Unit → Shared → Prop), Q' () z → wpAny (model P w) A (g b) Q' E z)
    {o : Obj} {es : Array (Int × Value)} {ep : Nat} {t : SetTable} (ho : s.heap.get? a = some o) (hex : o.ExactSet) (hd : o.data = .set es ep t)
    {fs : Array (Int × Value)} {t2 : SetTable} {M : List Str} (g1 : ∀ e ∈ fs.toList, Mem1 w e) (p1 : (fs.toList.map txt).Perm M) (nd : M.Nodup)
    (hb1 : fs.size < scanBound) (hf2 : t2.fits fs.size = true) (hr : Ris t2.place.toList) (hl : w.params.followText "set-order" = true ∨ t2.led = true) {dummy : Bool} {R : Option Bool → Shared → Prop}
    (hR : ∀ h', Heap.SameBut a s.heap h' → SetT w h' a M → R (some true) { s with heap := h' }) :
    wpAny (model P w) A (do
        storeSet a fs t2
        if (!dummy && t2.tooFull) = true then do
            g (relayAll t2 fs (SetTable.grown fs.size)).2.2
            storeSet a (relayAll t2 fs (SetTable.grown fs.size)).1 (relayAll t2 fs (SetTable.grown fs.size)).2.1
            pure (some true)
          else pure (some true)) R E s := by
  refine wpAny_bind (wpAny_storeSet_of ho hd ?_ (fits_of_scanBound hb1))
  have ho1 := store_at (es' := fs) (t' := t2) ho hd
  have sb1 := Heap.SameBut.update s.heap a (Obj.putSet fs t2)
  split
  · have pm := relayAll_perm t2 fs (SetTable.grown fs.size)
    have w1 := relayAll_fits t2 fs (SetTable.grown fs.size)
    have w2 := relayAll_ris t2 fs (SetTable.grown fs.size)
    have w3 := relayAll_led t2 fs (SetTable.grown fs.size)
    generalize relayAll t2 fs (SetTable.grown fs.size) = Z at pm w1 w2 w3 ⊢
    obtain ⟨gs, t3, gave⟩ := Z
    dsimp only at pm w1 w2 w3 ⊢
    have hsz : gs.size = fs.size := by
      rw [← Array.length_toList, pm.length_eq, Array.length_toList]
    have hb2 : gs.size < scanBound := hsz ▸ hb1
    refine wpAny_bind (hg _ _ _ ?_)
    refine wpAny_bind (wpAny_storeSet_of ho1 rfl ?_ (fits_of_scanBound hb2))
    have ho2 := store_at (es' := gs) (t' := t3) ho1 rfl
    refine wpAny_pure (hR _ (sb1.trans (Heap.SameBut.update _ a _)) ?_)
    refine ⟨_, gs, _, t3, ho2, hex, rfl, fun e he => g1 e (pm.mem_iff.mp he), (pm.map txt).trans p1, nd, hb2, w1, w2, ?_⟩
    exact hl.imp id fun z => w3.trans z
  · exact wpAny_pure (hR _ sb1 ⟨_, fs, _, t2, ho1, hex, rfl, g1, p1, nd, hb1, hf2, hr, hl⟩)
theorem add_hashed {k : Str} {tk : Tok} {Q : Bool → Shared → Prop} (R : SetT w s.heap a L) (room : L.length + 1 < scanBound)
    (hQ : ∀ b h', Heap.SameBut a s.heap h' → SetT w h' a (ins L k) → Q b { s with heap := h' }) : wpAny (model P w) A (setAddHashed a (.str k tk) ((strKind P w).hash k)) Q E s := by
  obtain ⟨o, es, ep, t, ho, hex, hd, g, pm0, nd, hb, hf, hr, hl⟩ := R
  have hkey : (strKind P w).is k (.str k tk) = true := strKind_is P w k tk
  have hsc : (Value.str k tk).scannable = true := rfl
  have hel : ElemsOf (strKind P w) es.toList := mem_elems g
  unfold setAddHashed setAddHashedIn
  refine wpAny_holding (wpAny_bind (wpAny_setState_of ho hd hf ?_))
  dsimp only
  rw [byScan_of hsc hb hel]
  simp only [↓reduceIte]
  unfold setAddByScan
  refine wpAny_bind ?_
  refine wpAny_bind (wpAny_rule ?_)
  refine wpAny_bind (wpAny_setScan_of hkey ho hd hf hel ?_)
  cases hfi : List.findIdx? (fun e => (strKind P w).is k e.2) es.toList with
  | some j =>
    dsimp only
    obtain ⟨hj, pj, _⟩ := List.findIdx?_eq_some_iff_getElem.mp hfi
    have hk : k ∈ L := pm0.mem_iff.mp ((mem_txt (P := P) g k).2 ⟨es.toList[j], List.getElem_mem hj, pj⟩)
    refine wpAny_pure (wpAny_pure ?_)
    refine hQ _ s.heap (Heap.SameBut.refl a s.heap) ?_
    rw [show ins L k = L from if_pos hk]
    exact ⟨o, es, ep, t, ho, hex, hd, g, pm0, nd, hb, hf, hr, hl⟩
  | none =>
    dsimp only
    have hk : k ∉ L := fun z => by
      obtain ⟨e, he, q⟩ := (mem_txt (P := P) g k).1 (pm0.mem_iff.mpr z)
      have c := List.findIdx?_eq_none_iff.mp hfi e he
      rw [q] at c
      cases c
    have hgw : ∀ (b : Bool) {z : Shared} {Q' : Unit → Shared → Prop}, Q' () z → wpAny (model P w) A (match b with | true => rule "set.scan.the-table-gave-way" | false => pure ()) Q' E z := fun b z Q' q => by
      cases b
      · exact wpAny_pure q
      · exact wpAny_rule q
    have pm := layNew_perm t es ((strKind P w).hash k) (.str k tk)
    have w1 := layNew_fits t es ((strKind P w).hash k) (.str k tk)
    have w2 := layNew_ris t es ((strKind P w).hash k) (.str k tk) hr
    have w3 := layNew_led t es ((strKind P w).hash k) (.str k tk)
    generalize layNew t es ((strKind P w).hash k) (.str k tk) = Z at pm w1 w2 w3 ⊢
    obtain ⟨fs, t1, dummy, gave⟩ := Z
    dsimp only at pm w1 w2 w3 ⊢
    rw [Array.toList_push] at pm
    have pc : fs.toList.Perm (((strKind P w).hash k, Value.str k tk) :: es.toList) := pm.trans (List.perm_append_singleton _ _)
    have pk : (fs.toList.map txt).Perm (k :: L) := (pc.map txt).trans (List.Perm.cons k pm0)
    have g1 : ∀ e ∈ fs.toList, Mem1 w e := fun e he => by
      rcases List.mem_cons.mp (pc.mem_iff.mp he) with z | z
      · rw [z]
        exact ⟨k, tk, rfl, rfl⟩
      · exact g e z
    have nd1 : (k :: L).Nodup := List.nodup_cons.mpr ⟨hk, nd⟩
    have hsz : fs.size = L.length + 1 := by
      have z := pk.length_eq
      rw [List.length_map, Array.length_toList, List.length_cons] at z
      exact z
    have hb1 : fs.size < scanBound := by
      rw [hsz]
      exact room
    have hled : w.params.followText "set-order" = true ∨ t1.led = true := hl.imp id fun z => w3.trans z
    have fin : ∀ h', Heap.SameBut a s.heap h' → SetT w h' a (k :: L) → Q true { s with heap := h' } := fun h' sb r => hQ true h' sb (by
      rw [show ins L k = k :: L from if_neg hk]
      exact r)
    refine wpAny_bind (hgw _ ?_)
    split
    · refine wpAny_bind ?_
      rw [hashByValue_scannable 8 hsc]
      refine wpAny_pure ?_
      refine add_tail ?_ ho hex hd g1 pk nd1 hb1 ?_ ?_ ?_ ?_
      · intro b z Q' q
        cases b <;> first | exact wpAny_pure q | exact wpAny_rule q
      · first
          | (split <;> first | exact w1 | exact SetTable.fits_plain_off w1)
          | exact w1
      · first
          | (split <;> exact w2)
          | exact w2
      · first
          | (split <;> exact hled)
          | exact hled
      · intro h' sb r
        dsimp only
        exact wpAny_pure (fin h' sb r)
    · refine wpAny_bind (wpAny_pure ?_)
      simp only [↓reduceIte]
      refine add_tail ?_ ho hex hd g1 pk nd1 hb1 w1 w2 hled ?_
      · intro b z Q' q
        cases b <;> first | exact wpAny_pure q | exact wpAny_rule q
      · intro h' sb r
        dsimp only
        exact wpAny_pure (fin h' sb r)
theorem dd_more (xs : List Str) (x : Str) : dd (xs ++ [x]) = ins (dd xs) x := by
  unfold dd
  rw [List.foldl_append]
  rfl
theorem ins_len (L : List Str) (k : Str) : (ins L k).length ≤ L.length + 1 := by
  unfold ins
  split
  · exact Nat.le_succ _
  · exact Nat.le_refl _
theorem dd_len : ∀ xs : List Str, (dd xs).length ≤ xs.length := by
  have go : ∀ (xs L : List Str), (xs.foldl ins L).length ≤ L.length + xs.length := by
    intro xs
    induction xs with
    | nil => intro L; exact Nat.le_refl _
    | cons x xs ih =>
      intro L
      have h1 := ih (ins L x)
      have h2 := ins_len L x
      rw [List.foldl_cons, List.length_cons]
      omega
  intro xs
  have h := go xs []
  rw [List.length_nil, Nat.zero_add] at h
  exact h
/-- texts, one by one, into the set -/
theorem into_set {I : Addr} {fp wr : List Addr} {G : Array GenState → Array GenState → Prop} {n : Nat} {Pv : Nat → Value → Prop} {St : Nat → Shared → Prop} {R : Result → Shared → Prop}
    (W : WalksS P w A.in1 I fp wr G n Pv St) (S : Addr) (hSf : S ∉ fp) (xs : List Str) (hn : n = xs.length) (hb : xs.length + 1 < scanBound) (hval : ∀ i v, Pv i v → ∃ k t, xs[i]? = some k ∧ v = .str k t) :
    ∀ (k i : Nat) (s : Shared), n - i = k → i ≤ n → St i s → SetT w s.heap S (dd (xs.take i)) → (∀ z, Moved (S :: wr) G s z → SetT w z.heap S (dd xs) → R (.ok (.ret .none)) z) →
      codeAny (model P w) A (.builtin "set.update.loop" ⟨[.ref S, .ref I], []⟩) R s := by
  have hSw : S ∉ wr := fun h => hSf (W.sub _ h)
  have hsub : ∀ b ∈ wr, b ∈ S :: wr := fun b hb => List.mem_cons_of_mem _ hb
  intro k
  induction k with
  | zero =>
    intro i s hk' hi hst hS hR
    obtain rfl : i = n := by omega
    refine codeAny_builtin F.entry_set_update_loop ?_
    rw [Around.under_plainId F.plain_set_update_loop _]
    show wpAny _ A.in1 (pyNext (.ref I) >>= _) _ _ s
    refine wpAny_bind (W.done s _ _ hst fun z hm => ?_)
    show wpAny _ A.in1 (ret Value.none) _ _ z
    rw [List.take_of_length_le (by omega)] at hS
    exact wpAny_pure (hR z (hm.mono hsub) (hS.at fun o e => hm.heap S o hSw e))
  | succ k ih =>
    intro i s hk' hi hst hS hR
    have hlt : i < n := by omega
    refine codeAny_builtin F.entry_set_update_loop ?_
    rw [Around.under_plainId F.plain_set_update_loop _]
    show wpAny _ A.in1 (pyNext (.ref I) >>= _) _ _ s
    refine wpAny_bind (W.item i s _ _ hlt hst fun v z hP hst' hm => ?_)
    obtain ⟨y, t, hy, rfl⟩ := hval i v hP
    have hS' : SetT w z.heap S (dd (xs.take i)) := hS.at fun o e => hm.heap S o hSw e
    have hl : (dd (xs.take i)).length + 1 < scanBound := by
      have h1 := dd_len (xs.take i)
      rw [List.length_take] at h1
      omega
    show wpAny _ A.in1 (holding [Value.str y t] (setAdd S (.str y t)) >>= _) _ _ z
    refine wpAny_bind (wpAny_holding ?_)
    unfold setAdd
    refine wpAny_holding ?_
    refine wpAny_bind ((strKind P w).pyHash (k := y) (strKind_is P w y t) ?_)
    refine add_hashed (s := { z with toks := z.toks + 1 }) hS' hl fun b h' hsb hS2 => ?_
    have hS3 : SetT w h' S (dd (xs.take (i + 1))) := by
      rw [List.take_add_one, hy]
      show SetT w h' S (dd (xs.take i ++ [y]))
      rw [dd_more]
      exact hS2
    refine wpAny_pure ⟨plainId_quiet F.plain_set_update_loop _, ih (i + 1) _ (by omega) hlt (W.frame _ z _ _ hst' (Nat.le_succ _) fun b hb o e => ?_) hS3 fun y' hm'' hS'' => ?_⟩
    · rw [hsb.2 b (fun h : b = S => hSf (by rw [← h]; exact hb))]
      exact e
    · refine hR y' (Moved.trans W.gtrans ((hm.mono hsub).then_heap (Nat.le_succ _) fun b o hb e => ?_) hm'') hS''
      rw [hsb.2 b (fun h : b = S => hb (by rw [h]; exact List.mem_cons_self))]
      exact e
theorem new_at {h : Heap} (ho : h.get? a = some { cls := .type "set", dict := none, data := .set #[] 0 (.fresh 0 0 (!w.params.followText "set-order")) }) : SetT w h a (dd ([] : List Str)) := by
  refine ⟨_, #[], 0, _, ho, ⟨rfl, rfl, rfl⟩, rfl, (fun e he => by simp at he), List.Perm.refl _, List.nodup_nil, (by decide), (by rfl), List.Pairwise.nil, ?_⟩
  show _ ∨ (!w.params.followText "set-order") = true
  cases w.params.followText "set-order"
  · exact .inr rfl
  · exact .inl rfl
abbrev emptyS (w : World) : Obj := { cls := .type "set", dict := none, data := .set #[] 0 (.fresh 0 0 (!w.params.followText "set-order")) }
set_option maxRecDepth 100000 in
set_option maxHeartbeats 3200000 in
/-- set(a list of texts) -/
theorem set_of_list {l : Addr} {items : Array Value} (xs : List Str) {Q : Value → Shared → Prop} (hh : A.handled = none) (hl : s.heap.IsList l items) (hit : StrsAre items.toList xs) (hb : xs.length + 1 < scanBound)
    (h : ∀ (h' : Heap) (tk : Nat), SetT w h' s.heap.objs.size (dd xs) → (∀ b o, s.heap.get? b = some o → h'.get? b = some o) → Q (.ref s.heap.objs.size) { s with heap := h', toks := tk }) :
    wpAny (model P w) A (call (.type "set") [.ref l]) Q E s := by
  have hisz : items.size = xs.length := by
    have q := hit.length
    rw [Array.length_toList] at q
    exact q
  obtain ⟨c, tl, hmro⟩ := F.called_set.mro
  have hmade := F.called_set.made
  have hsub := F.called_set.sub
  refine wpAny_call (codeAny_of_tree ?_)
  show wpAny _ _ (callAny (.type "set") _) _ _ _
  refine wpAny_pure ⟨Code.quiet_builtin _ (by decide +kernel), codeAny_builtin F.entry_type_call ?_⟩
  rw [Around.under_plain (weight_type_call_type "set" [.ref l] []) rfl]
  have h1 := F.called_set.notType
  have h2 := F.called_set.canCreate
  have hct := F.typeCall_set_1 (.ref l)
  repeat (any_goals (first | assumption | wp_step))
  refine codeAny_mono (code_set_led1 (.ref l) (E := E) (Q₁ := fun obj z => obj = .ref s.heap.objs.size ∧ z = { s with heap := s.heap.push (emptyS w) }) ⟨rfl, rfl⟩) fun r z hr => ?_
  cases r with
  | error e => exact hr
  | ok fl =>
    cases fl with
    | ret obj =>
      obtain ⟨rfl, rfl⟩ := hr
      have hS : (s.heap.push (emptyS w)).get? s.heap.objs.size = some (emptyS w) := Heap.get?_push_size _ rfl
      have hT : Shared.TypeIs { s with heap := s.heap.push (emptyS w) } (.ref s.heap.objs.size) "set" := ⟨_, hS, rfl⟩
      have hli := F.called_set.init.lookup
      have hbi := F.called_set.init.bind (.ref s.heap.objs.size)
      repeat (any_goals (first | assumption | wp_step))
      refine codeAny_mono (codeAny_call_builtin (R := wants (fun r z2 => r = .none ∧ ∃ h' tk, z2 = { s with heap := h', toks := tk } ∧ SetT w h' s.heap.objs.size (dd xs) ∧
          (∀ b o, s.heap.get? b = some o → h'.get? b = some o)) E) F.called_set.init.plain F.entry_set_init (check_set_init_1 hT ?_)) fun r2 z2 hr2 => ?_
      · obtain ⟨ol, hol, hcl, nl, hdl⟩ := hl
        obtain ⟨ocls, odict, odata, oslots⟩ := ol
        simp only at hcl hdl
        subst hcl; subst hdl
        have hol' : (s.heap.push (emptyS w)).get? l = some { cls := .type "list", dict := odict, data := .seq items nl, slots := oslots } := Heap.get?_push_of_some _ hol
        have hsls := F.sub_list_set
        have hslf := F.sub_list_frozenset
        have hne : (Value.type "list" == Value.type "dict") = false := by decide
        have hl1 : (s.heap.push (emptyS w)).IsList l items := ⟨_, hol', rfl, nl, rfl⟩
        unfold Builtin.«set.__init__» noKeywords Builtin.Frozenset.updateFrom
        generalize hPI : pyIter = PI
        wp_walk
        subst hPI
        refine wpAny_pyIter_list hl1 ?_
        refine wpAny_bind (wpAny_runValue ?_)
        have hlS : l < s.heap.objs.size := Heap.lt_size hol
        have hh3 : A.in1.in1.in1.handled = none := by simp [hh]
        have hneI : l ≠ (s.heap.push (emptyS w)).objs.size := by
          rw [Heap.size_push]
          exact Nat.ne_of_lt (Nat.lt_succ_of_lt hlS)
        have hSf : s.heap.objs.size ∉ [(s.heap.push (emptyS w)).objs.size, l] := by
          rw [Heap.size_push]
          simp only [List.mem_cons, List.mem_singleton, List.not_mem_nil, or_false, not_or]
          exact ⟨Nat.ne_of_lt (Nat.lt_succ_self _), Nat.ne_of_gt hlS⟩
        have hval : ∀ (i : Nat) (v : Value), items[i]? = some v → ∃ k t, xs[i]? = some k ∧ v = .str k t := fun i v hv => by
          have hi : i < xs.length := by
            rw [← hisz]
            exact (Array.getElem?_eq_some_iff.mp hv).1
          obtain ⟨t, e⟩ := SS.strs_at hit i v (by rw [Array.getElem?_toList]; exact hv)
          refine ⟨xs[i], t, List.getElem?_eq_getElem hi, ?_⟩
          rw [e, List.getD_eq_getElem?_getD, List.getElem?_eq_getElem hi]
          rfl
        refine into_set ((Walks.list hh3 _ l hneI items).toS) s.heap.objs.size hSf xs hisz hb hval (items.size - 0) 0 _ (by omega) (Nat.zero_le _)
          ⟨⟨_, Heap.get?_push_size _ rfl, rfl, rfl⟩, (hl1.push _)⟩ ?hS0 ?hR
        case hS0 => exact new_at (Heap.get?_push_of_some _ hS)
        case hR =>
          intro z3 hm hS'
          obtain ⟨h', g2, d', tk', os'⟩ := z3
          have eg : g2 = s.gens := hm.gens
          have ed : d' = s.drawn := hm.drawn
          have eo : os' = s.os := hm.os
          subst eg; subst ed; subst eo
          show wpAny _ _ _ _ _ _
          refine wpAny_pure ?_
          show wpAny _ _ (ret Value.none) _ _ _
          refine wpAny_pure ⟨rfl, h', tk', rfl, hS', fun b o e => ?_⟩
          have hb0 : b < s.heap.objs.size := Heap.lt_size e
          have hb1 : b ≠ s.heap.objs.size := Nat.ne_of_lt hb0
          have hb2 : b ≠ (s.heap.push (emptyS w)).objs.size := by
            rw [Heap.size_push]
            exact Nat.ne_of_lt (Nat.lt_succ_of_lt hb0)
          refine hm.heap b o ?_ (Heap.get?_push_of_some _ (Heap.get?_push_of_some _ e))
          simp only [List.mem_cons, List.mem_singleton, List.not_mem_nil, or_false, not_or]
          exact ⟨hb1, hb2⟩
      · cases r2 with
        | error e => exact hr2
        | ok fl2 =>
          cases fl2 with
          | ret r =>
            obtain ⟨rfl, h', tk, rfl, hS', hk'⟩ := hr2
            repeat (any_goals (first | assumption | wp_step))
            exact h _ _ hS' hk'
          | _ => exact hr2.elim
    | _ => exact hr.elim
end
end TxSet
set_option Elab.async false
set_option linter.all false
set_option maxRecDepth 100000
set_option maxHeartbeats 2000000
namespace TxSet
open PySem PySem.Spec PyProof.Rows L2
theorem strs_map : ∀ (l : List Value), (∀ v ∈ l, ∃ k tk, v = Value.str k tk) → ∃ ss : List Str, StrsAre l ss ∧ ss = l.map (fun v => txt (0, v))
  | [], _ => ⟨[], .nil, rfl⟩
  | v :: l, h => by
    obtain ⟨k, tk, rfl⟩ := h v List.mem_cons_self
    obtain ⟨ss, h1, h2⟩ := strs_map l fun u hu => h u (List.mem_cons_of_mem _ hu)
    exact ⟨k :: ss, .cons k tk h1, by rw [h2]; rfl⟩
section
variable {P : Program} {w : World} {A : Around} {E : Value → Shared → Prop} {s : Shared} {a : Addr} {L : List Str}
/-- sorted(a set of texts) -/
theorem sorted_txt {Q : Value → Shared → Prop} (R : SetT w s.heap a L) (hh : A.handled = none) (h64 : L.length < 64)
    (hQ : ∀ z p (out : Array Value) (c : Nat) (ys : List Str), (∀ b o, s.heap.get? b = some o → z.heap.get? b = some o) → z.gens = s.gens → z.os = s.os → s.heap.objs.size ≤ p →
      z.heap.get? p = some (seqObj "list" out c) → StrsAre out.toList ys → ys.Perm L → sortedS ys = true → Q (.ref p) z) :
    wpAny (model P w) A (call (.builtin "sorted") [.ref a]) Q E s := by
  obtain ⟨o, es, ep, t, ho, hex, hd, g, pm0, nd, hb, hf, hr, hl⟩ := R
  refine Calls.call_function_entry kind_sorted plain_sorted entry_sorted (args_sorted1 _) ?_
  unfold Builtin.«sorted»
  refine wpAny_bind (m := checkCount "sorted" 1 1 _) (wpAny_pure ?_)
  refine wpAny_bind (collect_set (A := A.in1) hh ⟨o, ho, hex.1, hd⟩ hf hb hr hl fun s1 vs k1 hz g1 o1 pm => ?_)
  obtain ⟨ss, hI, e1⟩ := strs_map vs fun v hv => by
    obtain ⟨e, he, q⟩ := List.mem_map.mp (pm.mem_iff.mp hv)
    obtain ⟨k, tk, h1, _⟩ := g e he
    exact ⟨k, tk, by rw [← q]; exact h1⟩
  have pk : ss.Perm L := by
    have q := pm.map (fun v => txt (0, v))
    rw [List.map_map, ← e1] at q
    exact q.trans pm0
  have hvl : vs.length < 64 := by
    have z := hI.length
    rw [z, pk.length_eq]
    exact h64
  refine wpAny_bind (wpAny_newList ?_ (by rw [sizeLine_eq]; omega))
  have hoL : (s1.heap.push (seqObj "list" vs.toArray 0)).get? s1.heap.objs.size = some (seqObj "list" vs.toArray 0) := Heap.get?_push_size _ rfl
  refine wpAny_bind (wpAny_holding (wpAny_call_entry slot_list_sort ⟨_, hoL, rfl⟩ entry_list_sort
    (list_sort_treeK strKind_oneLt hoL hI.keysOf (fun v1 v2 rest e => keyKind_strs (by rw [← e]; exact hI)) hvl fun st' hp hs => ?_) (args_list_sort _)))
  obtain ⟨ys, g1', g2', g3'⟩ := sorted_out_str hI hp hs
  refine ⟨_, rfl, ?_⟩
  obtain ⟨c, hc⟩ := sortedHeap_at (vs := vs) (out := _) hoL
  refine wpAny_pure ⟨_, rfl, hQ _ s1.heap.objs.size _ c ys (fun b u e => ?_) g1 o1 hz hc g1' (g2'.trans pk) g3'⟩
  have q := k1 b u e
  have hlt := Heap.lt_size q
  show (sortedHeap (s1.heap.push (seqObj "list" vs.toArray 0)) s1.heap.objs.size vs _).get? b = some u
  rw [sortedHeap_old (Nat.ne_of_lt hlt) (by rw [size_push']; exact Nat.lt_succ_of_lt hlt)]
  exact Heap.get?_push_of_some _ q
end
/-- of two risings of the same texts there is one -/
def tle (x y : Str) : Prop := x.cps.toList ≤ y.cps.toList
theorem rising_all : ∀ (r : List Str) (x : Str), risingS x r = true → (∀ y ∈ r, tle x y) ∧ r.Pairwise tle
  | [], _, _ => ⟨(fun _ h => nomatch h), List.Pairwise.nil⟩
  | y :: r, x, h => by
    have h' : (!Spec.ltCps y.cps.toList x.cps.toList && risingS y r) = true := h
    rw [Bool.and_eq_true, Bool.not_eq_true', ltCps_eq, decide_eq_false_iff_not] at h'
    obtain ⟨h1, h2⟩ := h'
    have hxy : tle x y := List.not_lt.mp h1
    obtain ⟨a1, a2⟩ := rising_all r y h2
    refine ⟨fun z hz => ?_, List.pairwise_cons.mpr ⟨a1, a2⟩⟩
    rcases List.mem_cons.mp hz with e | hz
    · rw [e]
      exact hxy
    · exact List.le_trans hxy (a1 z hz)
theorem sorted_pair : ∀ l : List Str, sortedS l = true → l.Pairwise tle
  | [], _ => List.Pairwise.nil
  | x :: r, h => by
    obtain ⟨a1, a2⟩ := rising_all r x h
    exact List.pairwise_cons.mpr ⟨a1, a2⟩
theorem one_rising {xs ys zs : List Str} (h1 : ys.Perm xs) (s1 : sortedS ys = true) (h2 : zs.Perm xs) (s2 : sortedS zs = true) : ys = zs := by
  refine List.Perm.eq_of_pairwise (le := tle) (fun a b _ _ p q => ?_) (sorted_pair ys s1) (sorted_pair zs s2) (h1.trans h2.symm)
  have e : a.cps.toList = b.cps.toList := List.le_antisymm p q
  obtain ⟨a⟩ := a
  obtain ⟨b⟩ := b
  have e' : a = b := Array.toList_inj.mp e
  rw [e']
/-- as many as there are: no two are one -/
theorem ins_mem (L : List Str) (k x : Str) : x ∈ ins L k ↔ x = k ∨ x ∈ L := by
  unfold ins
  split
  · rename_i h
    exact ⟨.inr, fun z => z.elim (fun e => e ▸ h) id⟩
  · rw [List.mem_cons]
theorem dd_go : ∀ (xs L : List Str), (xs.foldl ins L).length ≤ L.length + xs.length ∧ (∀ x, x ∈ xs.foldl ins L ↔ x ∈ L ∨ x ∈ xs) ∧ ((xs.foldl ins L).length = L.length + xs.length ↔ xs.Nodup ∧ ∀ x ∈ xs, x ∉ L)
  | [], L => ⟨Nat.le_refl _, fun x => by simp, by simp⟩
  | y :: xs, L => by
    obtain ⟨a1, a2, a3⟩ := dd_go xs (ins L y)
    have l1 := ins_len L y
    rw [List.foldl_cons]
    refine ⟨by rw [List.length_cons]; omega, fun x => ?_, ?_⟩
    · rw [a2 x, ins_mem, List.mem_cons]
      constructor
      · rintro ((e | h) | h)
        · exact .inr (.inl e)
        · exact .inl h
        · exact .inr (.inr h)
      · rintro (h | e | h)
        · exact .inl (.inr h)
        · exact .inl (.inl e)
        · exact .inr h
    · by_cases hy : y ∈ L
      · have e : ins L y = L := if_pos hy
        rw [e] at a1 ⊢
        constructor
        · intro z
          rw [List.length_cons] at z
          omega
        · rintro ⟨_, z⟩
          exact absurd hy (z y List.mem_cons_self)
      · have e : ins L y = y :: L := if_neg hy
        rw [e] at a3 ⊢
        rw [List.length_cons] at a3 ⊢
        rw [show L.length + (xs.length + 1) = L.length + 1 + xs.length by omega, a3, List.nodup_cons]
        constructor
        · rintro ⟨h1, h2⟩
          refine ⟨⟨fun z => h2 y z List.mem_cons_self, h1⟩, fun x hx => ?_⟩
          rcases List.mem_cons.mp hx with e | hx
          · rw [e]
            exact hy
          · exact fun z => h2 x hx (List.mem_cons_of_mem _ z)
        · rintro ⟨⟨h1, h2⟩, h3⟩
          refine ⟨h2, fun x hx z => ?_⟩
          rcases List.mem_cons.mp z with e | z
          · exact h1 (e ▸ hx)
          · exact h3 x (List.mem_cons_of_mem _ hx) z
theorem dd_full (xs : List Str) : (dd xs).length = xs.length ↔ xs.Nodup := by
  have h := (dd_go xs []).2.2
  rw [List.length_nil, Nat.zero_add] at h
  show (xs.foldl ins []).length = xs.length ↔ _
  rw [h]
  exact ⟨fun z => z.1, fun z => ⟨z, fun _ _ q => nomatch q⟩⟩
theorem dd_mem (xs : List Str) (x : Str) : x ∈ dd xs ↔ x ∈ xs := by
  have h := (dd_go xs []).2.1 x
  show x ∈ xs.foldl ins [] ↔ _
  rw [h]
  exact ⟨fun z => z.elim (fun q => nomatch q) id, .inr⟩
theorem ins_nodup {L : List Str} (h : L.Nodup) (k : Str) : (ins L k).Nodup := by
  unfold ins
  split
  · exact h
  · rename_i z
    exact List.nodup_cons.mpr ⟨z, h⟩
theorem dd_nodup (xs : List Str) : (dd xs).Nodup := by
  have go : ∀ (xs L : List Str), L.Nodup → (xs.foldl ins L).Nodup := by
    intro xs
    induction xs with
    | nil => intro L h; exact h
    | cons x xs ih => intro L h; exact ih _ (ins_nodup h x)
  exact go xs [] List.nodup_nil
end TxSet
namespace L2
open PySem PySem.Spec PyProof.Rows
/-- len(set(xs)) -/
def tLenSetT (K : PySem.W.Frag) (ta : TE) : TE := fun σ H Q => ta σ H fun x H1 => ∃ (l : Addr) (xs : List Str), x = .ref l ∧ SqL K H1 l (xs.map V.str) ∧ xs.length ≤ 4000 ∧ Q (.int ((TxSet.dd xs).length : Nat)) H1
theorem pe_lenSetT {X : Cx} {a : Expr} {ta : TE} {p p2 q pos : Pos} (hc : X.calm = true) (hg : Gl X "len") (hm : X.mg "len" = none) (hg2 : Gl X "set") (hm2 : X.mg "set" = none) (ha : PE X a ta)
    (na : starEach [a] X.env = (false, eval a X.env) :: starEach [] X.env := by rfl) : PE X (.Call (.Name "len" p) [.Call (.Name "set" p2) [a] [] q] [] pos) (tLenSetT X.K ta) := by
  refine ⟨fun pins s σ H Q I h => ?_⟩
  refine Call_ (ld_blt I hg hm boot_len ?_)
  refine PyProof.Rows.callWith_builtin1 (PyProof.Rows.args_cons ?_ rfl) rfl rfl
  refine Call_ (ld_blt I hg2 hm2 boot_set ?_)
  refine PyProof.Rows.callWith_type1 (PyProof.Rows.args_cons (thn (ha.run pins s σ H _ I h) fun v s1 ⟨x, H1, I1, r1, q1⟩ => PyProof.Rows.args_nil ?_) na) na rfl
  obtain ⟨l, xs, rfl, hq, hl, q1⟩ := q1
  cases r1
  obtain ⟨its, r, pl, hz⟩ := I1.list hq
  refine TxSet.set_of_list xs (I1.ok.hd hc) pl.isList (by simpa using strsAre_of r) (by unfold scanBound; omega) fun h' tk hS hk => ?_
  refine PyProof.Rows.args_nil ?_
  obtain ⟨o, es, ep, t, ho, hex, hd, _, pm, _, hb, hf, _⟩ := hS
  have hn : es.size = (TxSet.dd xs).length := by
    have z := pm.length_eq
    rw [List.length_map, Array.length_toList] at z
    exact z
  have I2 : Inv X pins σ H1 { s1 with heap := h', toks := tk } := I1.kept fun b o e => hk b o e
  refine call_len_set ho hex hd hf ?_ ⟨.int ((TxSet.dd xs).length : Nat), H1, I2.tok _, ⟨_, by rw [hn]⟩, q1⟩
  have hb' : es.size < 4096 := hb
  omega
/-- sorted(set(xs)) -/
def tSortSetT (K : PySem.W.Frag) (ta : TE) : TE := fun σ H Q => ta σ H fun x H1 => ∃ (l : Addr) (xs : List Str), x = .ref l ∧ SqL K H1 l (xs.map V.str) ∧ xs.length ≤ 4000 ∧ (TxSet.dd xs).length < 64 ∧
  ∀ (ys : List Str) (p : Addr), ys.Perm (TxSet.dd xs) → sortedS ys = true → H1 p = none → Q (.ref p) (upd H1 p (.lst (ys.map V.str)))
theorem pe_sortSetT {X : Cx} {a : Expr} {ta : TE} {p p2 q pos : Pos} (hc : X.calm = true) (hg : Gl X "sorted") (hm : X.mg "sorted" = none) (hg2 : Gl X "set") (hm2 : X.mg "set" = none) (ha : PE X a ta)
    (na : starEach [a] X.env = (false, eval a X.env) :: starEach [] X.env := by rfl) : PE X (.Call (.Name "sorted" p) [.Call (.Name "set" p2) [a] [] q] [] pos) (tSortSetT X.K ta) := by
  refine ⟨fun pins s σ H Q I h => ?_⟩
  refine Call_ (ld_blt I hg hm boot_sorted ?_)
  refine PyProof.Rows.callWith_builtin1 (PyProof.Rows.args_cons ?_ rfl) rfl rfl
  refine Call_ (ld_blt I hg2 hm2 boot_set ?_)
  refine PyProof.Rows.callWith_type1 (PyProof.Rows.args_cons (thn (ha.run pins s σ H _ I h) fun v s1 ⟨x, H1, I1, r1, q1⟩ => PyProof.Rows.args_nil ?_) na) na rfl
  obtain ⟨l, xs, rfl, hq, hl, h64, q1⟩ := q1
  cases r1
  obtain ⟨its, r, pl, hz⟩ := I1.list hq
  refine TxSet.set_of_list xs (I1.ok.hd hc) pl.isList (by simpa using strsAre_of r) (by unfold scanBound; omega) fun h' tk hS hk => ?_
  refine PyProof.Rows.args_nil ?_
  refine TxSet.sorted_txt (s := { s1 with heap := h', toks := tk }) hS (I1.ok.hd hc) h64 fun z p out c ys k2 g2 o2 hp hout hys hperm hsort => ?_
  have old : ∀ b o, s1.heap.get? b = some o → z.heap.get? b = some o := fun b o e => k2 b o (hk b o e)
  have hge : s1.heap.objs.size ≤ p := by
    have h1 : s1.heap.objs.size ≤ h'.objs.size := by
      obtain ⟨o, _, _, _, ho, _⟩ := hS
      exact Nat.le_of_lt (Heap.lt_size ho)
    exact Nat.le_trans h1 hp
  have hlen : (ys.map V.str).length ≤ sizeLine := by
    rw [List.length_map, hperm.length_eq]
    exact Nat.le_of_lt (Nat.lt_of_lt_of_le h64 (by decide))
  obtain ⟨zh, zg, zd, zt, zo⟩ := z
  obtain rfl : zg = s1.gens := g2
  obtain rfl : zo = s1.os := o2
  have hn : H1 p = none := I1.hok.fresh hge
  have J : Inv X pins σ (upd H1 p (.lst (ys.map V.str))) { s1 with heap := zh, gens := s1.gens, drawn := zd, toks := zt } :=
    I1.call (ch := []) (Un.laid old hge hn) (I1.hok.laid old hge ⟨hlen, out.toList, c, vals_of_strs hys, hout⟩) I1.bare (fun _ z => nomatch z)
  exact ⟨.ref p, _, J, rfl, q1 ys p hperm hsort hn⟩
end L2
set_option Elab.async false
set_option linter.all false
set_option maxRecDepth 100000
set_option maxHeartbeats 2000000
/-! Sets of texts, gathered by two clauses without tests; sorted. -/
namespace TxSet
open PySem PySem.Spec PyProof.Rows L2
/-- the set of texts at a, as a tracked thing -/
def SetTO (w : World) (a : Addr) (L : List Str) : HO := .ext fun h => SetT w h a L
theorem setTO_mk {w : World} {P : Program} {H : Hp} {h : Heap} {a : Addr} {L : List Str} (R : SetT w h a L) : ObjOk P w H h a (SetTO w a L) := by
  have ⟨o, _, _, _, ho, _⟩ := R
  exact ⟨R, ⟨o, ho⟩, fun h1 h2 p k => SetT.at p k⟩
section
variable {X : Cx}
theorem setTO_at {pins : List (Addr × Obj)} {σ : L2.St} {H : Hp} {z : Shared} {a : Addr} {L : List Str} (J : Inv X pins σ H z) (ha : H a = some (SetTO X.w a L)) : SetT X.w z.heap a L := (J.hok a _ ha).1
/-- one text into it -/
theorem txt_into {pins : List (Addr × Obj)} {σ : L2.St} {H : Hp} {z : Shared} {E : Value → Shared → Prop} {S : Addr} {L : List Str} {k : Str} {tk : Tok} {Q : Value → Shared → Prop} (J : Inv X pins σ H z) (hS : H S = some (SetTO X.w S L)) (room : L.length + 1 < scanBound)
    (q : ∀ y, Inv X pins σ (upd H S (SetTO X.w S (ins L k))) y → Q .none y) : wpAny (model X.prog X.w) X.A (call (.builtin "set.add") [.ref S, .str k tk]) Q E z := by
  have R := setTO_at J hS
  have hT : z.TypeIs (.ref S) "set" := by
    obtain ⟨o, _, _, _, ho, hex, _⟩ := R
    exact ⟨o, ho, hex.1⟩
  refine wpAny_call_entry F.slot_set_add hT F.entry_set_add ?_ (F.args_set_add_2 _ _)
  unfold Builtin.«set.add» Builtin.Frozenset.oneOther
  simp only [List.isEmpty_nil, bind_assoc]
  unfold Builtin.Frozenset.addrOf setAdd
  refine wpAny_bind (wpAny_pure ?_)
  try dsimp only
  refine wpAny_bind (wpAny_pure ?_)
  try dsimp only
  refine wpAny_bind (wpAny_holding ?_)
  refine wpAny_bind ((strKind X.prog X.w).pyHash (k := k) (strKind_is X.prog X.w k tk) ?_)
  refine add_hashed (s := { z with toks := z.toks + 1 }) R room fun b h1 sb R1 => ?_
  show wpAny _ _ (ret Value.none) _ _ _
  have he : ∃ u, h1.get? S = some u := by
    have ⟨o, _, _, _, ho, _⟩ := R1
    exact ⟨o, ho⟩
  exact wpAny_pure ⟨_, rfl, q _ (J.write (e := S) (t' := z.toks + 1) (by rw [hS]; trivial) (.inl rfl) (fun b u hb hu => (sb.2 b hb).trans hu) he (setTO_mk R1))⟩
/-- sorted(that set) -/
def rSortT (w : World) : List V → Hp → VK → Prop := fun xs H Q => ∃ (S : Addr) (L : List Str), xs = [.ref S] ∧ H S = some (SetTO w S L) ∧ L.length < 64 ∧
  ∀ (ys : List Str) (p : Addr), ys.Perm L → sortedS ys = true → H p = none → Q (.ref p) (upd H p (.lst (ys.map V.str)))
theorem call_sortT (hc : X.calm = true) : CallR X (.builtin "sorted") (rSortT X.w) := by
  intro pins z σ H xs us Q J r q
  obtain ⟨S, L, rfl, hS, h64, q⟩ := q
  obtain ⟨u, rfl, ru⟩ := r.one
  cases (show u = Value.ref S from ru)
  refine sorted_txt (setTO_at J hS) (J.ok.hd hc) h64 fun y p out c ys old g2 o2 hge hout hys hperm hsort => ?_
  have hlen : (ys.map V.str).length ≤ sizeLine := by
    rw [List.length_map, hperm.length_eq]
    exact Nat.le_of_lt (Nat.lt_of_lt_of_le h64 (by decide))
  obtain ⟨zh, zg, zd, zt, zo⟩ := y
  obtain rfl : zg = z.gens := g2
  obtain rfl : zo = z.os := o2
  have hn : H p = none := J.hok.fresh hge
  have J2 : Inv X pins σ (upd H p (.lst (ys.map V.str))) { z with heap := zh, gens := z.gens, drawn := zd, toks := zt } :=
    J.call (ch := []) (Un.laid old hge hn) (J.hok.laid old hge ⟨hlen, out.toList, c, vals_of_strs hys, hout⟩) J.bare (fun _ z => nomatch z)
  exact ⟨.ref p, _, J2, rfl, q ys p hperm hsort hn⟩
end
/-! ### two clauses -/
abbrev gen2 (t0 i0 t1 i1 : Expr) : List Comprehension := [⟨t0, i0, [], 0⟩, ⟨t1, i1, [], 0⟩]
section
variable {P : Program} {w : World} {A : Around} {R : Result → Shared → Prop} {z : Shared} {e t0 i0 t1 i1 : Expr} {sc : Scope} {at_ : Pos} {it S : Value} {env : Env}
theorem turn_outer : compTurn (.SetComp e (gen2 t0 i0 t1 i1) sc at_) 0 it S env = (do
      standAt i0.pos
      match ← pyNext it with
      | none => pure (.done .next)
      | some v =>
        letOwnedTupleGo t0 it v
        assign t0 env v
        let x ← eval i1 env
        standAt i1.pos
        let x ← foldedSetIterable i1 env x
        let _ ← runOwn (.compStart (.SetComp e (gen2 t0 i0 t1 i1) sc at_) 1 (← holding [x] (pyIter x)) S env) env
        again (.compLoop (.SetComp e (gen2 t0 i0 t1 i1) sc at_) 0 it S env)) := by rfl
theorem turn_inner : compTurn (.SetComp e (gen2 t0 i0 t1 i1) sc at_) 1 it S env = (do
      standAt i1.pos
      match ← pyNext it with
      | none => pure (.done .next)
      | some v =>
        letOwnedTupleGo t1 it v
        assign t1 env v
        (do let x ← eval e env; standAt e.pos; let _ ← call (.builtin "set.add") [S, x])
        again (.compLoop (.SetComp e (gen2 t0 i0 t1 i1) sc at_) 1 it S env)) := by rfl
abbrev NB (P : Program) (w : World) (A : Around) (env : Env) (R : Result → Shared → Prop) : Value → Shared → Prop := notedBy (model P w) A env fun x y => R (.error x) y
/-- the turns of the first clause -/
theorem loop_outer (hs : ∀ x, foldedSetIterable i1 env x = pure x) (J : Nat → Shared → Prop)
    (step : ∀ n y, J n y → wpAny (model P w) A (pyNext it) (fun r y1 => match r with
      | none => R (.ok .next) y1
      | some v => wpAny (model P w) A (letOwnedTupleGo t0 it v) (fun _ y2 => wpAny (model P w) A (assign t0 env v) (fun _ y3 => wpAny (model P w) A (eval i1 env) (fun x y4 => wpAny (model P w) A (pyIter x) (fun j y5 =>
            codeAny (model P w) A (.compStart (.SetComp e (gen2 t0 i0 t1 i1) sc at_) 1 j S env) (fun r y6 => match r with
              | .ok _ => ∃ m, m < n ∧ J m y6
              | .error _ => False) y5) (NB P w A env R) y4) (NB P w A env R) y3) (NB P w A env R) y2) (NB P w A env R) y1) (NB P w A env R) y)
    (n : Nat) (h : J n z) : codeAny (model P w) A (.compLoop (.SetComp e (gen2 t0 i0 t1 i1) sc at_) 0 it S env) R z := by
  refine codeAny_loop rfl J (fun n y hJ => ?_) n h
  show wpAny _ A ((compTurn (.SetComp e (gen2 t0 i0 t1 i1) sc at_) 0 it S env).onRaise (fun x => do noteFrame x env; theTreesLotGoes x)) _ _ y
  refine wpAny_noted ?_
  rw [turn_outer]
  refine wpAny_bind (wpAny_standAt (wpAny_bind (wpAny_mono (step n y hJ) (fun r y1 k1 => ?_) fun _ _ k => k)))
  cases r with
  | none => exact wpAny_pure k1
  | some v =>
    refine wpAny_bind (wpAny_mono k1 (fun _ y2 k2 => ?_) fun _ _ k => k)
    refine wpAny_bind (wpAny_mono k2 (fun _ y3 k3 => ?_) fun _ _ k => k)
    refine wpAny_bind (wpAny_mono k3 (fun x y4 k4 => ?_) fun _ _ k => k)
    refine wpAny_bind (wpAny_standAt (wpAny_bind (wpAny_of_eq (hs x) (wpAny_bind (wpAny_holding (wpAny_mono k4 (fun j y5 k5 => ?_) fun _ _ k => k))))))
    refine wpAny_bind (wpAny_runOwn ?_)
    rw [Around.mark_none]
    refine codeAny_mono k5 fun r y6 k6 => ?_
    cases r with
    | ok f =>
      first
        | exact wpAny_pure ⟨rfl, k6⟩
        | exact wpAny_bind (wpAny_pure (wpAny_pure ⟨rfl, k6⟩))
    | error x => exact k6.elim
/-- the turns of the second -/
theorem loop_inner (J : Nat → Shared → Prop)
    (step : ∀ n y, J n y → wpAny (model P w) A (pyNext it) (fun r y1 => match r with
      | none => R (.ok .next) y1
      | some v => wpAny (model P w) A (letOwnedTupleGo t1 it v) (fun _ y2 => wpAny (model P w) A (assign t1 env v) (fun _ y3 => wpAny (model P w) A (eval e env) (fun x y4 =>
            wpAny (model P w) A (call (.builtin "set.add") [S, x]) (fun _ y5 => ∃ m, m < n ∧ J m y5) (NB P w A env R) y4) (NB P w A env R) y3) (NB P w A env R) y2) (NB P w A env R) y1) (NB P w A env R) y)
    (n : Nat) (h : J n z) : codeAny (model P w) A (.compLoop (.SetComp e (gen2 t0 i0 t1 i1) sc at_) 1 it S env) R z := by
  refine codeAny_loop rfl J (fun n y hJ => ?_) n h
  show wpAny _ A ((compTurn (.SetComp e (gen2 t0 i0 t1 i1) sc at_) 1 it S env).onRaise (fun x => do noteFrame x env; theTreesLotGoes x)) _ _ y
  refine wpAny_noted ?_
  rw [turn_inner]
  refine wpAny_bind (wpAny_standAt (wpAny_bind (wpAny_mono (step n y hJ) (fun r y1 k1 => ?_) fun _ _ k => k)))
  cases r with
  | none => exact wpAny_pure k1
  | some v =>
    refine wpAny_bind (wpAny_mono k1 (fun _ y2 k2 => ?_) fun _ _ k => k)
    refine wpAny_bind (wpAny_mono k2 (fun _ y3 k3 => ?_) fun _ _ k => k)
    exact wpAny_bind (wpAny_bind (wpAny_mono k3 (fun x y4 k4 => wpAny_bind (wpAny_standAt (wpAny_bind (wpAny_mono k4 (fun _ y5 k5 => wpAny_pure (wpAny_pure ⟨rfl, k5⟩)) fun _ _ k => k)))) fun _ _ k => k))
/-- how the second begins -/
theorem start_inner (h0 : codeAny (model P w) A (.compLoop (.SetComp e (gen2 t0 i0 t1 i1) sc at_) 1 it S env) R z)
    (h : wpAny (model P w) A (pyIter it) (fun j y => codeAny (model P w) A (.compLoop (.SetComp e (gen2 t0 i0 t1 i1) sc at_) 1 j S env) R y) (NB P w A env R) z) :
    codeAny (model P w) A (.compStart (.SetComp e (gen2 t0 i0 t1 i1) sc at_) 1 it S env) R z := by
  refine codeAny_of_tree ?_
  show wpAny _ _ ((compStart (.SetComp e (gen2 t0 i0 t1 i1) sc at_) 1 it S env).onRaise (fun x => do noteFrame x env; standAt theWindowsPlace)) _ _ z
  refine wpAny_notedAt ?_
  unfold compStart
  show wpAny _ _ (ask >>= _) _ _ z
  refine wpAny_bind (wpAny_askSetting (wpAny_ite ?_))
  split
  · first
      | exact wpAny_bind (wpAny_pure (wpAny_pure (And.intro rfl h0)))
      | exact wpAny_pure (And.intro rfl h0)
  · first
      | exact wpAny_bind (wpAny_rule (wpAny_bind (wpAny_standAt (wpAny_bind (wpAny_mono h (fun j y k => wpAny_pure (And.intro rfl k)) fun _ _ x => x)))))
      | (refine wpAny_bind (wpAny_rule ?_); show wpAny _ _ (standAt i1.pos >>= _) _ _ z; exact wpAny_bind (wpAny_standAt (wpAny_bind (wpAny_mono h (fun j y k => wpAny_pure (And.intro rfl k)) fun _ _ x => x))))
end
section
variable {X : Cx}
/-- the set of what e is, for t1 in i1, for t0 in i0: S is new -/
def tSc2 (w : World) (wi : TI) (g : TG) (wi1 : TI) (g1 : TG) (te : TE) (vs vs1 : List Nat) : TE := fun σ H Q => wi σ H fun B H1 => ∀ S, H1 S = none → ∃ W : Nat → Nat → Hp → Prop, (∃ m, W 0 m (upd H1 S (SetTO w S []))) ∧ ∀ i m H, W i m H →
  (B.stop i H ∧ Q (.ref S) H) ∨ (B.go i H ∧ ∃ Nx : Hp → Prop, (∀ H', Nx H' → ∃ m', m' < m ∧ W (i + 1) m' H') ∧ ∀ x H', B.yld i H x H' → g x (wipe σ vs) H' fun σ2 H2 => wipe σ2 vs = wipe σ vs ∧
    wi1 σ2 H2 fun B1 H4 => ∃ V1 : Nat → Nat → Hp → Prop, (∃ m, V1 0 m H4) ∧ ∀ j k H, V1 j k H →
      (B1.stop j H ∧ Nx H) ∨ (B1.go j H ∧ ∃ Ny : Hp → Prop, (∀ H', Ny H' → ∃ k', k' < k ∧ V1 (j + 1) k' H') ∧ ∀ x H', B1.yld j H x H' → g1 x (wipe σ2 vs1) H' fun σ3 H5 => wipe σ3 vs1 = wipe σ2 vs1 ∧
        te σ3 H5 fun y H7 => ∃ (k : Str) (L : List Str), y = .str k ∧ H7 S = some (SetTO w S L) ∧ L.length + 1 < scanBound ∧ Ny (upd H7 S (SetTO w S (ins L k)))))
theorem sc2_core {pins : List (Addr × Obj)} {z : Shared} {σ : L2.St} {H : Hp} {Q : VK} {e t0 i0 t1 i1 : Expr} {sc : Scope} {mine : List (Str × Nat)} {vs1 : List Nat} {at_ at0 : Pos} {wi wi1 : TI} {g g1 : TG} {te : TE} {use : Option (Value → Sem Unit)} {Qf : Value → Shared → Prop}
    (hc : X.calm = true) (hN : X.N.Nodup) (J : Inv X pins σ H z) (hi : PI X t0 i0 wi) (ok : BlkOk X.N X.env.scope sc mine) (hv : ∀ i ∈ vs1, i ∈ mine.map (·.2))
    (hg : ∀ (s : Shared) (H : Hp) (C : Addr) (cl : List (Str × Addr)) (fp : List Addr), PG (X.blk s H sc (compEnvC sc cl C X.env) fp) t0 g)
    (he : ∀ (s : Shared) (H : Hp) (C : Addr) (cl : List (Str × Addr)) (fp : List Addr), PE (X.blk s H sc (compEnvC sc cl C X.env) fp) e te) (hs : ∀ x, foldedSetIterable i0 X.env x = pure x)
    (hi1 : ∀ (s : Shared) (H : Hp) (C : Addr) (cl : List (Str × Addr)) (fp : List Addr), PI (X.blk s H sc (compEnvC sc cl C X.env) fp) t1 i1 wi1)
    (hg1 : ∀ (s : Shared) (H : Hp) (C : Addr) (cl : List (Str × Addr)) (fp : List Addr), PG (X.blk s H sc (compEnvC sc cl C X.env) fp) t1 g1)
    (hs1 : ∀ env x, foldedSetIterable i1 env x = pure x)
    (h : tSc2 X.w wi g wi1 g1 te (mine.map (·.2)) vs1 σ H Q)
    (hRR : ∀ S C y m H', Inv X pins σ H' y → Q (.ref S) H' → y.heap.Ns C m → FpOk X pins H' C → compPost (model X.prog X.w) X.A X.xe use Qf (.ref S) C (.ok .next) y) :
    wpAny (model X.prog X.w) X.A (comprehension (.SetComp e (gen2 t0 i0 t1 i1) sc at_) sc X.env at0 (newSet (.type "set")) false (eval i0 X.env) use) Qf X.xe z := by
  have hfree : ∀ y ∈ sc.names, y.2 = .free → ∃ c, X.env.cells.lookup y.1 = some c := fun y hy e => by
    rcases ok.free y hy e with k | k
    · exact J.ok.has _ (.inl k)
    · exact J.ok.has _ (.inr k)
  refine wpAny_comprehension_free (use := use) rfl hs (closure_ok hfree) ok.kind (fun y hy e => by rw [ok.uniq y hy, e]) (thn (hi.run pins z σ H _ J h) fun xv z1 hx => thn hx fun itv z2 h2 => ?_)
  obtain ⟨it, fp, tn, B, H2, e0, J2, T, st2, f2, q⟩ := h2
  subst e0
  refine PpSet.newSet_ok (newEnv_comp ?_)
  generalize hS : z2.heap.objs.size = S
  have hSn : H2 S = none := J2.hok.fresh (Nat.le_of_eq hS)
  obtain ⟨W, ⟨m0, w0⟩, step⟩ := q S hSn
  generalize hz3 : ({ z2 with heap := z2.heap.push (emptyS X.w) } : Shared) = z3
  have J3 : Inv X pins σ (upd H2 S (SetTO X.w S [])) z3 := by
    rw [← hz3]
    refine J2.laid (t' := z2.toks) (fun b o e => Heap.get?_push_of_some _ e) (Nat.le_of_eq hS) ?_
    rw [← hS]
    exact setTO_mk (new_at (Heap.get?_push_size _ rfl))
  have k3 : z3.heap = z2.heap.push (emptyS X.w) := by rw [← hz3]
  generalize hH3 : upd H2 S (SetTO X.w S []) = H3 at J3 w0
  have f3 : ∀ b ∈ fp, FpOk X pins H3 b ∧ b < z3.heap.objs.size := fun b hb => by
    obtain ⟨o, eo, _⟩ := T.obj _ _ st2 b hb
    have hlt := Heap.lt_size eo
    refine ⟨⟨?_, (f2 b hb).2⟩, by rw [k3, Heap.size_push]; exact Nat.lt_succ_of_lt hlt⟩
    rw [← hH3, upd_ne (by rw [← hS]; exact Nat.ne_of_lt hlt)]
    exact (f2 b hb).1
  have st3 : tn 0 z3.heap := T.keep _ _ _ st2 fun b _ o e => by rw [k3]; exact Heap.get?_push_of_some _ e
  have J4 := block_start J3 ok hN f3
  generalize hcl : cellsFrom (z3.heap.objs.size + 1) sc.names (cloFrom X.env.cells sc.names []) = cl at J4
  have pg := hg z3 H3 z3.heap.objs.size cl fp
  have pe := he z3 H3 z3.heap.objs.size cl fp
  have pi1 := hi1 z3 H3 z3.heap.objs.size cl fp
  have pg1 := hg1 z3 H3 z3.heap.objs.size cl fp
  have goal : codeAny (model X.prog X.w) X.A (.compStart (.SetComp e (gen2 t0 i0 t1 i1) sc at_) 0 (.ref it) (.ref S) (compEnvC sc cl z3.heap.objs.size X.env)) (compPost (model X.prog X.w) X.A X.xe use Qf (.ref S) z3.heap.objs.size) { z3 with heap := pushCells (z3.heap.push { cls := .type "dict", data := .dict #[] }) sc.names } := by
    have nfp : ∀ b ∈ fp, H3 b = none := fun b hb => (f3 b hb).1.1
    generalize hce : compEnvC sc cl z3.heap.objs.size X.env = ce at J4 pg pe pi1 pg1 ⊢
    have cL : ce.locals = z3.heap.objs.size := by subst hce; rfl
    generalize hz4 : ({ z3 with heap := pushCells (z3.heap.push { cls := .type "dict", data := .dict #[] }) sc.names } : Shared) = z4 at J4 ⊢
    have st4 : tn 0 z4.heap := T.keep _ _ _ st3 fun b _ o e => by rw [← hz4]; exact pushCells_keeps _ _ _ _ (Heap.get?_push_of_some _ e)
    generalize hY : X.blk z3 H3 sc ce fp = Y at J4 pg pe pi1 pg1
    have yx : Y.prog = X.prog ∧ Y.w = X.w ∧ Y.A = X.A := by subst hY; exact ⟨rfl, rfl, rfl⟩
    have stat : ∀ {σ' : L2.St} {H' : Hp} {y : Shared}, Inv (X.blk z3 H3 sc ce fp) [] σ' H' y → (∀ b ∈ fp, H' b = none) → ∀ b ∈ fp, FpOk (X.blk z3 H3 sc ce fp) [] H' b := fun {σ' H' y} K hn b hb =>
      ⟨hn b hb, (K.ok.exf b hb).1, K.ok.exfs b hb, .inl hb, fun x c e => (K.ok.exf b hb).2 x c e, fun p hp => absurd (show p ∈ ([] : List (Addr × Obj)) ++ [] from hp) (by simp)⟩
    subst hY
    have loop : codeAny (model X.prog X.w) X.A (.compLoop (.SetComp e (gen2 t0 i0 t1 i1) sc at_) 0 (.ref it) (.ref S) ce) (compPost (model X.prog X.w) X.A X.xe use Qf (.ref S) z3.heap.objs.size) z4 := by
      refine loop_outer (hs1 ce) (fun n y => ∃ i H', Inv (X.blk z3 H3 sc ce fp) [] (wipe σ (mine.map (·.2))) H' y ∧ tn i y.heap ∧ (∀ b ∈ fp, H' b = none) ∧ W i n H') ?_ m0 ⟨0, H3, J4, st4, nfp, w0⟩
      rintro n z5 ⟨i, H5, J5, st5, n5, w5⟩
      rcases step i n H5 w5 with ⟨stop, qq⟩ | ⟨go, Nx, hNx, more⟩
      · have td := T.done (X.blk z3 H3 sc ce fp) rfl rfl rfl hc i [] z5 _ H5 (fun _ _ => False) J5 (stat J5 n5) st5 stop
        refine thnF td fun r z6 ⟨hr, J6⟩ => ?_
        subst hr
        have J7 : Inv X pins σ H5 z6 := J3.call' (ch := fp) J6.os J6.base J6.hok J6.bare fun b hb => ⟨(f3 b hb).1.2.2.2.1, (f3 b hb).1.2.1, (f3 b hb).1.2.2.2.2.1, (f3 b hb).1.2.2.2.2.2⟩
        have nC : H5 z3.heap.objs.size = none := by
          have y : H5 ce.locals = none := J6.free
          rw [cL] at y
          exact y
        obtain ⟨m, hn, _⟩ := J6.loc
        have hn : z6.heap.Ns ce.locals m := hn
        rw [cL] at hn
        exact hRR S z3.heap.objs.size z6 m H5 J7 qq hn (J3.fpOk (Nat.le_refl _) nC)
      · have ti := T.item (X.blk z3 H3 sc ce fp) rfl rfl rfl hc i [] z5 _ H5 (fun _ _ => False) J5 (stat J5 n5) st5 go
        refine thnF ti fun r z6 ⟨u, hr, h6⟩ => ?_
        subst hr
        refine thnF h6 fun _ z7 ⟨x, H7, J7, r7, y7, st7, n7⟩ => ?_
        have J7' := J7.pinned (stat J7 n7) (T.obj _ _ st7)
        refine thnF (pg.run _ z7 _ H7 x u _ J7' r7 (more x H7 y7)) fun _ z8 ⟨σ8, H8, J8, hw8, q8⟩ => ?_
        have hl8 : (wipe σ (mine.map (·.2))).length = σ8.length := by rw [← hw8, wipe_length]
        have hk9 : ∀ (j : Nat) v, (wipe σ (mine.map (·.2)))[j]? = some (some v) → (wipe σ8 vs1)[j]? = some (some v) := fun j v e => by
          rw [← hw8] at e
          obtain ⟨e1, e2⟩ := wipe_some e
          rw [wipe_out fun z => e2 (hv j z)]
          exact e1
        refine thnF (pi1.run _ z8 σ8 H8 _ J8 q8) fun xv z10 hx => thnF hx fun itv z11 h11 => ?_
        obtain ⟨it1, fp1, tn1, B1, H11, e1, J11, T1, st11, f11, V1, ⟨m1, w1⟩, step1⟩ := h11
        subst e1
        have stat1 : ∀ {H' : Hp}, (∀ b ∈ fp1, H' b = none) → ∀ b ∈ fp1, FpOk (X.blk z3 H3 sc ce fp) ([] ++ pinsAt fp z7.heap) H' b := fun hn b hb => ⟨hn b hb, (f11 b hb).2⟩
        have loop1 : codeAny (model X.prog X.w) X.A (.compLoop (.SetComp e (gen2 t0 i0 t1 i1) sc at_) 1 (.ref it1) (.ref S) ce)
            (fun r y => match r with
              | .ok _ => ∃ m, m < n ∧ ∃ i H', Inv (X.blk z3 H3 sc ce fp) [] (wipe σ (mine.map (·.2))) H' y ∧ tn i y.heap ∧ (∀ b ∈ fp, H' b = none) ∧ W i m H'
              | .error _ => False) z11 := by
          refine loop_inner (fun k y => ∃ j H', Inv (X.blk z3 H3 sc ce fp) ([] ++ pinsAt fp z7.heap) (wipe σ8 vs1) H' y ∧ tn1 j y.heap ∧ (∀ b ∈ fp1, H' b = none) ∧ V1 j k H') ?_ m1 ⟨0, H11, J11.weak (wipe_length _ _) (fun j v e => (wipe_some e).1), st11, fun b hb => (f11 b hb).1, w1⟩
          rintro k z12 ⟨j, H12, J12, st12, n12, w12⟩
          rcases step1 j k H12 w12 with ⟨stop1, nx1⟩ | ⟨go1, Ny, hNy, more1⟩
          · refine thnF (T1.done (X.blk z3 H3 sc ce fp) rfl rfl rfl hc j _ z12 (wipe σ8 vs1) H12 (fun _ _ => False) J12 (stat1 n12) st12 stop1) fun r z13 ⟨hr, J13⟩ => ?_
            subst hr
            obtain ⟨m', hm, w'⟩ := hNx H12 nx1
            have pin' : ∀ b ∈ fp, ∀ o, z7.heap.get? b = some o → z13.heap.get? b = some o ∧ H12 b = none := fun b hb o e =>
              let y := J13.pin (b, o) (List.mem_append_right _ (List.mem_append_right _ (mem_pinsAt hb e)))
              ⟨y.1, y.2.1⟩
            refine ⟨m', hm, i + 1, H12, (J13.unpinned (pins := [])).weak (hl8.trans (wipe_length σ8 vs1).symm) hk9, T.keep _ _ _ st7 fun b hb o e => (pin' b hb o e).1, fun b hb => ?_, w'⟩
            obtain ⟨o, eo, _⟩ := T.obj _ _ st7 b hb
            exact (pin' b hb o eo).2
          · refine thnF (T1.item (X.blk z3 H3 sc ce fp) rfl rfl rfl hc j _ z12 (wipe σ8 vs1) H12 (fun _ _ => False) J12 (stat1 n12) st12 go1) fun r z13 ⟨u1, hr, h13⟩ => ?_
            subst hr
            refine thnF h13 fun _ z14 ⟨x1, H14, J14, r14, y14, st14, n14⟩ => ?_
            have J14' := J14.pinned (stat1 n14) (T1.obj _ _ st14)
            refine thnF (pg1.run _ z14 (wipe σ8 vs1) H14 x1 u1 _ J14' r14 (more1 x1 H14 y14)) fun _ z15 ⟨σ15, H15, J15, hw15, q15⟩ => ?_
            refine thnF (pe.run _ z15 σ15 H15 _ J15 q15) fun vv z17 ⟨yv, H17, J17, r17, key, L, ey, hS17, hroom, ny⟩ => ?_
            subst ey
            obtain ⟨tk, rfl⟩ := (show ∃ t, vv = Value.str key t from r17)
            refine txt_into (X := X.blk z3 H3 sc ce fp) J17 hS17 hroom fun z18 J18 => ?_
            obtain ⟨m', hm, w'⟩ := hNy _ ny
            have pin' : ∀ b ∈ fp1, ∀ o, z14.heap.get? b = some o → z18.heap.get? b = some o ∧ (upd H17 S (SetTO X.w S (ins L key))) b = none := fun b hb o e =>
              let y := J18.pin (b, o) (List.mem_append_right _ (List.mem_append_right _ (mem_pinsAt hb e)))
              ⟨y.1, y.2.1⟩
            refine ⟨m', hm, j + 1, _, J18.unpinned.weak (by rw [← hw15, wipe_length]) (fun j v e => by rw [← hw15] at e; exact (wipe_some e).1), T1.keep _ _ _ st14 fun b hb o e => (pin' b hb o e).1, fun b hb => ?_, w'⟩
            obtain ⟨o, eo, _⟩ := T1.obj _ _ st14 b hb
            exact (pin' b hb o eo).2
        exact start_inner loop1 (T1.self X.A 0 _ _ _ st11 loop1)
    exact PpSet.codeAny_compStart_set loop (T.self X.A 0 _ _ _ st4 loop)
  exact goal
theorem pe_sc2 {e t0 i0 t1 i1 : Expr} {sc : Scope} {mine : List (Str × Nat)} {vs1 : List Nat} {at_ : Pos} {wi wi1 : TI} {g g1 : TG} {te : TE} (hc : X.calm = true) (hN : X.N.Nodup) (hi : PI X t0 i0 wi) (ok : BlkOk X.N X.env.scope sc mine) (hv : ∀ i ∈ vs1, i ∈ mine.map (·.2))
    (hg : ∀ (s : Shared) (H : Hp) (C : Addr) (cl : List (Str × Addr)) (fp : List Addr), PG (X.blk s H sc (compEnvC sc cl C X.env) fp) t0 g)
    (hi1 : ∀ (s : Shared) (H : Hp) (C : Addr) (cl : List (Str × Addr)) (fp : List Addr), PI (X.blk s H sc (compEnvC sc cl C X.env) fp) t1 i1 wi1)
    (hg1 : ∀ (s : Shared) (H : Hp) (C : Addr) (cl : List (Str × Addr)) (fp : List Addr), PG (X.blk s H sc (compEnvC sc cl C X.env) fp) t1 g1)
    (he : ∀ (s : Shared) (H : Hp) (C : Addr) (cl : List (Str × Addr)) (fp : List Addr), PE (X.blk s H sc (compEnvC sc cl C X.env) fp) e te) (hs : ∀ x, foldedSetIterable i0 X.env x = pure x := by intro _; rfl) (hs1 : ∀ env x, foldedSetIterable i1 env x = pure x := by intro _ _; rfl) :
    PE X (.SetComp e [⟨t0, i0, [], 0⟩, ⟨t1, i1, [], 0⟩] sc at_) (tSc2 X.w wi g wi1 g1 te (mine.map (·.2)) vs1) := by
  refine ⟨fun pins z σ H Q J h => ?_⟩
  rw [PpSet.eval_SetComp]
  refine sc2_core hc hN J hi ok hv hg he hs hi1 hg1 hs1 h fun S C y m H' J' q hn f => ⟨m, hn, fun h'' sb => ?_⟩
  obtain ⟨f0, f1, f2, f3, f4, f5⟩ := f
  exact ⟨.ref S, H', J'.turned (t' := y.toks) (fun b o hb e => (sb.2 b hb).trans e) f0 f1 f3 f4 f5, rfl, q⟩
end
end TxSet
set_option Elab.async false
set_option linter.all false
set_option maxRecDepth 100000
set_option maxHeartbeats 4000000
namespace FLen
open PySem PySem.Spec PyProof.Rows L2
section
variable {prog : Program} {w : World} {A : Around} {E : Value → Shared → Prop} {s : Shared} {K : PySem.W.Frag} {x C f : Addr} {ox : Obj} {odd : Option Obj}
/-- len(x), x of an own class with its own __len__ -/
theorem len_own {Q : Value → Shared → Prop} (X : K.In s.heap) (I : PySem.W.InstAt s.heap x ox C odd) (hs : PySem.W.findIn K (.ref C) "__len__" = some (some (.ref f))) (hf : PySem.W.isFn K (.ref f) = true)
    (h : wpAny (model prog w) A.in1 (call (.ref f) [.ref x]) (fun r s₁ => ∃ (n : Nat) (u : Tok), r = Value.int (n : Int) u ∧ (n : Int) < 2 ^ 63 ∧ ∀ t tk, Q (.int (n : Int) t) { s₁ with toks := tk }) E s) : wpAny (model prog w) A (call (.builtin "len") [.ref x]) Q E s := by
  refine Calls.call_function_entry kind_len plain_len entry_len (args_len1 _) ?_
  unfold Builtin.«len»
  refine wpAny_bind (m := oneArg "len" _) (wpAny_pure ?_)
  refine wpAny_bind (m := callSpecial? (.ref x) (PySem.Str.ofString "__len__")) (PySem.W.special_fn X I hs (beq_iff_eq.mp hf) (wpAny_mono h (fun r s' hr => ?_) fun _ _ y => y))
  obtain ⟨n, u, rfl, hn, hq⟩ := hr
  refine wpAny_bind (wpAny_holding (wpAny_pure ?_))
  refine wpAny_bind (wpAny_letGo ?_)
  show wpAny _ _ (if ((n : Nat) : Int) < 0 then _ else _) _ _ _
  rw [if_neg (by omega)]
  show wpAny _ _ (if ((n : Nat) : Int) ≥ 2 ^ 63 then _ else _) _ _ _
  rw [if_neg (by omega)]
  exact wpAny_bind (wpAny_mkInt (wpAny_pure ⟨_, rfl, hq _ _⟩))
end
/-- len of an instance: what its own __len__ promises -/
def rLenOwn (C : Addr) (sp : Sp) (E : XK) : List V → Hp → VK → Prop := fun xs H Q => ∃ a dx fs, xs = [V.ref a] ∧ H a = some (.ins C dx fs) ∧ sp [.ref a] H (fun z H' => ∃ n : Nat, z = .int (n : Int) ∧ (n : Int) < 2 ^ 63 ∧ Q z H') E
section
variable {X : Cx} {CX : CXT} {n : Nat} {g C : Addr} {sp : Sp} {E : XK}
theorem call_lenOwn (hs : PySem.W.findIn X.K (.ref C) "__len__" = some (some (.ref g))) (hf : PySem.W.isFn X.K (.ref g) = true) (F : FnR X.prog X.w X.K X.mg X.base CX n g sp) (hr : Room (n + 1) X.A) (hx : Passes CX X E) : CallR X (.builtin "len") (rLenOwn C sp E) := by
  intro pins s σ H xs us Q I r h
  obtain ⟨a, dx, fs, rfl, ha, q⟩ := h
  obtain ⟨u, rfl, ru⟩ := r.one
  cases (show u = Value.ref a from ru)
  obtain ⟨mA, O, _, _, _, _⟩ := ins_get I.hok ha
  obtain ⟨od, J, _⟩ := O.look
  have hr1 : Room n X.A.in1 := hr.in1
  refine len_own I.kIn J hs hf (wpAny_mono (wpAny_call (SlX.run_at (us := [.ref a]) (ws := [.ref a]) F hr1 I.env0.in1 hx I (.cons rfl .nil) q)) (fun w s' z => ?_) fun _ _ x => x)
  obtain ⟨z', H', I', rz, m, ez, hm, qz⟩ := z
  subst ez
  obtain ⟨t, e⟩ := (show ∃ t, w = Value.int (m : Int) t from rz)
  cases e
  exact ⟨m, t, rfl, hm, fun t tk => ⟨.int (m : Int), H', I'.tok _, ⟨t, rfl⟩, qz⟩⟩
end
/-- o.m(k = v, ..): no value by place -/
def tMethK (C : Addr) (m : Str) (sp : Sp) (gV : List V → List V → List V) (E : XK) (ta : TE) (tk : TA) : TE := fun σ H Q => ta σ H fun x H1 => ∃ a dx fs, x = .ref a ∧ H1 a = some (.ins C dx fs) ∧ fs.lookup m = none ∧ tk σ H1 fun zs H2 => sp (gV [x] zs) H2 Q E
section
variable {X : Cx} {CX : CXT} {k : Nat} {f C : Addr} {fd : FuncData} {ps ks : List Str} {sp : Sp} {E : XK} {m : Str} {pos apos : Pos} {o : Expr} {kws : List Keyword} {ta : TE} {tk : TA} {g : List Value → List Value → List Value} {gV : List V → List V → List V}
theorem pe_methK {pl : Sem Bool} (he : PE X o ta) (c : Cls X.K C) (hm : Meth X.K C m f) (F : FnOk X.prog X.w X.K X.mg X.base CX k f fd ps sp) (hr : Room k X.A) (hb : KBinds X.K fd ps ks g gV) (hx : Passes CX X E) (hkw : PK X kws tk)
    (hall : (backToKw pos (keywordEach kws X.env)).all (·.1.isSome) = true := by rfl) (hks : (backToKw pos (keywordEach kws X.env)).filterMap (·.1) = ks := by rfl)
    (hpl : ((backTo pos (starEach [] X.env)).any (·.1) || (backToKw pos (keywordEach kws X.env)).any (·.1.isNone)) = false := by rfl)
    (ht : eval (.Call (.Attribute o m apos) [] kws pos) X.env = (do
      let ov ← eval o X.env
      standAt apos.atName
      let (f, first) ← holding [ov] (getMethod ov m pl)
      callWith pos f first (backTo pos (starEach [] X.env)) (backToKw pos (keywordEach kws X.env))) := by rfl) :
    PE X (.Call (.Attribute o m apos) [] kws pos) (tMethK C m sp gV E ta tk) := by
  refine ⟨fun pins s σ H Q I h => ?_⟩
  refine PySem.W.methodCall_KW (pl := pl) (thn (he.run pins s σ H _ I h) fun u s1 ⟨x, H1, I1, rx, a, dx, fs, ex, ea, l, q⟩ => ?_) ht
  subst ex
  obtain rfl : u = Value.ref a := rx
  refine getmeth_ok I1 ea c hm l ?_
  refine PySem.W.callWith_KW0 (first := [.ref a]) (h₀ := X.base) I.ok.mod.kin hm.kp hall ?_ hpl
  refine thn (hkw.run pos pins s1 σ H1 _ I1 q) fun ws s2 ⟨zs, H2, I2, rz, q2⟩ => ⟨I2.kIn, ?_⟩
  rw [hks]
  exact run_fnk (us := [.ref a]) (vs := [.ref a]) F hr hb hx I2 (.cons rfl .nil) rz q2
end
end FLen
set_option Elab.async false
set_option linter.all false
set_option maxRecDepth 100000
set_option maxHeartbeats 2000000
namespace K02
open PySem L2 PyProof.Rows
def top (i : Nat) : Stmt := PySem.Challenge.pw_partedvalues_k58_without_and_exchanged.main.body.getD i (.Pass ⟨0, 0, 0, 0⟩)
abbrev sFresh : Stmt := top 1
abbrev sEntries : Stmt := top 15
abbrev sWithin : Stmt := top 16
abbrev sNamesOf : Stmt := top 17
abbrev sPoS : Stmt := top 18
abbrev sNoS : Stmt := top 19
abbrev sFilled : Stmt := top 26
abbrev sCkName : Stmt := top 27
abbrev sCkOpt : Stmt := top 28
abbrev sCkTerm : Stmt := top 29
abbrev sCkDef : Stmt := top 30
abbrev sCkPart : Stmt := top 31
abbrev sCkRow : Stmt := top 32
abbrev sCkRec : Stmt := top 33
abbrev sCkStep : Stmt := top 34
abbrev sCkRules : Stmt := top 35
abbrev sPattern : Stmt := top 37
abbrev sPurse : Stmt := top 39
abbrev sCoin : Stmt := top 40
abbrev sMark : Stmt := top 41
abbrev sCopied : Stmt := top 42
abbrev sSame : Stmt := top 43
abbrev sBound : Stmt := top 44
abbrev sTerm : Stmt := top 45
abbrev sPart : Stmt := top 46
abbrev sStems : Stmt := top 47
abbrev sPlan : Stmt := top 48
abbrev sTpParts : Stmt := top 49
abbrev sMade : Stmt := top 50
abbrev sTpNames : Stmt := top 51
abbrev sTells : Stmt := top 52
abbrev sDeriv : Stmt := top 53
abbrev sRight : Stmt := top 54
abbrev sLaw : Stmt := top 55
/-! ### heaps -/
/-- what was tracked stands, but at p -/
def But (p : Addr) (H H' : Hp) : Prop := ∀ b o, b ≠ p → H b = some o → H' b = some o
theorem But.refl (p : Addr) (H : Hp) : But p H H := fun _ _ _ h => h
theorem But.trans {p : Addr} {H H1 H2 : Hp} (a : But p H H1) (b : But p H1 H2) : But p H H2 := fun c o n h => b c o n (a c o n h)
theorem But.of {p : Addr} {H H' : Hp} (s : Same H H') : But p H H' := fun c o _ h => s c o h
theorem But.upd {p : Addr} {H : Hp} {o : HO} : But p H (upd H p o) := fun c o n h => by
  rw [upd_ne n]
  exact h
theorem But.new {p q : Addr} {H : Hp} {o : HO} (h : H q = none) : But p H (L2.upd H q o) := fun c u _ e => by
  rw [upd_ne (ne_of_none e h)]
  exact e
theorem same_new {H : Hp} {p : Addr} (h : H p = none) (o : HO) : Same H (upd H p o) := fun b u q => by
  rw [upd_ne (ne_of_none q h)]
  exact q
/-- a purse: three numbers, the last one the number of draws -/
def Purse (H : Hp) (p : Addr) (n : Nat) : Prop := ∃ a b c : Int, H p = some (.lst [.int a, .int b, .int c]) ∧ 0 ≤ b ∧ b < 10 ^ 25 ∧ 0 ≤ c ∧ c ≤ (n : Int)
theorem Purse.mono {H : Hp} {p : Addr} {m n : Nat} (h : Purse H p m) (hm : m ≤ n) : Purse H p n := by
  obtain ⟨a, b, c, e, h1, h2, h3, h4⟩ := h
  exact ⟨a, b, c, e, h1, h2, h3, by omega⟩
theorem Purse.same {H H' : Hp} {p : Addr} {n : Nat} (h : Purse H p n) (s : Same H H') : Purse H' p n := by
  obtain ⟨a, b, c, e, r⟩ := h
  exact ⟨a, b, c, s _ _ e, r⟩
theorem Purse.some {H : Hp} {p : Addr} {n : Nat} (h : Purse H p n) : ∃ o, H p = some o := by
  obtain ⟨a, b, c, e, r⟩ := h
  exact ⟨_, e⟩
/-- free behind But is free before (away from p) -/
theorem But.free {p q : Addr} {H H' : Hp} {o : HO} (s : But p H H') (hp : H p = some o) (hp' : ∃ o', H' p = some o') (h : H' q = none) : H q = none := by
  cases e : H q with
  | none => rfl
  | some u =>
    by_cases hq : q = p
    · obtain ⟨o', ho'⟩ := hp'
      rw [hq, ho'] at h
      cases h
    · rw [s q u hq e] at h
      cases h

theorem at3_0 {x y z : V} : atI [x, y, z] 0 = some x := atI_nat (j := 0) rfl
theorem at3_1 {x y z : V} : atI [x, y, z] 1 = some y := atI_nat (j := 1) rfl
theorem at3_2 {x y z : V} : atI [x, y, z] 2 = some z := atI_nat (j := 2) rfl
theorem pos_nat {a b : Int} {n : Nat} (h0 : 0 ≤ a) (h : a < b) (hb : b.toNat ≤ n) : a.natAbs < n := by omega
/-! ### the promises -/
def spPurse (K : PySem.W.Frag) : Sp := fun vs H Q _ => ∃ (a : Addr) (ns : List Int) (i : Nat), vs = [.ref a, .int (i : Int)] ∧ SqL K H a (ns.map V.int) ∧ ns.length ≤ 63 ∧ i ≤ 100 ∧
  ∀ p H', H p = none → Same H H' → Purse H' p 0 → Q (.ref p) H'
def spCoin : Sp := fun vs H Q _ => ∃ (p : Addr) (m : Int) (n : Nat), vs = [.ref p, .int m] ∧ Purse H p n ∧ n < 10 ^ 60 ∧ 0 < m ∧ m ≤ 10 ^ 12 ∧
  ∀ d H', 0 ≤ d → d < m → But p H H' → Purse H' p (n + 1) → Q (.int d) H'
structure Txt (K : PySem.W.Frag) (mg : Str → Option Value) : Prop where
  len : mg "len" = none
  max : mg "max" = none
  min : mg "min" = none
  abs : mg "abs" = none
  int : mg "int" = none
  range : mg "range" = none
  set : mg "set" = none
  list : mg "list" = none
  tuple : mg "tuple" = none
  all : mg "all" = none
  repr : mg "repr" = none
  isi : mg "isinstance" = none
section
variable {P : Program} {w : World} {K : PySem.W.Frag} {mg : Str → Option Value} {base : Heap}
theorem scP : FnScope ["script", "place", "cell"] ["script", "place"] (defScope sPurse) := ⟨rfl, rfl, rfl, by decide +kernel, rfl, by decide +kernel, by decide +kernel⟩
theorem ok_purse {f : Addr} {fd : FuncData} (F : Fun K "_law_purse" "_law_purse" sPurse f fd) (T : Txt K mg) : FnOk P w K mg base CX0 1 f fd ["script", "place"] (spPurse K) := by
  refine F.ok scP (fun vs H Q E h => ?_) (fun cdv A outer s H vs Q E hr h => ?_)
  · obtain ⟨a, ns, i, rfl, _⟩ := h
    rfl
  obtain ⟨a, ns, i, rfl, hS, hl, hi, k⟩ := h
  refine ⟨_, Evl.pss_cut (ps_set (i := 2) scP.nd rfl (Or.inl rfl) (pe_ifExp (pt_cmpR op_lt (pv 1) (pe_callB call_len_seq (by rfl) T.len PySem.boot_len (pa_cons (pv 0) pa_nil)) (nomark _)) (pe_ix ix_list (pv 0) (pv 1) (fun _ _ => rfl)) pe_int))
    (pss_one (ps_ret (pe_lst (pa_cons (pe_callB (call_max2 rfl) (by rfl) T.max boot_max (pa_cons pe_int (pa_cons (pe_op op_sub (pe_callB call_abs (by rfl) T.abs boot_abs (pa_cons (pv 2) pa_nil)) (pe_op op_pow pe_int pe_int)) pa_nil)))
      (pa_cons (pe_op op_mod (pe_callTy call_int1 (by rfl) T.int boot_int (pa_cons (pe_op op_add (pe_op op_add (pe_op op_mul (pv 2) pe_int) (pe_op op_mul (pv 1) pe_int)) pe_int) pa_nil)) (pe_op op_add (pe_op op_pow pe_int pe_int) pe_int))
      (pa_cons pe_int pa_nil)))))), ?_⟩
  refine ⟨fun σ' H' => H' = H ∧ ∃ c : Int, σ' = [some (.ref a), some (.int (i : Int)), some (.int c)], ?_, ?_⟩
  · refine ⟨_, rfl, _, rfl, a, _, rfl, .inl hS, _, _, rfl, rfl, _, rfl, ?_⟩
    refine ite2 (fun c => ?_) (fun c => ⟨rfl, 0, rfl⟩)
    have c' : (i : Int) < (((ns.map V.int).length : Nat) : Int) := of_decide_eq_true c
    rw [List.length_map] at c'
    have hi' : i < ns.length := by omega
    refine ⟨_, rfl, _, rfl, a, _, _, _, rfl, rfl, hS, atI_nat (v := .int ns[i]) (by rw [List.getElem?_map, List.getElem?_eq_getElem hi']; rfl), ?_⟩
    exact ⟨rfl, _, rfl⟩
  · rintro σ' H' ⟨rfl, c, rfl⟩
    refine ⟨_, rfl, _, rfl, _, _, rfl, rfl, ⟨by decide, by decide, by decide⟩, _, _, rfl, rfl, _, _, rfl, ?_⟩
    refine ⟨_, rfl, _, _, rfl, rfl, .inr ⟨by decide, by decide⟩, _, rfl, _, _, rfl, rfl, .inr ⟨by decide, by decide⟩, _, _, rfl, rfl, _, _, rfl, rfl, .inl ⟨_, rfl, ?_⟩⟩
    refine ⟨_, _, rfl, rfl, ⟨by decide, by decide, by decide⟩, _, _, rfl, rfl, _, _, rfl, rfl, (by show (0 : Int) < 10 ^ (24 : Nat) + 7; decide), ?_⟩
    refine ⟨(by show 3 ≤ sizeLine; decide), fun p hp => ?_⟩
    refine k p _ hp (same_new hp _) ⟨_, _, _, upd_same, ?_, ?_, Int.le_refl 0, Int.le_refl 0⟩
    · exact Int.emod_nonneg _ (by show (10 ^ (24 : Nat) + 7 : Int) ≠ 0; decide)
    · refine Int.lt_trans (Int.emod_lt_of_pos _ (by show (0 : Int) < 10 ^ (24 : Nat) + 7; decide)) ?_
      show (10 ^ (24 : Nat) + 7 : Int) < 10 ^ 25
      decide
theorem scC : FnScope ["purse", "many", "drawn", "stirred"] ["purse", "many"] (defScope sCoin) := ⟨rfl, rfl, rfl, by decide +kernel, rfl, by decide +kernel, by decide +kernel⟩
theorem ok_coin {f : Addr} {fd : FuncData} (F : Fun K "_law_coin" "_law_coin" sCoin f fd) (T : Txt K mg) : FnOk P w K mg base CX0 1 f fd ["purse", "many"] spCoin := by
  refine F.ok scC (fun vs H Q E h => ?_) (fun cdv A outer s H vs Q E hr h => ?_)
  · obtain ⟨p, m, n, rfl, _⟩ := h
    rfl
  obtain ⟨p, m, n, rfl, ⟨a, b, c, hp, hb0, hb1, hc0, hc1⟩, hn, hm0, hm1, k⟩ := h
  refine ⟨_, pss_cons (ps_if (pt_cmpR op_gt (pe_ix ix_list (pv 0) pe_int (fun _ _ => rfl)) pe_int (nomark _))
      (pss_cons (ps_set (i := 2) scC.nd rfl (Or.inl rfl) (pe_op op_mod (pe_callTy call_int1 (by rfl) T.int boot_int (pa_cons (pe_ix ix_list (pv 0) pe_int (fun _ _ => rfl)) pa_nil)) (pv 1)))
      (pss_cons (ps_asg (pe_op op_fdivW (pe_ix ix_list (pv 0) pe_int (fun _ _ => rfl)) (pv 1)) (pg_sub (pv 0) pe_int set_list))
      (pss_one (ps_ret (pv 2))))) pss_nil)
    (pss_cons (ps_asg (pe_op op_add (pe_ix ix_list (pv 0) pe_int (fun _ _ => rfl)) pe_int) (pg_sub (pv 0) pe_int set_list))
    (pss_cons (ps_set (i := 3) scC.nd rfl (Or.inl rfl) (pe_op op_mod (pe_op op_powW (pe_callTy call_int1 (by rfl) T.int boot_int (pa_cons (pe_op op_add (pe_ix ix_list (pv 0) pe_int (fun _ _ => rfl)) (pe_op op_mul pe_int (pe_ix ix_list (pv 0) pe_int (fun _ _ => rfl)))) pa_nil)) pe_int) (pe_op op_add (pe_op op_pow pe_int pe_int) pe_int)))
    (pss_cons (ps_set (i := 3) scC.nd rfl (Or.inl rfl) (pe_op op_mod (pe_op op_powW (pe_callTy call_int1 (by rfl) T.int boot_int (pa_cons (pe_op op_add (pv 3) (pe_op op_mul pe_int (pe_ix ix_list (pv 0) pe_int (fun _ _ => rfl)))) pa_nil)) pe_int) (pe_op op_add (pe_op op_pow pe_int pe_int) pe_int)))
    (pss_one (ps_ret (pe_op op_mod (pe_callTy call_int1 (by rfl) T.int boot_int (pa_cons (pe_op op_fdivW (pv 3) pe_int) pa_nil)) (pv 1))))))), ?_⟩
  refine ⟨_, rfl, p, _, _, _, rfl, rfl, SqL.of hp, at3_0, _, _, rfl, rfl, _, rfl, ?_⟩
  have m2 : m.natAbs < 2 ^ 50 := Nat.lt_of_le_of_lt (show m.natAbs ≤ 10 ^ 12 by omega) (by decide)
  refine ite2 (fun h1 => ?_) (fun h1 => ?_)
  · refine ⟨_, rfl, p, _, _, _, rfl, rfl, SqL.of hp, at3_0, .inl ⟨_, rfl, _, rfl, _, _, rfl, rfl, hm0, ?_⟩⟩
    refine ⟨_, rfl, p, _, _, _, rfl, rfl, SqL.of hp, at3_0, _, rfl, _, _, rfl, rfl, wide_div hm0 m2 (by decide) (by decide), ?_⟩
    refine ⟨_, rfl, p, _, _, 0, rfl, rfl, hp, rfl, ?_⟩
    refine ⟨_, rfl, k _ _ (Int.emod_nonneg _ (by omega)) (Int.emod_lt_of_pos _ hm0) But.upd ⟨_, _, _, upd_same, hb0, hb1, hc0, by omega⟩⟩
  · have c1 : c + 1 ≤ 10 ^ 60 := by omega
    refine ⟨_, rfl, p, _, _, _, rfl, rfl, SqL.of hp, at3_2, _, _, rfl, rfl, ?_⟩
    refine ⟨_, rfl, p, _, _, 2, rfl, rfl, hp, rfl, ?_⟩
    have hp1 : (upd H p (.lst [.int a, .int b, .int (c + 1)])) p = some (.lst [.int a, .int b, .int (c + 1)]) := upd_same
    refine ⟨_, rfl, p, _, _, _, rfl, rfl, SqL.of hp1, at3_1, _, rfl, p, _, _, _, rfl, rfl, SqL.of hp1, at3_2, ?_⟩
    refine ⟨_, _, rfl, rfl, .inl ⟨by decide, by decide⟩, _, _, rfl, rfl, .inl ⟨_, rfl, _, _, rfl, rfl, ⟨by decide, by decide, ?_⟩, ?_⟩⟩
    · exact Nat.lt_of_lt_of_le (pos_nat (b := 10 ^ 25 + 2038074743 * 10 ^ 60 + 1) (n := 2 ^ 300) (by omega) (by omega) (by decide)) (Nat.pow_le_pow_right (by decide) (by decide))
    refine ⟨_, _, rfl, rfl, ⟨by decide, by decide, by decide⟩, _, _, rfl, rfl, _, _, rfl, rfl, (by show (0 : Int) < 10 ^ (25 : Nat) + 13; decide), ?_⟩
    generalize hd : (b + 2038074743 * (c + 1)) ^ (3 : Int).toNat % (10 ^ (25 : Int).toNat + 13) = d
    have d0 : 0 ≤ d := by
      rw [← hd]
      exact Int.emod_nonneg _ (by decide)
    have d1 : d < 10 ^ 26 := by
      rw [← hd]
      exact Int.lt_trans (Int.emod_lt_of_pos _ (by decide)) (by decide)
    refine ⟨_, rfl, _, rfl, p, _, _, _, rfl, rfl, SqL.of hp1, at3_2, ?_⟩
    refine ⟨_, _, rfl, rfl, .inl ⟨by decide, by decide⟩, _, _, rfl, rfl, .inl ⟨_, rfl, _, _, rfl, rfl, ⟨by decide, by decide, ?_⟩, ?_⟩⟩
    · exact Nat.lt_of_lt_of_le (pos_nat (b := 10 ^ 26 + 982451653 * 10 ^ 60 + 1) (n := 2 ^ 300) (by omega) (by omega) (by decide)) (Nat.pow_le_pow_right (by decide) (by decide))
    refine ⟨_, _, rfl, rfl, ⟨by decide, by decide, by decide⟩, _, _, rfl, rfl, _, _, rfl, rfl, (by show (0 : Int) < 10 ^ (24 : Nat) + 7; decide), ?_⟩
    refine ⟨_, rfl, _, _, rfl, rfl, wide_div (b := 11) (by decide) (by decide) (by decide) (by decide), .inl ⟨_, rfl, _, rfl, _, _, rfl, rfl, hm0, ?_⟩⟩
    exact k _ _ (Int.emod_nonneg _ (by omega)) (Int.emod_lt_of_pos _ hm0) But.upd ⟨_, _, _, upd_same, hb0, hb1, by omega, by omega⟩
end
end K02
set_option Elab.async false
set_option linter.all false
set_option maxRecDepth 100000
set_option maxHeartbeats 4000000
namespace K02
open PySem L2 PyProof.Rows
abbrev nW : List Str := ["purse", "many", "letters", "sort_here", "menu", "stem", "start", "rank", "found", "size", "base", "word", "tail", "at", "turn"]
/-- what stands around: the purse drawn from c times at most, all else kept, a list of texts apart -/
def Around1 (H : Hp) (p : Addr) (c : Nat) (H' : Hp) : Prop := But p H H' ∧ Purse H' p c
theorem Around1.same {H H1 H2 : Hp} {p : Addr} {c : Nat} (h : Around1 H p c H1) (s : Same H1 H2) : Around1 H p c H2 := ⟨h.1.trans (.of s), h.2.same s⟩
theorem Around1.mono {H H1 : Hp} {p : Addr} {c d : Nat} (h : Around1 H p c H1) (hd : c ≤ d) : Around1 H p d H1 := ⟨h.1, h.2.mono hd⟩
theorem Around1.draw {H H1 H2 : Hp} {p : Addr} {c : Nat} (h : Around1 H p c H1) (b : But p H1 H2) (q : Purse H2 p (c + 1)) : Around1 H p (c + 1) H2 := ⟨h.1.trans b, q⟩
theorem Around1.new {H H1 : Hp} {p a : Addr} {c : Nat} {o : HO} (h : Around1 H p c H1) (ha : H1 a = none) : Around1 H p c (upd H1 a o) := h.same (same_new ha o)
theorem Around1.trans {H H1 H2 : Hp} {p : Addr} {c d : Nat} (h : Around1 H p c H1) (k : Around1 H1 p d H2) : Around1 H p d H2 := ⟨h.1.trans k.1, k.2⟩
/-- an object that is not the purse may change -/
theorem Around1.put {H H1 : Hp} {p a : Addr} {c : Nat} {o : HO} (h : Around1 H p c H1) (ha : H a = none) (hp : a ≠ p) : Around1 H p c (upd H1 a o) := by
  refine ⟨fun b u n e => ?_, ?_⟩
  · rw [upd_ne (ne_of_none e ha)]
    exact h.1 b u n e
  · obtain ⟨x, y, z, e, r⟩ := h.2
    exact ⟨x, y, z, by rw [upd_ne hp.symm]; exact e, r⟩
theorem Around1.free {H H1 : Hp} {p a : Addr} {c n : Nat} (h : Around1 H p c H1) (h0 : Purse H p n) (ha : H1 a = none) : H a = none := by
  obtain ⟨o, e⟩ := h0.some
  exact h.1.free e h.2.some ha
theorem Purse.ne {H : Hp} {p a : Addr} {n : Nat} (h : Purse H p n) (ha : H a = none) : a ≠ p := fun e => by
  obtain ⟨o, q⟩ := h.some
  rw [e, q] at ha
  cases ha
/-- small letters alone -/
def ls (z : Str) : Prop := ∀ c ∈ z.cps.toList, 97 ≤ c ∧ c ≤ 122
/-- a name: one to eight small letters -/
def okName (z : Str) : Prop := 1 ≤ z.length ∧ z.length ≤ 8 ∧ ls z
def spWords : Sp := fun vs H Q _ => ∃ (p : Addr) (m n : Nat), vs = [.ref p, .int (m : Int)] ∧ 1 ≤ m ∧ m ≤ 26 ∧ Purse H p n ∧ n + 400 < 10 ^ 60 ∧
  ∀ (r : Addr) (zs : List Str) H', Around1 H p (n + 400) H' → H r = none → H' r = some (.lst (zs.map V.str)) → zs.length = m → zs.Nodup → (∀ z ∈ zs, okName z) → Q (.ref r) H'
abbrev LT : Str := Str.ofString "abcdefghijklmnopqrstuvwxyz"
def menuT : List Str := ["soon", "late", "absent", "nothing", "name", "any", "row", "record", "a", "b", "f", "read", "call", "known"].map Str.ofString
theorem menu_small : ∀ z ∈ menuT, z.length ≤ 8 := by decide +kernel
theorem at_ofN {α : Type} {xs : List α} {z : Int} {j : Nat} {v : α} (e : z = (j : Int)) (h : xs[j]? = some v) : atI xs z = some v := by
  rw [e]
  exact atI_nat h
theorem sum_ones : ∀ {ys : List Str}, (∀ y ∈ ys, y.length = 1) → (ys.map (·.length)).sum = ys.length
  | [], _ => rfl
  | y :: ys, h => by
    rw [List.map_cons, List.sum_cons, sum_ones fun z hz => h z (List.mem_cons_of_mem _ hz), h y List.mem_cons_self, List.length_cons]
    exact Nat.add_comm _ _
theorem join_room {ys : List Str} (h : ∀ y ∈ ys, y.length = 1) (hl : ys.length ≤ 1000) : (ys.map (·.length)).sum + ys.length * (Str.ofString "").length ≤ 16777216 := by
  rw [sum_ones h, show (Str.ofString "").length = 0 by decide]
  omega
theorem lt_all : ∀ r, r < 26 → LT.cps.toList[r]? = some (97 + r) := by decide +kernel
theorem lt_at {d : Int} (h0 : 0 ≤ d) (h1 : d < 26) : atI LT.cps.toList d = some (97 + d.toNat) := at_ofN (show d = ((d.toNat : Nat) : Int) by omega) (lt_all d.toNat (by omega))
theorem ls_one {r : Nat} (h : r < 26) : ls ⟨#[97 + r]⟩ := fun c hc => by
  have e : c = 97 + r := by simpa using hc
  omega
theorem ls_app {x y : Str} (hx : ls x) (hy : ls y) : ls (x ++ y) := fun c hc => by
  have e : (x ++ y).cps.toList = x.cps.toList ++ y.cps.toList := Array.toList_append
  rw [e] at hc
  rcases List.mem_append.mp hc with h | h
  · exact hx c h
  · exact hy c h
theorem ls_cut {z : Str} (h : ls z) (lo hi : Option Int) : ls (cutS z lo hi) := fun c hc => by
  have hc' : c ∈ ((z.cps.toList.drop (HT.sIx z.length 0 lo)).take (HT.sIx z.length z.length hi - HT.sIx z.length 0 lo)).toArray.toList := hc
  rw [List.toList_toArray] at hc'
  exact h c (List.mem_of_mem_drop (List.mem_of_mem_take hc'))
theorem ls_join : ∀ {ys : List Str}, (∀ y ∈ ys, ls y) → ls (Str.join (Str.ofString "") ys)
  | [], _ => fun c hc => by
    have e : (Str.join (Str.ofString "") []).cps.toList = [] := rfl
    rw [e] at hc
    cases hc
  | [x], h => h x List.mem_cons_self
  | x :: y :: r, h => by
    have e0 : ls (Str.ofString "") := fun c hc => by
      have e : (Str.ofString "").cps.toList = [] := by decide +kernel
      rw [e] at hc
      cases hc
    show ls (x ++ Str.ofString "" ++ Str.join (Str.ofString "") (y :: r))
    exact ls_app (ls_app (h x List.mem_cons_self) e0) (ls_join fun z hz => h z (List.mem_cons_of_mem _ hz))
theorem ls_joinT {ys : List Str} (h : ∀ y ∈ ys, ls y) : ls (Txt.join (Str.ofString "") ys) := by
  have e : Txt.join (Str.ofString "") ys = Str.join (Str.ofString "") ys := StrLaws.glued_eq_join _ _
  rw [e]
  exact ls_join h
theorem cut_pre {z : Str} {k : Int} {n : Nat} (e : k = (n : Int)) : (cutS z none (some k)).length = min n z.length ∧ (cutS z none (some k)).cps.toList = z.cps.toList.take n := by
  subst e
  have e1 : (cutS z none (some (n : Int))).cps.toList = z.cps.toList.take n := by
    show ((z.cps.toList.drop (HT.sIx z.length 0 none)).take (HT.sIx z.length z.length (some (n : Int)) - HT.sIx z.length 0 none)).toArray.toList = _
    rw [HT.sIx_none, HT.sIx_nat, List.drop_zero, Nat.sub_zero, List.toList_toArray]
    rcases Nat.le_total n z.length with h | h
    · rw [Nat.min_eq_left h]
    · rw [Nat.min_eq_right h]
      have hz : z.length = z.cps.toList.length := rfl
      rw [List.take_of_length_le (by rw [hz]; exact Nat.le_refl _), List.take_of_length_le (by rw [← hz]; exact h)]
  refine ⟨?_, e1⟩
  show (cutS z none (some (n : Int))).cps.toList.length = _
  rw [e1, List.length_take]
  rfl
theorem cut_post {z : Str} {k : Int} {n : Nat} (e : k = (n : Int)) (hn : n ≤ z.length) : (cutS z (some k) none).cps.toList = z.cps.toList.drop n := by
  subst e
  show ((z.cps.toList.drop (HT.sIx z.length 0 (some (n : Int)))).take (HT.sIx z.length z.length none - HT.sIx z.length 0 (some (n : Int)))).toArray.toList = _
  rw [HT.sIx_none, HT.sIx_nat, List.toList_toArray, Nat.min_eq_left hn]
  refine List.take_of_length_le ?_
  rw [List.length_drop]
  exact Nat.le_refl _
theorem nodup_map {f : Nat → Str} {m : Nat} (h : ∀ i j, i < m → j < m → f i = f j → i = j) : ((List.range m).map f).Nodup := by
  rw [List.nodup_iff_pairwise_ne, List.pairwise_map]
  refine List.Pairwise.imp_of_mem (fun {a b} ha hb hab e => ?_) (List.nodup_iff_pairwise_ne.mp (List.nodup_range (n := m)))
  exact hab (h a b (List.mem_range.mp ha) (List.mem_range.mp hb) e)
theorem more_map {H : Hp} {D : Addr} {f : Nat → Str} {i : Nat} {y : V} (e : y = .str (f i)) : (upd H D (.lst (((List.range i).map f).map V.str ++ [y]))) D = some (.lst (((List.range (i + 1)).map f).map V.str)) := by
  rw [upd_same, e, List.range_succ, List.map_append, List.map_append]
  rfl
theorem room_map {f : Nat → Str} {i : Nat} (h : i ≤ 1000) : (((List.range i).map f).map V.str).length < sizeLine := by
  rw [List.length_map, List.length_map, List.length_range]
  exact Nat.lt_of_le_of_lt h (by decide)
theorem menu_ok : ∀ z ∈ menuT, 1 ≤ z.length ∧ z.length ≤ 8 ∧ z.cps.toList.all (fun c => decide (97 ≤ c ∧ c ≤ 122)) = true := by decide +kernel
theorem menu_name {z : Str} (h : z ∈ menuT) : okName z := by
  obtain ⟨h1, h2, h3⟩ := menu_ok z h
  exact ⟨h1, h2, fun c hc => of_decide_eq_true (List.all_eq_true.mp h3 c hc)⟩
theorem menu_inj : ∀ i, i < 14 → ∀ j, j < 14 → menuT.getD i Str.empty = menuT.getD j Str.empty → i = j := by decide +kernel
theorem menu_at {d : Int} (h0 : 0 ≤ d) (h1 : d < 14) : atI (menuT.map V.str) d = some (.str (menuT.getD d.toNat Str.empty)) ∧ menuT.getD d.toNat Str.empty ∈ menuT := by
  have hl : menuT.length = 14 := rfl
  have hd : d.toNat < menuT.length := by omega
  have e : menuT.getD d.toNat Str.empty = menuT[d.toNat] := by
    rw [List.getD_eq_getElem?_getD, List.getElem?_eq_getElem hd]
    rfl
  refine ⟨at_ofN (show d = ((d.toNat : Nat) : Int) by omega) ?_, by rw [e]; exact List.getElem_mem hd⟩
  rw [List.getElem?_map, List.getElem?_eq_getElem hd, e]
  rfl
theorem same_put {H H' : Hp} {a : Addr} {o : HO} (s : Same H H') (ha : H a = none) : Same H (upd H' a o) := fun b u e => by
  rw [upd_ne (ne_of_none e ha)]
  exact s b u e
/-- one more text behind a list of texts -/
theorem more_str {H : Hp} {D : Addr} {ys : List Str} {z : Str} : (upd H D (.lst (ys.map V.str ++ [.str z]))) D = some (.lst ((ys ++ [z]).map V.str)) := by
  rw [upd_same, List.map_append]
  rfl
theorem all_more {ys : List Str} {z : Str} {n : Nat} (h : ∀ y ∈ ys, y.length ≤ n) (hz : z.length ≤ n) : ∀ y ∈ ys ++ [z], y.length ≤ n := fun y hy => by
  rcases List.mem_append.mp hy with hy | hy
  · exact h y hy
  · rw [List.mem_singleton.mp hy]
    exact hz
theorem len_more {ys : List Str} {z : Str} {i : Nat} (h : ys.length = i) : (ys ++ [z]).length = i + 1 := by
  rw [List.length_append, h]
  rfl
theorem room_more {ys : List Str} {n : Nat} (h : ys.length ≤ n) (hn : n ≤ 1000) : (ys.map V.str).length < sizeLine := by
  rw [List.length_map]
  exact Nat.lt_of_lt_of_le (show ys.length < 1001 by omega) (by decide)
theorem only_one {ys : List Str} (h : ys.length = 1) : ∃ z, ys = [z] := by
  match ys, h with
  | [z], _ => exact ⟨z, rfl⟩
theorem two_at {x y : Str} {d : Int} {n : Nat} (h0 : 0 ≤ d) (h1 : d < 2) (hx : x.length ≤ n) (hy : y.length ≤ n) : ∃ z : Str, atI [V.str x, V.str y] d = some (.str z) ∧ z.length ≤ n := by
  have e : d = ((0 : Nat) : Int) ∨ d = ((1 : Nat) : Int) := by omega
  rcases e with e | e
  · exact ⟨x, at_ofN e rfl, hx⟩
  · exact ⟨y, at_ofN e rfl, hy⟩
theorem cut_one (ys : List Str) : cutV (ys.map V.str) none (some 1) = (ys.take 1).map V.str := by
  have e : cutV (ys.map V.str) none (some ((1 : Nat) : Int)) = (ys.take 1).map V.str := by
    unfold cutV
    rw [HT.sIx_none, HT.sIx_nat, List.drop_zero, Nat.sub_zero, List.map_take]
    cases ys with
    | nil => rfl
    | cons y r => rfl
  exact e
theorem cut_many (ys : List Str) (m : Nat) : cutV (ys.map V.str) none (some (m : Int)) = (ys.take m).map V.str := by
  unfold cutV
  rw [HT.sIx_none, HT.sIx_nat, List.drop_zero, Nat.sub_zero, List.map_take]
  rcases Nat.le_total m (ys.map V.str).length with h | h
  · rw [Nat.min_eq_left h]
  · rw [Nat.min_eq_right h, List.take_of_length_le (Nat.le_refl _), List.take_of_length_le h]
theorem small100 {n : Nat} (h : n ≤ 1000) : n ≤ sizeLine := Nat.le_trans h (by decide)
theorem lst_ne {xs ys : List V} (h : xs ≠ ys) : HO.lst xs ≠ HO.lst ys := fun e => h (HO.lst.inj e)
/-- [letters[_law_coin(purse, 26)] for turn in range(m)], the loop alone -/
theorem letters_go {σ : L2.St} {H0 H : Hp} {p D : Addr} {c m : Nat} {Qd : Hp → Prop} (h0 : ∀ v, ((wipe σ [14]).set 14 (some v))[0]? = some (some (.ref p))) (h2 : ∀ v, ((wipe σ [14]).set 14 (some v))[2]? = some (some (.str LT)))
    (hw : ∀ v, wipe ((wipe σ [14]).set 14 (some v)) [14] = wipe σ [14]) (hA : Around1 H0 p c H) (hc : c + m < 10 ^ 60) (hm : m ≤ 1000) (hD : H D = none)
    (hd : ∀ (ys : List Str) H', Around1 H p (c + m) H' → H' D = some (.lst (ys.map V.str)) → ys.length = m → (∀ y ∈ ys, y.length = 1) → (∀ y ∈ ys, ls y) → Qd H') :
    ∃ W : Nat → Nat → Hp → Prop, (∃ m, W 0 m (upd H D (.lst []))) ∧ ∀ i k H1, W i k H1 →
      ((Itr 0 m).stop i H1 ∧ Qd H1) ∨ ((Itr 0 m).go i H1 ∧ ∃ Nx : Hp → Prop, (∀ H', Nx H' → ∃ m', m' < k ∧ W (i + 1) m' H') ∧ ∀ x H', (Itr 0 m).yld i H1 x H' → gName 14 x (wipe σ [14]) H' fun σ2 H2 => wipe σ2 [14] = wipe σ [14] ∧ tYes σ2 H2 fun b H3 =>
        if b = true then tOp rIxS (tVar 2) (tCall spCoin [] E0 (tCons (tVar 0) (tCons (tC (.int 26)) tNil))) σ2 H3 fun y H4 => ∃ acc, H4 D = some (.lst acc) ∧ acc.length < sizeLine ∧ Nx (upd H4 D (.lst (acc ++ [y]))) else Nx H3) := by
  have hDp : D ≠ p := hA.2.ne hD
  refine lc_range (lo := 0) (n := m) (fun i H' => ∃ ys : List Str, Around1 H p (c + i) H' ∧ H' D = some (.lst (ys.map V.str)) ∧ ys.length = i ∧ (∀ y ∈ ys, y.length = 1) ∧ ∀ y ∈ ys, ls y)
    ⟨[], ⟨.of (same_new hD _), hA.2.same (same_new hD _)⟩, upd_same, rfl, (fun _ h => nomatch h), fun _ h => nomatch h⟩ ?_ ?_
  · rintro i H1 hi ⟨ys, hA1, hD1, hl, h1, hs1⟩
    refine ⟨hw _, ?_⟩
    show tOp rIxS (tVar 2) (tCall spCoin [] E0 (tCons (tVar 0) (tCons (tC (.int 26)) tNil))) _ H1 _
    refine ⟨_, h2 _, _, h0 _, p, 26, c + i, rfl, hA1.2, by omega, by decide, by decide, fun d H2 d0 d1 hb hp2 => ?_⟩
    refine ⟨LT, d, _, rfl, rfl, by decide +kernel, lt_at d0 d1, ?_⟩
    have hD2 : H2 D = some (.lst (ys.map V.str)) := hb _ _ hDp hD1
    refine ⟨_, hD2, by rw [List.length_map]; exact Nat.lt_of_lt_of_le (show ys.length < 1000 by omega) (by decide), ys ++ [⟨#[97 + d.toNat]⟩], ?_, ?_, ?_, ?_, ?_⟩
    · exact (hA1.draw hb hp2).put hD hDp
    · rw [upd_same, List.map_append]
      rfl
    · rw [List.length_append, hl]
      rfl
    · intro y hy
      rcases List.mem_append.mp hy with hy | hy
      · exact h1 y hy
      · rw [List.mem_singleton.mp hy]
        rfl
    · intro y hy
      rcases List.mem_append.mp hy with hy | hy
      · exact hs1 y hy
      · rw [List.mem_singleton.mp hy]
        exact ls_one (by omega)
  · rintro H1 ⟨ys, hA1, hD1, hl, h1, hs1⟩
    exact hd ys H1 hA1 hD1 hl h1 hs1
end K02
set_option Elab.async false
set_option linter.all false
set_option maxRecDepth 100000
set_option maxHeartbeats 4000000
namespace K02
open PySem L2 PyProof.Rows
/-! ### data, apart from where it lies -/
inductive D where
  | leaf (v : V)
  | lst (ds : List D)
  | tup (ds : List D)
def Leaf (v : V) : Prop := v = .non ∨ (∃ b, v = .bl b) ∨ (∃ i, v = .int i) ∨ ∃ z, v = .str z
/-- depth and width -/
def Fits (c : Nat) : Nat → D → Prop
  | 0, d => ∃ v, d = .leaf v
  | _ + 1, .leaf _ => True
  | n + 1, .lst ds => ds.length ≤ c ∧ ∀ d ∈ ds, Fits c n d
  | n + 1, .tup ds => ds.length ≤ c ∧ ∀ d ∈ ds, Fits c n d
theorem Fits.leaf {c n : Nat} {v : V} : Fits c n (.leaf v) := by
  cases n with
  | zero => exact ⟨v, rfl⟩
  | succ n => trivial
mutual
/-- v is d in the heap; the lists of it stand at F, each in one place -/
def Rep (H : Hp) : D → V → List Addr → Prop
  | .leaf w, u, F => u = w ∧ Leaf w ∧ F = []
  | .lst ds, u, F => ∃ a xs G, u = .ref a ∧ H a = some (.lst xs) ∧ Reps H ds xs G ∧ a ∉ G ∧ F = a :: G
  | .tup ds, u, F => ∃ a xs, u = .ref a ∧ H a = some (.tup xs) ∧ Reps H ds xs F
def Reps (H : Hp) : List D → List V → List Addr → Prop
  | [], xs, F => xs = [] ∧ F = []
  | d :: ds, xs, F => ∃ x ys F1 F2, xs = x :: ys ∧ Rep H d x F1 ∧ Reps H ds ys F2 ∧ (∀ a ∈ F1, a ∉ F2) ∧ F = F1 ++ F2
end
/-- lists of S may change; all else that was tracked stands -/
def Kp (S : Addr → Prop) (H H' : Hp) : Prop := ∀ b o, H b = some o → (¬ S b ∨ ∀ xs, o ≠ HO.lst xs) → H' b = some o
section
variable {S T : Addr → Prop} {H H1 H2 : Hp}
theorem Kp.same (s : Same H H1) : Kp S H H1 := fun b o e _ => s b o e
theorem Kp.trans (h : Kp S H H1) (k : Kp S H1 H2) : Kp S H H2 := fun b o e n => k b o (h b o e n) n
theorem Kp.wide (h : Kp S H H1) (hs : ∀ a, S a → T a) : Kp T H H1 := fun b o e n => h b o e (n.imp (fun z y => z (hs b y)) id)
theorem Kp.toSame (h : Kp S H H1) (hs : ∀ a, S a → H a = none) : Same H H1 := fun b o e => h b o e (.inl fun z => by
  rw [hs b z] at e
  cases e)
theorem Kp.set {a : Addr} {xs ys : List V} (ha : H a = some (.lst xs)) (hs : S a) : Kp S H (upd H a (.lst ys)) := fun b o e n => by
  by_cases hb : b = a
  · subst hb
    rw [ha] at e
    rcases n with n | n
    · exact absurd hs n
    · exact absurd (Option.some.inj e).symm (n xs)
  · rw [upd_ne hb]
    exact e
theorem Kp.new {a : Addr} {o : HO} (ha : H a = none) : Kp S H (upd H a o) := .same (same_new ha o)
/-- a new object may change behind -/
theorem Kp.put {a : Addr} {o : HO} (h : Kp S H H1) (ha : H a = none) : Kp S H (upd H1 a o) := fun b u e n => by
  rw [upd_ne (ne_of_none e ha)]
  exact h b u e n
theorem Kp.there (h : Kp S H H1) {b : Addr} {o : HO} (e : H b = some o) (n : ∀ xs, o ≠ HO.lst xs) : H1 b = some o := h b o e (.inr n)
end
mutual
theorem Rep.kp {S : Addr → Prop} {H H1 : Hp} (k : Kp S H H1) : ∀ {d : D} {v : V} {F : List Addr}, Rep H d v F → (∀ a ∈ F, ¬ S a) → Rep H1 d v F
  | .leaf w, u, F, h, _ => h
  | .lst ds, u, F, h, n => by
    obtain ⟨a, xs, G, e, ha, hr, hn, rfl⟩ := h
    exact ⟨a, xs, G, e, k _ _ ha (.inl (n a List.mem_cons_self)), Reps.kp k hr fun b hb => n b (List.mem_cons_of_mem _ hb), hn, rfl⟩
  | .tup ds, u, F, h, n => by
    obtain ⟨a, xs, e, ha, hr⟩ := h
    exact ⟨a, xs, e, k _ _ ha (.inr fun _ z => nomatch z), Reps.kp k hr n⟩
theorem Reps.kp {S : Addr → Prop} {H H1 : Hp} (k : Kp S H H1) : ∀ {ds : List D} {xs : List V} {F : List Addr}, Reps H ds xs F → (∀ a ∈ F, ¬ S a) → Reps H1 ds xs F
  | [], xs, F, h, _ => h
  | d :: ds, xs, F, h, n => by
    obtain ⟨x, ys, F1, F2, e, h1, h2, hd, rfl⟩ := h
    exact ⟨x, ys, F1, F2, e, Rep.kp k h1 fun a ha => n a (List.mem_append_left _ ha), Reps.kp k h2 fun a ha => n a (List.mem_append_right _ ha), hd, rfl⟩
end
theorem Rep.same {H H1 : Hp} {d : D} {v : V} {F : List Addr} (h : Rep H d v F) (s : Same H H1) : Rep H1 d v F := h.kp (S := fun _ => False) (.same s) fun _ _ z => z
theorem Reps.same {H H1 : Hp} {ds : List D} {xs : List V} {F : List Addr} (h : Reps H ds xs F) (s : Same H H1) : Reps H1 ds xs F := Reps.kp (S := fun _ => False) (.same s) h fun _ _ z => z
mutual
/-- where its lists stand something stands -/
theorem Rep.at_ {H : Hp} : ∀ {d : D} {v : V} {F : List Addr}, Rep H d v F → ∀ a ∈ F, ∃ xs, H a = some (.lst xs)
  | .leaf w, u, F, h, a, ha => by
    obtain ⟨_, _, rfl⟩ := h
    cases ha
  | .lst ds, u, F, h, a, ha => by
    obtain ⟨b, xs, G, e, hb, hr, hn, rfl⟩ := h
    rcases List.mem_cons.mp ha with z | z
    · exact ⟨xs, z ▸ hb⟩
    · exact Reps.at_ hr a z
  | .tup ds, u, F, h, a, ha => by
    obtain ⟨b, xs, e, hb, hr⟩ := h
    exact Reps.at_ hr a ha
theorem Reps.at_ {H : Hp} : ∀ {ds : List D} {xs : List V} {F : List Addr}, Reps H ds xs F → ∀ a ∈ F, ∃ xs, H a = some (.lst xs)
  | [], xs, F, h, a, ha => by
    obtain ⟨_, rfl⟩ := h
    cases ha
  | d :: ds, xs, F, h, a, ha => by
    obtain ⟨x, ys, F1, F2, e, h1, h2, hd, rfl⟩ := h
    rcases List.mem_append.mp ha with z | z
    · exact Rep.at_ h1 a z
    · exact Reps.at_ h2 a z
end
theorem Reps.len {H : Hp} : ∀ {ds : List D} {xs : List V} {F : List Addr}, Reps H ds xs F → xs.length = ds.length
  | [], xs, F, h => by
    obtain ⟨rfl, _⟩ := h
    rfl
  | d :: ds, xs, F, h => by
    obtain ⟨x, ys, F1, F2, rfl, h1, h2, hd, rfl⟩ := h
    rw [List.length_cons, List.length_cons, h2.len]
/-- the item at a place, and what a change of it makes of the whole -/
theorem Reps.item {H : Hp} : ∀ {ds : List D} {xs : List V} {F : List Addr} {i : Nat} {x : V}, Reps H ds xs F → xs[i]? = some x →
    ∃ d G, ds[i]? = some d ∧ Rep H d x G ∧ (∀ a ∈ G, a ∈ F) ∧ ∀ (t : Addr) (H1 : Hp) (d' : D), t ∉ F → Kp (fun a => a ∈ G ∨ a = t) H H1 → Rep H1 d' x G → Reps H1 (ds.set i d') xs F
  | [], xs, F, i, x, h, e => by
    obtain ⟨rfl, _⟩ := h
    simp at e
  | d :: ds, xs, F, 0, x, h, e => by
    obtain ⟨y, ys, F1, F2, rfl, h1, h2, hd, rfl⟩ := h
    have ey : y = x := Option.some.inj e
    subst ey
    refine ⟨d, F1, rfl, h1, fun a ha => List.mem_append_left _ ha, fun t H1 d' ht k hr => ⟨y, ys, F1, F2, rfl, hr, h2.kp k (fun a ha z => ?_), hd, rfl⟩⟩
    rcases z with z | z
    · exact hd a z ha
    · exact ht (z ▸ List.mem_append_right _ ha)
  | d :: ds, xs, F, i + 1, x, h, e => by
    obtain ⟨y, ys, F1, F2, rfl, h1, h2, hd, rfl⟩ := h
    have e' : ys[i]? = some x := e
    obtain ⟨d0, G, e1, hr, hG, hset⟩ := Reps.item h2 e'
    refine ⟨d0, G, e1, hr, fun a ha => List.mem_append_right _ (hG a ha), fun t H1 d' ht k hr' => ⟨y, ys, F1, F2, rfl, h1.kp k (fun a ha z => ?_), hset t H1 d' (fun z => ht (List.mem_append_right _ z)) k hr', hd, rfl⟩⟩
    rcases z with z | z
    · exact hd a ha (hG a z)
    · exact ht (z ▸ List.mem_append_left _ ha)
/-- one more behind -/
theorem Reps.snoc {H : Hp} : ∀ {ds : List D} {xs : List V} {F G : List Addr} {d : D} {x : V}, Reps H ds xs F → Rep H d x G → (∀ a ∈ F, a ∉ G) → Reps H (ds ++ [d]) (xs ++ [x]) (F ++ G)
  | [], xs, F, G, d, x, h, hr, hn => by
    obtain ⟨rfl, rfl⟩ := h
    exact ⟨x, [], G, [], rfl, hr, ⟨rfl, rfl⟩, (fun _ _ z => nomatch z), by rw [List.append_nil]; rfl⟩
  | d0 :: ds, xs, F, G, d, x, h, hr, hn => by
    obtain ⟨y, ys, F1, F2, rfl, h1, h2, hd, rfl⟩ := h
    refine ⟨y, ys ++ [x], F1, F2 ++ G, rfl, h1, Reps.snoc h2 hr (fun a ha => hn a (List.mem_append_right _ ha)), fun a ha z => ?_, by rw [List.append_assoc]⟩
    rcases List.mem_append.mp z with z | z
    · exact hd a ha z
    · exact hn a (List.mem_append_left _ ha) z
/-! ### the marks -/
mutual
def mark : D → Int → D × Int
  | .leaf v, k => (.leaf v, k + 1)
  | .lst ds, k => (.lst ((marks ds k).1 ++ [.leaf (.int ((marks ds k).2 + 1))]), (marks ds k).2 + 1)
  | .tup ds, k => (.tup (marks ds k).1, (marks ds k).2 + 1)
def marks : List D → Int → List D × Int
  | [], k => ([], k)
  | d :: ds, k => ((mark d k).1 :: (marks ds (mark d k).2).1, (marks ds (mark d k).2).2)
end
theorem marks_len : ∀ (ds : List D) (k : Int), (marks ds k).1.length = ds.length
  | [], _ => rfl
  | d :: ds, k => by
    show (marks ds (mark d k).2).1.length + 1 = ds.length + 1
    rw [marks_len ds]
theorem marks_snoc : ∀ (ds : List D) (d : D) (k : Int), marks (ds ++ [d]) k = ((marks ds k).1 ++ [(mark d (marks ds k).2).1], (mark d (marks ds k).2).2)
  | [], d, k => rfl
  | c :: ds, d, k => by
    have h := marks_snoc ds d (mark c k).2
    show ((mark c k).1 :: (marks (ds ++ [d]) (mark c k).2).1, (marks (ds ++ [d]) (mark c k).2).2) = _
    rw [h]
    rfl
/-- behind i marks: the first i marked, the others as they were -/
theorem marks_step {ds : List D} {i : Nat} {d : D} (h : ds[i]? = some d) (k : Int) :
    ((marks (ds.take i) k).1 ++ ds.drop i)[i]? = some d ∧ ((marks (ds.take i) k).1 ++ ds.drop i).set i (mark d (marks (ds.take i) k).2).1 = (marks (ds.take (i + 1)) k).1 ++ ds.drop (i + 1) ∧ (marks (ds.take (i + 1)) k).2 = (mark d (marks (ds.take i) k).2).2 := by
  have hi := (List.getElem?_eq_some_iff.mp h).1
  have hl : (marks (ds.take i) k).1.length = i := by
    rw [marks_len, List.length_take]
    omega
  have e1 : ds.take (i + 1) = ds.take i ++ [d] := by
    rw [List.take_add_one, h]
    rfl
  have e2 : ds.drop i = d :: ds.drop (i + 1) := by
    have z := List.drop_eq_getElem_cons hi
    have y := (List.getElem?_eq_some_iff.mp h).2
    rw [y] at z
    exact z
  rw [e1, marks_snoc, e2]
  refine ⟨?_, ?_, rfl⟩
  · rw [List.getElem?_append_right (by omega), hl, Nat.sub_self]
    rfl
  · rw [List.set_append_right _ _ (by omega), hl, Nat.sub_self, List.append_assoc]
    rfl
/-! ### what isinstance tells of them -/
theorem leaf_ty {K : PySem.W.Frag} {H : Hp} {v : V} (h : Leaf v) : ∃ s : String, TyX K H v (.type s) ∧ (s = "NoneType" ∧ v = .non ∨ s = "bool" ∧ (∃ b, v = .bl b) ∨ s = "int" ∧ (∃ i, v = .int i) ∨ s = "str" ∧ ∃ z, v = .str z) := by
  rcases h with rfl | ⟨b, rfl⟩ | ⟨i, rfl⟩ | ⟨z, rfl⟩
  · exact ⟨_, .base .non, .inl ⟨rfl, rfl⟩⟩
  · exact ⟨_, .base (.bl b), .inr (.inl ⟨rfl, b, rfl⟩)⟩
  · exact ⟨_, .base (.int i), .inr (.inr (.inl ⟨rfl, i, rfl⟩))⟩
  · exact ⟨_, .base (.str z), .inr (.inr (.inr ⟨rfl, z, rfl⟩))⟩
/-- the kind of a datum: its type's name, whether it is a list, a tuple -/
def D.isL : D → Bool
  | .lst _ => true
  | _ => false
def D.isT : D → Bool
  | .tup _ => true
  | _ => false
def D.its : D → List D
  | .lst ds => ds
  | .tup ds => ds
  | .leaf _ => []
theorem Rep.ty {K : PySem.W.Frag} {H : Hp} {d : D} {v : V} {F : List Addr} (h : Rep H d v F) : ∃ s : String, TyX K H v (.type s) ∧ kitB s "list" = some d.isL ∧ kitB s "tuple" = some d.isT ∧ kitB s "dict" = some false := by
  cases d with
  | leaf w =>
    obtain ⟨rfl, hl, _⟩ := h
    obtain ⟨s, ht, hs⟩ := leaf_ty (K := K) (H := H) hl
    refine ⟨s, ht, ?_⟩
    rcases hs with ⟨rfl, _⟩ | ⟨rfl, _⟩ | ⟨rfl, _⟩ | ⟨rfl, _⟩ <;> exact ⟨(by show kitB _ _ = some false; decide +kernel), (by show kitB _ _ = some false; decide +kernel), by decide +kernel⟩
  | lst ds =>
    obtain ⟨a, xs, G, rfl, ha, _⟩ := h
    exact ⟨"list", .base (.lst ha), (by show kitB _ _ = some true; decide +kernel), (by show kitB _ _ = some false; decide +kernel), by decide +kernel⟩
  | tup ds =>
    obtain ⟨a, xs, rfl, ha, _⟩ := h
    exact ⟨"tuple", .base (.tup ha), (by show kitB _ _ = some false; decide +kernel), (by show kitB _ _ = some true; decide +kernel), by decide +kernel⟩
theorem kit_two {K : PySem.W.Frag} {s : String} {x y : Bool} (h1 : kitB s "list" = some x) (h2 : kitB s "tuple" = some y) : PySem.W.kitAny K (.type s) [.type "list", .type "tuple"] = some (x || y) := by
  refine kitAny_cons (kit_ty h1) (fun e => ?_) (fun e => by rw [e]; rfl)
  refine kitAny_cons (kit_ty h2) (fun e2 => ?_) (fun e2 => by rw [e2, Bool.or_true])
  rw [e, e2]
  exact kitAny_nil
theorem ifT {c : Bool} {A B : Prop} (hc : c = true) (h : A) : if c = true then A else B := by
  rw [hc]
  exact iteT h
theorem ifF {c : Bool} {A B : Prop} (hc : c = false) (h : B) : if c = true then A else B := by
  rw [hc]
  exact iteF h
theorem one_at {x : V} : atI [x] 0 = some x := atI_nat (j := 0) rfl
end K02
set_option Elab.async false
set_option linter.all false
set_option maxRecDepth 100000
set_option maxHeartbeats 4000000
namespace K02
open PySem L2 PyProof.Rows
mutual
/-- v is d in the heap, wherever its lists stand -/
def RW (H : Hp) : D → V → Prop
  | .leaf w, u => u = w ∧ Leaf w
  | .lst ds, u => ∃ a xs, u = .ref a ∧ H a = some (.lst xs) ∧ RWs H ds xs
  | .tup ds, u => ∃ a xs, u = .ref a ∧ H a = some (.tup xs) ∧ RWs H ds xs
def RWs (H : Hp) : List D → List V → Prop
  | [], xs => xs = []
  | d :: ds, xs => ∃ x ys, xs = x :: ys ∧ RW H d x ∧ RWs H ds ys
end
mutual
theorem RW.same {H H1 : Hp} (s : Same H H1) : ∀ {d : D} {v : V}, RW H d v → RW H1 d v
  | .leaf w, u, h => h
  | .lst ds, u, h => by
    obtain ⟨a, xs, e, ha, hr⟩ := h
    exact ⟨a, xs, e, s _ _ ha, RWs.same s hr⟩
  | .tup ds, u, h => by
    obtain ⟨a, xs, e, ha, hr⟩ := h
    exact ⟨a, xs, e, s _ _ ha, RWs.same s hr⟩
theorem RWs.same {H H1 : Hp} (s : Same H H1) : ∀ {ds : List D} {xs : List V}, RWs H ds xs → RWs H1 ds xs
  | [], xs, h => h
  | d :: ds, xs, h => by
    obtain ⟨x, ys, e, h1, h2⟩ := h
    exact ⟨x, ys, e, RW.same s h1, RWs.same s h2⟩
end
mutual
theorem Rep.rw {H : Hp} : ∀ {d : D} {v : V} {F : List Addr}, Rep H d v F → RW H d v
  | .leaf w, u, F, h => ⟨h.1, h.2.1⟩
  | .lst ds, u, F, h => by
    obtain ⟨a, xs, G, e, ha, hr, _⟩ := h
    exact ⟨a, xs, e, ha, Reps.rw hr⟩
  | .tup ds, u, F, h => by
    obtain ⟨a, xs, e, ha, hr⟩ := h
    exact ⟨a, xs, e, ha, Reps.rw hr⟩
theorem Reps.rw {H : Hp} : ∀ {ds : List D} {xs : List V} {F : List Addr}, Reps H ds xs F → RWs H ds xs
  | [], xs, F, h => h.1
  | d :: ds, xs, F, h => by
    obtain ⟨x, ys, F1, F2, e, h1, h2, _⟩ := h
    exact ⟨x, ys, e, Rep.rw h1, Reps.rw h2⟩
end
theorem RWs.len {H : Hp} : ∀ {ds : List D} {xs : List V}, RWs H ds xs → xs.length = ds.length
  | [], xs, h => by
    have e : xs = [] := h
    rw [e]
    rfl
  | d :: ds, xs, h => by
    obtain ⟨x, ys, rfl, h1, h2⟩ := h
    rw [List.length_cons, List.length_cons, h2.len]
theorem RWs.item {H : Hp} : ∀ {ds : List D} {xs : List V} {i : Nat} {x : V}, RWs H ds xs → xs[i]? = some x → ∃ d, ds[i]? = some d ∧ RW H d x
  | [], xs, i, x, h, e => by
    have z : xs = [] := h
    rw [z] at e
    simp at e
  | d :: ds, xs, 0, x, h, e => by
    obtain ⟨y, ys, rfl, h1, h2⟩ := h
    have ey : y = x := Option.some.inj e
    exact ⟨d, rfl, ey ▸ h1⟩
  | d :: ds, xs, i + 1, x, h, e => by
    obtain ⟨y, ys, rfl, h1, h2⟩ := h
    exact RWs.item h2 (i := i) e
theorem RW.ty {K : PySem.W.Frag} {H : Hp} {d : D} {v : V} (h : RW H d v) : ∃ s : String, TyX K H v (.type s) ∧ kitB s "list" = some d.isL ∧ kitB s "tuple" = some d.isT ∧ kitB s "dict" = some false := by
  cases d with
  | leaf w =>
    obtain ⟨rfl, hl⟩ := h
    obtain ⟨s, ht, hs⟩ := leaf_ty (K := K) (H := H) hl
    refine ⟨s, ht, ?_⟩
    rcases hs with ⟨rfl, _⟩ | ⟨rfl, _⟩ | ⟨rfl, _⟩ | ⟨rfl, _⟩ <;> exact ⟨(by show kitB _ _ = some false; decide +kernel), (by show kitB _ _ = some false; decide +kernel), by decide +kernel⟩
  | lst ds =>
    obtain ⟨a, xs, rfl, ha, _⟩ := h
    exact ⟨"list", .base (.lst ha), (by show kitB _ _ = some true; decide +kernel), (by show kitB _ _ = some false; decide +kernel), by decide +kernel⟩
  | tup ds =>
    obtain ⟨a, xs, rfl, ha, _⟩ := h
    exact ⟨"tuple", .base (.tup ha), (by show kitB _ _ = some false; decide +kernel), (by show kitB _ _ = some true; decide +kernel), by decide +kernel⟩
/-- a copy: the same datum, all its lists new -/
def spCopy (n : Nat) : Sp := fun vs H Q _ => ∃ (v : V) (d : D) (m : Nat), vs = [v] ∧ m + 1 ≤ n ∧ RW H d v ∧ Fits 1000 m d ∧
  ∀ u H' G, Same H H' → Rep H' d u G → (∀ a ∈ G, H a = none) → Q u H'
def spMark (n : Nat) : Sp := fun vs H Q _ => ∃ (v : V) (t : Addr) (d : D) (F : List Addr) (m : Nat) (k : Int), vs = [v, .ref t] ∧ m + 1 ≤ n ∧ Rep H d v F ∧ Fits 1000 m d ∧ H t = some (.lst [.int k]) ∧ t ∉ F ∧
  ∀ H', Kp (fun a => a ∈ F ∨ a = t) H H' → Rep H' (mark d k).1 v F → H' t = some (.lst [.int (mark d k).2]) → Q .non H'
def spSame (n : Nat) : Sp := fun vs H Q _ => ∃ (v u : V) (d : D) (m : Nat), vs = [v, u] ∧ m + 1 ≤ n ∧ RW H d v ∧ RW H d u ∧ Fits 1000 m d ∧ ∀ H', Same H H' → Q (.bl true) H'
theorem Fits.its {c m : Nat} {d : D} (h : Fits c m d) (hd : d.isL = true ∨ d.isT = true) : ∃ m', m = m' + 1 ∧ d.its.length ≤ c ∧ ∀ e ∈ d.its, Fits c m' e := by
  cases m with
  | zero =>
    obtain ⟨v, rfl⟩ := h
    rcases hd with z | z <;> cases z
  | succ m =>
    cases d with
    | leaf v => rcases hd with z | z <;> cases z
    | lst ds => exact ⟨m, rfl, h.1, h.2⟩
    | tup ds => exact ⟨m, rfl, h.1, h.2⟩
/-- a list or a tuple, with its items -/
theorem Rep.seq {H : Hp} {d : D} {v : V} {F : List Addr} (h : Rep H d v F) (hd : d.isL = true ∨ d.isT = true) : ∃ a xs G, v = .ref a ∧ (d.isL = true ∧ H a = some (.lst xs) ∧ a ∉ G ∧ F = a :: G ∨ d.isT = true ∧ H a = some (.tup xs) ∧ F = G) ∧ Reps H d.its xs G := by
  cases d with
  | leaf w => rcases hd with z | z <;> cases z
  | lst ds =>
    obtain ⟨a, xs, G, e, ha, hr, hn, eF⟩ := h
    exact ⟨a, xs, G, e, .inl ⟨rfl, ha, hn, eF⟩, hr⟩
  | tup ds =>
    obtain ⟨a, xs, e, ha, hr⟩ := h
    exact ⟨a, xs, F, e, .inr ⟨rfl, ha, rfl⟩, hr⟩
section
variable {P : Program} {w : World} {K : PySem.W.Frag} {mg : Str → Option Value} {base : Heap}
theorem none_of {f : Addr} {fd : FuncData} {ps : List Str} {sp : Sp} (h : ∀ vs H Q E, ¬ sp vs H Q E) : FnOk P w K mg base CX0 0 f fd ps sp :=
  ⟨fun vs H Q E x => absurd x (h vs H Q E), fun A outer s H args us vs Q E _ _ _ _ x => absurd x (h vs H Q E)⟩
theorem copy_none {f : Addr} {fd : FuncData} {ps : List Str} : FnOk P w K mg base CX0 0 f fd ps (spCopy 0) := none_of fun vs H Q E h => by
  obtain ⟨v, d, m, _, h1, _⟩ := h
  omega
theorem mark_none {f : Addr} {fd : FuncData} {ps : List Str} : FnOk P w K mg base CX0 0 f fd ps (spMark 0) := none_of fun vs H Q E h => by
  obtain ⟨v, t, d, F, m, k, _, h1, _⟩ := h
  omega
theorem same_none {f : Addr} {fd : FuncData} {ps : List Str} : FnOk P w K mg base CX0 0 f fd ps (spSame 0) := none_of fun vs H Q E h => by
  obtain ⟨v, u, d, m, _, h1, _⟩ := h
  omega
/-- the turns of [copy(one) for one in thing], D the new list -/
theorem copies_go {te : TE} {σ2 : V → L2.St} {n : Nat} {H1 : Hp} {D0 : Addr} {ds : List D} {xs : List V} {m : Nat} (hte : ∀ x H Q, spCopy n [x] H Q E0 → te (σ2 x) H Q) (hR : RWs H1 ds xs) (hf : ∀ e ∈ ds, Fits 1000 m e) (hm : m + 1 ≤ n) (hD : H1 D0 = none) (hl : ds.length ≤ 1000) :
    (∃ ys G, Same H1 (upd H1 D0 (.lst [])) ∧ (upd H1 D0 (.lst [])) D0 = some (.lst ys) ∧ Reps (upd H1 D0 (.lst [])) (ds.take 0) ys G ∧ (∀ a ∈ G, H1 a = none ∧ a ≠ D0)) ∧
    ∀ i x H2, xs[i]? = some x → (∃ ys G, Same H1 H2 ∧ H2 D0 = some (.lst ys) ∧ Reps H2 (ds.take i) ys G ∧ (∀ a ∈ G, H1 a = none ∧ a ≠ D0)) →
      te (σ2 x) H2 fun y H4 => ∃ acc, H4 D0 = some (.lst acc) ∧ acc.length < sizeLine ∧ ∃ ys G, Same H1 (upd H4 D0 (.lst (acc ++ [y]))) ∧ (upd H4 D0 (.lst (acc ++ [y]))) D0 = some (.lst ys) ∧ Reps (upd H4 D0 (.lst (acc ++ [y]))) (ds.take (i + 1)) ys G ∧ (∀ a ∈ G, H1 a = none ∧ a ≠ D0) := by
  refine ⟨⟨[], [], same_new hD _, upd_same, ⟨rfl, rfl⟩, fun _ z => nomatch z⟩, ?_⟩
  rintro i x H2 hi ⟨ys, G, hs2, hD2, hr, hG⟩
  obtain ⟨e, he, hrep⟩ := RWs.item (hR.same hs2) hi
  have hil := (List.getElem?_eq_some_iff.mp he).1
  refine hte x H2 _ ⟨x, e, m, rfl, hm, hrep, hf e (List.mem_of_getElem? he), fun u H3 G3 hs3 hr3 hG3 => ?_⟩
  have hD3 := hs3 _ _ hD2
  have hyl : ys.length = i := by
    rw [hr.len, List.length_take]
    omega
  have nD : ∀ a ∈ G3, a ≠ D0 := fun a ha z => by
    rw [← z, hG3 a ha] at hD2
    cases hD2
  have n1 : ∀ a ∈ G3, H1 a = none := fun a ha => hs2.free (hG3 a ha)
  have kp : Kp (fun a => a = D0) H3 (upd H3 D0 (.lst (ys ++ [u]))) := Kp.set hD3 rfl
  refine ⟨ys, hD3, Nat.lt_of_le_of_lt (show ys.length ≤ 1000 by omega) (by decide), ys ++ [u], G ++ G3, same_put (hs2.trans hs3) hD, upd_same, ?_, fun a ha => ?_⟩
  · have et : ds.take (i + 1) = ds.take i ++ [e] := by
      rw [List.take_add_one, he]
      rfl
    rw [et]
    refine Reps.snoc ((hr.same hs3).kp kp fun a ha => (hG a ha).2) (hr3.kp kp nD) fun a ha z => ?_
    obtain ⟨zs, hz⟩ := hr.at_ a ha
    rw [hG3 a z] at hz
    cases hz
  · rcases List.mem_append.mp ha with z | z
    · exact hG a z
    · exact ⟨n1 a z, nD a z⟩
end
end K02
set_option Elab.async false
set_option linter.all false
set_option maxRecDepth 100000
set_option maxHeartbeats 4000000
namespace K02
open PySem L2 PyProof.Rows
/-- a datum, its items, where their lists stand -/
inductive Shp (H : Hp) : D → V → List Addr → List V → List Addr → Prop where
  | leaf {v : V} (h : Leaf v) : Shp H (.leaf v) v [] [] []
  | lst {ds : List D} {a : Addr} {xs : List V} {G : List Addr} (h : H a = some (.lst xs)) (r : Reps H ds xs G) (n : a ∉ G) : Shp H (.lst ds) (.ref a) (a :: G) xs G
  | tup {ds : List D} {a : Addr} {xs : List V} {G : List Addr} (h : H a = some (.tup xs)) (r : Reps H ds xs G) : Shp H (.tup ds) (.ref a) G xs G
theorem Rep.shp {H : Hp} {d : D} {v : V} {F : List Addr} (h : Rep H d v F) : ∃ xs G, Shp H d v F xs G := by
  cases d with
  | leaf w =>
    obtain ⟨rfl, hl, rfl⟩ := h
    exact ⟨_, _, .leaf hl⟩
  | lst ds =>
    obtain ⟨a, xs, G, rfl, ha, hr, hn, rfl⟩ := h
    exact ⟨_, _, .lst ha hr hn⟩
  | tup ds =>
    obtain ⟨a, xs, rfl, ha, hr⟩ := h
    exact ⟨_, _, .tup ha hr⟩
theorem Shp.reps {H : Hp} {d : D} {v : V} {F G : List Addr} {xs : List V} (h : Shp H d v F xs G) : Reps H d.its xs G ∧ ∀ a ∈ G, a ∈ F := by
  cases h with
  | leaf h => exact ⟨⟨rfl, rfl⟩, fun _ z => z⟩
  | lst h r n => exact ⟨r, fun _ z => List.mem_cons_of_mem _ z⟩
  | tup h r => exact ⟨r, fun _ z => z⟩
theorem Fits.its0 {c m : Nat} {d : D} (h : Fits c m d) : d.its.length ≤ c ∧ ∀ e ∈ d.its, ∃ m', m = m' + 1 ∧ Fits c m' e := by
  cases d with
  | leaf v => exact ⟨Nat.zero_le _, fun _ z => nomatch z⟩
  | lst ds =>
    obtain ⟨m', rfl, a, b⟩ := h.its (.inl rfl)
    exact ⟨a, fun e he => ⟨m', rfl, b e he⟩⟩
  | tup ds =>
    obtain ⟨m', rfl, a, b⟩ := h.its (.inr rfl)
    exact ⟨a, fun e he => ⟨m', rfl, b e he⟩⟩
section
variable {P : Program} {w : World} {K : PySem.W.Frag} {mg : Str → Option Value} {base : Heap}
theorem scFr : FnScope ["thing", "each", "key"] ["thing"] (defScope sFresh) := ⟨rfl, rfl, rfl, by decide +kernel, rfl, by decide +kernel, by decide +kernel⟩
theorem ok_fresh {f : Addr} {fd : FuncData} {n : Nat} (F : Fun K "fresh" "fresh" sFresh f fd) (T : Txt K mg) (G : FnOk P w K mg base CX0 n f fd ["thing"] (spCopy n)) (b : Binds K fd ["thing"] []) (m : mg "fresh" = some (.ref f)) (zD : mg "dict" = none) :
    FnOk P w K mg base CX0 (n + 1) f fd ["thing"] (spCopy (n + 1)) := by
  refine F.ok scFr (fun vs H Q E h => ?_) (fun cdv A outer s H vs Q E hr h => ?_)
  · obtain ⟨v, d, m0, rfl, _⟩ := h
    rfl
  obtain ⟨v, d, m0, rfl, hm, hR, hF, kk⟩ := h
  refine ⟨_, pss_cons (ps_if (pt_val (pe_callB call_isi (by rfl) T.isi boot_isinstance (pa_cons (pv 0) (pa_cons (pe_bltn (v := .ty "list") (by rfl) T.list boot_list rfl) pa_nil))))
      (pss_one (ps_ret (pe_lc (own := [("each", 1)]) (g := gName 1) (tt := tYes) rfl scFr.nd (pi_list (pv 0)) (blkOk_by (N := ["thing", "each", "key"]) (sc := defScope sFresh) (by decide +kernel)) (fun _ _ _ _ _ => pg_name (i := 1) scFr.nd rfl (Or.inl rfl)) (fun _ _ _ _ _ => pts_nil)
        (fun _ _ _ _ _ => pe_call G hr rfl m F.kp b .nil pass0 (pa_cons (pv 1) pa_nil))))) pss_nil)
    (pss_cons (ps_if (pt_val (pe_callB call_isi (by rfl) T.isi boot_isinstance (pa_cons (pv 0) (pa_cons (pe_bltn (v := .ty "tuple") (by rfl) T.tuple boot_tuple rfl) pa_nil))))
      (pss_one (ps_ret (pe_callTy call_tuple_of (by rfl) T.tuple boot_tuple (pa_cons (pe_lc (own := [("each", 1)]) (g := gName 1) (tt := tYes) rfl scFr.nd (pi_tup (pv 0)) (blkOk_by (N := ["thing", "each", "key"]) (sc := defScope sFresh) (by decide +kernel)) (fun _ _ _ _ _ => pg_name (i := 1) scFr.nd rfl (Or.inl rfl)) (fun _ _ _ _ _ => pts_nil)
        (fun _ _ _ _ _ => pe_call G hr rfl m F.kp b .nil pass0 (pa_cons (pv 1) pa_nil))) pa_nil)))) pss_nil)
    (pss_cons (ps_if (pt_val (pe_callB call_isi (by rfl) T.isi boot_isinstance (pa_cons (pv 0) (pa_cons (pe_bltn (v := .ty "dict") (by rfl) zD boot_dict rfl) pa_nil)))) pss_never pss_nil)
    (pss_one (ps_ret (pv 0))))), ?_⟩
  obtain ⟨sT, hty, k1, k2, k3⟩ := hR.ty (K := K)
  refine ⟨_, rfl, v, _, _, _, _, rfl, .ty _, hty, kit_ty k1, _, rfl, ?_⟩
  cases d with
  | leaf w0 =>
    refine iteF ⟨_, rfl, v, _, _, _, _, rfl, .ty _, hty, kit_ty k2, _, rfl, iteF ⟨_, rfl, v, _, _, _, _, rfl, .ty _, hty, kit_ty k3, _, rfl, iteF ⟨_, rfl, ?_⟩⟩⟩
    obtain ⟨rfl, hl⟩ := hR
    exact kk _ H [] (Same.refl H) ⟨rfl, hl, rfl⟩ fun _ z => nomatch z
  | lst ds =>
    refine iteT ?_
    obtain ⟨a, xs, rfl, ha, hr0⟩ := hR
    obtain ⟨m', rfl, hl, hf⟩ := hF.its (.inl rfl)
    refine ⟨_, rfl, a, rfl, ⟨_, SqL.of ha⟩, fun D0 hD => ?_⟩
    obtain ⟨g0, g1⟩ := copies_go (te := tCall (spCopy n) [] E0 (tCons (tVar 1) tNil)) (σ2 := fun x => [some (.ref a), some x, none]) (m := m') (fun x H Q h => ⟨x, rfl, h⟩) hr0 hf (by omega) hD hl
    refine lc_list (K := K) (a := a) (xs := xs) (fun i H2 => ∃ ys G, Same H H2 ∧ H2 D0 = some (.lst ys) ∧ Reps H2 (ds.take i) ys G ∧ (∀ a ∈ G, H a = none ∧ a ≠ D0)) g0 (fun i H2 _ ⟨_, _, h, _⟩ => SqL.of (h _ _ ha)) ?_ ?_
    · rintro i x H2 hi h
      exact ⟨rfl, g1 i x H2 hi h⟩
    · rintro H2 ⟨ys, G, hs, hD2, hr2, hG⟩
      rw [hr0.len, List.take_length] at hr2
      exact kk _ H2 (D0 :: G) hs ⟨D0, ys, G, rfl, hD2, hr2, fun z => (hG _ z).2 rfl, rfl⟩ fun b hb => by
        rcases List.mem_cons.mp hb with z | z
        · exact z ▸ hD
        · exact (hG b z).1
  | tup ds =>
    refine iteF ⟨_, rfl, v, _, _, _, _, rfl, .ty _, hty, kit_ty k2, _, rfl, iteT ?_⟩
    obtain ⟨a, xs, rfl, ha, hr0⟩ := hR
    obtain ⟨m', rfl, hl, hf⟩ := hF.its (.inr rfl)
    refine ⟨_, rfl, a, rfl, ⟨_, SqT.of ha⟩, fun D0 hD => ?_⟩
    obtain ⟨g0, g1⟩ := copies_go (te := tCall (spCopy n) [] E0 (tCons (tVar 1) tNil)) (σ2 := fun x => [some (.ref a), some x, none]) (m := m') (fun x H Q h => ⟨x, rfl, h⟩) hr0 hf (by omega) hD hl
    refine lc_tup (K := K) (a := a) (xs := xs) (fun i H2 => ∃ ys G, Same H H2 ∧ H2 D0 = some (.lst ys) ∧ Reps H2 (ds.take i) ys G ∧ (∀ a ∈ G, H a = none ∧ a ≠ D0)) g0 (fun i H2 _ ⟨_, _, h, _⟩ => SqT.of (h _ _ ha)) ?_ ?_
    · rintro i x H2 hi h
      exact ⟨rfl, g1 i x H2 hi h⟩
    · rintro H2 ⟨ys, G, hs, hD2, hr2, hG⟩
      rw [hr0.len, List.take_length] at hr2
      refine ⟨D0, ys, rfl, .inl ⟨SqL.of hD2, fun l hl2 => ?_⟩⟩
      have s3 := same_new hl2 (.tup ys)
      exact kk _ _ G (hs.trans s3) ⟨l, ys, rfl, upd_same, hr2.same s3⟩ fun b hb => (hG b hb).1
theorem scCo2 : FnScope ["thing", "one", "name"] ["thing"] (defScope sCopied) := ⟨rfl, rfl, rfl, by decide +kernel, rfl, by decide +kernel, by decide +kernel⟩
theorem ok_tcopy {f : Addr} {fd : FuncData} {n : Nat} (F : Fun K "_law_ta_copy" "_law_ta_copy" sCopied f fd) (T : Txt K mg) (G : FnOk P w K mg base CX0 n f fd ["thing"] (spCopy n)) (b : Binds K fd ["thing"] []) (m : mg "_law_ta_copy" = some (.ref f)) (zD : mg "dict" = none) :
    FnOk P w K mg base CX0 (n + 1) f fd ["thing"] (spCopy (n + 1)) := by
  refine F.ok scCo2 (fun vs H Q E h => ?_) (fun cdv A outer s H vs Q E hr h => ?_)
  · obtain ⟨v, d, m0, rfl, _⟩ := h
    rfl
  obtain ⟨v, d, m0, rfl, hm, hR, hF, kk⟩ := h
  refine ⟨_, pss_cons (ps_if (pt_val (pe_callB call_isi (by rfl) T.isi boot_isinstance (pa_cons (pv 0) (pa_cons (pe_bltn (v := .ty "list") (by rfl) T.list boot_list rfl) pa_nil))))
      (pss_one (ps_ret (pe_lc (own := [("one", 1)]) (g := gName 1) (tt := tYes) rfl scCo2.nd (pi_list (pv 0)) (blkOk_by (N := ["thing", "one", "name"]) (sc := defScope sCopied) (by decide +kernel)) (fun _ _ _ _ _ => pg_name (i := 1) scCo2.nd rfl (Or.inl rfl)) (fun _ _ _ _ _ => pts_nil)
        (fun _ _ _ _ _ => pe_call G hr rfl m F.kp b .nil pass0 (pa_cons (pv 1) pa_nil))))) pss_nil)
    (pss_cons (ps_if (pt_val (pe_callB call_isi (by rfl) T.isi boot_isinstance (pa_cons (pv 0) (pa_cons (pe_bltn (v := .ty "tuple") (by rfl) T.tuple boot_tuple rfl) pa_nil))))
      (pss_one (ps_ret (pe_callTy call_tuple_of (by rfl) T.tuple boot_tuple (pa_cons (pe_lc (own := [("one", 1)]) (g := gName 1) (tt := tYes) rfl scCo2.nd (pi_tup (pv 0)) (blkOk_by (N := ["thing", "one", "name"]) (sc := defScope sCopied) (by decide +kernel)) (fun _ _ _ _ _ => pg_name (i := 1) scCo2.nd rfl (Or.inl rfl)) (fun _ _ _ _ _ => pts_nil)
        (fun _ _ _ _ _ => pe_call G hr rfl m F.kp b .nil pass0 (pa_cons (pv 1) pa_nil))) pa_nil)))) pss_nil)
    (pss_cons (ps_if (pt_val (pe_callB call_isi (by rfl) T.isi boot_isinstance (pa_cons (pv 0) (pa_cons (pe_bltn (v := .ty "dict") (by rfl) zD boot_dict rfl) pa_nil)))) pss_never pss_nil)
    (pss_one (ps_ret (pv 0))))), ?_⟩
  obtain ⟨sT, hty, k1, k2, k3⟩ := hR.ty (K := K)
  refine ⟨_, rfl, v, _, _, _, _, rfl, .ty _, hty, kit_ty k1, _, rfl, ?_⟩
  cases d with
  | leaf w0 =>
    refine iteF ⟨_, rfl, v, _, _, _, _, rfl, .ty _, hty, kit_ty k2, _, rfl, iteF ⟨_, rfl, v, _, _, _, _, rfl, .ty _, hty, kit_ty k3, _, rfl, iteF ⟨_, rfl, ?_⟩⟩⟩
    obtain ⟨rfl, hl⟩ := hR
    exact kk _ H [] (Same.refl H) ⟨rfl, hl, rfl⟩ fun _ z => nomatch z
  | lst ds =>
    refine iteT ?_
    obtain ⟨a, xs, rfl, ha, hr0⟩ := hR
    obtain ⟨m', rfl, hl, hf⟩ := hF.its (.inl rfl)
    refine ⟨_, rfl, a, rfl, ⟨_, SqL.of ha⟩, fun D0 hD => ?_⟩
    obtain ⟨g0, g1⟩ := copies_go (te := tCall (spCopy n) [] E0 (tCons (tVar 1) tNil)) (σ2 := fun x => [some (.ref a), some x, none]) (m := m') (fun x H Q h => ⟨x, rfl, h⟩) hr0 hf (by omega) hD hl
    refine lc_list (K := K) (a := a) (xs := xs) (fun i H2 => ∃ ys G, Same H H2 ∧ H2 D0 = some (.lst ys) ∧ Reps H2 (ds.take i) ys G ∧ (∀ a ∈ G, H a = none ∧ a ≠ D0)) g0 (fun i H2 _ ⟨_, _, h, _⟩ => SqL.of (h _ _ ha)) ?_ ?_
    · rintro i x H2 hi h
      exact ⟨rfl, g1 i x H2 hi h⟩
    · rintro H2 ⟨ys, G, hs, hD2, hr2, hG⟩
      rw [hr0.len, List.take_length] at hr2
      exact kk _ H2 (D0 :: G) hs ⟨D0, ys, G, rfl, hD2, hr2, fun z => (hG _ z).2 rfl, rfl⟩ fun b hb => by
        rcases List.mem_cons.mp hb with z | z
        · exact z ▸ hD
        · exact (hG b z).1
  | tup ds =>
    refine iteF ⟨_, rfl, v, _, _, _, _, rfl, .ty _, hty, kit_ty k2, _, rfl, iteT ?_⟩
    obtain ⟨a, xs, rfl, ha, hr0⟩ := hR
    obtain ⟨m', rfl, hl, hf⟩ := hF.its (.inr rfl)
    refine ⟨_, rfl, a, rfl, ⟨_, SqT.of ha⟩, fun D0 hD => ?_⟩
    obtain ⟨g0, g1⟩ := copies_go (te := tCall (spCopy n) [] E0 (tCons (tVar 1) tNil)) (σ2 := fun x => [some (.ref a), some x, none]) (m := m') (fun x H Q h => ⟨x, rfl, h⟩) hr0 hf (by omega) hD hl
    refine lc_tup (K := K) (a := a) (xs := xs) (fun i H2 => ∃ ys G, Same H H2 ∧ H2 D0 = some (.lst ys) ∧ Reps H2 (ds.take i) ys G ∧ (∀ a ∈ G, H a = none ∧ a ≠ D0)) g0 (fun i H2 _ ⟨_, _, h, _⟩ => SqT.of (h _ _ ha)) ?_ ?_
    · rintro i x H2 hi h
      exact ⟨rfl, g1 i x H2 hi h⟩
    · rintro H2 ⟨ys, G, hs, hD2, hr2, hG⟩
      rw [hr0.len, List.take_length] at hr2
      refine ⟨D0, ys, rfl, .inl ⟨SqL.of hD2, fun l hl2 => ?_⟩⟩
      have s3 := same_new hl2 (.tup ys)
      exact kk _ _ G (hs.trans s3) ⟨l, ys, rfl, upd_same, hr2.same s3⟩ fun b hb => (hG b hb).1
/-! ### marks -/
theorem scM : FnScope ["thing", "tally", "inner", "name", "one"] ["thing", "tally"] (defScope sMark) := ⟨rfl, rfl, rfl, by decide +kernel, rfl, by decide +kernel, by decide +kernel⟩
theorem ok_mark {f : Addr} {fd : FuncData} {n : Nat} (F : Fun K "_law_ta_mark" "_law_ta_mark" sMark f fd) (T : Txt K mg) (G : FnOk P w K mg base CX0 n f fd ["thing", "tally"] (spMark n)) (b : Binds K fd ["thing", "tally"] []) (m : mg "_law_ta_mark" = some (.ref f)) (zD : mg "dict" = none) :
    FnOk P w K mg base CX0 (n + 1) f fd ["thing", "tally"] (spMark (n + 1)) := by
  refine F.ok scM (fun vs H Q E h => ?_) (fun cdv A outer s H vs Q E hr h => ?_)
  · obtain ⟨v, t, d, F0, m0, k, rfl, _⟩ := h
    rfl
  obtain ⟨v, t, d, F0, m0, k, rfl, hm, hR, hF, ht, htF, kk⟩ := h
  refine ⟨_, Evl.pss_cut (ps_set (i := 2) scM.nd rfl (Or.inl rfl) (pe_ifExp (pt_val (pe_callB call_isiT (by rfl) T.isi boot_isinstance (pa_cons (pv 0) (pa_cons (pe_tup (pa_cons (pe_bltn (v := .ty "list") (by rfl) T.list boot_list rfl) (pa_cons (pe_bltn (v := .ty "tuple") (by rfl) T.tuple boot_tuple rfl) pa_nil))) pa_nil))))
      (pe_callTy call_list_of (by rfl) T.list boot_list (pa_cons (pv 0) pa_nil)) (pe_lst pa_nil)))
    (pss_cons (ps_if (pt_val (pe_callB call_isi (by rfl) T.isi boot_isinstance (pa_cons (pv 0) (pa_cons (pe_bltn (v := .ty "dict") (by rfl) zD boot_dict rfl) pa_nil)))) pss_never pss_nil)
    (Evl.pss_cut (ps_for PassesOwn.never rfl (pi_list (pv 2)) (pg_name (i := 4) scM.nd rfl (Or.inl rfl)) (pss_one (ps_expr (pe_call G hr rfl m F.kp b .nil pass0 (pa_cons (pv 4) (pa_cons (pv 1) pa_nil))))))
    (pss_cons (ps_asg (pe_op op_add (pe_ix ix_list (pv 1) pe_int (fun _ _ => rfl)) pe_int) (pg_sub (pv 1) pe_int set_list))
    (pss_cons (ps_if (pt_val (pe_callB call_isi (by rfl) T.isi boot_isinstance (pa_cons (pv 0) (pa_cons (pe_bltn (v := .ty "list") (by rfl) T.list boot_list rfl) pa_nil))))
      (pss_one (ps_expr (pe_bm PySem.F.plainAttrs_list PySem.F.slot_list_append PySem.F.type_list_append mt_append (pv 0) (pa_cons (pe_ix ix_list (pv 1) pe_int (fun _ _ => rfl)) pa_nil)))) pss_nil)
    (pss_one (ps_if (pt_val (pe_callB call_isi (by rfl) T.isi boot_isinstance (pa_cons (pv 0) (pa_cons (pe_bltn (v := .ty "dict") (by rfl) zD boot_dict rfl) pa_nil)))) pss_never pss_nil)))))), ?_⟩
  obtain ⟨xs, G0, hS⟩ := hR.shp
  obtain ⟨hr0, hGF⟩ := hS.reps
  obtain ⟨hlen, hits⟩ := hF.its0
  have htG : t ∉ G0 := fun z => htF (hGF t z)
  have hxl : xs.length = d.its.length := hr0.len
  -- inner
  refine ⟨fun σ' H' => Same H H' ∧ ∃ l, H l = none ∧ H' l = some (.lst xs) ∧ σ' = [some v, some (.ref t), some (.ref l), none, none], ?_, ?_⟩
  · refine ⟨_, rfl, by show 2 ≤ sizeLine; decide, fun tp htp => ?_⟩
    have hs1 := same_new htp (.tup [V.ty "list", V.ty "tuple"])
    obtain ⟨sT, hty, k1, k2, k3⟩ := (hR.same hs1).ty (K := K)
    refine ⟨v, tp, _, _, _, _, rfl, upd_same, .cons (.ty _) (.cons (.ty _) .nil), hty, kit_two k1 k2, _, rfl, ?_⟩
    cases hS with
    | leaf h =>
      refine iteF ⟨by show 0 ≤ sizeLine; decide, fun l hl => ?_⟩
      exact ⟨hs1.trans (same_new hl _), l, hs1.free hl, upd_same, rfl⟩
    | @lst ds a xs G0 h r n =>
      refine iteT ⟨_, rfl, a, xs, rfl, .inl (SqL.of (hs1 _ _ h)), fun l hl => ?_⟩
      exact ⟨hs1.trans (same_new hl _), l, hs1.free hl, upd_same, rfl⟩
    | @tup ds a xs G0 h r =>
      refine iteT ⟨_, rfl, a, xs, rfl, .inr (SqT.of (hs1 _ _ h)), fun l hl => ?_⟩
      exact ⟨hs1.trans (same_new hl _), l, hs1.free hl, upd_same, rfl⟩
  rintro _ H1 ⟨hs1, l, hl0, hl1, rfl⟩
  obtain ⟨sT, hty, k1, k2, k3⟩ := (hR.same hs1).ty (K := K)
  refine ⟨_, rfl, v, _, _, _, _, rfl, .ty _, hty, kit_ty k3, _, rfl, iteF ?_⟩
  clear hty k1 k2 k3 sT
  have hlt : l ≠ t := (ne_of_none ht hl0).symm
  have hlG : l ∉ G0 := fun z => by
    obtain ⟨ys, e⟩ := hr0.at_ l z
    rw [hl0] at e
    cases e
  -- the things within
  refine ⟨fun σ' H' => Kp (fun a => a ∈ G0 ∨ a = t) H H' ∧ Reps H' (marks d.its k).1 xs G0 ∧ H' t = some (.lst [.int (marks d.its k).2]) ∧ ∃ v4, σ' = [some v, some (.ref t), some (.ref l), none, v4], ?_, ?_⟩
  · refine ⟨_, rfl, l, rfl, ⟨_, SqL.of hl1⟩, ?_⟩
    refine for_list (K := K) (a := l) (xs := xs) (fun i σ' H' => Kp (fun a => a ∈ G0 ∨ a = t) H H' ∧ Kp (fun a => a ∈ G0 ∨ a = t) H1 H' ∧ Reps H' ((marks (d.its.take i) k).1 ++ d.its.drop i) xs G0 ∧ H' t = some (.lst [.int (marks (d.its.take i) k).2]) ∧ ∃ v4, σ' = [some v, some (.ref t), some (.ref l), none, v4])
      ⟨.same hs1, .same (Same.refl _), hr0.same hs1, hs1 _ _ ht, none, rfl⟩ (fun i σ' H' _ ⟨_, h, _⟩ => SqL.of (h _ _ hl1 (.inl fun z => ?_))) ?_ ?_
    · rcases z with z | z
      · exact hlG z
      · exact hlt z
    · rintro i y σ' H2 hi ⟨hg2, hg1, hr2, ht2, v4, rfl⟩
      obtain ⟨e0, G1, he0, hrep, hG1, hset⟩ := hr2.item hi
      have hil : i < d.its.length := by
        have := (List.getElem?_eq_some_iff.mp hi).1
        omega
      obtain ⟨s1, s2, s3⟩ := marks_step (List.getElem?_eq_getElem hil) k
      rw [s1] at he0
      cases he0
      obtain ⟨m', rfl, hf⟩ := hits _ (List.getElem_mem hil)
      refine ⟨_, rfl, _, rfl, y, t, _, G1, m', _, rfl, by omega, hrep, hf, ht2, fun z => htG (hG1 t z), fun H3 hk hr3 ht3 => ?_⟩
      have hw : Kp (fun a => a ∈ G0 ∨ a = t) H2 H3 := hk.wide fun a z => z.imp (hG1 a) id
      rw [← s2]
      rw [← s3] at ht3
      exact ⟨hg2.trans hw, hg1.trans hw, hset t H3 _ htG hk hr3, ht3, _, rfl⟩
    · rintro σ' H2 ⟨hg2, _, hr2, ht2, r⟩
      rw [hxl, List.take_length, List.drop_length, List.append_nil] at hr2
      rw [hxl, List.take_length] at ht2
      exact ⟨hg2, hr2, ht2, r⟩
  rintro _ H2 ⟨hg2, hr2, ht2, v4, rfl⟩
  generalize hk' : (marks d.its k).2 = k' at ht2
  generalize hds' : (marks d.its k).1 = ds' at hr2
  -- the number
  refine ⟨_, rfl, t, _, _, _, rfl, rfl, SqL.of ht2, one_at, _, _, rfl, rfl, _, rfl, t, _, _, 0, rfl, rfl, ht2, rfl, ?_⟩
  have kp3 : Kp (fun a => a = t) H2 (upd H2 t (.lst [.int (k' + 1)])) := Kp.set ht2 rfl
  generalize hH3 : upd H2 t (.lst [.int (k' + 1)]) = H3 at kp3
  have hg3 : Kp (fun a => a ∈ G0 ∨ a = t) H H3 := hg2.trans (kp3.wide fun a z => .inr z)
  have hr3 : Reps H3 ds' xs G0 := hr2.kp kp3 fun a ha z => htG (z ▸ ha)
  have ht3 : H3 t = some (.lst [.int (k' + 1)]) := by
    rw [← hH3]
    exact upd_same
  have e3 : upd H2 t (.lst (([V.int k'] : List V).set 0 (.int (k' + 1)))) = H3 := hH3
  show tSeq _ _ _ _ (upd H2 t (.lst (([V.int k'] : List V).set 0 (.int (k' + 1)))))
  rw [e3]
  cases hS with
  | leaf h =>
    obtain ⟨sT, hty, k1, k2, k3⟩ := (show Rep H3 (.leaf v) v [] from ⟨rfl, h, rfl⟩).ty (K := K)
    refine ⟨_, rfl, v, _, _, _, _, rfl, .ty _, hty, kit_ty k1, _, rfl, iteF ?_⟩
    refine ⟨_, rfl, v, _, _, _, _, rfl, .ty _, hty, kit_ty k3, _, rfl, iteF ?_⟩
    refine kk H3 hg3 ⟨rfl, h, rfl⟩ ?_
    rw [ht3, ← hk']
    rfl
  | @lst ds a xs G0 h r n =>
    have hat : a ≠ t := fun z => htF (z ▸ List.mem_cons_self)
    have ha3 : H3 a = some (.lst xs) := hg3 _ _ h (.inl fun z => z.elim n hat)
    obtain ⟨sT, hty, k1, k2, k3⟩ := (show Rep H3 (.lst ds') (.ref a) (a :: G0) from ⟨a, xs, G0, rfl, ha3, hr3, n, rfl⟩).ty (K := K)
    refine ⟨_, rfl, _, _, _, _, _, rfl, .ty _, hty, kit_ty k1, _, rfl, iteT ?_⟩
    refine ⟨_, rfl, .inl ⟨rfl, _, SqL.of ha3⟩, _, rfl, t, _, _, _, rfl, rfl, SqL.of ht3, one_at, a, _, _, rfl, rfl, ha3, Nat.lt_of_le_of_lt (show xs.length ≤ 1000 by rw [hxl]; exact hlen) (by decide), ?_⟩
    have kp4 : Kp (fun b => b = a) H3 (upd H3 a (.lst (xs ++ [.int (k' + 1)]))) := Kp.set ha3 rfl
    generalize hH4 : upd H3 a (.lst (xs ++ [.int (k' + 1)])) = H4 at kp4
    have ha4 : H4 a = some (.lst (xs ++ [.int (k' + 1)])) := by
      rw [← hH4]
      exact upd_same
    have hr4 : Reps H4 ds' xs G0 := hr3.kp kp4 fun b hb z => n (z ▸ hb)
    have hs4 := hr4.snoc (d := .leaf (.int (k' + 1))) (x := .int (k' + 1)) (G := []) ⟨rfl, .inr (.inr (.inl ⟨_, rfl⟩)), rfl⟩ (fun _ _ z => nomatch z)
    rw [List.append_nil] at hs4
    have R4 : Rep H4 (.lst (ds' ++ [.leaf (.int (k' + 1))])) (.ref a) (a :: G0) := ⟨a, _, G0, rfl, ha4, hs4, n, rfl⟩
    obtain ⟨s4, hty4, q1, q2, q3⟩ := R4.ty (K := K)
    refine ⟨_, rfl, _, _, _, _, _, rfl, .ty _, hty4, kit_ty q3, _, rfl, iteF ?_⟩
    refine kk H4 ((hg3.wide fun b z => z.imp (fun y => List.mem_cons_of_mem _ y) id).trans (kp4.wide fun b z => .inl (z ▸ List.mem_cons_self))) ?_ ?_
    · rw [← hds', ← hk'] at R4
      exact R4
    · rw [← hH4, upd_ne (Ne.symm hat), ht3, ← hk']
      rfl
  | @tup ds a xs G0 h r =>
    have ha3 : H3 a = some (.tup xs) := hg3 _ _ h (.inr fun _ z => nomatch z)
    have R3 : Rep H3 (.tup ds') (.ref a) F0 := ⟨a, xs, rfl, ha3, hr3⟩
    obtain ⟨sT, hty, k1, k2, k3⟩ := R3.ty (K := K)
    refine ⟨_, rfl, _, _, _, _, _, rfl, .ty _, hty, kit_ty k1, _, rfl, iteF ?_⟩
    refine ⟨_, rfl, _, _, _, _, _, rfl, .ty _, hty, kit_ty k3, _, rfl, iteF ?_⟩
    refine kk H3 hg3 ?_ ?_
    · rw [← hds'] at R3
      exact R3
    · rw [ht3, ← hk']
      rfl
end
end K02
set_option Elab.async false
set_option linter.all false
set_option maxRecDepth 100000
set_option maxHeartbeats 4000000
namespace K02
open PySem L2 PyProof.Rows
section
variable {P : Program} {w : World} {K : PySem.W.Frag} {mg : Str → Option Value} {base : Heap}
theorem scS : FnScope ["told", "owed", "name", "at"] ["told", "owed"] (defScope sSame) := ⟨rfl, rfl, rfl, by decide +kernel, rfl, by decide +kernel, by decide +kernel⟩
theorem RW.seq {H : Hp} {d : D} {v : V} (h : RW H d v) (hd : (d.isL || d.isT) = true) : ∃ a xs, v = .ref a ∧ (H a = some (.lst xs) ∨ H a = some (.tup xs)) ∧ RWs H d.its xs := by
  cases d with
  | leaf w => cases hd
  | lst ds =>
    obtain ⟨a, xs, e, ha, hr⟩ := h
    exact ⟨a, xs, e, .inl ha, hr⟩
  | tup ds =>
    obtain ⟨a, xs, e, ha, hr⟩ := h
    exact ⟨a, xs, e, .inr ha, hr⟩
theorem RW.leafs {H : Hp} {d : D} {v : V} (h : RW H d v) (hd : (d.isL || d.isT) = false) : d = .leaf v ∧ Leaf v := by
  cases d with
  | leaf w =>
    obtain ⟨rfl, hl⟩ := h
    exact ⟨rfl, hl⟩
  | lst ds => cases hd
  | tup ds => cases hd
theorem ok_same {f : Addr} {fd : FuncData} {n : Nat} (F : Fun K "_law_ta_same" "_law_ta_same" sSame f fd) (T : Txt K mg) (G : FnOk P w K mg base CX0 n f fd ["told", "owed"] (spSame n)) (b : Binds K fd ["told", "owed"] []) (m : mg "_law_ta_same" = some (.ref f)) (zD : mg "dict" = none) (zB : mg "bool" = none) (zS : mg "str" = none) :
    FnOk P w K mg base CX0 (n + 1) f fd ["told", "owed"] (spSame (n + 1)) := by
  refine F.ok scS (fun vs H Q E h => ?_) (fun cdv A outer s H vs Q E hr h => ?_)
  · obtain ⟨v, u, d, m0, rfl, _⟩ := h
    rfl
  obtain ⟨v, u, d, m0, rfl, hm, hv, hu, hF, kk⟩ := h
  refine ⟨_, pss_cons (ps_if (pt_val (pe_callB call_isi (by rfl) T.isi boot_isinstance (pa_cons (pv 1) (pa_cons (pe_bltn (v := .ty "dict") (by rfl) zD boot_dict rfl) pa_nil)))) pss_never pss_nil)
    (pss_cons (ps_if (pt_val (pe_callB call_isiT (by rfl) T.isi boot_isinstance (pa_cons (pv 1) (pa_cons (pe_tup (pa_cons (pe_bltn (v := .ty "list") (by rfl) T.list boot_list rfl) (pa_cons (pe_bltn (v := .ty "tuple") (by rfl) T.tuple boot_tuple rfl) pa_nil))) pa_nil))))
      (pss_cons (ps_if (pw_or (pt_cmpR op_ne (pe_callB call_isi (by rfl) T.isi boot_isinstance (pa_cons (pv 0) (pa_cons (pe_bltn (v := .ty "list") (by rfl) T.list boot_list rfl) pa_nil))) (pe_callB call_isi (by rfl) T.isi boot_isinstance (pa_cons (pv 1) (pa_cons (pe_bltn (v := .ty "list") (by rfl) T.list boot_list rfl) pa_nil))) (nomark _))
          (pw_or1 (pt_cmpR op_ne (pe_callB call_isi (by rfl) T.isi boot_isinstance (pa_cons (pv 0) (pa_cons (pe_bltn (v := .ty "tuple") (by rfl) T.tuple boot_tuple rfl) pa_nil))) (pe_callB call_isi (by rfl) T.isi boot_isinstance (pa_cons (pv 1) (pa_cons (pe_bltn (v := .ty "tuple") (by rfl) T.tuple boot_tuple rfl) pa_nil))) (nomark _)))).pt pss_never pss_nil)
      (pss_one (ps_ret (pe_and (pe_cmpR op_eq (pe_callB call_len_seq (by rfl) T.len PySem.boot_len (pa_cons (pv 0) pa_nil)) (pe_callB call_len_seq (by rfl) T.len PySem.boot_len (pa_cons (pv 1) pa_nil)) (nomark _))
        (pe_one (pe_callB (cr_all rfl) (by rfl) T.all (by decide +kernel) (pa_cons (pe_lc (own := [("at", 3)]) (g := gName 3) (tt := tYes) rfl scS.nd (pi_range1 rfl T.range (pa_cons (pe_callB call_len_seq (by rfl) T.len PySem.boot_len (pa_cons (pv 1) pa_nil)) pa_nil)) (blkOk_by (N := ["told", "owed", "name", "at"]) (sc := defScope sSame) (by decide +kernel)) (fun _ _ _ _ _ => pg_name (i := 3) scS.nd rfl (Or.inl rfl)) (fun _ _ _ _ _ => pts_nil)
          (fun _ _ _ _ _ => pe_call G hr rfl m F.kp b .nil pass0 (pa_cons (pe_ix (show IxR _ (rIx K) from ix_seq) (pv 0) (pv 3) (fun _ _ => rfl)) (pa_cons (pe_ix (show IxR _ (rIx K) from ix_seq) (pv 1) (pv 3) (fun _ _ => rfl)) pa_nil)))) pa_nil))))))) pss_nil)
    (pss_cons (ps_if (pw_or (pt_cmpR op_isN (pv 1) pe_non (nomark _)) (pw_or1 (pt_val (pe_callB call_isi (by rfl) T.isi boot_isinstance (pa_cons (pv 1) (pa_cons (pe_bltn (v := .ty "bool") (by rfl) zB boot_bool rfl) pa_nil)))))).pt
      (pss_one (ps_ret (pe_cmpR op_eq (pe_callB call_reprNB (by rfl) T.repr boot_repr (pa_cons (pv 0) pa_nil)) (pe_callB call_reprNB (by rfl) T.repr boot_repr (pa_cons (pv 1) pa_nil)) (nomark _)))) pss_nil)
    (pss_cons (ps_if (pt_val (pe_callB call_isi (by rfl) T.isi boot_isinstance (pa_cons (pv 1) (pa_cons (pe_bltn (v := .ty "int") (by rfl) T.int boot_int rfl) pa_nil))))
      (pss_one (ps_ret (pe_and (pe_callB call_isi (by rfl) T.isi boot_isinstance (pa_cons (pv 0) (pa_cons (pe_bltn (v := .ty "int") (by rfl) T.int boot_int rfl) pa_nil)))
        (pe_and (pe_not (pe_callB call_isi (by rfl) T.isi boot_isinstance (pa_cons (pv 0) (pa_cons (pe_bltn (v := .ty "bool") (by rfl) zB boot_bool rfl) pa_nil)))) (pe_one (pe_cmpR op_eq (pv 0) (pv 1) (nomark _))))))) pss_nil)
    (pss_one (ps_ret (pe_and (pe_callB call_isi (by rfl) T.isi boot_isinstance (pa_cons (pv 0) (pa_cons (pe_bltn (v := .ty "str") (by rfl) zS boot_str rfl) pa_nil))) (pe_one (pe_cmpR op_eq (pv 0) (pv 1) (nomark _))))))))), ?_⟩
  obtain ⟨sT, hty, k1, k2, k3⟩ := hu.ty (K := K)
  refine ⟨_, rfl, u, _, _, _, _, rfl, .ty _, hty, kit_ty k3, _, rfl, iteF ?_⟩
  refine ⟨_, rfl, by show 2 ≤ sizeLine; decide, fun tp htp => ?_⟩
  have hs1 := same_new htp (.tup [V.ty "list", V.ty "tuple"])
  have hv1 := hv.same hs1
  have hu1 := hu.same hs1
  obtain ⟨s1, hty1, q1, q2, q3⟩ := hu1.ty (K := K)
  refine ⟨u, tp, _, _, _, _, rfl, upd_same, .cons (.ty _) (.cons (.ty _) .nil), hty1, kit_two q1 q2, _, rfl, ?_⟩
  clear hty hty1
  generalize hH1 : upd H tp (.tup [V.ty "list", V.ty "tuple"]) = H1 at hs1 hv1 hu1
  refine ite2 (fun e => ?_) (fun e => ?_)
  · -- a list or a tuple
    obtain ⟨sa, hta, a1, a2, a3⟩ := hv1.ty (K := K)
    obtain ⟨sb, htb, b1, b2, b3⟩ := hu1.ty (K := K)
    refine ⟨_, rfl, v, _, _, _, _, rfl, .ty _, hta, kit_ty a1, _, rfl, u, _, _, _, _, rfl, .ty _, htb, kit_ty b1, rfl, _, rfl, ?_⟩
    have nx : (!decide (V.bl d.isL = V.bl d.isL)) = false := by simp
    have ny : (!decide (V.bl d.isT = V.bl d.isT)) = false := by simp
    show if (!decide (V.bl d.isL = V.bl d.isL)) = true then _ else _
    rw [nx]
    refine iteF ?_
    refine ⟨_, rfl, v, _, _, _, _, rfl, .ty _, hta, kit_ty a2, _, rfl, u, _, _, _, _, rfl, .ty _, htb, kit_ty b2, rfl, _, rfl, ?_⟩
    show if (!decide (V.bl d.isT = V.bl d.isT)) = true then _ else _
    rw [ny]
    refine iteF ?_
    clear hta htb
    obtain ⟨m', rfl, hlen, hf⟩ := hF.its (show d.isL = true ∨ d.isT = true by simpa using e)
    obtain ⟨a, xs, rfl, ha, ra⟩ := hv1.seq e
    obtain ⟨c, ys, rfl, hc, rc⟩ := hu1.seq e
    have hlx := ra.len
    have hly := rc.len
    have sq : ∀ {a : Addr} {xs : List V} {H : Hp}, (H a = some (.lst xs) ∨ H a = some (.tup xs)) → SqL K H a xs ∨ SqT K H a xs := fun h => by
      rcases h with h | h
      · exact .inl (SqL.of h)
      · exact .inr (SqT.of h)
    refine ⟨_, rfl, a, xs, rfl, sq ha, _, rfl, c, ys, rfl, sq hc, rfl, _, rfl, ?_⟩
    rw [hlx, hly, decide_eq_true rfl]
    refine iteT ?_
    refine ⟨_, rfl, c, ys, rfl, sq hc, _, rfl, by omega, by omega, fun D hD => ?_⟩
    have hat : ∀ (a : Addr) (xs : List V), (H1 a = some (.lst xs) ∨ H1 a = some (.tup xs)) → ∀ (i : Nat) (y : V), xs[i]? = some y → ∀ H' : Hp, Same H1 H' → ∀ Q : VK, Q y H' → rIx K (.ref a) (.int (0 + (i : Int))) H' Q := fun a xs ha i y hy H' hs Q q => by
      have e0 : atI xs (0 + (i : Int)) = some y := by
        rw [Int.zero_add]
        exact atI_nat hy
      rcases ha with ha | ha
      · exact .inl ⟨a, xs, _, y, rfl, rfl, SqL.of (hs _ _ ha), e0, q⟩
      · exact .inr (.inl ⟨a, xs, _, y, rfl, rfl, SqT.of (hs _ _ ha), e0, q⟩)
    refine lc_range (lo := 0) (fun i H' => Same H1 H' ∧ H' D = some (.lst ((List.replicate i true).map V.bl))) ⟨same_new hD _, upd_same⟩ ?_ ?_
    · rintro i H2 hi ⟨hs2, hD2⟩
      have hi2 : i < d.its.length := by omega
      refine ⟨rfl, ?_⟩
      show tCall (spSame n) [] E0 (tCons (tOp (rIx K) (tVar 0) (tVar 3)) (tCons (tOp (rIx K) (tVar 1) (tVar 3)) tNil)) _ H2 _
      have hx := List.getElem?_eq_getElem (show i < xs.length by omega)
      have hy := List.getElem?_eq_getElem (show i < ys.length by omega)
      generalize xs[i] = x at hx
      generalize ys[i] = y at hy
      obtain ⟨e1, he1, hr1⟩ := ra.item hx
      obtain ⟨e2, he2, hr2⟩ := rc.item hy
      have ee : e1 = e2 := Option.some.inj (he1.symm.trans he2)
      subst ee
      refine ⟨_, rfl, _, rfl, hat a xs ha i x hx H2 hs2 _ ⟨_, rfl, _, rfl, hat c ys hc i y hy H2 hs2 _ ?_⟩⟩
      refine ⟨x, y, e1, m', rfl, by omega, hr1.same hs2, hr2.same hs2, hf e1 (List.mem_of_getElem? he1), fun H3 hs3 => ?_⟩
      refine ⟨_, hs3 _ _ hD2, ?_, same_put (hs2.trans hs3) hD, ?_⟩
      · rw [List.length_map, List.length_replicate]
        exact Nat.lt_of_lt_of_le (show i < 1000 by omega) (by decide)
      · rw [upd_same, List.replicate_succ', List.map_append]
        rfl
    · rintro H2 ⟨hs2, hD2⟩
      refine ⟨D, _, rfl, SqL.of hD2, ?_⟩
      have ea : (List.replicate (((ys.length : Nat) : Int).toNat) true).all id = true := by simp
      rw [ea]
      exact kk H2 (hs1.trans hs2)
  · -- a leaf
    obtain ⟨rfl, hl⟩ := hu.leafs (by simpa using e)
    obtain ⟨rfl, _⟩ := hv
    rcases hl with rfl | ⟨b0, rfl⟩ | ⟨i0, rfl⟩ | ⟨z0, rfl⟩
    · refine ⟨_, rfl, rfl, _, rfl, ifT (decide_eq_true rfl) (iteT ?_)⟩
      refine ⟨_, rfl, .inl ⟨rfl, _, rfl, .inl ⟨rfl, rfl, ?_⟩⟩⟩
      rw [decide_eq_true rfl]
      exact kk _ hs1
    · refine ⟨_, rfl, rfl, _, rfl, ifF (decide_eq_false (fun z => nomatch z)) ?_⟩
      refine ⟨_, rfl, .bl b0, _, _, _, _, rfl, .ty _, .base (.bl b0), kit_ty (a := "bool") (b := "bool") (r := true) (by decide +kernel), _, rfl, iteT ?_⟩
      refine ⟨_, rfl, .inr ⟨b0, rfl, _, rfl, .inr ⟨b0, rfl, rfl, ?_⟩⟩⟩
      rw [decide_eq_true rfl]
      exact kk _ hs1
    · refine ⟨_, rfl, rfl, _, rfl, ifF (decide_eq_false (fun z => nomatch z)) ?_⟩
      refine ⟨_, rfl, .int i0, _, _, _, _, rfl, .ty _, .base (.int i0), kit_ty (a := "int") (b := "bool") (r := false) (by decide +kernel), _, rfl, iteF ?_⟩
      refine ⟨_, rfl, .int i0, _, _, _, _, rfl, .ty _, .base (.int i0), kit_ty (a := "int") (b := "int") (r := true) (by decide +kernel), _, rfl, iteT ?_⟩
      refine ⟨_, rfl, .int i0, _, _, _, _, rfl, .ty _, .base (.int i0), kit_ty (a := "int") (b := "int") (r := true) (by decide +kernel), _, rfl, iteT ?_⟩
      refine ⟨_, rfl, .int i0, _, _, _, _, rfl, .ty _, .base (.int i0), kit_ty (a := "int") (b := "bool") (r := false) (by decide +kernel), _, rfl, _, rfl, iteT ?_⟩
      refine ⟨_, rfl, _, rfl, rfl, ?_⟩
      rw [decide_eq_true rfl]
      exact kk _ hs1
    · refine ⟨_, rfl, rfl, _, rfl, ifF (decide_eq_false (fun z => nomatch z)) ?_⟩
      refine ⟨_, rfl, .str z0, _, _, _, _, rfl, .ty _, .base (.str z0), kit_ty (a := "str") (b := "bool") (r := false) (by decide +kernel), _, rfl, iteF ?_⟩
      refine ⟨_, rfl, .str z0, _, _, _, _, rfl, .ty _, .base (.str z0), kit_ty (a := "str") (b := "int") (r := false) (by decide +kernel), _, rfl, iteF ?_⟩
      refine ⟨_, rfl, .str z0, _, _, _, _, rfl, .ty _, .base (.str z0), kit_ty (a := "str") (b := "str") (r := true) (by decide +kernel), _, rfl, iteT ?_⟩
      refine ⟨_, rfl, _, rfl, rfl, ?_⟩
      rw [decide_eq_true rfl]
      exact kk _ hs1
end
end K02
set_option Elab.async false
set_option linter.all false
set_option maxRecDepth 100000
set_option maxHeartbeats 4000000
namespace K02
open PySem L2 PyProof.Rows
/-! ### what the drawing of steps stands on -/
theorem pt_never {X : Cx} {e : Expr} : PT X e (fun _ _ _ => False) := ⟨fun _ _ _ _ _ _ h => h.elim⟩
theorem pw_never {X : Cx} {e : Expr} : PW X e (fun _ _ _ => False) := ⟨fun _ _ _ _ _ _ _ h => h.elim⟩
theorem But.kp {p : Addr} {H H' : Hp} {n : Nat} (h : But p H H') (q : Purse H p n) : Kp (fun a => a = p) H H' := fun b o e z => by
  rcases z with z | z
  · exact h b o z e
  · refine h b o (fun y => ?_) e
    obtain ⟨a1, a2, a3, e2, _⟩ := q
    rw [y, e2] at e
    exact z _ (Option.some.inj e).symm
/-- what may still be drawn: parts, defaults, items, calls, how deep -/
def lf5 (a d i c l : Int) : HO := .lst [.int a, .int d, .int i, .int c, .int l]
def Left (H : Hp) (L : Addr) (a : Int) : Prop := ∃ (d i c l : Int), H L = some (lf5 a d i c l) ∧ 0 ≤ i ∧ i ≤ 20 ∧ 1 ≤ l ∧ l ≤ 5
def Nam (H : Hp) (n : Addr) (z : List Str) : Prop := H n = some (.lst (z.map V.str)) ∧ 1 ≤ z.length ∧ z.length ≤ 26 ∧ ∀ y ∈ z, okName y
/-- the labels: N the names that are bound or read -/
def Lbl (H : Hp) (B p L : Addr) (N : List Str) : Prop := ∃ n0 n1 n2 z1 z2, H B = some (.lst [.ref n0, .ref n1, .ref n2]) ∧ Nam H n0 N ∧ Nam H n1 z1 ∧ Nam H n2 z2 ∧ z2.Nodup ∧ B ≠ p ∧ B ≠ L ∧ n0 ≠ p ∧ n0 ≠ L ∧ n1 ≠ p ∧ n1 ≠ L ∧ n2 ≠ p ∧ n2 ≠ L
theorem Nam.kp {S : Addr → Prop} {H H1 : Hp} {n : Addr} {z : List Str} (h : Nam H n z) (k : Kp S H H1) (hn : ¬ S n) : Nam H1 n z := ⟨k _ _ h.1 (.inl hn), h.2⟩
theorem Lbl.kp {H H1 : Hp} {B p L : Addr} {N : List Str} (h : Lbl H B p L N) (k : Kp (fun a => a = p ∨ a = L) H H1) : Lbl H1 B p L N := by
  obtain ⟨n0, n1, n2, z1, z2, hB, h0, h1, h2, nd, b1, b2, b3, b4, b5, b6, b7, b8⟩ := h
  have no : ∀ {a : Addr}, a ≠ p → a ≠ L → ¬ (a = p ∨ a = L) := fun x y z => z.elim x y
  exact ⟨n0, n1, n2, z1, z2, k _ _ hB (.inl (no b1 b2)), h0.kp k (no b3 b4), h1.kp k (no b5 b6), h2.kp k (no b7 b8), nd, b1, b2, b3, b4, b5, b6, b7, b8⟩
/-- a generator's surroundings -/
structure Gn (H : Hp) (p L B : Addr) (N : List Str) (n : Nat) (a : Int) : Prop where
  pu : Purse H p n
  lf : Left H L a
  ne : L ≠ p
  lb : Lbl H B p L N
section
variable {H H1 : Hp} {p L B : Addr} {N : List Str} {n m : Nat} {a : Int}
theorem Gn.mono (h : Gn H p L B N n a) (hm : n ≤ m) : Gn H p L B N m a := ⟨h.pu.mono hm, h.lf, h.ne, h.lb⟩
theorem Gn.same (h : Gn H p L B N n a) (s : Same H H1) : Gn H1 p L B N n a := by
  refine ⟨h.pu.same s, ?_, h.ne, h.lb.kp (.same s)⟩
  obtain ⟨d, i, c, l, e, r⟩ := h.lf
  exact ⟨d, i, c, l, s _ _ e, r⟩
theorem Gn.draw (h : Gn H p L B N n a) (b : But p H H1) (q : Purse H1 p m) : Gn H1 p L B N m a := by
  refine ⟨q, ?_, h.ne, h.lb.kp ((b.kp h.pu).wide fun _ z => .inl z)⟩
  obtain ⟨d, i, c, l, e, r⟩ := h.lf
  exact ⟨d, i, c, l, b _ _ h.ne e, r⟩
theorem Gn.left (h : Gn H p L B N n a) {a' d i c l : Int} (hi : 0 ≤ i ∧ i ≤ 20 ∧ 1 ≤ l ∧ l ≤ 5) : Gn (upd H L (lf5 a' d i c l)) p L B N n a' ∧ Kp (fun a => a = p ∨ a = L) H (upd H L (lf5 a' d i c l)) := by
  obtain ⟨d0, i0, c0, l0, e, _⟩ := h.lf
  have k : Kp (fun a => a = p ∨ a = L) H (upd H L (lf5 a' d i c l)) := Kp.set e (.inr rfl)
  refine ⟨⟨?_, ⟨d, i, c, l, upd_same, hi⟩, h.ne, h.lb.kp k⟩, k⟩
  obtain ⟨x, y, z, e2, r⟩ := h.pu
  exact ⟨x, y, z, by rw [upd_ne h.ne.symm]; exact e2, r⟩
theorem Gn.kd (h : Gn H p L B N n a) (b : But p H H1) : Kp (fun a => a = p ∨ a = L) H H1 := (b.kp h.pu).wide fun _ z => .inl z
end
theorem at5_0 {a b c d e : V} : atI [a, b, c, d, e] 0 = some a := atI_nat (j := 0) rfl
theorem at5_1 {a b c d e : V} : atI [a, b, c, d, e] 1 = some b := atI_nat (j := 1) rfl
theorem at5_2 {a b c d e : V} : atI [a, b, c, d, e] 2 = some c := atI_nat (j := 2) rfl
theorem at5_3 {a b c d e : V} : atI [a, b, c, d, e] 3 = some d := atI_nat (j := 3) rfl
theorem at5_4 {a b c d e : V} : atI [a, b, c, d, e] 4 = some e := atI_nat (j := 4) rfl
def S (s : String) : D := .leaf (.str (Str.ofString s))
/-- a term of at most so many levels -/
def TmOk : Nat → D → Prop
  | 0, _ => False
  | n + 1, d => (∃ i, d = .tup [S "number", .leaf (.int i)]) ∨ (∃ z, okName z ∧ d = .tup [S "read", .leaf (.str z)]) ∨ ∃ z ts, okName z ∧ d = .tup [S "call", .leaf (.str z), .lst ts] ∧ ts.length ≤ 3 ∧ ∀ t ∈ ts, TmOk n t
theorem TmOk.succ : ∀ {n : Nat} {d : D}, TmOk n d → TmOk (n + 1) d
  | 0, _, h => h.elim
  | n + 1, d, h => by
    rcases h with h | h | ⟨z, ts, hz, e, hl, ht⟩
    · exact .inl h
    · exact .inr (.inl h)
    · exact .inr (.inr ⟨z, ts, hz, e, hl, fun t m => (ht t m).succ⟩)
theorem TmOk.le {n m : Nat} {d : D} (h : TmOk n d) (hm : n ≤ m) : TmOk m d := by
  induction hm with
  | refl => exact h
  | step _ ih => exact ih.succ
def cT : Nat → Nat
  | 0 => 0
  | k + 1 => 6 + 3 * cT k
/-- a new datum behind a drawing -/
def New (H : Hp) (p L B : Addr) (N : List Str) (n : Nat) (a : Int) (ok : D → Prop) (u : V) (H' : Hp) : Prop := ∃ d G, Gn H' p L B N n a ∧ Kp (fun a => a = p ∨ a = L) H H' ∧ Rep H' d u G ∧ (∀ x ∈ G, H x = none) ∧ ok d
def spTerm (k : Nat) : Sp := fun vs H Q _ => ∃ (p B L : Addr) (N : List Str) (n m : Nat) (a : Int), vs = [.ref p, .ref B, .ref L, .int (m : Int)] ∧ 1 ≤ m ∧ m ≤ 5 ∧ m + 2 ≤ k ∧ Gn H p L B N n a ∧ n + cT m < 10 ^ 60 ∧
  ∀ u H', New H p L B N (n + cT m) a (TmOk m) u H' → Q u H'
theorem leaf_str {z : Str} : Leaf (.str z) := .inr (.inr (.inr ⟨z, rfl⟩))
theorem leaf_int {i : Int} : Leaf (.int i) := .inr (.inr (.inl ⟨i, rfl⟩))
theorem leaf_non : Leaf .non := .inl rfl
theorem rep_leaf {H : Hp} {v : V} (h : Leaf v) : Rep H (.leaf v) v [] := ⟨rfl, h, rfl⟩
theorem reps_nil {H : Hp} : Reps H [] [] [] := ⟨rfl, rfl⟩
theorem reps_leaf {H : Hp} {v : V} {ds : List D} {xs : List V} {F : List Addr} (h : Leaf v) (r : Reps H ds xs F) : Reps H (.leaf v :: ds) (v :: xs) F := ⟨v, xs, [], F, rfl, rep_leaf h, r, (fun _ z => nomatch z), rfl⟩
theorem rep_tup {H : Hp} {a : Addr} {ds : List D} {xs : List V} {F : List Addr} (h : H a = some (.tup xs)) (r : Reps H ds xs F) : Rep H (.tup ds) (.ref a) F := ⟨a, xs, rfl, h, r⟩
theorem rep_lst {H : Hp} {a : Addr} {ds : List D} {xs : List V} {F : List Addr} (h : H a = some (.lst xs)) (r : Reps H ds xs F) (n : a ∉ F) : Rep H (.lst ds) (.ref a) (a :: F) := ⟨a, xs, F, rfl, h, r, n, rfl⟩
theorem reps_one {H : Hp} {d : D} {v : V} {F : List Addr} (h : Rep H d v F) : Reps H [d] [v] F := ⟨v, [], F, [], rfl, h, reps_nil, (fun _ _ z => nomatch z), (List.append_nil F).symm⟩
theorem reps_cons {H : Hp} {d : D} {v : V} {ds : List D} {xs : List V} {F G : List Addr} (h : Rep H d v F) (r : Reps H ds xs G) (n : ∀ a ∈ F, a ∉ G) : Reps H (d :: ds) (v :: xs) (F ++ G) := ⟨v, xs, F, G, rfl, h, r, n, rfl⟩
section
variable {H H1 : Hp} {p L B : Addr} {N : List Str} {n m : Nat} {a b : Int}
theorem Gn.free (h : Gn H p L B N n a) (k : Kp (fun a => a = p ∨ a = L) H H1) (h1 : Gn H1 p L B N m b) {x : Addr} (hx : H1 x = none) : H x = none := by
  cases e : H x with
  | none => rfl
  | some o =>
    by_cases hp : x = p
    · obtain ⟨o2, e2⟩ := h1.pu.some
      rw [← hp, hx] at e2
      cases e2
    · by_cases hL : x = L
      · obtain ⟨d, i, c, l, e2, _⟩ := h1.lf
        rw [← hL, hx] at e2
        cases e2
      · rw [k x o e (.inl fun z => z.elim hp hL)] at hx
        cases hx
theorem Gn.neP (h : Gn H p L B N n a) {x : Addr} (hx : H x = none) : x ≠ p ∧ x ≠ L := by
  refine ⟨h.pu.ne hx, fun z => ?_⟩
  obtain ⟨d, i, c, l, e2, _⟩ := h.lf
  rw [← z, hx] at e2
  cases e2
theorem Gn.noS (h : Gn H p L B N n a) {x : Addr} (hx : H x = none) : ¬ (x = p ∨ x = L) := fun z => z.elim (h.neP hx).1 (h.neP hx).2
theorem Gn.put (h : Gn H p L B N n a) (k : Kp (fun a => a = p ∨ a = L) H H1) (h1 : Gn H1 p L B N m b) {x : Addr} {o : HO} (hx : H x = none) : Gn (upd H1 x o) p L B N m b := by
  obtain ⟨np, nL⟩ := h.neP hx
  refine ⟨?_, ?_, h.ne, h.lb.kp (k.put hx)⟩
  · obtain ⟨y, z, w, e2, r⟩ := h1.pu
    exact ⟨y, z, w, by rw [upd_ne np.symm]; exact e2, r⟩
  · obtain ⟨d, i, c, l, e2, r⟩ := h1.lf
    exact ⟨d, i, c, l, by rw [upd_ne nL.symm]; exact e2, r⟩
end
/-! ### one of some names -/
def tPick (K : PySem.W.Frag) (j : Int) : TE := tOp (rIxL K) (tOp (rIxL K) (tVar 1) (tC (.int j))) (tCall spCoin [] E0 (tCons (tVar 0) (tCons (tCB (fun xs H Q => ∃ p ys, xs = [V.ref p] ∧ (SqL K H p ys ∨ SqT K H p ys) ∧ Q (.int ys.length) H) (tCons (tOp (rIxL K) (tVar 1) (tC (.int j))) tNil)) tNil)))
theorem pick_ok {K : PySem.W.Frag} {σ : L2.St} {H : Hp} {p B A : Addr} {xs : List V} {j : Int} {z : List Str} {n : Nat} {Q : VK} (h0 : σ[0]? = some (some (.ref p))) (h1 : σ[1]? = some (some (.ref B))) (hB : H B = some (.lst xs)) (hj : atI xs j = some (.ref A)) (hA : Nam H A z) (hAp : A ≠ p) (hp : Purse H p n) (hn : n < 10 ^ 60)
    (k : ∀ y H', y ∈ z → But p H H' → Purse H' p (n + 1) → Q (.str y) H') : tPick K j σ H Q := by
  obtain ⟨hz, hz1, hz26, hzo⟩ := hA
  refine ⟨_, h1, B, _, _, _, rfl, rfl, SqL.of hB, hj, _, h0, _, h1, B, _, _, _, rfl, rfl, SqL.of hB, hj, A, _, rfl, .inl (SqL.of hz), p, _, n, rfl, hp, hn, (by rw [List.length_map]; omega), (by rw [List.length_map]; omega), fun dr H1 d0 d1 hb hp1 => ?_⟩
  rw [List.length_map] at d1
  obtain ⟨i, rfl⟩ : ∃ i : Nat, dr = (i : Int) := ⟨dr.toNat, by omega⟩
  have hi : i < z.length := by omega
  exact ⟨A, _, _, .str z[i], rfl, rfl, SqL.of (hb _ _ hAp hz), atI_nat (by rw [List.getElem?_map, List.getElem?_eq_getElem hi]; rfl), k _ _ (List.getElem_mem hi) hb hp1⟩
section
variable {P : Program} {w : World} {K : PySem.W.Frag} {mg : Str → Option Value} {base : Heap}
theorem scTm : FnScope ["purse", "labels", "left", "deep", "way", "terms", "turn"] ["purse", "labels", "left", "deep"] (defScope sTerm) := ⟨rfl, rfl, rfl, by decide +kernel, rfl, by decide +kernel, by decide +kernel⟩
theorem term_none {f : Addr} {fd : FuncData} {ps : List Str} : FnOk P w K mg base CX0 0 f fd ps (spTerm 0) := none_of fun vs H Q E h => by
  obtain ⟨p, B, L, N, n, m, a, _, _, _, h1, _⟩ := h
  omega
theorem ok_term {f fC : Addr} {fd fdC : FuncData} {k : Nat} (F : Fun K "_law_tk_term" "_law_tk_term" sTerm f fd) (T : Txt K mg)
    (FC : Fun K "_law_coin" "_law_coin" sCoin fC fdC) (GC : FnOk P w K mg base CX0 1 fC fdC ["purse", "many"] spCoin) (bC : Binds K fdC ["purse", "many"] []) (mC : mg "_law_coin" = some (.ref fC))
    (G : FnOk P w K mg base CX0 k f fd ["purse", "labels", "left", "deep"] (spTerm k)) (b : Binds K fd ["purse", "labels", "left", "deep"] []) (m : mg "_law_tk_term" = some (.ref f)) :
    FnOk P w K mg base CX0 (k + 1) f fd ["purse", "labels", "left", "deep"] (spTerm (k + 1)) := by
  refine F.ok scTm (fun vs H Q E h => ?_) (fun cdv A outer s H vs Q E hr h => ?_)
  · obtain ⟨p, B, L, N, n, m, a, rfl, _⟩ := h
    rfl
  obtain ⟨p, B, L, N, n, mm, a, rfl, hm1, hm5, hmk, hG, hn, kk⟩ := h
  have hr1 : Room 1 (A.deeper (envOfC "_law_tk_term" (defScope sTerm) s.heap.objs.size f cdv)) := hr.mono (by omega)
  refine ⟨_, Evl.pss_cut (ps_par (i := 4) (j := 5) rfl scTm.nd rfl rfl (by decide) rfl rfl (pa_cons (pe_call GC hr1 rfl mC FC.kp bC .nil pass0 (pa_cons (pv 0) (pa_cons pe_int pa_nil))) (pa_cons (pe_lst pa_nil) pa_nil)) (by rfl))
    (pss_cons (ps_if (pt_cmpR op_eq (pv 4) pe_int (nomark _)) (pss_one (ps_ret (pe_tup (pa_cons pe_str (pa_cons (pe_ix ix_list (pe_lst (pa_cons (pe_op op_sub (pe_call GC hr1 rfl mC FC.kp bC .nil pass0 (pa_cons (pv 0) (pa_cons pe_int pa_nil))) pe_int) (pa_cons (pe_op op_sub (pe_call GC hr1 rfl mC FC.kp bC .nil pass0 (pa_cons (pv 0) (pa_cons pe_int pa_nil))) pe_int) pa_nil)))
        (pe_call GC hr1 rfl mC FC.kp bC .nil pass0 (pa_cons (pv 0) (pa_cons pe_int pa_nil))) (fun _ _ => rfl)) pa_nil))))) pss_nil)
    (pss_cons (ps_if (PW.pt (pw_or (pt_cmpR op_lt (pv 4) pe_int (nomark _)) (pw_or1 (pt_cmpR op_lt (pe_ix ix_list (pv 2) pe_int (fun _ _ => rfl)) pe_int (nomark _)))))
      (pss_one (ps_ret (pe_tup (pa_cons pe_str (pa_cons (pe_ix ix_list (pe_ix ix_list (pv 1) pe_int (fun _ _ => rfl)) (pe_call GC hr1 rfl mC FC.kp bC .nil pass0 (pa_cons (pv 0) (pa_cons (pe_callB call_len_seq (by rfl) T.len PySem.boot_len (pa_cons (pe_ix ix_list (pv 1) pe_int (fun _ _ => rfl)) pa_nil)) pa_nil))) (fun _ _ => rfl)) pa_nil))))) pss_nil)
    (pss_cons (ps_asg (pe_op op_sub (pe_ix ix_list (pv 2) pe_int (fun _ _ => rfl)) pe_int) (pg_sub (pv 2) pe_int set_list))
    (Evl.pss_cut (ps_for PassesOwn.never rfl (pi_range1 rfl T.range (pa_cons (pe_call GC hr1 rfl mC FC.kp bC .nil pass0 (pa_cons (pv 0) (pa_cons pe_int pa_nil))) pa_nil)) (pg_name (i := 6) scTm.nd rfl (Or.inl rfl))
      (pss_one (ps_if (pt_cmpR op_gt (pv 3) pe_int (nomark _)) (pss_one (ps_expr (pe_bm PySem.F.plainAttrs_list PySem.F.slot_list_append PySem.F.type_list_append mt_append (pv 5)
        (pa_cons (pe_call G hr rfl m F.kp b .nil pass0 (pa_cons (pv 0) (pa_cons (pv 1) (pa_cons (pv 2) (pa_cons (pe_op op_sub (pv 3) pe_int) pa_nil))))) pa_nil)))) pss_nil)))
    (pss_one (ps_ret (pe_tup (pa_cons pe_str (pa_cons (pe_ix ix_list (pe_ix ix_list (pv 1) pe_int (fun _ _ => rfl)) (pe_call GC hr1 rfl mC FC.kp bC .nil pass0 (pa_cons (pv 0) (pa_cons (pe_callB call_len_seq (by rfl) T.len PySem.boot_len (pa_cons (pe_ix ix_list (pv 1) pe_int (fun _ _ => rfl)) pa_nil)) pa_nil))) (fun _ _ => rfl)) (pa_cons (pv 5) pa_nil)))))))))), ?_⟩
  obtain ⟨mm, rfl⟩ : ∃ k', mm = k' + 1 := ⟨mm - 1, by omega⟩
  have hcT : cT (mm + 1) = 6 + 3 * cT mm := rfl
  -- the way, no terms yet
  refine ⟨fun σ' H' => Gn H' p L B N (n + 1) a ∧ Kp (fun a => a = p ∨ a = L) H H' ∧ ∃ (wy : Int) (l : Addr), H l = none ∧ H' l = some (.lst []) ∧ σ' = [some (.ref p), some (.ref B), some (.ref L), some (.int ((mm + 1 : Nat) : Int)), some (.int wy), some (.ref l), none], ?_, ?_⟩
  · refine ⟨_, rfl, p, 5, n, rfl, hG.pu, by omega, by decide, by decide, fun wy H1 w0 w1 hb1 hp1 => ⟨by show 0 ≤ sizeLine; decide, fun l hl => ?_⟩⟩
    have hG1 := hG.draw hb1 hp1
    have st := same_new hl (.lst [])
    exact ⟨_, _, rfl, hG1.same st, (hG.kd hb1).trans (.same st), wy, l, hG.free (hG.kd hb1) hG1 hl, upd_same, rfl⟩
  rintro _ H1 ⟨hG1, hk1, wy, l, hl0, hl1, rfl⟩
  refine ⟨_, rfl, rfl, _, rfl, ?_⟩
  refine ite2 (fun _ => ?_) (fun _ => ?_)
  · -- a number
    refine ⟨_, rfl, p, 9, n + 1, rfl, hG1.pu, by omega, by decide, by decide, fun d1 H2 d10 d11 hb2 hp2 => ⟨_, _, rfl, rfl, _, rfl, p, 1999, n + 2, rfl, hp2, by omega, by decide, by decide, fun d2 H3 d20 d21 hb3 hp3 => ⟨_, _, rfl, rfl, by show 2 ≤ sizeLine; decide, fun q hq => ?_⟩⟩⟩
    have hG3 : Gn H3 p L B N (n + 3) a := (hG1.draw hb2 hp2).draw hb3 hp3
    have hk3 := (hk1.trans (hG1.kd hb2)).trans ((hG1.draw hb2 hp2).kd hb3)
    have sq := same_new hq (.lst [.int (d1 - 4), .int (d2 - 999)])
    have hqp := (hG3.neP hq).1
    refine ⟨_, rfl, p, 2, n + 3, rfl, (hG3.same sq).pu, by omega, by decide, by decide, fun d3 H4 d30 d31 hb4 hp4 => ?_⟩
    obtain ⟨t, ht⟩ : ∃ t : Int, atI [V.int (d1 - 4), V.int (d2 - 999)] d3 = some (.int t) := by
      have e : d3 = ((0 : Nat) : Int) ∨ d3 = ((1 : Nat) : Int) := by omega
      rcases e with e | e
      · exact ⟨_, at_ofN e rfl⟩
      · exact ⟨_, at_ofN e rfl⟩
    refine ⟨q, _, _, _, rfl, rfl, SqL.of (hb4 q _ hqp upd_same), ht, by show 2 ≤ sizeLine; decide, fun tp htp => ?_⟩
    have hG4 := (hG3.same sq).draw hb4 hp4
    have hk4 := (hk3.trans (.same sq)).trans ((hG3.same sq).kd hb4)
    have st := same_new htp (.tup [.str (Str.ofString "number"), .int t])
    refine kk _ _ ⟨_, [], (hG4.same st).mono (by omega), hk4.trans (.same st), rep_tup upd_same (reps_leaf leaf_str (reps_leaf leaf_int reps_nil)), (fun _ z => nomatch z), .inl ⟨t, rfl⟩⟩
  obtain ⟨d1, i1, c1, l1, hL1, hl71⟩ := hG1.lf
  -- a name that is read
  have rd : ∀ (Q2 : V → Hp → Prop), (∀ u H', New H p L B N (n + cT (mm + 1)) a (TmOk (mm + 1)) u H' → Q2 u H') → (tTup (tCons (tC (.str (Str.ofString "read"))) (tCons (tPick K 0) tNil))) [some (.ref p), some (.ref B), some (.ref L), some (.int ((mm + 1 : Nat) : Int)), some (.int wy), some (.ref l), none] H1 Q2 := fun Q2 q => by
    obtain ⟨n0, n1, n2, z1, z2, hB, h0, h1, h2, nd, b1, b2, b3, b4, b5, b6, b7, b8⟩ := hG1.lb
    refine pick_ok (j := 0) rfl rfl hB at3_0 h0 b3 hG1.pu (by omega) fun y H2 hy hb2 hp2 => ⟨by show 2 ≤ sizeLine; decide, fun tp htp => ?_⟩
    have st := same_new htp (.tup [.str (Str.ofString "read"), .str y])
    have hG2 := hG1.draw hb2 hp2
    exact q _ _ ⟨_, [], (hG2.same st).mono (by omega), (hk1.trans (hG1.kd hb2)).trans (.same st), rep_tup upd_same (reps_leaf leaf_str (reps_leaf leaf_str reps_nil)), (fun _ z => nomatch z), .inr (.inl ⟨y, h0.2.2.2 y hy, rfl⟩)⟩
  refine ⟨_, rfl, _, _, rfl, rfl, _, rfl, ?_⟩
  refine ite2 (fun _ => iteT (rd _ kk)) (fun _ => ?_)
  refine ⟨_, rfl, L, _, _, _, rfl, rfl, SqL.of hL1, at5_3, _, _, rfl, rfl, _, rfl, ?_⟩
  refine ite2 (fun _ => rd _ kk) (fun _ => ?_)
  clear rd
  -- one call less
  refine ⟨_, rfl, L, _, _, _, rfl, rfl, SqL.of hL1, at5_3, _, _, rfl, rfl, _, rfl, L, _, _, 3, rfl, rfl, hL1, rfl, ?_⟩
  obtain ⟨hG2, hk2⟩ := hG1.left (a' := a) (d := d1) (c := c1 - 1) hl71
  show Evl.tCut _ _ _ _ (upd H1 L (lf5 a d1 i1 (c1 - 1) l1))
  have hl2 : (upd H1 L (lf5 a d1 i1 (c1 - 1) l1)) l = some (.lst []) := by
    rw [upd_ne (hG.neP hl0).2]
    exact hl1
  generalize upd H1 L (lf5 a d1 i1 (c1 - 1) l1) = H2 at hG2 hk2 hl2
  replace hk2 := hk1.trans hk2
  clear hG1 hk1 hl1 hL1
  -- the terms
  refine ⟨fun σ' H' => Gn H' p L B N (n + 3 + 3 * cT mm) a ∧ Kp (fun a => a = p ∨ a = L) H H' ∧ ∃ (ts : List D) (ys : List V) (G0 : List Addr) (v8 : Option V), H' l = some (.lst ys) ∧ Reps H' ts ys G0 ∧ (∀ x ∈ G0, H x = none ∧ x ≠ l) ∧ ts.length ≤ 3 ∧ (∀ t ∈ ts, TmOk mm t) ∧ σ' = [some (.ref p), some (.ref B), some (.ref L), some (.int ((mm + 1 : Nat) : Int)), some (.int wy), some (.ref l), v8], ?_, ?_⟩
  · refine ⟨_, rfl, p, 4, n + 1, rfl, hG2.pu, by omega, by decide, by decide, fun dr H3 d0 d1 hb3 hp3 => ?_⟩
    have hG3 := hG2.draw hb3 hp3
    have hk3 := hk2.trans (hG2.kd hb3)
    refine ⟨dr, rfl, by omega, by omega, ?_⟩
    refine for_range (lo := 0) (fun i σ' H' => Gn H' p L B N (n + 3 + i * cT mm) a ∧ Kp (fun a => a = p ∨ a = L) H H' ∧ ∃ (ts : List D) (ys : List V) (G0 : List Addr) (v8 : Option V), H' l = some (.lst ys) ∧ Reps H' ts ys G0 ∧ (∀ x ∈ G0, H x = none ∧ x ≠ l) ∧ ts.length ≤ i ∧ (∀ t ∈ ts, TmOk mm t) ∧ σ' = [some (.ref p), some (.ref B), some (.ref L), some (.int ((mm + 1 : Nat) : Int)), some (.int wy), some (.ref l), v8])
      ⟨by rw [Nat.zero_mul]; exact hG3.mono (by omega), hk3, [], [], [], none, hb3 _ _ (hG.neP hl0).1 hl2, reps_nil, (fun _ z => nomatch z), Nat.le_refl _, (fun _ z => nomatch z), rfl⟩ ?_ ?_
    · rintro i σ' H5 hi ⟨hG5, hk5, ts, ys, G0, v8, hl5, hr5, hf5, hlen, hts, rfl⟩
      have hi3 : i + 1 ≤ 3 := by omega
      have hcost : (i + 1) * cT mm ≤ 3 * cT mm := Nat.mul_le_mul_right _ hi3
      have hsm : (i + 1) * cT mm = i * cT mm + cT mm := Nat.succ_mul _ _
      refine ⟨_, rfl, _, _, rfl, rfl, _, rfl, ?_⟩
      refine ite2 (fun c => ?_) (fun _ => ⟨hG5.mono (by omega), hk5, ts, ys, G0, _, hl5, hr5, hf5, by omega, hts, rfl⟩)
      have c' : (((mm + 1 : Nat) : Int)) > 1 := of_decide_eq_true c
      refine ⟨_, rfl, .inl ⟨rfl, _, SqL.of hl5⟩, _, rfl, _, rfl, _, rfl, _, rfl, _, _, rfl, rfl, p, B, L, N, n + 3 + i * cT mm, mm, a, ?_, by omega, by omega, by omega, hG5, by omega, ?_⟩
      · show [V.ref p, V.ref B, V.ref L, V.int (((mm + 1 : Nat) : Int) - 1)] = _
        rw [show (((mm + 1 : Nat) : Int) - 1) = (mm : Int) by omega]
      rintro u H6 ⟨d, G6, hG6, hk6, hr6, hf6, ht6⟩
      have hl6 : H6 l = some (.lst ys) := hk6 _ _ hl5 (.inl (hG.noS hl0))
      have hyl : ys.length = ts.length := hr5.len
      have kp7 : Kp (fun a => a = l) H6 (upd H6 l (.lst (ys ++ [u]))) := Kp.set hl6 rfl
      have n6 : ∀ x ∈ G6, x ≠ l := fun x hx z => by
        have e := hf6 x hx
        rw [z, hl5] at e
        cases e
      refine ⟨l, _, _, rfl, rfl, hl6, Nat.lt_of_le_of_lt (show ys.length ≤ 1000 by omega) (by decide), ?_, (hk5.trans hk6).put hl0, ts ++ [d], ys ++ [u], G0 ++ G6, _, upd_same, Reps.snoc ((hr5.kp hk6 fun x hx => hG.noS (hf5 x hx).1).kp kp7 fun x hx => (hf5 x hx).2) (hr6.kp kp7 n6) (fun x hx z => ?_), fun x hx => ?_, ?_, fun t ht => ?_, rfl⟩
      · exact (hG.put (hk5.trans hk6) hG6 hl0).mono (by omega)
      · obtain ⟨zs, e⟩ := hr5.at_ x hx
        rw [hf6 x z] at e
        cases e
      · rcases List.mem_append.mp hx with z | z
        · exact hf5 x z
        · exact ⟨hG.free hk5 hG5 (hf6 x z), n6 x z⟩
      · rw [List.length_append]
        show ts.length + 1 ≤ i + 1
        omega
      · rcases List.mem_append.mp ht with z | z
        · exact hts t z
        · rw [List.mem_singleton.mp z]
          exact ht6
    · rintro σ' H5 ⟨hG5, hk5, ts, ys, G0, v8, hl5, hr5, hf5, hlen, hts, rfl⟩
      have hi3 : dr.toNat ≤ 3 := by omega
      have hcost : dr.toNat * cT mm ≤ 3 * cT mm := Nat.mul_le_mul_right _ hi3
      exact ⟨hG5.mono (by omega), hk5, ts, ys, G0, v8, hl5, hr5, hf5, by omega, hts, rfl⟩
  clear hG2 hk2 hl2
  rintro _ H2 ⟨hG2, hk2, ts, ys, G0, v8, hl2, hr2, hf2, hlen, hts, rfl⟩
  obtain ⟨n0, n1, n2, z1, z2, hB, h0, h1, h2, nd, b1, b2, b3, b4, b5, b6, b7, b8⟩ := hG2.lb
  refine pick_ok (j := 1) rfl rfl hB at3_1 h1 b5 hG2.pu (by omega) fun y H3 hy hb3 hp3 => ⟨_, rfl, by show 3 ≤ sizeLine; decide, fun tp htp => ?_⟩
  have hG3 := hG2.draw hb3 hp3
  have hk3 := hk2.trans (hG2.kd hb3)
  have hl3 := hb3 _ _ (hG.neP hl0).1 hl2
  have hr3 := hr2.kp (hG2.kd hb3) fun x hx => hG.noS (hf2 x hx).1
  have st := same_new htp (.tup [.str (Str.ofString "call"), .str y, .ref l])
  refine kk _ _ ⟨_, l :: G0, (hG3.same st).mono (by omega), hk3.trans (.same st), rep_tup upd_same (reps_leaf leaf_str (reps_leaf leaf_str (reps_one (rep_lst (st _ _ hl3) (hr3.same st) fun z => (hf2 l z).2 rfl)))), fun x hx => ?_, .inr (.inr ⟨y, ts, h1.2.2.2 y hy, rfl, hlen, hts⟩)⟩
  rcases List.mem_cons.mp hx with z | z
  · exact z ▸ hl0
  · exact (hf2 x z).1
end
end K02
set_option Elab.async false
set_option linter.all false
set_option maxRecDepth 100000
set_option maxHeartbeats 4000000
namespace K02
open PySem L2 PyProof.Rows
/-! ### parts, apart from the heap -/
def kid (e : D) : D := e.its.getD (e.its.length - 2) (.leaf .non)
def kids : D → List D
  | .tup [_, .lst es, _] => es.map kid
  | _ => []
def own : D → List Str
  | .tup [_, .leaf (.str z)] => [z]
  | .tup [_, .lst _, .leaf (.str z)] => [z]
  | _ => []
/-- the parts within, ahead of each other as in the text -/
def pre : Nat → D → List D
  | 0, _ => []
  | n + 1, d => d :: (kids d).flatMap (pre n)
def Opt (r : D) : Prop := r = .leaf .non ∨ ∃ z, okName z ∧ r = .leaf (.str z)
def Df (d : D) : Prop := d = .leaf .non ∨ TmOk 5 d
/-- an item, or a field, with what it takes and what it takes else -/
def ent (row : Bool) (q : Str × D × D) : D := if row = true then .tup [q.2.1, q.2.2] else .tup [.leaf (.str q.1), q.2.1, q.2.2]
theorem kid_ent {row : Bool} {q : Str × D × D} : kid (ent row q) = q.2.1 := by cases row <;> rfl
def PtOk : Nat → D → Prop
  | 0, _ => False
  | n + 1, d => d = .tup [S "any"] ∨ (∃ z, okName z ∧ d = .tup [S "name", .leaf (.str z)]) ∨
    ∃ (row : Bool) (qs : List (Str × D × D)) (r : D), d = .tup [S (if row = true then "row" else "record"), .lst (qs.map (ent row)), r] ∧ Opt r ∧ qs.length ≤ 25 ∧ (∀ q ∈ qs, PtOk n q.2.1 ∧ Df q.2.2) ∧ (row = false → (qs.map (·.1)).Nodup ∧ ∀ q ∈ qs, okName q.1)
theorem PtOk.succ : ∀ {n : Nat} {d : D}, PtOk n d → PtOk (n + 1) d
  | 0, _, h => h.elim
  | n + 1, d, h => by
    rcases h with h | h | ⟨row, qs, r, e, hr, hl, hq, hf⟩
    · exact .inl h
    · exact .inr (.inl h)
    · exact .inr (.inr ⟨row, qs, r, e, hr, hl, fun q m => ⟨(hq q m).1.succ, (hq q m).2⟩, hf⟩)
theorem kids_ent {s r : D} {row : Bool} {qs : List (Str × D × D)} : kids (.tup [s, .lst (qs.map (ent row)), r]) = qs.map fun q => q.2.1 := by
  show (qs.map (ent row)).map kid = _
  rw [List.map_map]
  exact List.map_congr_left fun q _ => kid_ent
theorem cT_le : ∀ m, m < 6 → cT m ≤ 726 * 3 := by decide
def okOrd (z : Str) : Prop := z = Str.ofString "soon" ∨ z = Str.ofString "late"
def okLck (z : Str) : Prop := z = Str.ofString "absent" ∨ z = Str.ofString "nothing"
/-! ### is a list of texts empty? -/
section
variable {K : PySem.W.Frag} {H : Hp}
theorem dp_texts : ∀ {zs : List Str}, DpAll K H (zs.map V.str) (zs.map PyData.str)
  | [] => .nil
  | z :: zs => .cons (.str z) dp_texts
theorem ls_ok {z : Str} (h : ls z) : PyData.strOk z = true := by
  show z.cps.all _ = true
  rw [← Array.all_toList]
  exact List.all_eq_true.mpr fun c hc => decide_eq_true (Nat.lt_of_le_of_lt (h c hc).2 (by decide))
theorem can_texts : ∀ zs : List Str, (∀ z ∈ zs, ls z) → PyData.canLayAll0 (zs.map PyData.str) = true
  | [], _ => by simp [PyData.canLayAll0]
  | z :: zs, h => by simp [PyData.canLayAll0, PyData.canLay0, can_texts zs fun y hy => h y (List.mem_cons_of_mem _ hy), ls_ok (h z List.mem_cons_self)]
theorem depth_texts : ∀ zs : List Str, PyData.depthAll (zs.map PyData.str) ≤ 1
  | [] => by simp [PyData.depthAll]
  | z :: zs => by
    have h := depth_texts zs
    simp [PyData.depthAll, PyData.depth]
    omega
theorem shaped_texts (zs : List Str) (h0 : ∀ z ∈ zs, ls z) : SeqAt.shaped (.list (zs.map PyData.str)) = true := by
  have h := depth_texts zs
  simp [SeqAt.shaped, PyData.canLay0, PyData.depth, can_texts zs h0]
  omega
theorem ne_empty {a b : Addr} {zs : List Str} {Q : VK} (h0 : ∀ z ∈ zs, ls z) (ha : SqL K H a (zs.map V.str)) (hb : SqL K H b []) (q : Q (.bl (!zs.isEmpty)) H) : rNeD K (.ref a) (.ref b) H Q := by
  refine ⟨.list (zs.map PyData.str), .list [], .lst ha dp_texts, .lst hb .nil, shaped_texts zs h0, shaped_texts [] (fun _ z => nomatch z), ?_⟩
  have e : PyData.eqv (.list (zs.map PyData.str)) (.list []) = zs.isEmpty := by cases zs <;> simp [PyData.eqv, PyData.eqvAll]
  rw [e]
  exact q
end
theorem erase_split {α : Type} {xs : List α} {j : Nat} (h : j < xs.length) (nd : xs.Nodup) : (xs.eraseIdx j).Nodup ∧ xs[j] ∉ xs.eraseIdx j ∧ ∀ z ∈ xs.eraseIdx j, z ∈ xs := by
  have e1 : xs = xs.take j ++ xs[j] :: xs.drop (j + 1) := by
    rw [← List.drop_eq_getElem_cons h, List.take_append_drop]
  have e2 : xs.eraseIdx j = xs.take j ++ xs.drop (j + 1) := List.eraseIdx_eq_take_drop_succ xs j
  have n2 : (xs.take j ++ xs[j] :: xs.drop (j + 1)).Nodup := by
    rw [← e1]
    exact nd
  rw [e2]
  obtain ⟨a1, a2, a3⟩ := List.nodup_append.mp n2
  obtain ⟨b1, b2⟩ := List.nodup_cons.mp a2
  refine ⟨List.nodup_append.mpr ⟨a1, b2, fun x hx y hy => a3 x hx y (List.mem_cons_of_mem _ hy)⟩, fun z => ?_, fun z hz => ?_⟩
  · rcases List.mem_append.mp z with z | z
    · exact a3 _ z _ List.mem_cons_self rfl
    · exact b1 z
  · rcases List.mem_append.mp hz with z | z
    · exact List.mem_of_mem_take z
    · exact List.mem_of_mem_drop z
theorem erase_map {α β : Type} (f : α → β) (xs : List α) (j : Nat) : (xs.map f).eraseIdx j = (xs.eraseIdx j).map f := by
  rw [List.eraseIdx_eq_take_drop_succ, List.eraseIdx_eq_take_drop_succ, List.map_append, List.map_take, List.map_drop]
theorem erase_len {α : Type} (xs : List α) (j : Nat) : (xs.eraseIdx j).length ≤ xs.length := by
  rw [List.eraseIdx_eq_take_drop_succ, List.length_append, List.length_take, List.length_drop]
  omega
theorem ent_rep {H : Hp} {row : Bool} {z : Str} {d e : D} {t : Addr} {u v : V} {F G : List Addr} (ht : H t = some (.tup ((if row = true then [] else [V.str z]) ++ [u] ++ [v]))) (h1 : Rep H d u F) (h2 : Rep H e v G) (n : ∀ x ∈ F, x ∉ G) : Rep H (ent row (z, d, e)) (.ref t) (F ++ G) := by
  cases row with
  | true => exact rep_tup ht (reps_cons h1 (reps_one h2) n)
  | false => exact rep_tup ht (reps_leaf leaf_str (reps_cons h1 (reps_one h2) n))
/-- a test, and what is known behind it -/
def tCutT (t : TT) : TT := fun σ H Q => ∃ R : Bool → Hp → Prop, t σ H R ∧ ∀ b H', R b H' → Q b H'
theorem pt_cut {X : Cx} {e : Expr} {t : TT} (h : PT X e t) : PT X e (tCutT t) := ⟨fun pins s σ H Q I ⟨R, h1, h2⟩ => thn (h.run pins s σ H R I h1) fun b s1 ⟨H', I', q⟩ => ⟨H', I', h2 b H' q⟩⟩
theorem flat_eq {α β : Type} {f g : α → List β} : ∀ {xs : List α}, (∀ x ∈ xs, f x = g x) → xs.flatMap f = xs.flatMap g
  | [], _ => rfl
  | x :: xs, h => by
    rw [List.flatMap_cons, List.flatMap_cons, h x List.mem_cons_self, flat_eq fun y hy => h y (List.mem_cons_of_mem _ hy)]
theorem pre_succ : ∀ {n : Nat} {d : D}, PtOk n d → pre (n + 1) d = pre n d
  | 0, _, h => h.elim
  | n + 1, d, h => by
    show d :: (kids d).flatMap (pre (n + 1)) = d :: (kids d).flatMap (pre n)
    rcases h with rfl | ⟨z, _, rfl⟩ | ⟨row, qs, r, rfl, hr, hl, hq, hf⟩
    · rfl
    · rfl
    · rw [kids_ent, flat_eq fun x hx => ?_]
      obtain ⟨q, hm, rfl⟩ := List.mem_map.mp hx
      exact pre_succ (hq q hm).1
theorem PtOk.le {n m : Nat} {d : D} (h : PtOk n d) (hm : n ≤ m) : PtOk m d := by
  induction hm with
  | refl => exact h
  | step _ ih => exact ih.succ
theorem pre_le {n m : Nat} {d : D} (h : PtOk n d) (hm : n ≤ m) : pre m d = pre n d := by
  induction hm with
  | refl => rfl
  | @step m hm ih => rw [pre_succ (h.le hm), ih]
theorem Kp.but {p L : Addr} {H H1 H2 : Hp} (k : Kp (fun a => a = p ∨ a = L) H1 H2) (b : But p H H1) (hL : H L = none) : But p H H2 := fun c o nc e => k c o (b c o nc e) (.inl fun z => by
  rcases z with z | z
  · exact nc z
  · rw [z, hL] at e
    cases e)
def bnd (m : Nat) (d : D) : List Str := (pre m d).flatMap own
end K02
set_option Elab.async false
set_option linter.all false
set_option maxRecDepth 100000
set_option maxHeartbeats 4000000
namespace K02
open PySem L2 PyProof.Rows
def cP : Nat → Nat
  | 0 => 4
  | k + 1 => 10 + 20 * (cP k + 2300)
/-- a part of which the names are among some -/
def PtN (N : List Str) (m : Nat) (d : D) : Prop := PtOk m d ∧ ∀ z ∈ bnd m d, z ∈ N
def spPart (k : Nat) : Sp := fun vs H Q _ => ∃ (p B L : Addr) (N : List Str) (n dp : Nat) (a : Int), vs = [.ref p, .ref B, .ref L, .int (dp : Int)] ∧ dp + 9 ≤ k ∧ Gn H p L B N n a ∧ 1 ≤ a ∧ a ≤ 60 ∧ n + cP dp < 10 ^ 60 ∧
  ∀ u H' a', 0 ≤ a' → a' < a → New H p L B N (n + cP dp) a' (fun d => PtN N (dp + 1) d ∧ ((pre (dp + 1) d).length : Int) = a - a') u H' → Q u H'
/-- so many items drawn -/
def PartI (H : Hp) (p L B : Addr) (N : List Str) (tk fr : Addr) (row : Bool) (dp n : Nat) (a : Int) (i : Nat) (H' : Hp) : Prop := ∃ (a' : Int) (qs : List (Str × D × D)) (ys : List V) (G0 : List Addr) (zf : List Str), Gn H' p L B N n a' ∧ Kp (fun a => a = p ∨ a = L) H H' ∧ 0 ≤ a' ∧ a' ≤ a ∧ H' tk = some (.lst ys) ∧ H' fr = some (.lst (zf.map V.str)) ∧ Reps H' (qs.map (ent row)) ys G0 ∧ (∀ x ∈ G0, H x = none ∧ x ≠ tk ∧ x ≠ fr) ∧ qs.length ≤ i ∧
  (∀ q ∈ qs, PtN N (dp + 1) q.2.1 ∧ Df q.2.2) ∧ ((((qs.map fun q => q.2.1).flatMap (pre (dp + 1))).length : Nat) : Int) = a - a' ∧ zf.length ≤ 26 ∧ zf.Nodup ∧ (∀ z ∈ zf, okName z) ∧ (row = false → (qs.map (·.1)).Nodup ∧ (∀ q ∈ qs, okName q.1) ∧ ∀ z ∈ zf, z ∉ qs.map (·.1))
theorem bnd_row {N : List Str} {dp : Nat} {s : String} {row : Bool} {qs : List (Str × D × D)} {r : D} (h : ∀ q ∈ qs, PtN N dp q.2.1) (hr : ∀ z, r = .leaf (.str z) → z ∈ N) : ∀ z ∈ bnd (dp + 1) (.tup [S s, .lst (qs.map (ent row)), r]), z ∈ N := fun z hz => by
  obtain ⟨e, he, hz⟩ := List.mem_flatMap.mp hz
  have he' : e ∈ (.tup [S s, .lst (qs.map (ent row)), r] : D) :: (kids (.tup [S s, .lst (qs.map (ent row)), r])).flatMap (pre dp) := he
  rcases List.mem_cons.mp he' with rfl | he'
  · cases r with
    | leaf v =>
      cases v with
      | str y =>
        have e2 : z ∈ [y] := hz
        rw [List.mem_singleton.mp e2]
        exact hr y rfl
      | _ => cases hz
    | _ => cases hz
  · rw [kids_ent] at he'
    obtain ⟨k, hk, hek⟩ := List.mem_flatMap.mp he'
    obtain ⟨q, hm, rfl⟩ := List.mem_map.mp hk
    exact (h q hm).2 z (List.mem_flatMap.mpr ⟨e, hek, hz⟩)
/-- one of the names at a place -/
def tPick1 (K : PySem.W.Frag) (i : Nat) : TE := tOp (rIxL K) (tVar i) (tCall spCoin [] E0 (tCons (tVar 0) (tCons (tCB (fun xs H Q => ∃ p ys, xs = [V.ref p] ∧ (SqL K H p ys ∨ SqT K H p ys) ∧ Q (.int ys.length) H) (tCons (tVar i) tNil)) tNil)))
theorem pick1_ok {K : PySem.W.Frag} {σ : L2.St} {H : Hp} {p A : Addr} {i : Nat} {z : List Str} {n : Nat} {Q : VK} (h0 : σ[0]? = some (some (.ref p))) (h1 : σ[i]? = some (some (.ref A))) (hA : Nam H A z) (hAp : A ≠ p) (hp : Purse H p n) (hn : n < 10 ^ 60)
    (k : ∀ y H', y ∈ z → But p H H' → Purse H' p (n + 1) → Q (.str y) H') : tPick1 K i σ H Q := by
  obtain ⟨hz, hz1, hz26, hzo⟩ := hA
  refine ⟨_, h1, _, h0, _, h1, A, _, rfl, .inl (SqL.of hz), p, _, n, rfl, hp, hn, (by rw [List.length_map]; omega), (by rw [List.length_map]; omega), fun dr H1 d0 d1 hb hp1 => ?_⟩
  rw [List.length_map] at d1
  obtain ⟨i, rfl⟩ : ∃ i : Nat, dr = (i : Int) := ⟨dr.toNat, by omega⟩
  have hi : i < z.length := by omega
  exact ⟨A, _, _, .str z[i], rfl, rfl, SqL.of (hb _ _ hAp hz), atI_nat (by rw [List.getElem?_map, List.getElem?_eq_getElem hi]; rfl), k _ _ (List.getElem_mem hi) hb hp1⟩
section
variable {P : Program} {w : World} {K : PySem.W.Frag} {mg : Str → Option Value} {base : Heap}
theorem scPt : FnScope ["purse", "labels", "left", "deep", "way", "names", "name", "rest", "takings", "free", "turn", "found"] ["purse", "labels", "left", "deep"] (defScope sPart) := ⟨rfl, rfl, rfl, by decide +kernel, rfl, by decide +kernel, by decide +kernel⟩
theorem part_none {f : Addr} {fd : FuncData} {ps : List Str} : FnOk P w K mg base CX0 0 f fd ps (spPart 0) := none_of fun vs H Q E h => by
  obtain ⟨p, B, L, N, n, dp, a, _, h1, _⟩ := h
  omega
theorem ok_part {f fC fT : Addr} {fd fdC fdT : FuncData} {k : Nat} (F : Fun K "_law_tk_part" "_law_tk_part" sPart f fd) (T : Txt K mg)
    (FC : Fun K "_law_coin" "_law_coin" sCoin fC fdC) (GC : FnOk P w K mg base CX0 1 fC fdC ["purse", "many"] spCoin) (bC : Binds K fdC ["purse", "many"] []) (mC : mg "_law_coin" = some (.ref fC))
    (FT : Fun K "_law_tk_term" "_law_tk_term" sTerm fT fdT) (GT : FnOk P w K mg base CX0 7 fT fdT ["purse", "labels", "left", "deep"] (spTerm 7)) (bT : Binds K fdT ["purse", "labels", "left", "deep"] []) (mT : mg "_law_tk_term" = some (.ref fT))
    (G : FnOk P w K mg base CX0 k f fd ["purse", "labels", "left", "deep"] (spPart k)) (b : Binds K fd ["purse", "labels", "left", "deep"] []) (m : mg "_law_tk_part" = some (.ref f)) :
    FnOk P w K mg base CX0 (k + 1) f fd ["purse", "labels", "left", "deep"] (spPart (k + 1)) := by
  refine F.ok scPt (fun vs H Q E h => ?_) (fun cdv A outer s H vs Q E hr h => ?_)
  · obtain ⟨p, B, L, N, n, dp, a, rfl, _⟩ := h
    rfl
  obtain ⟨p, B, L, N, n, dp, a, rfl, hk, hG, ha1, ha60, hn, kk⟩ := h
  have hr1 : Room 1 (A.deeper (envOfC "_law_tk_part" (defScope sPart) s.heap.objs.size f cdv)) := hr.mono (by omega)
  have hr7 : Room 7 (A.deeper (envOfC "_law_tk_part" (defScope sPart) s.heap.objs.size f cdv)) := hr.mono (by omega)
  refine ⟨_, pss_cons (ps_asg (pe_op op_sub (pe_ix ix_list (pv 2) pe_int (fun _ _ => rfl)) pe_int) (pg_sub (pv 2) pe_int set_list))
    (Evl.pss_cut (ps_par (i := 4) (j := 5) rfl scPt.nd rfl rfl (by decide) rfl rfl (pa_cons (pe_call GC hr1 rfl mC FC.kp bC .nil pass0 (pa_cons (pv 0) (pa_cons pe_int pa_nil))) (pa_cons (pe_ix ix_list (pv 1) pe_int (fun _ _ => rfl)) pa_nil)) (by rfl))
    (Evl.pss_cut (ps_if (PW.pt (pw_or (pt_cmpR op_lt (pv 3) pe_int (nomark _)) (pw_or (pt_cmpR op_lt (pe_ix ix_list (pv 2) pe_int (fun _ _ => rfl)) pe_int (nomark _)) (pw_or1 (pt_cmpR op_eq (pv 4) pe_int (nomark _))))))
      (pss_cons (ps_set (i := 6) scPt.nd rfl (Or.inl rfl) (pe_ix ix_list (pv 5) (pe_call GC hr1 rfl mC FC.kp bC .nil pass0 (pa_cons (pv 0) (pa_cons (pe_callB call_len_seq (by rfl) T.len PySem.boot_len (pa_cons (pv 5) pa_nil)) pa_nil))) (fun _ _ => rfl)))
      (pss_one (ps_ret (pe_ifExp (pt_cmpR op_eq (pe_call GC hr1 rfl mC FC.kp bC .nil pass0 (pa_cons (pv 0) (pa_cons pe_int pa_nil))) pe_int (nomark _)) (pe_tup (pa_cons pe_str pa_nil)) (pe_tup (pa_cons pe_str (pa_cons (pv 6) pa_nil))))))) pss_nil)
    (Evl.pss_cut (ps_set (i := 7) scPt.nd rfl (Or.inl rfl) (pe_ifExp (pt_cmpR op_eq (pe_call GC hr1 rfl mC FC.kp bC .nil pass0 (pa_cons (pv 0) (pa_cons pe_int pa_nil))) pe_int (nomark _)) pe_non
      (pe_ix ix_list (pv 5) (pe_call GC hr1 rfl mC FC.kp bC .nil pass0 (pa_cons (pv 0) (pa_cons (pe_callB call_len_seq (by rfl) T.len PySem.boot_len (pa_cons (pv 5) pa_nil)) pa_nil))) (fun _ _ => rfl))))
    (Evl.pss_cut (ps_par (i := 8) (j := 9) rfl scPt.nd rfl rfl (by decide) rfl rfl (pa_cons (pe_lst pa_nil) (pa_cons (pe_callTy call_list_of (by rfl) T.list boot_list (pa_cons (pe_ix ix_list (pv 1) pe_int (fun _ _ => rfl)) pa_nil)) pa_nil)) (by rfl))
    (Evl.pss_cut (ps_for PassesOwn.never rfl (pi_range1 rfl T.range (pa_cons (pe_call GC hr1 rfl mC FC.kp bC .nil pass0 (pa_cons (pv 0) (pa_cons (pe_op op_add (pe_ix ix_list (pv 2) pe_int (fun _ _ => rfl)) pe_int) pa_nil))) pa_nil)) (pg_name (i := 10) scPt.nd rfl (Or.inl rfl))
      (pss_one (ps_if (pt_cut (PW.pt (pw_and (pt_cmpR op_gt (pe_ix ix_list (pv 2) pe_int (fun _ _ => rfl)) pe_int (nomark _)) (pw_and1 (PW.pt (pw_or (pt_cmpR op_lt (pv 4) pe_int (nomark _)) (pw_or1 (pt_cmpR (op_neD hr.units) (pv 9) (pe_lst pa_nil) (nomark _)))))))))
        (Evl.pss_cut (ps_set (i := 11) scPt.nd rfl (Or.inl rfl) (pe_ifExp (pt_cmpR op_lt (pv 4) pe_int (nomark _)) (pe_lst pa_nil) (pe_lst (pa_cons (pe_bm PySem.F.plainAttrs_list PySem.F.slot_list_pop PySem.F.type_list_pop mt_popAt (pv 9)
            (pa_cons (pe_call GC hr1 rfl mC FC.kp bC .nil pass0 (pa_cons (pv 0) (pa_cons (pe_callB call_len_seq (by rfl) T.len PySem.boot_len (pa_cons (pv 9) pa_nil)) pa_nil))) pa_nil)) pa_nil))))
        (Evl.pss_cut (ps_set (i := 11) scPt.nd rfl (Or.inl rfl) (pe_op op_cat (pv 11) (pe_lst (pa_cons (pe_call G hr rfl m F.kp b .nil pass0 (pa_cons (pv 0) (pa_cons (pv 1) (pa_cons (pv 2) (pa_cons (pe_op op_sub (pv 3) pe_int) pa_nil))))) (pa_cons pe_non pa_nil)))))
        (Evl.pss_cut (ps_if (pt_cut (PW.pt (pw_and (pt_cmpR op_gt (pe_ix ix_list (pv 2) pe_int (fun _ _ => rfl)) pe_int (nomark _)) (pw_and1 (pt_cmpR op_eq (pe_call GC hr1 rfl mC FC.kp bC .nil pass0 (pa_cons (pv 0) (pa_cons pe_int pa_nil))) pe_int (nomark _))))))
          (Evl.pss_cut (ps_asg (pe_op op_sub (pe_ix ix_list (pv 2) pe_int (fun _ _ => rfl)) pe_int) (pg_sub (pv 2) pe_int set_list))
          (pss_one (ps_asg (pe_call GT hr7 rfl mT FT.kp bT .nil pass0 (pa_cons (pv 0) (pa_cons (pv 1) (pa_cons (pv 2) (pa_cons (pe_ix ix_list (pv 2) pe_int (fun _ _ => rfl)) pa_nil))))) (pg_sub (pv 11) (pe_un un_neg pe_int) set_list)))) pss_nil)
        (pss_one (ps_expr (pe_bm PySem.F.plainAttrs_list PySem.F.slot_list_append PySem.F.type_list_append mt_append (pv 8) (pa_cons (pe_callTy call_tuple_of (by rfl) T.tuple boot_tuple (pa_cons (pv 11) pa_nil)) pa_nil))))))) pss_nil)))
    (pss_one (ps_ret (pe_tup (pa_cons (pe_ifExp (pt_cmpR op_lt (pv 4) pe_int (nomark _)) pe_str pe_str) (pa_cons (pv 8) (pa_cons (pv 7) pa_nil))))))))))), ?_⟩
  -- one part less
  obtain ⟨d0, i0, c0, l0, hL, hl7⟩ := hG.lf
  refine ⟨_, rfl, L, _, _, _, rfl, rfl, SqL.of hL, at5_0, _, _, rfl, rfl, _, rfl, L, _, _, 0, rfl, rfl, hL, rfl, ?_⟩
  obtain ⟨hG1, hk1⟩ := hG.left (a' := a - 1) (d := d0) (i := i0) (c := c0) (l := l0) hl7
  show Evl.tCut _ _ _ _ (upd H L (lf5 (a - 1) d0 i0 c0 l0))
  have hL1 : (upd H L (lf5 (a - 1) d0 i0 c0 l0)) L = some (lf5 (a - 1) d0 i0 c0 l0) := upd_same
  generalize upd H L (lf5 (a - 1) d0 i0 c0 l0) = H1 at hG1 hk1 hL1
  have hcp : 4 ≤ cP dp := by cases dp with
    | zero => exact Nat.le_refl _
    | succ j => show 4 ≤ 10 + 20 * (cP j + 2300); omega
  -- the way, the names
  refine ⟨fun σ' H' => Gn H' p L B N (n + 1) (a - 1) ∧ Kp (fun a => a = p ∨ a = L) H H' ∧ H' L = some (lf5 (a - 1) d0 i0 c0 l0) ∧ ∃ (wy : Int) (n0 : Addr), n0 ≠ p ∧ n0 ≠ L ∧ Nam H1 n0 N ∧ Nam H' n0 N ∧ σ' = [some (.ref p), some (.ref B), some (.ref L), some (.int (dp : Int)), some (.int wy), some (.ref n0), none, none, none, none, none, none], ?_, ?_⟩
  · refine ⟨_, rfl, p, 7, n, rfl, hG1.pu, by omega, by decide, by decide, fun wy H2 w0 w1 hb2 hp2 => ?_⟩
    have hG2 := hG1.draw hb2 hp2
    obtain ⟨n0, n1, n2, z1, z2, hB, h0, h1, h2, nd, b1, b2, b3, b4, b5, b6, b7, b8⟩ := hG1.lb
    refine ⟨_, rfl, B, _, _, _, rfl, rfl, SqL.of (hb2 _ _ b1 hB), at3_0, _, _, rfl, hG2, hk1.trans (hG1.kd hb2), hb2 L _ hG.ne hL1, wy, n0, b3, b4, h0, ⟨hb2 _ _ b3 h0.1, h0.2⟩, rfl⟩
  clear hG1
  rintro _ H2 ⟨hG2, hk2, hL2, wy, n0, n0p, n0L, hN1, hN2, rfl⟩
  clear hL1 hk1 hN1
  -- a name or any
  refine ⟨fun σ' H' => Gn H' p L B N (n + 1) (a - 1) ∧ Kp (fun a => a = p ∨ a = L) H H' ∧ (∃ j, dp = j + 1) ∧ H' L = some (lf5 (a - 1) d0 i0 c0 l0) ∧ Nam H' n0 N ∧ σ' = [some (.ref p), some (.ref B), some (.ref L), some (.int (dp : Int)), some (.int wy), some (.ref n0), none, none, none, none, none, none], ?_, ?_⟩
  · have leafs : ∀ Dn : L2.St → Hp → Prop, tSeq (tAsg (tPick1 K 5) (gName 6)) (tRet (tIf (tTest (tOp rEq (tCall spCoin [] E0 (tCons (tVar 0) (tCons (tC (.int 6)) tNil))) (tC (.int 0)))) (tTup (tCons (tC (.str (Str.ofString "any"))) tNil)) (tTup (tCons (tC (.str (Str.ofString "name"))) (tCons (tVar 6) tNil)))))
        { nx := Dn, rt := Q } [some (.ref p), some (.ref B), some (.ref L), some (.int (dp : Int)), some (.int wy), some (.ref n0), none, none, none, none, none, none] H2 := fun Dn => by
      refine pick1_ok rfl rfl hN2 n0p hG2.pu (by omega) fun y H3 hy hb3 hp3 => ?_
      have hG3 := hG2.draw hb3 hp3
      have hk3 := hk2.trans (hG2.kd hb3)
      refine ⟨_, rfl, p, 6, n + 2, rfl, hG3.pu, by omega, by decide, by decide, fun d H4 d1 d2 hb4 hp4 => ⟨rfl, _, rfl, ?_⟩⟩
      have hG4 := hG3.draw hb4 hp4
      have hk4 := hk3.trans (hG3.kd hb4)
      refine ite2 (fun _ => ?_) (fun _ => ?_)
      · refine ⟨by show 1 ≤ sizeLine; decide, fun tp htp => ?_⟩
        have st := same_new htp (.tup [.str (Str.ofString "any")])
        refine kk _ _ (a - 1) (by omega) (by omega) ⟨.tup [S "any"], [], (hG4.same st).mono (by omega), hk4.trans (.same st), rep_tup upd_same (reps_leaf leaf_str reps_nil), (fun _ z => nomatch z), ⟨.inl rfl, fun _ z => nomatch z⟩, ?_⟩
        show (1 : Int) = a - (a - 1)
        omega
      · refine ⟨_, rfl, by show 2 ≤ sizeLine; decide, fun tp htp => ?_⟩
        have st := same_new htp (.tup [.str (Str.ofString "name"), .str y])
        refine kk _ _ (a - 1) (by omega) (by omega) ⟨.tup [S "name", .leaf (.str y)], [], (hG4.same st).mono (by omega), hk4.trans (.same st), rep_tup upd_same (reps_leaf leaf_str (reps_leaf leaf_str reps_nil)), (fun _ z => nomatch z), ⟨.inr (.inl ⟨y, hN2.2.2.2 y hy, rfl⟩), fun z hz => ?_⟩, ?_⟩
        · have e : z ∈ [y] := hz
          rw [List.mem_singleton.mp e]
          exact hy
        · show (1 : Int) = a - (a - 1)
          omega
    refine ⟨_, rfl, _, _, rfl, rfl, _, rfl, ?_⟩
    refine ite2 (fun _ => iteT (leafs _)) (fun c => ?_)
    refine ⟨_, rfl, L, _, _, _, rfl, rfl, SqL.of hL2, at5_0, _, _, rfl, rfl, _, rfl, ?_⟩
    refine ite2 (fun _ => iteT (leafs _)) (fun _ => ?_)
    refine ⟨_, rfl, rfl, _, rfl, ?_⟩
    refine ite2 (fun _ => leafs _) (fun _ => ⟨hG2, hk2, ⟨dp - 1, ?_⟩, hL2, hN2, rfl⟩)
    have c' : ¬ ((dp : Int) < 1) := fun z => c (decide_eq_true z)
    omega
  clear hG2 hk2 hL2 hN2
  rintro _ H2 ⟨hG2, hk2, ⟨dp, rfl⟩, hL2, hN2, rfl⟩
  have hcP : cP (dp + 1) = 10 + 20 * (cP dp + 2300) := rfl
  -- the rest
  refine ⟨fun σ' H' => Gn H' p L B N (n + 3) (a - 1) ∧ Kp (fun a => a = p ∨ a = L) H H' ∧ H' L = some (lf5 (a - 1) d0 i0 c0 l0) ∧ ∃ rv, Opt (.leaf rv) ∧ (∀ z, rv = .str z → z ∈ N) ∧ Leaf rv ∧ σ' = [some (.ref p), some (.ref B), some (.ref L), some (.int ((dp + 1 : Nat) : Int)), some (.int wy), some (.ref n0), none, some rv, none, none, none, none], ?_, ?_⟩
  · refine ⟨_, rfl, p, 2, n + 1, rfl, hG2.pu, by omega, by decide, by decide, fun d H3 d1 d2 hb3 hp3 => ⟨rfl, _, rfl, ?_⟩⟩
    have hG3 := hG2.draw hb3 hp3
    have hk3 := hk2.trans (hG2.kd hb3)
    have hL3 := hb3 L _ hG.ne hL2
    refine ite2 (fun _ => ?_) (fun _ => ?_)
    · exact ⟨hG3.mono (by omega), hk3, hL3, .non, .inl rfl, (fun _ z => nomatch z), leaf_non, rfl⟩
    · refine pick1_ok (i := 5) rfl rfl (z := N) ⟨hb3 _ _ n0p hN2.1, hN2.2⟩ n0p hG3.pu (by omega) fun y H4 hy hb4 hp4 => ?_
      exact ⟨hG3.draw hb4 hp4, hk3.trans (hG3.kd hb4), hb4 L _ hG.ne hL3, .str y, .inr ⟨y, hN2.2.2.2 y hy, rfl⟩, (fun z e => by cases e; exact hy), leaf_str, rfl⟩
  clear hG2 hk2 hL2
  rintro _ H2 ⟨hG2, hk2, hL2, rv, hrv, hrN, hrl, rfl⟩
  -- takings, free
  refine ⟨fun σ' H' => Gn H' p L B N (n + 3) (a - 1) ∧ Kp (fun a => a = p ∨ a = L) H H' ∧ H' L = some (lf5 (a - 1) d0 i0 c0 l0) ∧ ∃ (tk fr : Addr) (zf : List Str), H tk = none ∧ H fr = none ∧ tk ≠ fr ∧ H' tk = some (.lst []) ∧ H' fr = some (.lst (zf.map V.str)) ∧ zf.length ≤ 26 ∧ zf.Nodup ∧ (∀ z ∈ zf, okName z) ∧ σ' = [some (.ref p), some (.ref B), some (.ref L), some (.int ((dp + 1 : Nat) : Int)), some (.int wy), some (.ref n0), none, some rv, some (.ref tk), some (.ref fr), none, none], ?_, ?_⟩
  · refine ⟨by show 0 ≤ sizeLine; decide, fun tk htk => ?_⟩
    have s1 := same_new htk (.lst [])
    obtain ⟨m0, n1, n2, z1, z2, hB, h0, h1, h2, nd, b1, b2, b3, b4, b5, b6, b7, b8⟩ := (hG2.same s1).lb
    refine ⟨_, rfl, B, _, _, _, rfl, rfl, SqL.of hB, at_ofN (j := 2) rfl rfl, n2, _, rfl, .inl (SqL.of h2.1), fun fr hfr => ⟨_, _, rfl, ?_⟩⟩
    have s2 := same_new hfr (.lst (z2.map V.str))
    have htf : tk ≠ fr := fun z => by
      rw [← z, upd_same] at hfr
      cases hfr
    exact ⟨(hG2.same s1).same s2, (hk2.trans (.same s1)).trans (.same s2), s2 _ _ (s1 _ _ hL2), tk, fr, z2, hG.free hk2 hG2 htk, hG.free hk2 hG2 (s1.free hfr), htf, s2 _ _ upd_same, upd_same, h2.2.2.1, nd, h2.2.2.2, rfl⟩
  clear hG2 hk2 hL2
  rintro _ H2 ⟨hG2, hk2, hL2, tk, fr, zf0, htk0, hfr0, htf, htk2, hfr2, hz26, hznd, hzok, rfl⟩
  -- the items
  refine ⟨fun σ' H' => PartI H p L B N tk fr (decide (wy < 4)) dp (n + 4 + 20 * (cP dp + 2300)) (a - 1) 20 H' ∧ ∃ v10 v11, σ' = [some (.ref p), some (.ref B), some (.ref L), some (.int ((dp + 1 : Nat) : Int)), some (.int wy), some (.ref n0), none, some rv, some (.ref tk), some (.ref fr), v10, v11], ?_, ?_⟩
  · refine ⟨_, rfl, _, rfl, L, _, _, _, rfl, rfl, SqL.of hL2, at5_2, _, _, rfl, rfl, p, i0 + 1, n + 3, rfl, hG2.pu, by omega, by omega, by omega, fun dr H3 d1 d2 hb3 hp3 => ?_⟩
    have hG3 := hG2.draw hb3 hp3
    have hk3 := hk2.trans (hG2.kd hb3)
    obtain ⟨ntp, ntL⟩ := hG.neP htk0
    obtain ⟨nfp, nfL⟩ := hG.neP hfr0
    refine ⟨dr, rfl, by omega, by omega, ?_⟩
    refine for_range (lo := 0) (fun i σ' H' => PartI H p L B N tk fr (decide (wy < 4)) dp (n + 4 + i * (cP dp + 2300)) (a - 1) i H' ∧ ∃ v10 v11, σ' = [some (.ref p), some (.ref B), some (.ref L), some (.int ((dp + 1 : Nat) : Int)), some (.int wy), some (.ref n0), none, some rv, some (.ref tk), some (.ref fr), v10, v11])
      ⟨⟨a - 1, [], [], [], zf0, by rw [Nat.zero_mul]; exact hG3, hk3, by omega, by omega, hb3 _ _ ntp htk2, hb3 _ _ nfp hfr2, reps_nil, (fun _ z => nomatch z), Nat.le_refl _, (fun _ z => nomatch z), by rw [Int.sub_self]; rfl, hz26, hznd, hzok, fun _ => ⟨List.nodup_nil, (fun _ z => nomatch z), fun _ _ z => nomatch z⟩⟩, none, none, rfl⟩ ?_ ?_
    · rintro i σ' H5 hi ⟨⟨a', qs, ys, G0, zf, hG5, hk5, ha0, haa, htk5, hfr5, hr5, hf5, hlen, hqs, hsz, hzl, hzn, hzo, hrec⟩, v10, v11, rfl⟩
      have hi3 : i + 1 ≤ 20 := by omega
      have hcost : (i + 1) * (cP dp + 2300) ≤ 20 * (cP dp + 2300) := Nat.mul_le_mul_right _ hi3
      have hsm : (i + 1) * (cP dp + 2300) = i * (cP dp + 2300) + (cP dp + 2300) := Nat.succ_mul _ _
      obtain ⟨e1, e2, e3, e4, hL5, hl75⟩ := hG5.lf
      -- the test
      refine ⟨fun b H6 => Same H5 H6 ∧ (b = true → 1 ≤ a' ∧ (wy < 4 ∨ zf ≠ [])), ?_, ?_⟩
      · refine ⟨_, rfl, L, _, _, _, rfl, rfl, SqL.of hL5, at5_0, _, _, rfl, rfl, _, rfl, ?_⟩
        refine ite2 (fun c1 => ?_) (fun _ => ⟨Same.refl _, fun z => nomatch z⟩)
        have c1' : a' > 0 := of_decide_eq_true c1
        refine ⟨_, rfl, _, _, rfl, rfl, _, rfl, ?_⟩
        refine ite2 (fun c2 => ⟨Same.refl _, fun _ => ⟨by omega, .inl (of_decide_eq_true c2)⟩⟩) (fun _ => ?_)
        refine ⟨_, rfl, by show 0 ≤ sizeLine; decide, fun q hq => ?_⟩
        have sq := same_new hq (.lst [])
        refine ne_empty (fun z hz => (hzo z hz).2.2) (SqL.of (sq _ _ hfr5)) (SqL.of upd_same) ⟨_, rfl, sq, fun z => ⟨by omega, .inr fun z2 => ?_⟩⟩
        rw [z2] at z
        cases z
      rintro b5 H6 ⟨hs6, hc6⟩
      have hG6 := hG5.same hs6
      have hk6 := hk5.trans (.same hs6)
      refine ite2 (fun c => ?_) (fun _ => ?_)
      rotate_left
      · exact ⟨⟨a', qs, ys, G0, zf, hG6.mono (by omega), hk6, ha0, haa, hs6 _ _ htk5, hs6 _ _ hfr5, hr5.same hs6, hf5, by omega, hqs, hsz, hzl, hzn, hzo, hrec⟩, _, _, rfl⟩
      obtain ⟨ha1', hway⟩ := hc6 c
      replace htk5 := hs6 _ _ htk5
      replace hfr5 := hs6 _ _ hfr5
      replace hr5 := hr5.same hs6
      clear hG5 hk5 hL5
      -- the field's name
      refine ⟨fun σ' H' => ∃ (z : Str) (zf' : List Str) (fo : Addr), Gn H' p L B N (n + 4 + i * (cP dp + 2300) + 2) a' ∧ Kp (fun a => a = p ∨ a = L) H H' ∧ H fo = none ∧ (∀ x ∈ G0, x ≠ fo) ∧ fo ≠ tk ∧ fo ≠ fr ∧ H' fo = some (.lst (if decide (wy < 4) = true then [] else [.str z])) ∧ H' tk = some (.lst ys) ∧ H' fr = some (.lst (zf'.map V.str)) ∧ Reps H' (qs.map (ent (decide (wy < 4)))) ys G0 ∧ zf'.length ≤ 26 ∧ zf'.Nodup ∧ (∀ y ∈ zf', okName y) ∧
        (decide (wy < 4) = false → okName z ∧ z ∉ qs.map (·.1) ∧ (∀ y ∈ zf', y ∉ qs.map (·.1)) ∧ z ∉ zf') ∧ σ' = [some (.ref p), some (.ref B), some (.ref L), some (.int ((dp + 1 : Nat) : Int)), some (.int wy), some (.ref n0), none, some rv, some (.ref tk), some (.ref fr), some (.int (0 + (i : Int))), some (.ref fo)], ?_, ?_⟩
      · refine ⟨_, rfl, _, _, rfl, rfl, _, rfl, ?_⟩
        refine ite2 (fun c3 => ?_) (fun c3 => ?_)
        · refine ⟨by show 0 ≤ sizeLine; decide, fun fo hfo => ?_⟩
          have sfo := same_new hfo (.lst [])
          have sp : ∀ {x : Addr} {o : HO}, H6 x = some o → x ≠ fo := fun h => ne_of_none h hfo
          refine ⟨Str.ofString "", zf, fo, (hG6.same sfo).mono (by omega), hk6.trans (.same sfo), hG.free hk6 hG6 hfo, fun x hx => ?_, (sp htk5).symm, (sp hfr5).symm, ?_, sfo _ _ htk5, sfo _ _ hfr5, hr5.same sfo, hzl, hzn, hzo, fun e => ?_, rfl⟩
          · obtain ⟨zs, e⟩ := hr5.at_ x hx
            exact sp e
          · rw [c3]
            exact upd_same
          · rw [c3] at e
            cases e
        have c3' : ¬ wy < 4 := fun z => c3 (decide_eq_true z)
        have w4 : decide (wy < 4) = false := decide_eq_false c3'
        have hz0 : zf ≠ [] := hway.resolve_left c3'
        have hz1 : 0 < zf.length := List.length_pos_iff.mpr hz0
        obtain ⟨hr1, hr2, hr3⟩ := hrec w4
        refine ⟨_, rfl, .inl ⟨rfl, _, SqL.of hfr5⟩, _, rfl, _, rfl, fr, _, rfl, .inl (SqL.of hfr5), p, _, _, rfl, hG6.pu, by omega, (by rw [List.length_map]; omega), (by rw [List.length_map]; omega), fun dj H8 j0 j1 hb8 hp8 => ?_⟩
        rw [List.length_map] at j1
        obtain ⟨j, rfl⟩ : ∃ j : Nat, dj = (j : Int) := ⟨dj.toNat, by omega⟩
        have hj : j < zf.length := by omega
        have hG8 := hG6.draw hb8 hp8
        have hk8 := hk6.trans (hG6.kd hb8)
        have hfr8 := hb8 _ _ nfp hfr5
        have htk8 := hb8 _ _ ntp htk5
        have hr8 := hr5.kp (hG6.kd hb8) fun x hx => hG.noS (hf5 x hx).1
        obtain ⟨ok0, ok1, ok2⟩ := erase_split hj hzn
        refine ⟨fr, _, (j : Int), j, .str zf[j], rfl, rfl, hfr8, by omega, by omega, (ixN_seq (Evl.ixN_nat (by rw [List.length_map]; exact hj))).1, (by rw [List.getElem?_map, List.getElem?_eq_getElem hj]; rfl), ?_⟩
        rw [erase_map]
        have kp12 : Kp (fun a => a = fr) H8 (upd H8 fr (.lst ((zf.eraseIdx j).map V.str))) := Kp.set hfr8 rfl
        have hG9 := hG.put hk8 hG8 hfr0 (o := .lst ((zf.eraseIdx j).map V.str))
        have hk9 := hk8.put hfr0 (o := .lst ((zf.eraseIdx j).map V.str))
        have htk9 : (upd H8 fr (.lst ((zf.eraseIdx j).map V.str))) tk = some (.lst ys) := by rw [upd_ne htf]; exact htk8
        have hfr9 : (upd H8 fr (.lst ((zf.eraseIdx j).map V.str))) fr = some (.lst ((zf.eraseIdx j).map V.str)) := upd_same
        have hr9 := hr8.kp kp12 fun x hx => (hf5 x hx).2.2
        generalize upd H8 fr (.lst ((zf.eraseIdx j).map V.str)) = H9 at hG9 hk9 htk9 hfr9 hr9
        refine ⟨by show 1 ≤ sizeLine; decide, fun fo hfo => ?_⟩
        have sfo := same_new hfo (.lst [V.str zf[j]])
        have sp : ∀ {x : Addr} {o : HO}, H9 x = some o → x ≠ fo := fun h => ne_of_none h hfo
        refine ⟨zf[j], zf.eraseIdx j, fo, (hG9.same sfo).mono (by omega), hk9.trans (.same sfo), hG.free hk9 hG9 hfo, fun x hx => ?_, (sp htk9).symm, (sp hfr9).symm, ?_, sfo _ _ htk9, sfo _ _ hfr9, hr9.same sfo, Nat.le_trans (erase_len _ _) hzl, ok0, fun y hy => hzo y (ok2 y hy), fun _ => ⟨hzo _ (List.getElem_mem hj), hr3 _ (List.getElem_mem hj), fun y hy => hr3 y (ok2 y hy), ok1⟩, rfl⟩
        · obtain ⟨zs, e⟩ := hr9.at_ x hx
          exact sp e
        · rw [w4]
          exact upd_same
      rintro _ H7 ⟨z, zf', fo, hG7, hk7, hfo0, gfo, nft, nff, hfo7, htk7, hfr7, hr7, hzl', hzn', hzo', hrec', rfl⟩
      have noSf : ∀ {x : Addr}, H x = none → ¬ (x = p ∨ x = L) := fun h => hG.noS h
      generalize hws : (if decide (wy < 4) = true then ([] : List V) else [V.str z]) = ws at hfo7
      have hw1 : ws.length ≤ 1 := by
        rw [← hws]
        split <;> simp
      -- the part
      refine ⟨fun σ' H' => ∃ (u : V) (d : D) (a2 : Int) (G8 : List Addr) (fo : Addr), Gn H' p L B N (n + 4 + i * (cP dp + 2300) + 2 + cP dp) a2 ∧ Kp (fun a => a = p ∨ a = L) H H' ∧ H fo = none ∧ (∀ x ∈ G0, x ≠ fo) ∧ fo ≠ tk ∧ fo ≠ fr ∧ H' fo = some (.lst (ws ++ [u, .non])) ∧ H' tk = some (.lst ys) ∧ H' fr = some (.lst (zf'.map V.str)) ∧ Reps H' (qs.map (ent (decide (wy < 4)))) ys G0 ∧ Rep H' d u G8 ∧ (∀ x ∈ G8, H x = none ∧ x ≠ tk ∧ x ≠ fr ∧ x ≠ fo ∧ x ∉ G0) ∧
        0 ≤ a2 ∧ a2 < a' ∧ PtN N (dp + 1) d ∧ ((pre (dp + 1) d).length : Int) = a' - a2 ∧ σ' = [some (.ref p), some (.ref B), some (.ref L), some (.int ((dp + 1 : Nat) : Int)), some (.int wy), some (.ref n0), none, some rv, some (.ref tk), some (.ref fr), some (.int (0 + (i : Int))), some (.ref fo)], ?_, ?_⟩
      · refine ⟨_, rfl, _, rfl, _, rfl, _, rfl, _, rfl, _, _, rfl, rfl, p, B, L, N, n + 4 + i * (cP dp + 2300) + 2, dp, a', ?_, by omega, hG7, ha1', by omega, by omega, ?_⟩
        · show [V.ref p, V.ref B, V.ref L, V.int (((dp + 1 : Nat) : Int) - 1)] = _
          rw [show (((dp + 1 : Nat) : Int) - 1) = (dp : Int) by omega]
        rintro u H8 a2 ha20 ha21 ⟨d, G8, hG8, hk8, r8, f8, okd, szd⟩
        have hk8' := hk7.trans hk8
        have hfo8 := hk8 _ _ hfo7 (.inl (noSf hfo0))
        have htk8 := hk8 _ _ htk7 (.inl (noSf htk0))
        have hfr8 := hk8 _ _ hfr7 (.inl (noSf hfr0))
        have hr8 := hr7.kp hk8 fun x hx => noSf (hf5 x hx).1
        refine ⟨by show 2 ≤ sizeLine; decide, fun q hq => ?_⟩
        have sq := same_new hq (.lst [u, .non])
        refine ⟨fo, q, ws, [u, .non], rfl, rfl, sq _ _ hfo8, upd_same, Nat.le_trans (show ws.length + 2 ≤ 3 by omega) (by decide), fun fo2 hfo2 => ?_⟩
        have s2 := same_new hfo2 (.lst (ws ++ [u, .non]))
        have sp : ∀ {x : Addr} {o : HO}, (upd H8 q (.lst [u, .non])) x = some o → x ≠ fo2 := fun h => ne_of_none h hfo2
        refine ⟨u, d, a2, G8, fo2, (hG8.same sq).same s2, (hk8'.trans (.same sq)).trans (.same s2), hG.free hk8' hG8 (sq.free hfo2), fun x hx => ?_, (sp (sq _ _ htk8)).symm, (sp (sq _ _ hfr8)).symm, upd_same, s2 _ _ (sq _ _ htk8), s2 _ _ (sq _ _ hfr8), (hr8.same sq).same s2, (r8.same sq).same s2, fun x hx => ⟨hG.free hk7 hG7 (f8 x hx), (ne_of_none htk7 (f8 x hx)).symm, (ne_of_none hfr7 (f8 x hx)).symm, ?_, fun hy => ?_⟩, ha20, ha21, okd, szd, rfl⟩
        · obtain ⟨zs, e⟩ := hr8.at_ x hx
          exact sp (sq _ _ e)
        · obtain ⟨zs, e⟩ := r8.at_ x hx
          exact sp (sq _ _ e)
        · obtain ⟨zs, e⟩ := hr7.at_ x hy
          rw [f8 x hx] at e
          cases e
      clear hG7 hk7 hfo0 gfo nft nff hfo7 htk7 hfr7 hr7
      rintro _ H7 ⟨u, d, a2, G8, fo, hG7, hk7, hfo0, gfo, nft, nff, hfo7, htk7, hfr7, hr7, r7, n7, ha20, ha21, okd, szd, rfl⟩
      -- what it takes else
      refine ⟨fun σ' H' => ∃ (u2 : V) (d2 : D) (G10 : List Addr), Gn H' p L B N (n + 4 + (i + 1) * (cP dp + 2300)) a2 ∧ Kp (fun a => a = p ∨ a = L) H H' ∧ H' fo = some (.lst (ws ++ [u, u2])) ∧ H' tk = some (.lst ys) ∧ H' fr = some (.lst (zf'.map V.str)) ∧ Reps H' (qs.map (ent (decide (wy < 4)))) ys G0 ∧ Rep H' d u G8 ∧ Rep H' d2 u2 G10 ∧ (∀ x ∈ G10, H x = none ∧ x ≠ tk ∧ x ≠ fr ∧ x ≠ fo ∧ x ∉ G0 ∧ x ∉ G8) ∧ Df d2 ∧
        σ' = [some (.ref p), some (.ref B), some (.ref L), some (.int ((dp + 1 : Nat) : Int)), some (.int wy), some (.ref n0), none, some rv, some (.ref tk), some (.ref fr), some (.int (0 + (i : Int))), some (.ref fo)], ?_, ?_⟩
      · obtain ⟨e1, e2, e3, e4, hL7, hl77⟩ := hG7.lf
        refine ⟨fun b H8 => Gn H8 p L B N (n + 4 + i * (cP dp + 2300) + 2 + cP dp + 1) a2 ∧ Kp (fun a => a = p) H7 H8 ∧ H8 L = some (lf5 a2 e1 e2 e3 e4), ?_, ?_⟩
        · refine ⟨_, rfl, L, _, _, _, rfl, rfl, SqL.of hL7, at5_1, _, _, rfl, rfl, _, rfl, ?_⟩
          refine ite2 (fun _ => ?_) (fun _ => ⟨hG7.mono (by omega), .same (Same.refl _), hL7⟩)
          exact ⟨_, rfl, p, 2, _, rfl, hG7.pu, by omega, by decide, by decide, fun d3 H8 d30 d31 hb8 hp8 => ⟨rfl, _, rfl, hG7.draw hb8 hp8, hb8.kp hG7.pu, hb8 L _ hG.ne hL7⟩⟩
        rintro bb H8 ⟨hG8, kp8, hL8⟩
        have npx : ∀ {x : Addr}, H x = none → ¬ x = p := fun h => (hG.neP h).1
        have kp8' : Kp (fun a => a = p ∨ a = L) H7 H8 := kp8.wide fun _ z => .inl z
        have hk8 := hk7.trans kp8'
        have hfo8 := kp8 _ _ hfo7 (.inl (npx hfo0))
        have htk8 := kp8 _ _ htk7 (.inl (npx htk0))
        have hfr8 := kp8 _ _ hfr7 (.inl (npx hfr0))
        have hr8 := hr7.kp kp8 fun x hx => npx (hf5 x hx).1
        have r8 := r7.kp kp8 fun x hx => npx (n7 x hx).1
        refine ite2 (fun _ => ?_) (fun _ => ?_)
        rotate_left
        · exact ⟨.non, .leaf .non, [], hG8.mono (by omega), hk8, hfo8, htk8, hfr8, hr8, r8, rep_leaf leaf_non, (fun _ z => nomatch z), .inl rfl, rfl⟩
        obtain ⟨hG9, kp9⟩ := hG8.left (a' := a2) (d := e1 - 1) (i := e2) (c := e3) (l := e4) hl77
        refine ⟨fun σ' H' => H' = upd H8 L (lf5 a2 (e1 - 1) e2 e3 e4) ∧ σ' = [some (.ref p), some (.ref B), some (.ref L), some (.int ((dp + 1 : Nat) : Int)), some (.int wy), some (.ref n0), none, some rv, some (.ref tk), some (.ref fr), some (.int (0 + (i : Int))), some (.ref fo)], ⟨_, rfl, L, _, _, _, rfl, rfl, SqL.of hL8, at5_1, _, _, rfl, rfl, _, rfl, L, _, _, 1, rfl, rfl, hL8, rfl, rfl, rfl⟩, ?_⟩
        rintro _ _ ⟨rfl, rfl⟩
        have hL9 : (upd H8 L (lf5 a2 (e1 - 1) e2 e3 e4)) L = some (lf5 a2 (e1 - 1) e2 e3 e4) := upd_same
        generalize upd H8 L (lf5 a2 (e1 - 1) e2 e3 e4) = H9 at hG9 kp9 hL9
        have hk9 := hk8.trans kp9
        have ce := cT_le e4.toNat (by omega)
        have ee : e4 = ((e4.toNat : Nat) : Int) := by omega
        refine ⟨_, rfl, _, rfl, _, rfl, _, rfl, L, _, _, _, rfl, rfl, SqL.of hL9, at5_4, p, B, L, N, n + 4 + i * (cP dp + 2300) + 2 + cP dp + 1, e4.toNat, a2, ?_, by omega, by omega, by omega, hG9, by omega, ?_⟩
        · show [V.ref p, V.ref B, V.ref L, V.int e4] = _
          rw [← ee]
        rintro u2 H10 ⟨d2, G10, hG10, hk10, r10, f10, okd2⟩
        have mv : ∀ {x : Addr} {o : HO}, H x = none → H8 x = some o → H10 x = some o := fun hx e => hk10 _ _ (kp9 _ _ e (.inl (noSf hx))) (.inl (noSf hx))
        have hfo10 := mv hfo0 hfo8
        have hk10' := hk9.trans hk10
        have n10 : ∀ x ∈ G10, H x = none ∧ x ≠ tk ∧ x ≠ fr ∧ x ≠ fo ∧ x ∉ G0 ∧ x ∉ G8 := fun x hx => by
          have fx := f10 x hx
          have k9 : ∀ {y : Addr} {o : HO}, H y = none → H8 y = some o → x ≠ y := fun hy e z => by
            have e2 := kp9 _ _ e (.inl (noSf hy))
            rw [← z, fx] at e2
            cases e2
          refine ⟨hG.free hk9 hG9 fx, k9 htk0 htk8, k9 hfr0 hfr8, k9 hfo0 hfo8, fun hy => ?_, fun hy => ?_⟩
          · obtain ⟨zs, e⟩ := hr8.at_ x hy
            exact k9 (hf5 x hy).1 e rfl
          · obtain ⟨zs, e⟩ := r8.at_ x hy
            exact k9 (n7 x hy).1 e rfl
        have hix : ∀ ws : List V, ws.length ≤ 1 → ixN (ws ++ [u, V.non]).length (-1) = some (ws.length + 1) ∧ (ws ++ [u, V.non]).set (ws.length + 1) u2 = ws ++ [u, u2] := fun ws h => by
          match ws, h with
          | [], _ => exact ⟨rfl, rfl⟩
          | [_], _ => exact ⟨rfl, rfl⟩
        obtain ⟨x1, x2⟩ := hix ws hw1
        refine ⟨_, rfl, _, rfl, fo, _, _, _, rfl, rfl, hfo10, x1, ?_⟩
        rw [x2]
        have kp11 : Kp (fun a => a = fo) H10 (upd H10 fo (.lst (ws ++ [u, u2]))) := Kp.set hfo10 rfl
        have all11 : ∀ {x : Addr} {o : HO}, x ≠ fo → H10 x = some o → (upd H10 fo (.lst (ws ++ [u, u2]))) x = some o := fun hx e => by
          rw [upd_ne hx]
          exact e
        refine ⟨u2, d2, G10, (hG.put hk10' hG10 hfo0).mono (by omega), hk10'.put hfo0, upd_same, all11 nft.symm (mv htk0 htk8), all11 nff.symm (mv hfr0 hfr8), ((hr8.kp kp9 fun x hx => noSf (hf5 x hx).1).kp hk10 fun x hx => noSf (hf5 x hx).1).kp kp11 fun x hx => gfo x hx, ((r8.kp kp9 fun x hx => noSf (n7 x hx).1).kp hk10 fun x hx => noSf (n7 x hx).1).kp kp11 fun x hx => (n7 x hx).2.2.2.1, r10.kp kp11 fun x hx => (n10 x hx).2.2.2.1, n10, .inr (okd2.le (by omega)), rfl⟩
      clear hG7 hk7 hfo7 htk7 hfr7 hr7 r7
      rintro _ H11 ⟨u2, d2, G10, hG11, hk11, hfo11, htk11, hfr11, hr11, ra, rb, n10, okd2, rfl⟩
      -- both, as a tuple
      refine ⟨_, rfl, .inl ⟨rfl, _, SqL.of htk11⟩, _, rfl, fo, _, rfl, .inl ⟨SqL.of hfo11, fun t ht => ?_⟩⟩
      have st := same_new ht (.tup (ws ++ [u, u2]))
      have htk12 := st _ _ htk11
      have ht12 : (upd H11 t (.tup (ws ++ [u, u2]))) t = some (.tup (ws ++ [u, u2])) := upd_same
      have hG12 := hG11.same st
      have hk12 := hk11.trans (.same st)
      have hyl : ys.length = qs.length := by
        rw [hr11.len, List.length_map]
      refine ⟨tk, _, _, rfl, rfl, htk12, Nat.lt_of_le_of_lt (show ys.length ≤ 1000 by omega) (by decide), ?_⟩
      have kp13 : Kp (fun a => a = tk) (upd H11 t (.tup (ws ++ [u, u2]))) (upd (upd H11 t (.tup (ws ++ [u, u2]))) tk (.lst (ys ++ [.ref t]))) := Kp.set htk12 rfl
      have RE : Rep (upd H11 t (.tup (ws ++ [u, u2]))) (ent (decide (wy < 4)) (z, d, d2)) (.ref t) (G8 ++ G10) := by
        refine ent_rep ?_ (ra.same st) (rb.same st) fun x hx hy => (n10 x hy).2.2.2.2.2 hx
        rw [hws, List.append_assoc]
        exact ht12
      refine ⟨⟨a2, qs ++ [(z, d, d2)], ys ++ [.ref t], G0 ++ (G8 ++ G10), zf', (hG.put hk12 hG12 htk0).mono (by omega), hk12.put htk0, ha20, by omega, upd_same, (by rw [upd_ne (Ne.symm htf)]; exact st _ _ hfr11), ?_, fun x hx => ?_, ?_, fun q hq => ?_, ?_, hzl', hzn', hzo', fun e => ?_⟩, _, _, rfl⟩
      · rw [List.map_append]
        refine Reps.snoc ((hr11.same st).kp kp13 fun x hx => (hf5 x hx).2.1) (RE.kp kp13 fun x hx => ?_) fun x hx hy => ?_
        · rcases List.mem_append.mp hx with y | y
          · exact (n7 x y).2.1
          · exact (n10 x y).2.1
        · rcases List.mem_append.mp hy with y | y
          · exact (n7 x y).2.2.2.2 hx
          · exact (n10 x y).2.2.2.2.1 hx
      · rcases List.mem_append.mp hx with y | y
        · exact hf5 x y
        · rcases List.mem_append.mp y with y | y
          · exact ⟨(n7 x y).1, (n7 x y).2.1, (n7 x y).2.2.1⟩
          · exact ⟨(n10 x y).1, (n10 x y).2.1, (n10 x y).2.2.1⟩
      · rw [List.length_append]
        show qs.length + 1 ≤ i + 1
        omega
      · rcases List.mem_append.mp hq with y | y
        · exact hqs q y
        · rw [List.mem_singleton.mp y]
          exact ⟨okd, okd2⟩
      · rw [List.map_append, List.flatMap_append, List.length_append]
        have e : ((([(z, d, d2)] : List (Str × D × D)).map fun q => q.2.1).flatMap (pre (dp + 1))).length = (pre (dp + 1) d).length := by
          show (pre (dp + 1) d ++ []).length = _
          rw [List.append_nil]
        omega
      · obtain ⟨q1, q2, q3, q4⟩ := hrec' e
        obtain ⟨g1, g2, g3⟩ := hrec e
        rw [List.map_append]
        refine ⟨List.nodup_append.mpr ⟨g1, (List.nodup_cons.mpr ⟨List.not_mem_nil, List.nodup_nil⟩), fun x hx y hy => ?_⟩, fun q hq => ?_, fun y hy hm => ?_⟩
        · rintro rfl
          rw [List.mem_singleton.mp hy] at hx
          exact q2 hx
        · rcases List.mem_append.mp hq with y | y
          · exact g2 q y
          · rw [List.mem_singleton.mp y]
            exact q1
        · rcases List.mem_append.mp hm with w | w
          · exact q3 y hy w
          · rw [List.mem_singleton.mp w] at hy
            exact q4 hy
    · rintro σ' H5 ⟨⟨a', qs, ys, G0, zf, hG5, hk5, ha0, haa, htk5, hfr5, hr5, hf5, hlen, hqs, hsz, hzl, hzn, hzo, hrec⟩, v10, v11, rfl⟩
      have hi3 : dr.toNat ≤ 20 := by omega
      have hcost : dr.toNat * (cP dp + 2300) ≤ 20 * (cP dp + 2300) := Nat.mul_le_mul_right _ hi3
      exact ⟨⟨a', qs, ys, G0, zf, hG5.mono (by omega), hk5, ha0, haa, htk5, hfr5, hr5, hf5, by omega, hqs, hsz, hzl, hzn, hzo, hrec⟩, _, _, rfl⟩
  clear hG2 hk2 hL2 htk2 hfr2
  rintro _ H2 ⟨⟨a', qs, ys, G0, zf, hG5, hk5, ha0, haa, htk5, hfr5, hr5, hf5, hlen, hqs, hsz, hzl, hzn, hzo, hrec⟩, v10, v11, rfl⟩
  -- the part
  refine ⟨_, rfl, _, _, rfl, rfl, _, rfl, ?_⟩
  have fin : ∀ s : String, (s = if decide (wy < 4) = true then "row" else "record") → tTup (tCons (tC (.str (Str.ofString s))) (tCons (tVar 8) (tCons (tVar 7) tNil))) [some (.ref p), some (.ref B), some (.ref L), some (.int ((dp + 1 : Nat) : Int)), some (.int wy), some (.ref n0), none, some rv, some (.ref tk), some (.ref fr), v10, v11] H2 Q := fun s hs => by
    refine ⟨_, rfl, _, rfl, by show 3 ≤ sizeLine; decide, fun tp htp => ?_⟩
    have st := same_new htp (.tup [.str (Str.ofString s), .ref tk, rv])
    refine kk _ _ a' ha0 (by omega) ⟨.tup [S s, .lst (qs.map (ent (decide (wy < 4)))), .leaf rv], tk :: G0, (hG5.same st).mono (by omega), hk5.trans (.same st), ?_, fun x hx => ?_, ⟨?_, ?_⟩, ?_⟩
    · have z := reps_cons (rep_lst (st _ _ htk5) (hr5.same st) fun z => (hf5 tk z).2.1 rfl) (reps_leaf hrl reps_nil) (fun _ _ z => nomatch z)
      rw [List.append_nil] at z
      exact rep_tup upd_same (reps_leaf leaf_str z)
    · rcases List.mem_cons.mp hx with z | z
      · exact z ▸ htk0
      · exact (hf5 x z).1
    · exact .inr (.inr ⟨_, qs, _, by rw [hs], hrv, by omega, fun q hq => ⟨(hqs q hq).1.1, (hqs q hq).2⟩, fun e => ⟨(hrec e).1, (hrec e).2.1⟩⟩)
    · exact bnd_row (fun q hq => (hqs q hq).1) fun z e => hrN z (D.leaf.inj e)
    · show (((List.length (_ :: (kids _).flatMap (pre (dp + 1)))) : Nat) : Int) = a - a'
      rw [kids_ent, List.length_cons]
      omega
  exact ite2 (fun c => fin "row" (by rw [if_pos c])) (fun c => fin "record" (by rw [if_neg c]))
end
end K02
set_option Elab.async false
set_option linter.all false
set_option maxRecDepth 100000
set_option maxHeartbeats 4000000
namespace K02
open PySem L2 PyProof.Rows
/-! ### names of a kind -/
/-- letters one by one, the loop alone; t: the turn's place -/
theorem signs_go {σ : L2.St} {H0 H : Hp} {p D : Addr} {c m t : Nat} {Qd : Hp → Prop} (h0 : ∀ v, ((wipe σ [t]).set t (some v))[0]? = some (some (.ref p))) (h2 : ∀ v, ((wipe σ [t]).set t (some v))[2]? = some (some (.str LT)))
    (hw : ∀ v, wipe ((wipe σ [t]).set t (some v)) [t] = wipe σ [t]) (hA : Around1 H0 p c H) (hc : c + m < 10 ^ 60) (hm : m ≤ 1000) (hD : H D = none)
    (hd : ∀ (ys : List Str) H', Around1 H p (c + m) H' → H' D = some (.lst (ys.map V.str)) → ys.length = m → (∀ y ∈ ys, y.length = 1) → (∀ y ∈ ys, ls y) → Qd H') :
    ∃ W : Nat → Nat → Hp → Prop, (∃ m, W 0 m (upd H D (.lst []))) ∧ ∀ i k H1, W i k H1 →
      ((Itr 0 m).stop i H1 ∧ Qd H1) ∨ ((Itr 0 m).go i H1 ∧ ∃ Nx : Hp → Prop, (∀ H', Nx H' → ∃ m', m' < k ∧ W (i + 1) m' H') ∧ ∀ x H', (Itr 0 m).yld i H1 x H' → gName t x (wipe σ [t]) H' fun σ2 H2 => wipe σ2 [t] = wipe σ [t] ∧ tYes σ2 H2 fun b H3 =>
        if b = true then tOp rIxS (tVar 2) (tCall spCoin [] E0 (tCons (tVar 0) (tCons (tC (.int 26)) tNil))) σ2 H3 fun y H4 => ∃ acc, H4 D = some (.lst acc) ∧ acc.length < sizeLine ∧ Nx (upd H4 D (.lst (acc ++ [y]))) else Nx H3) := by
  have hDp : D ≠ p := hA.2.ne hD
  refine lc_range (lo := 0) (n := m) (fun i H' => ∃ ys : List Str, Around1 H p (c + i) H' ∧ H' D = some (.lst (ys.map V.str)) ∧ ys.length = i ∧ (∀ y ∈ ys, y.length = 1) ∧ ∀ y ∈ ys, ls y)
    ⟨[], ⟨.of (same_new hD _), hA.2.same (same_new hD _)⟩, upd_same, rfl, (fun _ h => nomatch h), fun _ h => nomatch h⟩ ?_ ?_
  · rintro i H1 hi ⟨ys, hA1, hD1, hl, h1, hs1⟩
    refine ⟨hw _, ?_⟩
    show tOp rIxS (tVar 2) (tCall spCoin [] E0 (tCons (tVar 0) (tCons (tC (.int 26)) tNil))) _ H1 _
    refine ⟨_, h2 _, _, h0 _, p, 26, c + i, rfl, hA1.2, by omega, by decide, by decide, fun d H2 d0 d1 hb hp2 => ?_⟩
    refine ⟨LT, d, _, rfl, rfl, by decide +kernel, lt_at d0 d1, ?_⟩
    have hD2 : H2 D = some (.lst (ys.map V.str)) := hb _ _ hDp hD1
    refine ⟨_, hD2, by rw [List.length_map]; exact Nat.lt_of_lt_of_le (show ys.length < 1000 by omega) (by decide), ys ++ [⟨#[97 + d.toNat]⟩], ?_, ?_, ?_, ?_, ?_⟩
    · exact (hA1.draw hb hp2).put hD hDp
    · rw [upd_same, List.map_append]
      rfl
    · rw [List.length_append, hl]
      rfl
    · intro y hy
      rcases List.mem_append.mp hy with hy | hy
      · exact h1 y hy
      · rw [List.mem_singleton.mp hy]
        rfl
    · intro y hy
      rcases List.mem_append.mp hy with hy | hy
      · exact hs1 y hy
      · rw [List.mem_singleton.mp hy]
        exact ls_one (by omega)
  · rintro H1 ⟨ys, hA1, hD1, hl, h1, hs1⟩
    exact hd ys H1 hA1 hD1 hl h1 hs1
def spStems : Sp := fun vs H Q _ => ∃ (p : Addr) (m n : Nat), vs = [.ref p, .int (m : Int)] ∧ 1 ≤ m ∧ m ≤ 26 ∧ Purse H p n ∧ n + 10 < 10 ^ 60 ∧
  ∀ (r : Addr) (zs : List Str) H', Around1 H p (n + 10) H' → H r = none → H' r = some (.lst (zs.map V.str)) → zs.length = m → zs.Nodup → (∀ z ∈ zs, okName z) → Q (.ref r) H'
abbrev nSt : List Str := ["purse", "many", "letters", "start", "at", "stem", "rank", "turn"]
section
variable {P : Program} {w : World} {K : PySem.W.Frag} {mg : Str → Option Value} {base : Heap}
theorem scSt : FnScope nSt ["purse", "many"] (defScope sStems) := ⟨rfl, rfl, rfl, by decide +kernel, rfl, by decide +kernel, by decide +kernel⟩
theorem ok_stems {f fC : Addr} {fd fdC : FuncData} (F : Fun K "_law_tk_stems" "_law_tk_stems" sStems f fd) (T : Txt K mg) (FC : Fun K "_law_coin" "_law_coin" sCoin fC fdC) (GC : FnOk P w K mg base CX0 1 fC fdC ["purse", "many"] spCoin) (bC : Binds K fdC ["purse", "many"] []) (mC : mg "_law_coin" = some (.ref fC)) :
    FnOk P w K mg base CX0 2 f fd ["purse", "many"] spStems := by
  refine F.ok scSt (fun vs H Q E h => ?_) (fun cdv A outer s H vs Q E hr h => ?_)
  · obtain ⟨p, m, n, rfl, _⟩ := h
    rfl
  obtain ⟨p, m, n, rfl, hm1, hm26, hp, hn, k⟩ := h
  refine ⟨_, Evl.pss_cut (ps_asg (pe_tup (pa_cons pe_str (pa_cons (pe_call GC hr rfl mC FC.kp bC .nil pass0 (pa_cons (pv 0) (pa_cons pe_int pa_nil))) (pa_cons (pe_call GC hr rfl mC FC.kp bC .nil pass0 (pa_cons (pv 0) (pa_cons pe_int pa_nil))) pa_nil)))) (pg_tup rfl (pgs_cons (pg_name (i := 2) scSt.nd rfl (.inr rfl)) (pgs_cons (pg_name (i := 3) scSt.nd rfl (.inr rfl)) (pgs_cons (pg_name (i := 4) scSt.nd rfl (.inr rfl)) pgs_nil)))))
    (Evl.pss_cut (ps_set (i := 5) scSt.nd rfl (Or.inr rfl) (pe_bm PySem.F.plainAttrs_str PySem.F.slot_str_join PySem.F.type_str_join mt_join pe_str (pa_cons (pe_lc (own := [("turn", 7)]) (g := gName 7) (tt := tYes) rfl scSt.nd (pi_range1 rfl T.range (pa_cons pe_int pa_nil)) (blkOk_by (N := nSt) (sc := defScope sStems) (by decide +kernel)) (fun _ _ _ _ _ => pg_name (i := 7) scSt.nd rfl (Or.inl rfl)) (fun _ _ _ _ _ => pts_nil)
        (fun _ _ _ _ _ => pe_ix ix_str (pv 2) (pe_call GC hr rfl mC FC.kp bC .nil pass0 (pa_cons (pv 0) (pa_cons pe_int pa_nil))) (fun _ _ => rfl))) pa_nil)))
    (Evl.pss_cut (ps_if (pw_and (pt_cmpR op_lt (pv 3) pe_int (nomark _)) (pw_and1 (pt_cmpR op_lt (pv 1) pe_int (nomark _)))).pt
        (pss_one (ps_ret (pe_lc (own := [("rank", 6)]) (g := gName 6) (tt := tYes) rfl scSt.nd (pi_range1 rfl T.range (pa_cons (pv 1) pa_nil)) (blkOk_by (N := nSt) (sc := defScope sStems) (by decide +kernel)) (fun _ _ _ _ _ => pg_name (i := 6) scSt.nd rfl (Or.inl rfl)) (fun _ _ _ _ _ => pts_nil)
          (fun _ _ _ _ _ => pe_slice sl_str (pv 5) po_none (po_some (pe_op op_add (pv 6) pe_int)))))) pss_nil)
    (pss_one (ps_ret (pe_lc (own := [("rank", 6)]) (g := gName 6) (tt := tYes) rfl scSt.nd (pi_range1 rfl T.range (pa_cons (pv 1) pa_nil)) (blkOk_by (N := nSt) (sc := defScope sStems) (by decide +kernel)) (fun _ _ _ _ _ => pg_name (i := 6) scSt.nd rfl (Or.inl rfl)) (fun _ _ _ _ _ => pts_nil)
      (fun _ _ _ _ _ => pe_op op_add_str (pe_op op_add_str (pe_slice sl_str (pv 5) po_none (po_some (pv 4))) (pe_ix ix_str (pv 2) (pe_op op_mod (pe_callTy call_int1 (by rfl) T.int boot_int (pa_cons (pe_op op_add (pv 3) (pv 6)) pa_nil)) pe_int) (fun _ _ => rfl))) (pe_slice sl_str (pv 5) (po_some (pe_op op_add (pv 4) pe_int)) po_none))))))), ?_⟩
  -- letters, start, at
  refine ⟨fun σ' H' => Around1 H p (n + 2) H' ∧ ∃ (i0 : Int) (at' : Nat), 0 ≤ i0 ∧ i0 < 26 ∧ at' < 8 ∧ σ' = [some (.ref p), some (.int (m : Int)), some (.str LT), some (.int i0), some (.int (at' : Int)), none, none, none], ?_, ?_⟩
  · refine ⟨_, rfl, p, 26, n, rfl, hp, by omega, by decide, by decide, fun d H1 d0 d1 hb hp1 => ⟨_, rfl, p, 8, n + 1, rfl, hp1, by omega, by decide, by decide, fun d2 H2 d20 d21 hb2 hp2 => ⟨by show 3 ≤ sizeLine; decide, fun t ht => ?_⟩⟩⟩
    refine ⟨t, _, rfl, SqT.of upd_same, rfl, _, _, rfl, _, _, rfl, _, _, rfl, rfl, ?_⟩
    exact ⟨Around1.same ⟨hb.trans hb2, hp2⟩ (same_new ht _), d, d2.toNat, d0, d1, by omega, by rw [show ((d2.toNat : Nat) : Int) = d2 by omega]; rfl⟩
  rintro _ H1 ⟨hA1, i0, at', hi0, hi1, hat, rfl⟩
  -- stem
  refine ⟨fun σ' H' => Around1 H p (n + 10) H' ∧ ∃ st : Str, st.length = 8 ∧ ls st ∧ σ' = [some (.ref p), some (.int (m : Int)), some (.str LT), some (.int i0), some (.int (at' : Int)), some (.str st), none, none], ?_, ?_⟩
  · refine ⟨rfl, 8, rfl, by decide, by decide, fun D hD => ?_⟩
    refine signs_go (m := 8) (fun _ => rfl) (fun _ => rfl) (fun _ => rfl) hA1 (by omega) (by decide) hD fun ys H' hA hys hl h1 hs => ?_
    have hj : (Txt.join (Str.ofString "") ys).length = 8 := (PySem.W.KT.join_ones ys h1).trans hl
    refine ⟨_, D, ys, rfl, rfl, .inl (SqL.of hys), join_room h1 (by omega), ?_⟩
    exact ⟨hA1.trans hA, _, hj, ls_joinT hs, rfl⟩
  clear hA1
  rintro _ H4 ⟨hA4, st, hst, hls, rfl⟩
  -- the stem's beginnings
  refine ⟨fun σ' H' => Around1 H p (n + 10) H' ∧ σ' = [some (.ref p), some (.int (m : Int)), some (.str LT), some (.int i0), some (.int (at' : Int)), some (.str st), none, none], ?_, ?_⟩
  · refine ⟨_, rfl, _, _, rfl, rfl, _, rfl, ?_⟩
    refine ite2 (fun c0 => ?_) (fun _ => ⟨hA4, rfl⟩)
    refine ⟨_, rfl, _, _, rfl, rfl, _, rfl, ?_⟩
    refine ite2 (fun c1 => ?_) (fun _ => ⟨hA4, rfl⟩)
    have hm9 : (m : Int) < 9 := of_decide_eq_true c1
    have pre : ∀ r : Nat, (cutS st none (some ((0 + (r : Int)) + 1))).length = min (r + 1) 8 := fun r => by
      rw [(cut_pre (n := r + 1) (by omega)).1, hst]
    refine ⟨_, rfl, (m : Int), rfl, by omega, by omega, fun D hD => ?_⟩
    refine lc_range (lo := 0) (fun i H' => Same H4 H' ∧ H' D = some (.lst (((List.range i).map fun (r : Nat) => cutS st none (some ((0 + (r : Int)) + 1))).map V.str))) ⟨same_new hD _, upd_same⟩ ?_ ?_
    · rintro i H6 hi ⟨hs6, hD6⟩
      refine ⟨rfl, ?_⟩
      show tSl rSlS (tVar 5) _ _ _ H6 _
      refine ⟨_, rfl, _, rfl, _, _, rfl, rfl, _, rfl, _, rfl, small100 (by omega), _, hD6, room_map (by omega), same_put hs6 hD, more_map rfl⟩
    · rintro H6 ⟨hs6, hD6⟩
      have hA6 := hA4.same hs6
      rw [Int.toNat_natCast] at hD6
      refine k D _ H6 hA6 (hA4.free hp hD) hD6 (by rw [List.length_map, List.length_range]) (nodup_map fun i j hi hj e => ?_) (fun z hz => ?_)
      · have z := congrArg Str.length e
        rw [pre, pre] at z
        omega
      · obtain ⟨r, hr', rfl⟩ := List.mem_map.mp hz
        have hr2 := List.mem_range.mp hr'
        have z := pre r
        exact ⟨by omega, by omega, ls_cut hls _ _⟩
  clear hA4
  rintro _ H4 ⟨hA4, rfl⟩
  have wd : ∀ r : Nat, ((cutS st none (some (at' : Int)) ++ (⟨#[97 + ((i0 + (0 + (r : Int))) % 26).toNat]⟩ : Str)) ++ cutS st (some ((at' : Int) + 1)) none).cps.toList = (st.cps.toList.take at' ++ [97 + ((i0 + (0 + (r : Int))) % 26).toNat]) ++ st.cps.toList.drop (at' + 1) := fun r => by
    have e1 := (cut_pre (z := st) (k := (at' : Int)) (n := at') rfl).2
    have e2 := cut_post (z := st) (k := (at' : Int) + 1) (n := at' + 1) (by omega) (by omega)
    rw [show ∀ x y : Str, (x ++ y).cps.toList = x.cps.toList ++ y.cps.toList from fun x y => Array.toList_append, show ∀ x y : Str, (x ++ y).cps.toList = x.cps.toList ++ y.cps.toList from fun x y => Array.toList_append, e1, e2]
  refine ⟨_, rfl, (m : Int), rfl, by omega, by omega, fun D hD => ?_⟩
  refine lc_range (lo := 0) (fun i H' => Same H4 H' ∧ H' D = some (.lst (((List.range i).map fun (r : Nat) => (cutS st none (some (at' : Int)) ++ (⟨#[97 + ((i0 + (0 + (r : Int))) % 26).toNat]⟩ : Str)) ++ cutS st (some ((at' : Int) + 1)) none).map V.str))) ⟨same_new hD _, upd_same⟩ ?_ ?_
  · rintro i H6 hi ⟨hs6, hD6⟩
    refine ⟨rfl, ?_⟩
    have hi26 : i < 26 := by
      rw [Int.toNat_natCast] at hi
      omega
    unfold tYes
    refine iteT ?_
    have b1 : (cutS st none (some (at' : Int))).length ≤ 8 := Nat.le_trans (cutS_length _ _ _) (Nat.le_of_eq hst)
    have b2 : (cutS st (some ((at' : Int) + 1)) none).length ≤ 8 := Nat.le_trans (cutS_length _ _ _) (Nat.le_of_eq hst)
    refine ⟨_, rfl, _, rfl, _, rfl, st, rfl, small100 (by omega), _, rfl, _, rfl, _, rfl, _, _, rfl, rfl, .inl ⟨_, rfl, _, _, rfl, rfl, (by show (0 : Int) < 26; decide), ?_⟩⟩
    refine ⟨LT, _, _, rfl, rfl, by decide +kernel, lt_at (d := (i0 + (0 + (i : Int))) % 26) (Int.emod_nonneg _ (by decide)) (Int.emod_lt_of_pos _ (by decide)), _, _, rfl, rfl, small100 (show _ + 1 ≤ 1000 by omega), _, rfl, _, rfl, _, _, rfl, rfl, _, rfl, st, rfl, small100 (by omega), _, _, rfl, rfl, ?_, ?_⟩
    · rw [Str.length_append]
      exact small100 (show _ + 1 + _ ≤ 1000 by omega)
    · exact ⟨_, hD6, room_map (by omega), same_put hs6 hD, more_map rfl⟩
  · rintro H6 ⟨hs6, hD6⟩
    have hA6 := hA4.same hs6
    rw [Int.toNat_natCast] at hD6
    refine k D _ H6 hA6 (hA4.free hp hD) hD6 (by rw [List.length_map, List.length_range]) (nodup_map fun i j hi hj e => ?_) (fun z hz => ?_)
    · have e2 := congrArg (fun z : Str => z.cps.toList) e
      rw [wd, wd] at e2
      have e3 := List.append_cancel_right e2
      have e4 := List.append_cancel_left e3
      have e5 := (List.cons.inj e4).1
      omega
    · obtain ⟨r, _, rfl⟩ := List.mem_map.mp hz
      have b0 : ((i0 + (0 + (r : Int))) % 26).toNat < 26 := by omega
      refine ⟨?_, ?_, ls_app (ls_app (ls_cut hls _ _) (ls_one b0)) (ls_cut hls _ _)⟩
      · rw [Str.length_append, Str.length_append]
        show 1 ≤ _ + 1 + _
        omega
      · show (List.length _) ≤ 8
        have z := congrArg List.length (wd r)
        rw [List.length_append, List.length_append, List.length_take, List.length_drop] at z
        have hz' : st.length = st.cps.toList.length := rfl
        have hz2 : ([97 + ((i0 + (0 + (r : Int))) % 26).toNat] : List Nat).length = 1 := rfl
        omega
end
end K02
set_option Elab.async false
set_option linter.all false
set_option maxRecDepth 100000
set_option maxHeartbeats 4000000
namespace K02
open PySem L2 PyProof.Rows
/-! ### steps, apart from the heap -/
def stParts : D → List D
  | .tup [.leaf (.str w), _, x] => if w = Str.ofString "take" then [x] else if w = Str.ofString "cases" then x.its else []
  | _ => []
def stSet : D → List Str
  | .tup [.leaf (.str w), .leaf (.str z), _] => if w = Str.ofString "set" then [z] else []
  | _ => []
def StOk (d : D) : Prop := (∃ z t, okName z ∧ TmOk 5 t ∧ d = .tup [S "set", .leaf (.str z), t]) ∨ (∃ r q, Opt r ∧ PtOk 7 q ∧ d = .tup [S "take", r, q]) ∨ ∃ r qs, Opt r ∧ qs.length ≤ 20 ∧ (∀ q ∈ qs, PtOk 7 q) ∧ d = .tup [S "cases", r, .lst qs]
def stNames (d : D) : List Str := stSet d ++ (stParts d).flatMap (bnd 7)
def stTot (ds : List D) : Nat := ((ds.flatMap stParts).flatMap (pre 7)).length
theorem parts_set {z : Str} {t : D} : stParts (.tup [S "set", .leaf (.str z), t]) = [] := by
  show (if Str.ofString "set" = Str.ofString "take" then [t] else if Str.ofString "set" = Str.ofString "cases" then t.its else []) = []
  rw [if_neg (by decide), if_neg (by decide)]
theorem parts_take {r q : D} : stParts (.tup [S "take", r, q]) = [q] := by
  show (if Str.ofString "take" = Str.ofString "take" then [q] else if Str.ofString "take" = Str.ofString "cases" then q.its else []) = [q]
  rw [if_pos rfl]
theorem parts_cases {r : D} {qs : List D} : stParts (.tup [S "cases", r, .lst qs]) = qs := by
  show (if Str.ofString "cases" = Str.ofString "take" then [D.lst qs] else if Str.ofString "cases" = Str.ofString "cases" then qs else []) = qs
  rw [if_neg (by decide), if_pos rfl]
theorem set_set {z : Str} {t : D} : stSet (.tup [S "set", .leaf (.str z), t]) = [z] := by
  show (if Str.ofString "set" = Str.ofString "set" then [z] else []) = [z]
  rw [if_pos rfl]
theorem set_take {r q : D} : stSet (.tup [S "take", r, q]) = [] := by
  unfold stSet
  split
  · rename_i w z t e
    have e1 : Str.ofString "take" = w := V.str.inj (D.leaf.inj (List.cons.inj (D.tup.inj e)).1)
    rw [← e1, if_neg (by decide)]
  · rfl
theorem set_cases {r q : D} : stSet (.tup [S "cases", r, q]) = [] := by
  unfold stSet
  split
  · rename_i w z t e
    have e1 : Str.ofString "cases" = w := V.str.inj (D.leaf.inj (List.cons.inj (D.tup.inj e)).1)
    rw [← e1, if_neg (by decide)]
  · rfl
/-- the steps of a program; its names among some -/
structure PgN (N : List Str) (ds : List D) : Prop where
  len : ds.length ≤ 20
  st : ∀ d ∈ ds, StOk d
  nm : ∀ d ∈ ds, ∀ z ∈ stNames d, z ∈ N
  nl : N.length ≤ 26
  tot : stTot ds ≤ 60
theorem PtN.le {N : List Str} {n m : Nat} {d : D} (h : PtN N n d) (hm : n ≤ m) : PtN N m d := ⟨h.1.le hm, fun z hz => h.2 z (by
  unfold bnd at hz ⊢
  rw [pre_le h.1 hm] at hz
  exact hz)⟩
theorem stTot_more (ds : List D) (d : D) : stTot (ds ++ [d]) = stTot ds + ((stParts d).flatMap (pre 7)).length := by
  unfold stTot
  rw [List.flatMap_append, List.flatMap_append, List.length_append]
  show _ + ((stParts d ++ []).flatMap (pre 7)).length = _
  rw [List.append_nil]
/-- one of the labels, B in slot i -/
def tPickB (K : PySem.W.Frag) (i : Nat) (j : Int) : TE := tOp (rIxL K) (tOp (rIxL K) (tVar i) (tC (.int j))) (tCall spCoin [] E0 (tCons (tVar 0) (tCons (tCB (fun xs H Q => ∃ p ys, xs = [V.ref p] ∧ (SqL K H p ys ∨ SqT K H p ys) ∧ Q (.int ys.length) H) (tCons (tOp (rIxL K) (tVar i) (tC (.int j))) tNil)) tNil)))
theorem pickB_ok {K : PySem.W.Frag} {σ : L2.St} {H : Hp} {p B A : Addr} {xs : List V} {i : Nat} {j : Int} {z : List Str} {n : Nat} {Q : VK} (h0 : σ[0]? = some (some (.ref p))) (h1 : σ[i]? = some (some (.ref B))) (hB : H B = some (.lst xs)) (hj : atI xs j = some (.ref A)) (hA : Nam H A z) (hAp : A ≠ p) (hp : Purse H p n) (hn : n < 10 ^ 60)
    (k : ∀ y H', y ∈ z → But p H H' → Purse H' p (n + 1) → Q (.str y) H') : tPickB K i j σ H Q := by
  obtain ⟨hz, hz1, hz26, hzo⟩ := hA
  refine ⟨_, h1, B, _, _, _, rfl, rfl, SqL.of hB, hj, _, h0, _, h1, B, _, _, _, rfl, rfl, SqL.of hB, hj, A, _, rfl, .inl (SqL.of hz), p, _, n, rfl, hp, hn, (by rw [List.length_map]; omega), (by rw [List.length_map]; omega), fun dr H1 d0 d1 hb hp1 => ?_⟩
  rw [List.length_map] at d1
  obtain ⟨i, rfl⟩ : ∃ i : Nat, dr = (i : Int) := ⟨dr.toNat, by omega⟩
  have hi : i < z.length := by omega
  exact ⟨A, _, _, .str z[i], rfl, rfl, SqL.of (hb _ _ hAp hz), atI_nat (by rw [List.getElem?_map, List.getElem?_eq_getElem hi]; rfl), k _ _ (List.getElem_mem hi) hb hp1⟩
/-- so much drawn into a list -/
def ItG (W : List D → Int → Prop) (H1 : Hp) (p L B : Addr) (N : List Str) (fo : Addr) (n : Nat) (H' : Hp) : Prop := ∃ (a' : Int) (ds : List D) (ys : List V) (G0 : List Addr), Gn H' p L B N n a' ∧ Kp (fun a => a = p ∨ a = L) H1 H' ∧ H' fo = some (.lst ys) ∧ Reps H' ds ys G0 ∧ (∀ x ∈ G0, H1 x = none ∧ x ≠ fo) ∧ W ds a'
theorem it_push {H1 H5 H6 : Hp} {p L B fo : Addr} {N : List Str} {m0 n5 n6 : Nat} {a0 a5 a6 : Int} {ds : List D} {ys : List V} {G0 G6 : List Addr} {d : D} {u : V} (hG : Gn H1 p L B N m0 a0) (hfo : H1 fo = none)
    (hG5 : Gn H5 p L B N n5 a5) (hk5 : Kp (fun a => a = p ∨ a = L) H1 H5) (hl5 : H5 fo = some (.lst ys)) (hr5 : Reps H5 ds ys G0) (hf5 : ∀ x ∈ G0, H1 x = none ∧ x ≠ fo)
    (hG6 : Gn H6 p L B N n6 a6) (hk6 : Kp (fun a => a = p ∨ a = L) H5 H6) (hr6 : Rep H6 d u G6) (hf6 : ∀ x ∈ G6, H5 x = none) :
    H6 fo = some (.lst ys) ∧ ys.length = ds.length ∧ Gn (upd H6 fo (.lst (ys ++ [u]))) p L B N n6 a6 ∧ Kp (fun a => a = p ∨ a = L) H1 (upd H6 fo (.lst (ys ++ [u]))) ∧ (upd H6 fo (.lst (ys ++ [u]))) fo = some (.lst (ys ++ [u])) ∧ Reps (upd H6 fo (.lst (ys ++ [u]))) (ds ++ [d]) (ys ++ [u]) (G0 ++ G6) ∧ ∀ x ∈ G0 ++ G6, H1 x = none ∧ x ≠ fo := by
  have hl6 : H6 fo = some (.lst ys) := hk6 _ _ hl5 (.inl (hG.noS hfo))
  have kp7 : Kp (fun a => a = fo) H6 (upd H6 fo (.lst (ys ++ [u]))) := Kp.set hl6 rfl
  have n6 : ∀ x ∈ G6, x ≠ fo := fun x hx z => by
    have e := hf6 x hx
    rw [z, hl5] at e
    cases e
  refine ⟨hl6, hr5.len, hG.put (hk5.trans hk6) hG6 hfo, (hk5.trans hk6).put hfo, upd_same, Reps.snoc ((hr5.kp hk6 fun x hx => hG.noS (hf5 x hx).1).kp kp7 fun x hx => (hf5 x hx).2) (hr6.kp kp7 n6) (fun x hx z => ?_), fun x hx => ?_⟩
  · obtain ⟨zs, e⟩ := hr5.at_ x hx
    rw [hf6 x z] at e
    cases e
  · rcases List.mem_append.mp hx with z | z
    · exact hf5 x z
    · exact ⟨hG.free hk5 hG5 (hf6 x z), n6 x z⟩
/-- without what stands at one place -/
def hide (H : Hp) (c : Addr) : Hp := fun x => if x = c then none else H x
theorem hide_self {H : Hp} {c : Addr} : hide H c c = none := if_pos rfl
theorem hide_ne {H : Hp} {c x : Addr} (h : x ≠ c) : hide H c x = H x := if_neg h
theorem hide_same {H : Hp} {c : Addr} : Same (hide H c) H := fun b u e => by
  by_cases h : b = c
  · rw [h, hide_self] at e
    cases e
  · rwa [hide_ne h] at e
theorem hide_in {H : Hp} {c x : Addr} {o : HO} (h : x ≠ c) (e : H x = some o) : hide H c x = some o := by
  rw [hide_ne h]
  exact e
theorem six_three {g : Bool} {σ : L2.St} {H : Hp} {Q : VK} (h : ∀ dp : Nat, dp = 6 ∨ dp = 3 → Q (.int (dp : Int)) H) : if g = true then tC (.int 6) σ H Q else tC (.int 3) σ H Q := by
  cases g with
  | true => exact iteT (h 6 (.inl rfl))
  | false => exact iteF (h 3 (.inr rfl))
def PlanAt (H : Hp) (t : Addr) (ds : List D) (r s : Str) (G : List Addr) : Prop := ∃ u, H t = some (.tup [u, .str r, .str s]) ∧ Rep H (.lst ds) u G ∧ okOrd r ∧ okLck s
/-- draws: for a case, for a step, for a plan -/
def cCs : Nat := cP 6
def cSt : Nat := 2300 + 10 + 20 * cCs
def cPl : Nat := 100 + 20 * cSt
def spPlan : Sp := fun vs H Q _ => ∃ (p : Addr) (g : Bool) (n : Nat), vs = [.ref p, .bl g] ∧ Purse H p n ∧ n + cPl < 10 ^ 60 ∧
  ∀ (t : Addr) (ds : List D) (r s : Str) (G : List Addr) (N : List Str) H', But p H H' → Purse H' p (n + cPl) → H t = none → PlanAt H' t ds r s G → (∀ x ∈ G, H x = none) → PgN N ds → Q (.ref t) H'
def StN (N : List Str) (d : D) : Prop := StOk d ∧ ∀ z ∈ stNames d, z ∈ N
theorem stn_set {N : List Str} {z : Str} {t : D} (hz : okName z) (hN : z ∈ N) (ht : TmOk 5 t) : StN N (.tup [S "set", .leaf (.str z), t]) := by
  refine ⟨.inl ⟨z, t, hz, ht, rfl⟩, fun y hy => ?_⟩
  unfold stNames at hy
  rw [set_set, parts_set] at hy
  have e : y ∈ [z] := hy
  rw [List.mem_singleton.mp e]
  exact hN
theorem stn_take {N : List Str} {r q : D} (hr : Opt r) (hq : PtN N 7 q) : StN N (.tup [S "take", r, q]) := by
  refine ⟨.inr (.inl ⟨r, q, hr, hq.1, rfl⟩), fun y hy => ?_⟩
  unfold stNames at hy
  rw [set_take, parts_take] at hy
  have e : y ∈ bnd 7 q ++ [] := hy
  rw [List.append_nil] at e
  exact hq.2 y e
theorem stn_cases {N : List Str} {r : D} {qs : List D} (hr : Opt r) (hl : qs.length ≤ 20) (hq : ∀ q ∈ qs, PtN N 7 q) : StN N (.tup [S "cases", r, .lst qs]) := by
  refine ⟨.inr (.inr ⟨r, qs, hr, hl, fun q m => (hq q m).1, rfl⟩), fun y hy => ?_⟩
  unfold stNames at hy
  rw [set_cases, parts_cases] at hy
  obtain ⟨q, hm, hy⟩ := List.mem_flatMap.mp (show y ∈ qs.flatMap (bnd 7) from hy)
  exact (hq q hm).2 y hy
abbrev WSt (N : List Str) (a0 : Int) (i : Nat) : List D → Int → Prop := fun ds a' => 0 ≤ a' ∧ ds.length ≤ i ∧ (∀ d ∈ ds, StN N d) ∧ ((stTot ds : Nat) : Int) = a0 - a'
abbrev WCs (N : List Str) (a0 : Int) (i : Nat) : List D → Int → Prop := fun qs a' => 0 ≤ a' ∧ a' ≤ a0 ∧ qs.length ≤ i ∧ (∀ q ∈ qs, PtN N 7 q) ∧ (((qs.flatMap (pre 7)).length : Nat) : Int) = a0 - a'
section
variable {P : Program} {w : World} {K : PySem.W.Frag} {mg : Str → Option Value} {base : Heap}
abbrev nPl : List Str := ["purse", "is_great", "sizes", "found", "labels", "left", "most", "turn", "way", "name", "whose", "lot", "case", "size"]
theorem scPl : FnScope nPl ["purse", "is_great"] (defScope sPlan) := ⟨rfl, rfl, rfl, by decide +kernel, rfl, by decide +kernel, by decide +kernel⟩
theorem ok_plan {f fC fW fT fP : Addr} {fd fdC fdW fdT fdP : FuncData} (F : Fun K "_law_tp_plan" "_law_tp_plan" sPlan f fd) (T : Txt K mg)
    (FC : Fun K "_law_coin" "_law_coin" sCoin fC fdC) (GC : FnOk P w K mg base CX0 1 fC fdC ["purse", "many"] spCoin) (bC : Binds K fdC ["purse", "many"] []) (mC : mg "_law_coin" = some (.ref fC))
    (FW : Fun K "_law_tk_stems" "_law_tk_stems" sStems fW fdW) (GW : FnOk P w K mg base CX0 2 fW fdW ["purse", "many"] spStems) (bW : Binds K fdW ["purse", "many"] []) (mW : mg "_law_tk_stems" = some (.ref fW))
    (FT : Fun K "_law_tk_term" "_law_tk_term" sTerm fT fdT) (GT : FnOk P w K mg base CX0 7 fT fdT ["purse", "labels", "left", "deep"] (spTerm 7)) (bT : Binds K fdT ["purse", "labels", "left", "deep"] []) (mT : mg "_law_tk_term" = some (.ref fT))
    (FP : Fun K "_law_tk_part" "_law_tk_part" sPart fP fdP) (GP : FnOk P w K mg base CX0 15 fP fdP ["purse", "labels", "left", "deep"] (spPart 15)) (bP : Binds K fdP ["purse", "labels", "left", "deep"] []) (mP : mg "_law_tk_part" = some (.ref fP)) :
    FnOk P w K mg base CX0 16 f fd ["purse", "is_great"] spPlan := by
  refine F.ok scPl (fun vs H Q E h => ?_) (fun cdv A outer s H vs Q E hr h => ?_)
  · obtain ⟨p, g, n, rfl, _⟩ := h
    rfl
  obtain ⟨p, g, n, rfl, hp, hn, kk⟩ := h
  have hr1 : Room 1 (A.deeper (envOfC "_law_tp_plan" (defScope sPlan) s.heap.objs.size f cdv)) := hr.mono (by omega)
  have hr2 : Room 2 (A.deeper (envOfC "_law_tp_plan" (defScope sPlan) s.heap.objs.size f cdv)) := hr.mono (by omega)
  have hr7 : Room 7 (A.deeper (envOfC "_law_tp_plan" (defScope sPlan) s.heap.objs.size f cdv)) := hr.mono (by omega)
  refine ⟨_, Evl.pss_cut (ps_par (i := 2) (j := 3) rfl scPl.nd rfl rfl (by decide) rfl rfl (pa_cons (pe_ifExp (pt_val (pv 1)) (pe_lst (pa_cons (pe_ix ix_list (pe_lst (pa_cons pe_int (pa_cons pe_int (pa_cons pe_int pa_nil)))) (pe_call GC hr1 rfl mC FC.kp bC .nil pass0 (pa_cons (pv 0) (pa_cons pe_int pa_nil))) (fun _ _ => rfl)) (pa_cons pe_int (pa_cons pe_int pa_nil)))) (pe_lst (pa_cons pe_int (pa_cons pe_int (pa_cons pe_int pa_nil))))) (pa_cons (pe_lst pa_nil) pa_nil)) (by rfl))
    (Evl.pss_cut (ps_setLc (i := 4) (own := [("size", 13)]) (g := gName 13) (tt := tYes) (by rfl) scPl.nd rfl rfl (sw_true rfl rfl rfl (by decide +kernel)) (pi_list (pv 2)) (blkOk_by (N := nPl) (sc := defScope sPlan) (by decide +kernel)) (fun _ _ _ _ _ => pg_name (i := 13) scPl.nd rfl (Or.inl rfl)) (fun _ _ _ _ _ => pts_nil)
        (fun _ _ _ _ _ => pe_call GW hr2 rfl mW FW.kp bW .nil pass0 (pa_cons (pv 0) (pa_cons (pe_op op_add pe_int (pe_call GC hr1 rfl mC FC.kp bC .nil pass0 (pa_cons (pv 0) (pa_cons (pv 13) pa_nil)))) pa_nil))))
    (Evl.pss_cut (ps_set (i := 5) scPl.nd rfl (Or.inl rfl) (pe_ifExp (pt_val (pv 1)) (pe_lst (pa_cons pe_int (pa_cons pe_int (pa_cons pe_int (pa_cons pe_int (pa_cons pe_int pa_nil)))))) (pe_lst (pa_cons pe_int (pa_cons pe_int (pa_cons pe_int (pa_cons pe_int (pa_cons pe_int pa_nil))))))))
    (Evl.pss_cut (ps_set (i := 6) scPl.nd rfl (Or.inl rfl) (pe_ifExp (pt_val (pv 1)) pe_int pe_int))
    (Evl.pss_cut (ps_for PassesOwn.never rfl (pi_range1 rfl T.range (pa_cons (pe_call GC hr1 rfl mC FC.kp bC .nil pass0 (pa_cons (pv 0) (pa_cons (pv 6) pa_nil))) pa_nil)) (pg_name (i := 7) scPl.nd rfl (Or.inl rfl))
      (Evl.pss_cut (ps_par (i := 8) (j := 9) rfl scPl.nd rfl rfl (by decide) rfl rfl (pa_cons (pe_call GC hr1 rfl mC FC.kp bC .nil pass0 (pa_cons (pv 0) (pa_cons pe_int pa_nil))) (pa_cons (pe_ix ix_list (pe_ix ix_list (pv 4) pe_int (fun _ _ => rfl)) (pe_call GC hr1 rfl mC FC.kp bC .nil pass0 (pa_cons (pv 0) (pa_cons (pe_callB call_len_seq (by rfl) T.len PySem.boot_len (pa_cons (pe_ix ix_list (pv 4) pe_int (fun _ _ => rfl)) pa_nil)) pa_nil))) (fun _ _ => rfl)) pa_nil)) (by rfl))
      (Evl.pss_cut (ps_set (i := 10) scPl.nd rfl (Or.inl rfl) (pe_ifExp (PW.pt (pw_or (pt_cmpR op_eq (pv 7) pe_int (nomark _)) (pw_or1 (pt_cmpR op_eq (pe_call GC hr1 rfl mC FC.kp bC .nil pass0 (pa_cons (pv 0) (pa_cons pe_int pa_nil))) pe_int (nomark _))))) pe_non (pv 9)))
      (pss_one (ps_if (pt_cmpR op_eq (pv 8) pe_int (nomark _))
        (pss_one (ps_expr (pe_bm PySem.F.plainAttrs_list PySem.F.slot_list_append PySem.F.type_list_append mt_append (pv 3) (pa_cons (pe_tup (pa_cons pe_str (pa_cons (pv 9) (pa_cons (pe_call GT hr7 rfl mT FT.kp bT .nil pass0 (pa_cons (pv 0) (pa_cons (pv 4) (pa_cons (pv 5) (pa_cons (pe_ix ix_list (pv 5) pe_int (fun _ _ => rfl)) pa_nil))))) pa_nil)))) pa_nil))))
        (pss_one (ps_if (pt_cut (PW.pt (pw_and (pt_cmpR op_lt (pv 8) pe_int (nomark _)) (pw_and1 (pt_cmpR op_gt (pe_ix ix_list (pv 5) pe_int (fun _ _ => rfl)) pe_int (nomark _))))))
          (pss_one (ps_expr (pe_bm PySem.F.plainAttrs_list PySem.F.slot_list_append PySem.F.type_list_append mt_append (pv 3) (pa_cons (pe_tup (pa_cons pe_str (pa_cons (pv 10) (pa_cons (pe_call GP hr rfl mP FP.kp bP .nil pass0 (pa_cons (pv 0) (pa_cons (pv 4) (pa_cons (pv 5) (pa_cons (pe_ifExp (pt_val (pv 1)) pe_int pe_int) pa_nil))))) pa_nil)))) pa_nil))))
          (pss_one (ps_if (pt_cmpR op_gt (pv 8) pe_int (nomark _))
            (Evl.pss_cut (ps_set (i := 11) scPl.nd rfl (Or.inl rfl) (pe_lst pa_nil))
            (Evl.pss_cut (ps_for PassesOwn.never rfl (pi_range1 rfl T.range (pa_cons (pe_call GC hr1 rfl mC FC.kp bC .nil pass0 (pa_cons (pv 0) (pa_cons (pv 6) pa_nil))) pa_nil)) (pg_name (i := 12) scPl.nd rfl (Or.inl rfl))
              (pss_one (ps_if (pt_cmpR op_gt (pe_ix ix_list (pv 5) pe_int (fun _ _ => rfl)) pe_int (nomark _)) (pss_one (ps_expr (pe_bm PySem.F.plainAttrs_list PySem.F.slot_list_append PySem.F.type_list_append mt_append (pv 11) (pa_cons (pe_call GP hr rfl mP FP.kp bP .nil pass0 (pa_cons (pv 0) (pa_cons (pv 4) (pa_cons (pv 5) (pa_cons (pe_ifExp (pt_val (pv 1)) pe_int pe_int) pa_nil))))) pa_nil)))) pss_nil)))
            (pss_one (ps_expr (pe_bm PySem.F.plainAttrs_list PySem.F.slot_list_append PySem.F.type_list_append mt_append (pv 3) (pa_cons (pe_tup (pa_cons pe_str (pa_cons (pv 10) (pa_cons (pv 11) pa_nil)))) pa_nil)))))) pss_nil)))))))))
    (pss_one (ps_ret (pe_tup (pa_cons (pv 3) (pa_cons (pe_ix ix_list (pe_lst (pa_cons pe_str (pa_cons pe_str pa_nil))) (pe_call GC hr1 rfl mC FC.kp bC .nil pass0 (pa_cons (pv 0) (pa_cons pe_int pa_nil))) (fun _ _ => rfl)) (pa_cons (pe_ix ix_list (pe_lst (pa_cons pe_str (pa_cons pe_str pa_nil))) (pe_call GC hr1 rfl mC FC.kp bC .nil pass0 (pa_cons (pv 0) (pa_cons pe_int pa_nil))) (fun _ _ => rfl)) pa_nil)))))))))), ?_⟩
  obtain ⟨po, hpo⟩ := hp.some
  have hc1 : cPl = 100 + 20 * cSt := rfl
  have hc2 : cSt = 2300 + 10 + 20 * cCs := rfl
  have hc3 : cCs = cP 6 := rfl
  have hc4 : cP 3 ≤ cP 6 := by decide
  -- sizes, found
  refine ⟨fun σ' H' => But p H H' ∧ Purse H' p (n + 1) ∧ ∃ (sA fo : Addr) (ss : List Int), H sA = none ∧ H fo = none ∧ sA ≠ fo ∧ H' sA = some (.lst (ss.map V.int)) ∧ H' fo = some (.lst []) ∧ ss.length = 3 ∧ (∀ x ∈ ss, 1 ≤ x ∧ x ≤ 26) ∧ σ' = [some (.ref p), some (.bl g), some (.ref sA), some (.ref fo), none, none, none, none, none, none, none, none, none, none], ?_, ?_⟩
  · have fin : ∀ (Hx : Hp) (sA fo : Addr) (ss : List Int), But p H Hx → Purse Hx p (n + 1) → Hx sA = none → (upd Hx sA (.lst (ss.map V.int))) fo = none → ss.length = 3 → (∀ x ∈ ss, 1 ≤ x ∧ x ≤ 26) →
        But p H (upd (upd Hx sA (.lst (ss.map V.int))) fo (.lst [])) ∧ Purse (upd (upd Hx sA (.lst (ss.map V.int))) fo (.lst [])) p (n + 1) ∧ H sA = none ∧ H fo = none ∧ sA ≠ fo ∧ (upd (upd Hx sA (.lst (ss.map V.int))) fo (.lst [])) sA = some (.lst (ss.map V.int)) ∧ (upd (upd Hx sA (.lst (ss.map V.int))) fo (.lst [])) fo = some (.lst []) := fun Hx sA fo ss hb hpx h1 h2 _ _ => by
      have s1 := same_new h1 (.lst (ss.map V.int))
      have s2 := same_new h2 (.lst [])
      have nsf : sA ≠ fo := ne_of_none upd_same h2
      exact ⟨(hb.trans (.of s1)).trans (.of s2), (hpx.same s1).same s2, hb.free hpo hpx.some h1, hb.free hpo hpx.some (s1.free h2), nsf, s2 _ _ upd_same, upd_same⟩
    refine ⟨_, rfl, g, rfl, ?_⟩
    refine ite2 (fun _ => ?_) (fun _ => ⟨by show 3 ≤ sizeLine; decide, fun sA hsA => ⟨by show 0 ≤ sizeLine; decide, fun fo hfo => ⟨_, _, rfl, ?_⟩⟩⟩)
    · refine ⟨by show 3 ≤ sizeLine; decide, fun q hq => ?_⟩
      have sq := same_new hq (.lst [V.int 8, V.int 8, V.int 26])
      refine ⟨_, rfl, p, 3, n, rfl, hp.same sq, by omega, by decide, by decide, fun d H1 d0 d1 hb hp1 => ?_⟩
      obtain ⟨x, hx, hx1, hx2⟩ : ∃ x : Int, atI [V.int 8, V.int 8, V.int 26] d = some (.int x) ∧ 1 ≤ x ∧ x ≤ 26 := by
        have e : d = ((0 : Nat) : Int) ∨ d = ((1 : Nat) : Int) ∨ d = ((2 : Nat) : Int) := by omega
        rcases e with e | e | e
        · exact ⟨8, at_ofN e rfl, by decide, by decide⟩
        · exact ⟨8, at_ofN e rfl, by decide, by decide⟩
        · exact ⟨26, at_ofN e rfl, by decide, by decide⟩
      refine ⟨q, _, _, _, rfl, rfl, SqL.of (hb q _ (hp.ne hq) upd_same), hx, by show 3 ≤ sizeLine; decide, fun sA hsA => ⟨by show 0 ≤ sizeLine; decide, fun fo hfo => ⟨_, _, rfl, ?_⟩⟩⟩
      have hss : ∀ y ∈ [x, 12, 8], 1 ≤ y ∧ y ≤ 26 := fun y hy => by
        simp at hy
        rcases hy with rfl | rfl | rfl
        · exact ⟨hx1, hx2⟩
        · decide
        · decide
      obtain ⟨g1, g2, g3, g4, g5, g6, g7⟩ := fin H1 sA fo [x, 12, 8] ((But.of sq).trans hb) hp1 hsA hfo rfl hss
      exact ⟨g1, g2, sA, fo, [x, 12, 8], g3, g4, g5, g6, g7, rfl, hss, rfl⟩
    · obtain ⟨g1, g2, g3, g4, g5, g6, g7⟩ := fin H sA fo [5, 2, 4] (But.refl p H) (hp.mono (by omega)) hsA hfo rfl (by decide)
      exact ⟨g1, g2, sA, fo, [5, 2, 4], g3, g4, g5, g6, g7, rfl, by decide, rfl⟩
  rintro _ H1 ⟨hb1, hp1, sA, fo, ss, hsA0, hfo0, nsf, hsA, hfo, hss3, hss, rfl⟩
  have nsp : sA ≠ p := hp.ne hsA0
  have nfp : fo ≠ p := hp.ne hfo0
  -- labels
  refine ⟨fun σ' H' => But p H H' ∧ Purse H' p (n + 1 + 3 * 11) ∧ H' fo = some (.lst []) ∧ ∃ (B : Addr) (rs : List Addr), H B = none ∧ B ≠ fo ∧ H' B = some (.lst (rs.map V.ref)) ∧ rs.length = 3 ∧ (∀ r ∈ rs, H r = none ∧ r ≠ B ∧ r ≠ fo ∧ ∃ z, Nam H' r z ∧ z.Nodup) ∧ σ' = [some (.ref p), some (.bl g), some (.ref sA), some (.ref fo), some (.ref B), none, none, none, none, none, none, none, none, none], ?_, ?_⟩
  · refine ⟨_, rfl, sA, rfl, ⟨_, SqL.of hsA⟩, fun D0 hD => ?_⟩
    have nDp : D0 ≠ p := hp1.ne hD
    have hD00 : H D0 = none := hb1.free hpo hp1.some hD
    have nDf : D0 ≠ fo := (ne_of_none hfo hD).symm
    refine lc_list (K := K) (a := sA) (xs := ss.map V.int) (fun i H2 => But p H H2 ∧ H2 sA = some (.lst (ss.map V.int)) ∧ H2 fo = some (.lst []) ∧ Purse H2 p (n + 1 + i * 11) ∧ ∃ rs : List Addr, H2 D0 = some (.lst (rs.map V.ref)) ∧ rs.length = i ∧ ∀ r ∈ rs, H r = none ∧ r ≠ D0 ∧ r ≠ fo ∧ ∃ z, Nam H2 r z ∧ z.Nodup)
      ⟨hb1.trans (.new hD), same_new hD _ _ _ hsA, same_new hD _ _ _ hfo, (by rw [Nat.zero_mul]; exact hp1.same (same_new hD _)), [], upd_same, rfl, fun _ z => nomatch z⟩ (fun i H2 _ ⟨_, h, _⟩ => SqL.of h) ?_ ?_
    · rintro i x H2 hi ⟨hb2, hsA2, hfo2, hp2, rs, hD2, hl, hrs⟩
      refine ⟨rfl, ?_⟩
      have hi3 : i < 3 := by
        have q := (List.getElem?_eq_some_iff.mp hi).1
        rw [List.length_map] at q
        omega
      obtain ⟨sz, hsz, rfl⟩ := List.mem_map.mp (List.mem_of_getElem? hi)
      obtain ⟨g1, g2⟩ := hss sz hsz
      show tCall spStems [] E0 (tCons (tVar 0) (tCons _ tNil)) _ H2 _
      refine ⟨_, rfl, _, rfl, _, rfl, p, sz, n + 1 + i * 11, rfl, hp2, by omega, by omega, by omega, fun d H3 d0 d1 hb3 hp3 => ⟨_, _, rfl, rfl, p, (1 + d).toNat, n + 1 + i * 11 + 1, ?_, by omega, by omega, hp3, by omega, fun r zs H4 hA hr hzs hzl hnd hok => ?_⟩⟩
      · show [V.ref p, V.int (1 + d)] = _
        rw [show (((1 + d).toNat : Nat) : Int) = 1 + d by omega]
      have hb4 := (hb2.trans hb3).trans hA.1
      have hr0 : H r = none := (hb2.trans hb3).free hpo hp3.some hr
      have hD4 := hA.1 _ _ nDp (hb3 _ _ nDp hD2)
      have hrD : r ≠ D0 := (ne_of_none (hb3 _ _ nDp hD2) hr).symm
      have hrf : r ≠ fo := (ne_of_none (hb3 _ _ nfp hfo2) hr).symm
      refine ⟨_, hD4, Nat.lt_of_le_of_lt (show (rs.map V.ref).length ≤ 3 by rw [List.length_map]; omega) (by decide), ?_, ?_, ?_, ?_, rs ++ [r], ?_, ?_, fun y hy => ?_⟩
      · intro b o nb e
        rw [upd_ne fun z => ?_]
        · exact hb4 b o nb e
        · rw [z, hD00] at e
          cases e
      · rw [upd_ne (ne_of_none hsA hD)]
        exact hA.1 _ _ nsp (hb3 _ _ nsp hsA2)
      · rw [upd_ne nDf.symm]
        exact hA.1 _ _ nfp (hb3 _ _ nfp hfo2)
      · obtain ⟨x1, x2, x3, e, r2⟩ := hA.2.mono (show n + 1 + i * 11 + 1 + 10 ≤ n + 1 + (i + 1) * 11 by rw [Nat.succ_mul]; omega)
        exact ⟨x1, x2, x3, by rw [upd_ne (Ne.symm nDp)]; exact e, r2⟩
      · rw [upd_same, List.map_append]
        rfl
      · rw [List.length_append, hl]
        rfl
      · have up : ∀ {y : Addr} {z : List Str}, y ≠ D0 → Nam H4 y z → Nam (upd H4 D0 (.lst (rs.map V.ref ++ [.ref r]))) y z := fun ny h => ⟨by rw [upd_ne ny]; exact h.1, h.2⟩
        rcases List.mem_append.mp hy with y1 | y1
        · obtain ⟨a1, a2, a5, z, a3, a4⟩ := hrs y y1
          have nyp : y ≠ p := hp.ne a1
          exact ⟨a1, a2, a5, z, up a2 ⟨hA.1 _ _ nyp (hb3 _ _ nyp a3.1), a3.2⟩, a4⟩
        · rw [List.mem_singleton.mp y1]
          exact ⟨hr0, hrD, hrf, zs, up hrD ⟨hzs, by omega, by omega, hok⟩, hnd⟩
    · rintro H2 ⟨hb2, hsA2, hfo2, hp2, rs, hD2, hl, hrs⟩
      rw [List.length_map, hss3] at hp2 hl
      exact ⟨hb2, hp2, hfo2, D0, rs, hD00, nDf, hD2, hl, hrs, rfl⟩
  clear hsA hfo hb1 hp1
  rintro _ H1 ⟨hb1, hp1, hfo, B, rs, hB0, nBf, hB, hrl, hrs, rfl⟩
  obtain ⟨n0, n1, n2, rfl⟩ : ∃ n0 n1 n2, rs = [n0, n1, n2] := by
    match rs, hrl with
    | [a, b, c], _ => exact ⟨a, b, c, rfl⟩
  obtain ⟨q0, q0B, q0f, N, hN0, _⟩ := hrs n0 (by simp)
  obtain ⟨q1, q1B, q1f, z1, hN1, _⟩ := hrs n1 (by simp)
  obtain ⟨q2, q2B, q2f, z2, hN2, hnd⟩ := hrs n2 (by simp)
  -- what may still be drawn
  refine ⟨fun σ' H' => ∃ (L : Addr) (Hz : Hp), Gn Hz p L B N (n + 34) (if g = true then 60 else 8) ∧ Gn H' p L B N (n + 34) (if g = true then 60 else 8) ∧ But p H Hz ∧ Same Hz H' ∧ Hz fo = none ∧ H L = none ∧ L ≠ fo ∧ H' fo = some (.lst []) ∧ σ' = [some (.ref p), some (.bl g), some (.ref sA), some (.ref fo), some (.ref B), some (.ref L), none, none, none, none, none, none, none, none], ?_, ?_⟩
  · have mk : ∀ (L : Addr) (aa d i c l : Int), H1 L = none → 0 ≤ i ∧ i ≤ 20 ∧ 1 ≤ l ∧ l ≤ 5 → ∃ Hz, Gn Hz p L B N (n + 34) aa ∧ Gn (upd H1 L (lf5 aa d i c l)) p L B N (n + 34) aa ∧ But p H Hz ∧ Same Hz (upd H1 L (lf5 aa d i c l)) ∧ Hz fo = none ∧ H L = none ∧ L ≠ fo ∧ (upd H1 L (lf5 aa d i c l)) fo = some (.lst []) := fun L aa d i c l hL hl => by
      have st := same_new hL (lf5 aa d i c l)
      have nn : ∀ {y : Addr} {o : HO}, H1 y = some o → y ≠ L := fun e => ne_of_none e hL
      have nLf : L ≠ fo := (nn hfo).symm
      have st2 : ∀ {y : Addr} {z : List Str}, Nam H1 y z → Nam (upd H1 L (lf5 aa d i c l)) y z := fun h => ⟨st _ _ h.1, h.2⟩
      have st3 : ∀ {y : Addr} {z : List Str}, y ≠ fo → Nam H1 y z → Nam (hide (upd H1 L (lf5 aa d i c l)) fo) y z := fun ny h => ⟨hide_in ny (st _ _ h.1), h.2⟩
      have two : ∀ (Hx : Hp), Purse Hx p (n + 34) → Hx L = some (lf5 aa d i c l) → Hx B = some (.lst [.ref n0, .ref n1, .ref n2]) → Nam Hx n0 N → Nam Hx n1 z1 → Nam Hx n2 z2 → Gn Hx p L B N (n + 34) aa := fun Hx h1 h2 h3 h4 h5 h6 =>
        ⟨h1, ⟨d, i, c, l, h2, hl⟩, hp1.ne hL, ⟨n0, n1, n2, z1, z2, h3, h4, h5, h6, hnd, hp.ne hB0, nn hB, hp.ne q0, nn hN0.1, hp.ne q1, nn hN1.1, hp.ne q2, nn hN2.1⟩⟩
      refine ⟨hide (upd H1 L (lf5 aa d i c l)) fo, two _ ?_ (hide_in nLf upd_same) (hide_in nBf (st _ _ hB)) (st3 q0f hN0) (st3 q1f hN1) (st3 q2f hN2), two _ (hp1.same st) upd_same (st _ _ hB) (st2 hN0) (st2 hN1) (st2 hN2), fun b o nb e => hide_in (fun z => ?_) (st _ _ (hb1 b o nb e)), hide_same, hide_self, hb1.free hpo hp1.some hL, nLf, st _ _ hfo⟩
      · obtain ⟨x1, x2, x3, e, r⟩ := hp1.same st
        exact ⟨x1, x2, x3, hide_in (Ne.symm nfp) e, r⟩
      · rw [z, hfo0] at e
        cases e
    refine ⟨_, rfl, g, rfl, ?_⟩
    cases g with
    | true =>
      refine iteT ⟨by show 5 ≤ sizeLine; decide, fun L hL => ?_⟩
      obtain ⟨Hz, m1, m2, m3, m4, m5, m6, m7, m8⟩ := mk L 60 28 20 40 5 hL (by decide)
      exact ⟨L, Hz, m1, m2, m3, m4, m5, m6, m7, m8, rfl⟩
    | false =>
      refine iteF ⟨by show 5 ≤ sizeLine; decide, fun L hL => ?_⟩
      obtain ⟨Hz, m1, m2, m3, m4, m5, m6, m7, m8⟩ := mk L 8 3 3 6 3 hL (by decide)
      exact ⟨L, Hz, m1, m2, m3, m4, m5, m6, m7, m8, rfl⟩
  clear hb1 hp1 hB hfo hN1 hN2 hrs
  rintro _ H1 ⟨L, Hz, hGz, hG1, hbz, hsz1, hzf, hL0, nLf, hfo1, rfl⟩
  have hN26 := hN0.2.2.1
  have hNok := hN0.2.2.2
  clear hN0
  generalize ha0 : (if g = true then (60 : Int) else 8) = a0 at hG1 hGz
  have ha60 : 0 ≤ a0 ∧ a0 ≤ 60 := by
    rw [← ha0]
    split <;> decide
  -- most
  refine ⟨fun σ' H' => H1 = H' ∧ ∃ mo : Int, 1 ≤ mo ∧ mo ≤ 21 ∧ σ' = [some (.ref p), some (.bl g), some (.ref sA), some (.ref fo), some (.ref B), some (.ref L), some (.int mo), none, none, none, none, none, none, none], ?_, ?_⟩
  · refine ⟨_, rfl, g, rfl, ?_⟩
    cases g with
    | true => exact iteT ⟨rfl, 21, by decide, by decide, rfl⟩
    | false => exact iteF ⟨rfl, 4, by decide, by decide, rfl⟩
  rintro _ _ ⟨rfl, mo, mo1, mo21, rfl⟩
  have zF : ∀ {x : Addr}, Hz x = none → H x = none := fun h => hbz.free hpo hGz.pu.some h
  have noz : ∀ {x : Addr}, Hz x = none → ¬ (x = p ∨ x = L) := fun h => hGz.noS h
  -- the steps
  refine ⟨fun σ' H' => ItG (WSt N a0 20) Hz p L B N fo (n + 35 + 20 * cSt) H' ∧ ∃ v7 v8 v9 v10 v11 v12, σ' = [some (.ref p), some (.bl g), some (.ref sA), some (.ref fo), some (.ref B), some (.ref L), some (.int mo), v7, v8, v9, v10, v11, v12, none], ?_, ?_⟩
  · refine ⟨_, rfl, _, rfl, p, mo, n + 34, rfl, hG1.pu, by omega, by omega, by omega, fun dr H2 d0 d1 hb2 hp2 => ⟨dr, rfl, by omega, by omega, ?_⟩⟩
    have hG2 := hG1.draw hb2 hp2
    have hk2 : Kp (fun a => a = p ∨ a = L) Hz H2 := (Kp.same hsz1).trans (hG1.kd hb2)
    refine for_range (lo := 0) (fun i σ' H' => ItG (WSt N a0 i) Hz p L B N fo (n + 35 + i * cSt) H' ∧ ∃ v7 v8 v9 v10 v11 v12, σ' = [some (.ref p), some (.bl g), some (.ref sA), some (.ref fo), some (.ref B), some (.ref L), some (.int mo), v7, v8, v9, v10, v11, v12, none])
      ⟨⟨a0, [], [], [], by rw [Nat.zero_mul]; exact hG2, hk2, hb2 _ _ nfp hfo1, reps_nil, (fun _ z => nomatch z), ha60.1, Nat.le_refl _, (fun _ z => nomatch z), by rw [Int.sub_self]; rfl⟩, _, _, _, _, _, _, rfl⟩ ?_ ?_
    · rintro i σ' H5 hi ⟨⟨a', ds, ys, G0, hG5, hk5, hf5, hr5, hn5, hW0, hWl, hWs, hWt⟩, v7, v8, v9, v10, v11, v12, rfl⟩
      have hi3 : i + 1 ≤ 20 := by omega
      have hcost : (i + 1) * cSt ≤ 20 * cSt := Nat.mul_le_mul_right _ hi3
      have hsm : (i + 1) * cSt = i * cSt + cSt := Nat.succ_mul _ _
      have ha60' : a' ≤ 60 := by omega
      -- way, name
      refine ⟨fun σ' H' => But p H5 H' ∧ Purse H' p (n + 35 + i * cSt + 2) ∧ ∃ (wy : Int) (nm : Str), nm ∈ N ∧ σ' = [some (.ref p), some (.bl g), some (.ref sA), some (.ref fo), some (.ref B), some (.ref L), some (.int mo), some (.int (0 + (i : Int))), some (.int wy), some (.str nm), v10, v11, v12, none], ?_, ?_⟩
      · refine ⟨_, rfl, p, 5, n + 35 + i * cSt, rfl, hG5.pu, by omega, by decide, by decide, fun wy H6 w0 w1 hb6 hp6 => ?_⟩
        obtain ⟨m0, m1, m2, z3, z4, hB, h0, h1, h2, nd, b1, b2, b3, b4, b5, b6, b7, b8⟩ := (hG5.draw hb6 hp6).lb
        refine pickB_ok (i := 4) (j := 0) rfl rfl hB at3_0 h0 b3 hp6 (by omega) fun y H7 hy hb7 hp7 => ?_
        exact ⟨_, _, rfl, hb6.trans hb7, hp7, wy, y, hy, rfl⟩
      rintro _ H6 ⟨hb6, hp6, wy, nm, hnm, rfl⟩
      -- whose
      refine ⟨fun σ' H' => But p H5 H' ∧ Purse H' p (n + 35 + i * cSt + 3) ∧ ∃ rv : V, Opt (.leaf rv) ∧ Leaf rv ∧ σ' = [some (.ref p), some (.bl g), some (.ref sA), some (.ref fo), some (.ref B), some (.ref L), some (.int mo), some (.int (0 + (i : Int))), some (.int wy), some (.str nm), some rv, v11, v12, none], ?_, ?_⟩
      · refine ⟨_, rfl, rfl, _, rfl, ?_⟩
        refine ite2 (fun _ => iteT ?_) (fun _ => ?_)
        · exact ⟨hb6, hp6.mono (by omega), .non, .inl rfl, leaf_non, rfl⟩
        · refine ⟨_, rfl, p, 2, n + 35 + i * cSt + 2, rfl, hp6, by omega, by decide, by decide, fun d H7 d0 d1 hb7 hp7 => ⟨rfl, _, rfl, ?_⟩⟩
          refine ite2 (fun _ => ⟨hb6.trans hb7, hp7, .non, .inl rfl, leaf_non, rfl⟩) (fun _ => ⟨_, rfl, hb6.trans hb7, hp7, .str nm, .inr ⟨nm, hNok nm hnm, rfl⟩, leaf_str, rfl⟩)
      clear hb6 hp6
      rintro _ H6 ⟨hb6, hp6, rv, hrv, hrl, rfl⟩
      have hG6 := hG5.draw hb6 hp6
      have hk6 := hk5.trans (hG5.kd hb6)
      have hf6 : H6 fo = some (.lst ys) := hb6 _ _ nfp hf5
      have hr6 : Reps H6 ds ys G0 := hr5.kp (hG5.kd hb6) fun x hx => noz (hn5 x hx).1
      clear hG5 hk5 hf5 hr5 hb6 hp6
      have push : ∀ (H7 : Hp) (a7 : Int) (n7 : Nat) (d : D) (u : V) (G7 : List Addr), n7 ≤ n + 35 + (i + 1) * cSt → Gn H7 p L B N n7 a7 → Kp (fun a => a = p ∨ a = L) H6 H7 → Rep H7 d u G7 → (∀ x ∈ G7, H6 x = none) → StN N d → 0 ≤ a7 → ((((stParts d).flatMap (pre 7)).length : Nat) : Int) = a' - a7 →
          H7 fo = some (.lst ys) ∧ ys.length < sizeLine ∧ ItG (WSt N a0 (i + 1)) Hz p L B N fo (n + 35 + (i + 1) * cSt) (upd H7 fo (.lst (ys ++ [u]))) := fun H7 a7 n7 d u G7 hn7 hG7 hk7 hr7 hg7 hd h0 ht => by
        obtain ⟨x1, x2, x3, x4, x5, x6, x7⟩ := it_push hGz hzf hG6 hk6 hf6 hr6 hn5 hG7 hk7 hr7 hg7
        refine ⟨x1, Nat.lt_of_le_of_lt (show ys.length ≤ 1000 by omega) (by decide), a7, ds ++ [d], ys ++ [u], G0 ++ G7, x3.mono hn7, x4, x5, x6, x7, h0, ?_, fun e he => ?_, ?_⟩
        · rw [List.length_append]
          show ds.length + 1 ≤ i + 1
          omega
        · rcases List.mem_append.mp he with y | y
          · exact hWs e y
          · rw [List.mem_singleton.mp y]
            exact hd
        · rw [stTot_more]
          omega
      have hL6 := hG6.lf
      obtain ⟨e1, e2, e3, e4, hL6, hl6⟩ := hL6
      refine ⟨_, rfl, rfl, _, rfl, ?_⟩
      refine ite2 (fun _ => ?_) (fun _ => ?_)
      · -- set
        have ce := cT_le e4.toNat (by omega)
        have ee : e4 = ((e4.toNat : Nat) : Int) := by omega
        refine ⟨_, rfl, .inl ⟨rfl, _, SqL.of hf6⟩, _, rfl, _, rfl, _, rfl, _, rfl, _, rfl, L, _, _, _, rfl, rfl, SqL.of hL6, at5_4, p, B, L, N, n + 35 + i * cSt + 3, e4.toNat, a', ?_, by omega, by omega, by omega, hG6, by omega, ?_⟩
        · show [V.ref p, V.ref B, V.ref L, V.int e4] = _
          rw [← ee]
        rintro u H7 ⟨t, G7, hG7, hk7, r7, f7, ht⟩
        refine ⟨by show 3 ≤ sizeLine; decide, fun tp htp => ?_⟩
        have st := same_new htp (.tup [.str (Str.ofString "set"), .str nm, u])
        obtain ⟨x1, x2, x3⟩ := push _ a' _ (.tup [S "set", .leaf (.str nm), t]) (.ref tp) G7 (by omega) (hG7.same st) (hk7.trans (.same st)) (rep_tup upd_same (reps_leaf leaf_str (reps_leaf leaf_str (reps_one (r7.same st))))) f7 (stn_set (hNok nm hnm) hnm (ht.le (by omega))) hW0 (by rw [parts_set, Int.sub_self]; rfl)
        exact ⟨fo, _, _, rfl, rfl, x1, x2, x3, _, _, _, _, _, _, rfl⟩
      · refine ⟨fun b H' => H6 = H' ∧ (b = true → 1 ≤ a'), ?_, ?_⟩
        · refine ⟨_, rfl, _, _, rfl, rfl, _, rfl, ?_⟩
          refine ite2 (fun _ => ?_) (fun _ => ⟨rfl, fun z => nomatch z⟩)
          exact ⟨_, rfl, L, _, _, _, rfl, rfl, SqL.of hL6, at5_0, _, _, rfl, rfl, _, rfl, rfl, fun z => by
            have z' : a' > 0 := of_decide_eq_true z
            omega⟩
        rintro bb _ ⟨rfl, ha1⟩
        refine ite2 (fun c => ?_) (fun _ => ?_)
        · -- take
          refine ⟨_, rfl, .inl ⟨rfl, _, SqL.of hf6⟩, _, rfl, _, rfl, _, rfl, _, rfl, _, rfl, g, rfl, ?_⟩
          refine six_three fun dp hdp => ?_
          have c6 : cP dp ≤ cP 6 := by
            rcases hdp with rfl | rfl
            · exact Nat.le_refl _
            · exact hc4
          refine ⟨p, B, L, N, n + 35 + i * cSt + 3, dp, a', rfl, by omega, hG6, ha1 c, ha60', by omega, ?_⟩
          rintro u H7 a7 h70 h71 ⟨q, G7, hG7, hk7, r7, f7, hq, hqt⟩
          refine ⟨by show 3 ≤ sizeLine; decide, fun tp htp => ?_⟩
          have st := same_new htp (.tup [.str (Str.ofString "take"), rv, u])
          obtain ⟨x1, x2, x3⟩ := push _ a7 _ (.tup [S "take", .leaf rv, q]) (.ref tp) G7 (by omega) (hG7.same st) (hk7.trans (.same st)) (rep_tup upd_same (reps_leaf leaf_str (reps_leaf hrl (reps_one (r7.same st))))) f7 (stn_take hrv (hq.le (by omega))) h70 (by
            rw [parts_take]
            show (((pre 7 q ++ []).length : Nat) : Int) = _
            rw [List.append_nil, pre_le hq.1 (show dp + 1 ≤ 7 by omega)]
            exact hqt)
          exact ⟨fo, _, _, rfl, rfl, x1, x2, x3, _, _, _, _, _, _, rfl⟩
        · refine ⟨_, rfl, _, _, rfl, rfl, _, rfl, ?_⟩
          refine ite2 (fun _ => ?_) (fun _ => ?_)
          rotate_left
          · exact ⟨⟨a', ds, ys, G0, hG6.mono (by omega), hk6, hf6, hr6, hn5, hW0, by omega, hWs, hWt⟩, _, _, _, _, _, _, rfl⟩
          -- cases
          refine ⟨fun σ' H' => Same H6 H' ∧ ∃ lo : Addr, H6 lo = none ∧ H' lo = some (.lst []) ∧ σ' = [some (.ref p), some (.bl g), some (.ref sA), some (.ref fo), some (.ref B), some (.ref L), some (.int mo), some (.int (0 + (i : Int))), some (.int wy), some (.str nm), some rv, some (.ref lo), v12, none], ?_, ?_⟩
          · exact ⟨by show 0 ≤ sizeLine; decide, fun lo hlo => ⟨same_new hlo _, lo, hlo, upd_same, rfl⟩⟩
          rintro _ H7 ⟨hs7, lo, hlo6, hlo7, rfl⟩
          refine ⟨fun σ' H' => ItG (WCs N a' 20) H6 p L B N lo (n + 35 + i * cSt + 4 + 20 * cCs) H' ∧ ∃ v12, σ' = [some (.ref p), some (.bl g), some (.ref sA), some (.ref fo), some (.ref B), some (.ref L), some (.int mo), some (.int (0 + (i : Int))), some (.int wy), some (.str nm), some rv, some (.ref lo), v12, none], ?_, ?_⟩
          · refine ⟨_, rfl, _, rfl, p, mo, n + 35 + i * cSt + 3, rfl, hG6.pu.same hs7, by omega, by omega, by omega, fun dc H8 d0 d1 hb8 hp8 => ⟨dc, rfl, by omega, by omega, ?_⟩⟩
            have hG7 := hG6.same hs7
            have hG8 := hG7.draw hb8 hp8
            refine for_range (lo := 0) (fun j σ' H' => ItG (WCs N a' j) H6 p L B N lo (n + 35 + i * cSt + 4 + j * cCs) H' ∧ ∃ v12, σ' = [some (.ref p), some (.bl g), some (.ref sA), some (.ref fo), some (.ref B), some (.ref L), some (.int mo), some (.int (0 + (i : Int))), some (.int wy), some (.str nm), some rv, some (.ref lo), v12, none])
              ⟨⟨a', [], [], [], by rw [Nat.zero_mul]; exact hG8, (Kp.same hs7).trans (hG7.kd hb8), hb8 _ _ (hG6.neP hlo6).1 hlo7, reps_nil, (fun _ z => nomatch z), hW0, Int.le_refl _, Nat.le_refl _, (fun _ z => nomatch z), by rw [Int.sub_self]; rfl⟩, _, rfl⟩ ?_ ?_
            · rintro j σ' H9 hj ⟨⟨a9, qs, zs, G9, hG9, hk9, hl9, hr9, hn9, w0, wa, wl, wq, wt⟩, v12, rfl⟩
              have hj3 : j + 1 ≤ 20 := by omega
              have hcost2 : (j + 1) * cCs ≤ 20 * cCs := Nat.mul_le_mul_right _ hj3
              have hsm2 : (j + 1) * cCs = j * cCs + cCs := Nat.succ_mul _ _
              obtain ⟨f1, f2, f3, f4, hL9, hl95⟩ := hG9.lf
              refine ⟨_, rfl, L, _, _, _, rfl, rfl, SqL.of hL9, at5_0, _, _, rfl, rfl, _, rfl, ?_⟩
              refine ite2 (fun c9 => ?_) (fun _ => ⟨⟨a9, qs, zs, G9, hG9.mono (by omega), hk9, hl9, hr9, hn9, w0, wa, by omega, wq, wt⟩, _, rfl⟩)
              have c9' : a9 > 0 := of_decide_eq_true c9
              refine ⟨_, rfl, .inl ⟨rfl, _, SqL.of hl9⟩, _, rfl, _, rfl, _, rfl, _, rfl, g, rfl, ?_⟩
              refine six_three fun dp hdp => ?_
              have c6 : cP dp ≤ cP 6 := by
                rcases hdp with rfl | rfl
                · exact Nat.le_refl _
                · exact hc4
              refine ⟨p, B, L, N, n + 35 + i * cSt + 4 + j * cCs, dp, a9, rfl, by omega, hG9, by omega, by omega, by omega, ?_⟩
              rintro u H10 a10 h70 h71 ⟨q, G10, hG10, hk10, r10, f10, hq, hqt⟩
              obtain ⟨x1, x2, x3, x4, x5, x6, x7⟩ := it_push hG6 hlo6 hG9 hk9 hl9 hr9 hn9 hG10 hk10 r10 f10
              refine ⟨lo, _, _, rfl, rfl, x1, Nat.lt_of_le_of_lt (show zs.length ≤ 1000 by omega) (by decide), ⟨a10, qs ++ [q], zs ++ [u], G9 ++ G10, x3.mono (by omega), x4, x5, x6, x7, h70, by omega, ?_, fun e he => ?_, ?_⟩, _, rfl⟩
              · rw [List.length_append]
                show qs.length + 1 ≤ j + 1
                omega
              · rcases List.mem_append.mp he with y | y
                · exact wq e y
                · rw [List.mem_singleton.mp y]
                  exact hq.le (by omega)
              · rw [List.flatMap_append, List.length_append]
                show (((qs.flatMap (pre 7)).length + (pre 7 q ++ []).length : Nat) : Int) = _
                rw [List.append_nil, pre_le hq.1 (show dp + 1 ≤ 7 by omega)]
                omega
            · rintro σ' H9 ⟨⟨a9, qs, zs, G9, hG9, hk9, hl9, hr9, hn9, w0, wa, wl, wq, wt⟩, v12, rfl⟩
              have hj3 : dc.toNat ≤ 20 := by omega
              have hcost2 : dc.toNat * cCs ≤ 20 * cCs := Nat.mul_le_mul_right _ hj3
              exact ⟨⟨a9, qs, zs, G9, hG9.mono (by omega), hk9, hl9, hr9, hn9, w0, wa, by omega, wq, wt⟩, _, rfl⟩
          clear hs7 hlo7
          rintro _ H7 ⟨⟨a9, qs, zs, G9, hG9, hk9, hl9, hr9, hn9, w0, wa, wl, wq, wt⟩, v12, rfl⟩
          have hf7 : H7 fo = some (.lst ys) := hk9 _ _ hf6 (.inl (noz hzf))
          refine ⟨_, rfl, .inl ⟨rfl, _, SqL.of hf7⟩, _, rfl, _, rfl, by show 3 ≤ sizeLine; decide, fun tp htp => ?_⟩
          have st := same_new htp (.tup [.str (Str.ofString "cases"), rv, .ref lo])
          obtain ⟨x1, x2, x3⟩ := push _ a9 _ (.tup [S "cases", .leaf rv, .lst qs]) (.ref tp) (lo :: G9) (by omega) (hG9.same st) (hk9.trans (.same st)) (rep_tup upd_same (reps_leaf leaf_str (reps_leaf hrl (reps_one (rep_lst (st _ _ hl9) (hr9.same st) fun z => (hn9 lo z).2 rfl))))) (fun x hx => by
            rcases List.mem_cons.mp hx with z | z
            · exact z ▸ hlo6
            · exact (hn9 x z).1) (stn_cases hrv wl wq) w0 (by rw [parts_cases]; exact wt)
          exact ⟨fo, _, _, rfl, rfl, x1, x2, x3, _, _, _, _, _, _, rfl⟩
    · rintro σ' H5 ⟨⟨a', ds, ys, G0, hG5, hk5, hf5, hr5, hn5, hW0, hWl, hWs, hWt⟩, v7, v8, v9, v10, v11, v12, rfl⟩
      have hi3 : dr.toNat ≤ 20 := by omega
      have hcost : dr.toNat * cSt ≤ 20 * cSt := Nat.mul_le_mul_right _ hi3
      exact ⟨⟨a', ds, ys, G0, hG5.mono (by omega), hk5, hf5, hr5, hn5, hW0, by omega, hWs, hWt⟩, _, _, _, _, _, _, rfl⟩
  clear hG1 hfo1 hsz1
  rintro _ H2 ⟨⟨a', ds, ys, G0, hG2, hk2, hf2, hr2, hn2, hW0, hWl, hWs, hWt⟩, v7, v8, v9, v10, v11, v12, rfl⟩
  -- the words
  have two : ∀ (x y : Str) (d : Int), 0 ≤ d → d < 2 → ∃ z : Str, atI [V.str x, V.str y] d = some (.str z) ∧ (z = x ∨ z = y) := fun x y d h0 h1 => by
    have e : d = ((0 : Nat) : Int) ∨ d = ((1 : Nat) : Int) := by omega
    rcases e with e | e
    · exact ⟨x, at_ofN e rfl, .inl rfl⟩
    · exact ⟨y, at_ofN e rfl, .inr rfl⟩
  refine ⟨_, rfl, by show 2 ≤ sizeLine; decide, fun q hq => ?_⟩
  have sq := same_new hq (.lst [V.str (Str.ofString "soon"), V.str (Str.ofString "late")])
  have hG3 := hG2.same sq
  refine ⟨_, rfl, p, 2, n + 35 + 20 * cSt, rfl, hG3.pu, by omega, by decide, by decide, fun d1 H4 d10 d11 hb4 hp4 => ?_⟩
  obtain ⟨r, hra, hro⟩ := two _ _ d1 d10 d11
  refine ⟨q, _, _, _, rfl, rfl, SqL.of (hb4 q _ (hG2.neP hq).1 upd_same), hra, by show 2 ≤ sizeLine; decide, fun q2 hq2 => ?_⟩
  have hG4 := hG3.draw hb4 hp4
  have sq2 := same_new hq2 (.lst [V.str (Str.ofString "absent"), V.str (Str.ofString "nothing")])
  have hG5 := hG4.same sq2
  refine ⟨_, rfl, p, 2, n + 35 + 20 * cSt + 1, rfl, hG5.pu, by omega, by decide, by decide, fun d2 H6 d20 d21 hb6 hp6 => ?_⟩
  obtain ⟨s', hsa, hso⟩ := two _ _ d2 d20 d21
  refine ⟨q2, _, _, _, rfl, rfl, SqL.of (hb6 q2 _ (hG4.neP hq2).1 upd_same), hsa, by show 3 ≤ sizeLine; decide, fun t ht => ?_⟩
  have hG6 := hG5.draw hb6 hp6
  have st := same_new ht (.tup [.ref fo, .str r, .str s'])
  have hk6 : Kp (fun a => a = p ∨ a = L) Hz (upd H6 t (.tup [.ref fo, .str r, .str s'])) := ((((hk2.trans (.same sq)).trans (hG3.kd hb4)).trans (.same sq2)).trans (hG5.kd hb6)).trans (.same st)
  have hk26 : Kp (fun a => a = p ∨ a = L) H2 (upd H6 t (.tup [.ref fo, .str r, .str s'])) := ((((Kp.same sq).trans (hG3.kd hb4)).trans (.same sq2)).trans (hG5.kd hb6)).trans (.same st)
  refine kk t ds r s' (fo :: G0) N _ (hk6.but hbz hL0) ((hG6.same st).pu.mono (by omega)) (zF (hGz.free ((((hk2.trans (.same sq)).trans (hG3.kd hb4)).trans (.same sq2)).trans (hG5.kd hb6)) hG6 ht)) ⟨.ref fo, upd_same, rep_lst (hk26 _ _ hf2 (.inl (noz hzf))) (hr2.kp hk26 fun x hx => noz (hn2 x hx).1) (fun z => (hn2 fo z).2 rfl), hro, hso⟩ (fun x hx => ?_) ⟨hWl, fun d hd => (hWs d hd).1, fun d hd => (hWs d hd).2, hN26, by omega⟩
  rcases List.mem_cons.mp hx with z | z
  · exact z ▸ hfo0
  · exact zF (hn2 x z).1
end
end K02
set_option Elab.async false
set_option linter.all false
set_option maxRecDepth 100000
set_option maxHeartbeats 4000000
namespace K02
open PySem L2 PyProof.Rows
/-! ### a module's dict: what stands at a text -/
section
variable {X : Cx} {d : Addr} {es : Array DictEntry} {n : Nat} {o e : Expr} {td ty : TE} {apos cpos : Pos}
def tKGet (K : PySem.W.Frag) (d : Addr) (td ty : TE) : TE := fun σ H Q => td σ H fun x H1 => x = .ref d ∧ ty σ H1 fun y H2 => ∃ (z : Str) (u0 : Value) (v0 : V), y = .str z ∧ PySem.W.nsIn K d z = some (some u0) ∧ RelV v0 u0 ∧ Q v0 H2
theorem pe_kget (D : KDict X.K X.w d es n) (ho : PE X o td) (he : PE X e ty) (m : M1 X o "get" apos e cpos) : PE X (.Call (.Attribute o "get" apos) [e] [] cpos) (tKGet X.K d td ty) := by
  refine ⟨fun pins s σ H Q I h => ?_⟩
  refine wpAny_Call_method m.base m.few m.line PySem.F.plainAttrs_dict PySem.F.slot_dict_get PySem.F.type_dict_get (thn (ho.run pins s σ H _ I h) fun u s1 ⟨x, H1, I1, rx, ex, q1⟩ => ?_)
  subst ex
  obtain rfl : u = Value.ref d := rx
  refine ⟨kd_type D I1, fun a ea => ?_, ?_⟩
  · cases ea
    exact ⟨_, I1.kIn _ _ D.at_, rfl⟩
  rw [m.trees]
  refine Calls.callWith_builtin rfl (Calls.evalArgs_plain (Calls.spliced_cons (thn (he.run pins s1 σ H1 _ I1 q1) fun iv s2 ⟨y, H2, I2, ry, z, u0, v0, ey, hz, r0, q2⟩ => Calls.spliced_nil ?_)))
  subst ey
  obtain ⟨t, rfl⟩ := ry
  have hm := PySem.W.mapOf_K (prog := X.prog) I2.kIn D.at_ D.lit
  refine call_meetsIn PySem.F.slot_dict_get (kd_type D I2) PySem.F.entry_dict_get (PySem.F.args_dict_get_2 _ _) (meets_dict_get (PySem.strKind X.prog X.w) d (PySem.strKind_is X.prog X.w z t) D.low) ⟨_, hm, ?_⟩
  rw [PySem.W.find_K D.at_ hz]
  exact ⟨v0, H2, I2.tok _, r0, q2⟩
end
/-- a module's dict of texts to numbers -/
structure Tab (K : PySem.W.Frag) (w : World) (d : Addr) (xs : List (String × Int)) : Prop where
  kd : ∃ es n, KDict K w d es n
  at_ : ∀ q ∈ xs, ∃ u0, PySem.W.nsIn K d (Str.ofString q.1) = some (some u0) ∧ RelV (.int q.2) u0
/-! ### what is checked, and is right -/
def spFilled : Sp := fun vs H Q _ => ∃ (v : V) (e : D) (es : List D), vs = [v] ∧ RW H (.tup (e :: es)) v ∧ Q (.bl true) H
def spCkName : Sp := fun vs H Q _ => ∃ z : Str, vs = [.str z] ∧ okName z ∧ ∀ H', Same H H' → Q .non H'
def spCkOpt : Sp := fun vs H Q _ => ∃ v : V, vs = [v] ∧ Opt (.leaf v) ∧ ∀ H', Same H H' → Q .non H'
def spCkTerm (k : Nat) : Sp := fun vs H Q _ => ∃ (v : V) (d : D) (m : Nat), vs = [v] ∧ RW H d v ∧ TmOk m d ∧ m + 2 ≤ k ∧ ∀ H', Same H H' → Q .non H'
def spCkDef : Sp := fun vs H Q _ => ∃ (v : V) (d : D), vs = [v] ∧ RW H d v ∧ Df d ∧ ∀ H', Same H H' → Q .non H'
def spCkRules : Sp := fun vs H Q _ => ∃ r s : Str, vs = [.str r, .str s] ∧ okOrd r ∧ okLck s ∧ ∀ H', Same H H' → Q .non H'
theorem RW.leaf {H : Hp} {w v : V} (h : RW H (.leaf w) v) : v = w := h.1
theorem RWs.cons {H : Hp} {d : D} {ds : List D} {xs : List V} (h : RWs H (d :: ds) xs) : ∃ x ys, xs = x :: ys ∧ RW H d x ∧ RWs H ds ys := h
section
variable {P : Program} {w : World} {K : PySem.W.Frag} {mg : Str → Option Value} {base : Heap}
theorem scFi : FnScope ["thing"] ["thing"] (defScope sFilled) := ⟨rfl, rfl, rfl, by decide +kernel, rfl, by decide +kernel, by decide +kernel⟩
theorem ok_filled {f : Addr} {fd : FuncData} (F : Fun K "is_filled" "is_filled" sFilled f fd) (T : Txt K mg) : FnOk P w K mg base CX0 1 f fd ["thing"] spFilled := by
  refine F.ok scFi (fun vs H Q E h => ?_) (fun cdv A outer s H vs Q E hr h => ?_)
  · obtain ⟨v, e, es, rfl, _⟩ := h
    rfl
  obtain ⟨v, e, es, rfl, hR, kk⟩ := h
  refine ⟨_, pss_one (ps_ret (pe_and (pe_callB call_isi (by rfl) T.isi boot_isinstance (pa_cons (pv 0) (pa_cons (pe_bltn (v := .ty "tuple") (by rfl) T.tuple boot_tuple rfl) pa_nil)))
    (pe_one (pe_cmpR op_gt (pe_callB call_len_seq (by rfl) T.len PySem.boot_len (pa_cons (pv 0) pa_nil)) pe_int (nomark _))))), ?_⟩
  obtain ⟨sT, hty, k1, k2, k3⟩ := hR.ty (K := K)
  obtain ⟨a, xs, rfl, ha, hr0⟩ := hR
  refine ⟨_, rfl, _, _, _, _, _, rfl, .ty _, hty, kit_ty k2, _, rfl, iteT ⟨_, rfl, a, xs, rfl, .inr (SqT.of ha), _, _, rfl, rfl, ?_⟩⟩
  have e1 : decide ((0 : Int) < ((xs.length : Nat) : Int)) = true := decide_eq_true (by rw [hr0.len]; show (0 : Int) < ((es.length + 1 : Nat) : Int); omega)
  show Q (.bl (decide ((0 : Int) < ((xs.length : Nat) : Int)))) H
  rw [e1]
  exact kk
theorem scCn : FnScope ["name", "letter"] ["name"] (defScope sCkName) := ⟨rfl, rfl, rfl, by decide +kernel, rfl, by decide +kernel, by decide +kernel⟩
theorem ok_ckname {f : Addr} {fd : FuncData} {t8 t9 : Nat} (F : Fun K "check_name" "check_name" sCkName f fd) (T : Txt K mg) (zS : mg "str" = none) (mL : mg "LONGEST_NAME" = some (.int 8 t8)) (mA : mg "LETTERS" = some (.str LT t9)) : FnOk P w K mg base CX0 1 f fd ["name"] spCkName := by
  refine F.ok scCn (fun vs H Q E h => ?_) (fun cdv A outer s H vs Q E hr h => ?_)
  · obtain ⟨z, rfl, _⟩ := h
    rfl
  obtain ⟨z, rfl, ⟨hz1, hz8, hzl⟩, kk⟩ := h
  refine ⟨_, pss_cons (ps_if (PW.pt (pw_or (pt_not (pt_val (pe_callB call_isi (by rfl) T.isi boot_isinstance (pa_cons (pv 0) (pa_cons (pe_bltn (v := .ty "str") (by rfl) zS boot_str rfl) pa_nil)))))
      (pw_or1 (pt_not (pt_chain op_le op_le pe_int (pe_callB call_len (by rfl) T.len PySem.boot_len (pa_cons (pv 0) pa_nil)) (pe_glob (v := .int 8) rfl mL ⟨_, rfl⟩)))))) pss_never pss_nil)
    (pss_one (ps_if (pt_not (pt_val (pe_callB (cr_all rfl) (by rfl) T.all (by decide +kernel) (pa_cons (pe_lc (own := [("letter", 1)]) (g := gName 1) (tt := tYes) rfl scCn.nd (pi_str (pv 0)) (blkOk_by (N := ["name", "letter"]) (sc := defScope sCkName) (by decide +kernel)) (fun _ _ _ _ _ => pg_name (i := 1) scCn.nd rfl (Or.inl rfl)) (fun _ _ _ _ _ => pts_nil)
      (fun _ _ _ _ _ => pe_cmpR op_in_sign (pv 1) (pe_glob (v := .str LT) rfl mA ⟨_, rfl⟩) rfl)) pa_nil)))) pss_never pss_nil)), ?_⟩
  refine ⟨_, rfl, .str z, _, _, _, _, rfl, .ty _, .base (.str z), kit_ty (a := "str") (b := "str") (r := true) (by decide +kernel), _, rfl, iteF ?_⟩
  refine ⟨_, rfl, .str z, z.length, rfl, ⟨small100 (by omega), rfl⟩, _, _, rfl, rfl, _, rfl, ?_⟩
  refine ifT (decide_eq_true (by omega)) ⟨_, _, rfl, rfl, _, rfl, ?_⟩
  refine ifF (by rw [decide_eq_true (by omega)]; rfl) ?_
  refine ⟨_, rfl, z, rfl, fun D0 hD => ?_⟩
  refine lc_it walk_str (fun i H' => Same H H' ∧ H' D0 = some (.lst ((List.replicate i true).map V.bl))) ⟨same_new hD _, upd_same⟩ (fun _ _ _ _ => trivial) ?_ ?_
  · rintro i x H2 H3 hi ⟨hs2, hD2⟩ ⟨rfl, c, hc, rfl⟩
    have hi8 : i < 9 := Nat.lt_of_lt_of_le hi (show z.cps.size ≤ 9 from Nat.le_succ_of_le hz8)
    have hcm : c ∈ z.cps.toList := Array.mem_toList_iff.mpr (Array.mem_of_getElem? hc)
    obtain ⟨c1, c2⟩ := hzl c hcm
    refine ⟨rfl, ?_⟩
    unfold tYes
    refine iteT ?_
    refine ⟨_, rfl, c, LT, rfl, rfl, _, hD2, ?_, same_put hs2 hD, ?_⟩
    · rw [List.length_map, List.length_replicate]
      exact Nat.lt_of_lt_of_le (show i < 9 from hi8) (by decide)
    · have e : decide (c ∈ LT.cps.toList) = true := decide_eq_true (by
        have z := lt_all (c - 97) (by omega)
        rw [show 97 + (c - 97) = c by omega] at z
        exact List.mem_of_getElem? z)
      rw [upd_same, List.replicate_succ', List.map_append, e]
      rfl
  · rintro H2 ⟨hs2, hD2⟩
    refine ⟨D0, _, rfl, SqL.of hD2, ?_⟩
    have ea : (List.replicate z.cps.size true).all id = true := by simp
    rw [ea]
    exact ⟨_, rfl, iteF (kk H2 hs2)⟩
end
end K02
set_option Elab.async false
set_option linter.all false
set_option maxRecDepth 100000
set_option maxHeartbeats 4000000
namespace K02
open PySem L2 PyProof.Rows
abbrev szT : List (String × Int) := [("read", 2), ("number", 2), ("call", 3)]
abbrev szP : List (String × Int) := [("name", 2), ("any", 1), ("row", 3), ("record", 3)]
theorem TmOk.head : ∀ {m : Nat} {d : D}, TmOk m d → ∃ s es, d = .tup (S s :: es) ∧ (s, ((es.length + 1 : Nat) : Int)) ∈ szT
  | 0, _, h => h.elim
  | m + 1, d, h => by
    rcases h with ⟨i, rfl⟩ | ⟨z, _, rfl⟩ | ⟨z, ts, _, rfl, _⟩
    · exact ⟨"number", _, rfl, show (("number", (2 : Int)) : String × Int) ∈ szT by decide⟩
    · exact ⟨"read", _, rfl, show (("read", (2 : Int)) : String × Int) ∈ szT by decide⟩
    · exact ⟨"call", _, rfl, show (("call", (3 : Int)) : String × Int) ∈ szT by decide⟩
theorem PtOk.head : ∀ {m : Nat} {d : D}, PtOk m d → ∃ s es, d = .tup (S s :: es) ∧ (s, ((es.length + 1 : Nat) : Int)) ∈ szP
  | 0, _, h => h.elim
  | m + 1, d, h => by
    rcases h with rfl | ⟨z, _, rfl⟩ | ⟨row, qs, r, rfl, _⟩
    · exact ⟨"any", _, rfl, show (("any", (1 : Int)) : String × Int) ∈ szP by decide⟩
    · exact ⟨"name", _, rfl, show (("name", (2 : Int)) : String × Int) ∈ szP by decide⟩
    · cases row
      · exact ⟨"record", _, rfl, show (("record", (3 : Int)) : String × Int) ∈ szP by decide⟩
      · exact ⟨"row", _, rfl, show (("row", (3 : Int)) : String × Int) ∈ szP by decide⟩
theorem RW.head {H : Hp} {s : String} {es : List D} {v : V} (h : RW H (.tup (S s :: es)) v) : ∃ a ys, v = .ref a ∧ H a = some (.tup (.str (Str.ofString s) :: ys)) ∧ RWs H es ys := by
  obtain ⟨a, xs, rfl, ha, x, ys, rfl, hx, hy⟩ := h
  exact ⟨a, ys, rfl, hx.1 ▸ ha, hy⟩
section
variable {P : Program} {w : World} {K : PySem.W.Frag} {mg : Str → Option Value} {base : Heap}
theorem scCo : FnScope ["name"] ["name"] (defScope sCkOpt) := ⟨rfl, rfl, rfl, by decide +kernel, rfl, by decide +kernel, by decide +kernel⟩
theorem ok_ckopt {f fN : Addr} {fd fdN : FuncData} (F : Fun K "check_optional_name" "check_optional_name" sCkOpt f fd)
    (FN : Fun K "check_name" "check_name" sCkName fN fdN) (GN : FnOk P w K mg base CX0 1 fN fdN ["name"] spCkName) (bN : Binds K fdN ["name"] []) (mN : mg "check_name" = some (.ref fN)) : FnOk P w K mg base CX0 2 f fd ["name"] spCkOpt := by
  refine F.ok scCo (fun vs H Q E h => ?_) (fun cdv A outer s H vs Q E hr h => ?_)
  · obtain ⟨v, rfl, _⟩ := h
    rfl
  obtain ⟨v, rfl, ho, kk⟩ := h
  refine ⟨_, pss_one (ps_if (pt_cmpR op_notN (pv 0) pe_non (nomark _)) (pss_one (ps_expr (pe_call GN hr rfl mN FN.kp bN .nil pass0 (pa_cons (pv 0) pa_nil)))) pss_nil), ?_⟩
  rcases ho with e | ⟨z, hz, e⟩
  · obtain rfl : v = .non := D.leaf.inj e
    exact ⟨_, rfl, rfl, _, rfl, ifF (by rw [decide_eq_true rfl]; rfl) (kk H (Same.refl H))⟩
  · obtain rfl : v = .str z := D.leaf.inj e
    exact ⟨_, rfl, rfl, _, rfl, ifT (by rw [decide_eq_false (fun z => nomatch z)]; rfl) ⟨_, rfl, z, rfl, hz, fun H' hs => kk H' hs⟩⟩
theorem scCd : FnScope ["default"] ["default"] (defScope sCkDef) := ⟨rfl, rfl, rfl, by decide +kernel, rfl, by decide +kernel, by decide +kernel⟩
theorem scCt : FnScope ["term", "inner"] ["term"] (defScope sCkTerm) := ⟨rfl, rfl, rfl, by decide +kernel, rfl, by decide +kernel, by decide +kernel⟩
theorem ckterm_none {f : Addr} {fd : FuncData} {ps : List Str} : FnOk P w K mg base CX0 0 f fd ps (spCkTerm 0) := none_of fun vs H Q E h => by
  obtain ⟨v, d, m, _, _, _, h1, _⟩ := h
  omega
theorem ok_ckterm {f fN fF dT : Addr} {fd fdN fdF : FuncData} {k : Nat} (F : Fun K "check_term" "check_term" sCkTerm f fd) (T : Txt K mg)
    (FF : Fun K "is_filled" "is_filled" sFilled fF fdF) (GF : FnOk P w K mg base CX0 1 fF fdF ["thing"] spFilled) (bF : Binds K fdF ["thing"] []) (mF : mg "is_filled" = some (.ref fF))
    (FN : Fun K "check_name" "check_name" sCkName fN fdN) (GN : FnOk P w K mg base CX0 1 fN fdN ["name"] spCkName) (bN : Binds K fdN ["name"] []) (mN : mg "check_name" = some (.ref fN))
    (TT : Tab K w dT szT) (mT : mg "TERM_SIZES" = some (.ref dT))
    (G : FnOk P w K mg base CX0 k f fd ["term"] (spCkTerm k)) (b : Binds K fd ["term"] []) (m : mg "check_term" = some (.ref f)) : FnOk P w K mg base CX0 (k + 1) f fd ["term"] (spCkTerm (k + 1)) := by
  refine F.ok scCt (fun vs H Q E h => ?_) (fun cdv A outer s H vs Q E hr h => ?_)
  · obtain ⟨v, d, m, rfl, _⟩ := h
    rfl
  obtain ⟨v, d, mm, rfl, hR, hT, hk, kk⟩ := h
  obtain ⟨es, n, KD⟩ := TT.kd
  have hm : 1 ≤ mm := by cases mm with
    | zero => exact hT.elim
    | succ j => omega
  have hr1 : Room 1 (A.deeper (envOfC "check_term" (defScope sCkTerm) s.heap.objs.size f cdv)) := hr.mono (by omega)
  refine ⟨_, pss_cons (ps_if (PW.pt (pw_or (pt_not (pt_val (pe_call GF hr1 rfl mF FF.kp bF .nil pass0 (pa_cons (pv 0) pa_nil)))) (pw_or1 (pt_cmpR op_ne (pe_kget KD (pe_glob (v := .ref dT) rfl mT rfl) (pe_ix ix_tup (pv 0) pe_int (fun _ _ => rfl)) ⟨rfl, rfl, rfl, rfl⟩) (pe_callB call_len_seq (by rfl) T.len PySem.boot_len (pa_cons (pv 0) pa_nil)) (nomark _))))) pss_never pss_nil)
    (pss_cons (ps_if (pt_cmpR op_eq (pe_ix ix_tup (pv 0) pe_int (fun _ _ => rfl)) pe_str (nomark _)) (pss_one ps_retN) pss_nil)
    (pss_cons (ps_expr (pe_call GN hr1 rfl mN FN.kp bN .nil pass0 (pa_cons (pe_ix ix_tup (pv 0) pe_int (fun _ _ => rfl)) pa_nil)))
    (pss_one (ps_if (pt_cmpR op_eq (pe_ix ix_tup (pv 0) pe_int (fun _ _ => rfl)) pe_str (nomark _))
      (pss_one (ps_for PassesOwn.never rfl (pi_list (pe_ix ix_tup (pv 0) pe_int (fun _ _ => rfl))) (pg_name (i := 1) scCt.nd rfl (Or.inl rfl)) (pss_one (ps_expr (pe_call G hr rfl m F.kp b .nil pass0 (pa_cons (pv 1) pa_nil)))))) pss_nil)))), ?_⟩
  obtain ⟨s0, ds, rfl, hsz⟩ := hT.head
  obtain ⟨a, ys, rfl, ha, hys⟩ := hR.head
  obtain ⟨u0, hu, hrel⟩ := TT.at_ _ hsz
  have hl := hys.len
  have sq := SqT.of (K := K) ha
  have a0 : atI (V.str (Str.ofString s0) :: ys) 0 = some (.str (Str.ofString s0)) := atI_nat (j := 0) rfl
  refine ⟨_, rfl, _, S s0, ds, rfl, hR, _, rfl, iteF ⟨rfl, _, rfl, a, _, 0, _, rfl, rfl, sq, a0, _, u0, _, rfl, hu, hrel, _, rfl, a, _, rfl, .inr sq, rfl, _, rfl, ?_⟩⟩
  refine ifF ?_ ?_
  · rw [List.length_cons, hl, decide_eq_true rfl]
    rfl
  refine ⟨_, rfl, a, _, 0, _, rfl, rfl, sq, a0, rfl, _, rfl, ?_⟩
  cases mm with
  | zero => exact hT.elim
  | succ mm =>
  rcases hT with ⟨i, e⟩ | ⟨z, hz, e⟩ | ⟨z, ts, hz, e, hl3, hts⟩
  · obtain ⟨e1, e2⟩ := List.cons.inj (D.tup.inj e)
    rw [show Str.ofString s0 = Str.ofString "number" from V.str.inj (D.leaf.inj e1)]
    exact ifT (decide_eq_true rfl) (kk H (Same.refl H))
  · obtain ⟨e1, e2⟩ := List.cons.inj (D.tup.inj e)
    subst e2
    have es0 : Str.ofString s0 = Str.ofString "read" := V.str.inj (D.leaf.inj e1)
    obtain ⟨x, ys', rfl, hx, hy'⟩ := hys
    obtain rfl : x = .str z := hx.1
    refine ifF (decide_eq_false fun q => absurd (es0.symm.trans (V.str.inj q)) (by decide)) ⟨_, rfl, a, _, 1, _, rfl, rfl, sq, atI_nat (j := 1) rfl, z, rfl, hz, fun H1 hs1 => ?_⟩
    have sq1 := SqT.of (K := K) (hs1 _ _ ha)
    refine ⟨_, rfl, a, _, 0, _, rfl, rfl, sq1, atI_nat (j := 0) rfl, rfl, _, rfl, ?_⟩
    exact ifF (decide_eq_false fun q => absurd (es0.symm.trans (V.str.inj q)) (by decide)) (kk H1 hs1)
  · obtain ⟨e1, e2⟩ := List.cons.inj (D.tup.inj e)
    subst e2
    have es0 : Str.ofString s0 = Str.ofString "call" := V.str.inj (D.leaf.inj e1)
    obtain ⟨x, ys', rfl, hx, y, ys'', rfl, hy, hn⟩ := hys
    obtain rfl : x = .str z := hx.1
    obtain ⟨lA, xs, rfl, hlA, hxs⟩ := hy
    refine ifF (decide_eq_false fun q => absurd (es0.symm.trans (V.str.inj q)) (by decide)) ⟨_, rfl, a, _, 1, _, rfl, rfl, sq, atI_nat (j := 1) rfl, z, rfl, hz, fun H1 hs1 => ?_⟩
    have sq1 := SqT.of (K := K) (hs1 _ _ ha)
    refine ⟨_, rfl, a, _, 0, _, rfl, rfl, sq1, atI_nat (j := 0) rfl, rfl, _, rfl, ?_⟩
    refine ifT (decide_eq_true (by rw [es0])) ⟨_, rfl, a, _, 2, _, rfl, rfl, sq1, atI_nat (j := 2) rfl, lA, rfl, ⟨_, SqL.of (hs1 _ _ hlA)⟩, ?_⟩
    refine for_list (K := K) (a := lA) (xs := xs) (fun i σ' H' => Same H H' ∧ ∃ v1, σ' = [some (.ref a), v1]) ⟨hs1, none, rfl⟩ (fun i σ' H' _ ⟨h, _⟩ => SqL.of (h _ _ hlA)) ?_ ?_
    · rintro i x σ' H2 hi ⟨hs2, v1, rfl⟩
      obtain ⟨t, ht, hrt⟩ := RWs.item (hxs.same hs2) hi
      exact ⟨_, rfl, x, t, mm, rfl, hrt, hts t (List.mem_of_getElem? ht), by omega, fun H3 hs3 => ⟨hs2.trans hs3, _, rfl⟩⟩
    · rintro σ' H2 ⟨hs2, _⟩
      exact kk H2 hs2
theorem ok_ckdef {f fT : Addr} {fd fdT : FuncData} (F : Fun K "check_default" "check_default" sCkDef f fd)
    (FT : Fun K "check_term" "check_term" sCkTerm fT fdT) (GT : FnOk P w K mg base CX0 7 fT fdT ["term"] (spCkTerm 7)) (bT : Binds K fdT ["term"] []) (mT : mg "check_term" = some (.ref fT)) : FnOk P w K mg base CX0 8 f fd ["default"] spCkDef := by
  refine F.ok scCd (fun vs H Q E h => ?_) (fun cdv A outer s H vs Q E hr h => ?_)
  · obtain ⟨v, d, rfl, _⟩ := h
    rfl
  obtain ⟨v, d, rfl, hR, hd, kk⟩ := h
  refine ⟨_, pss_one (ps_if (pt_cmpR op_notN (pv 0) pe_non (nomark _)) (pss_one (ps_expr (pe_call GT hr rfl mT FT.kp bT .nil pass0 (pa_cons (pv 0) pa_nil)))) pss_nil), ?_⟩
  rcases hd with rfl | hT
  · obtain rfl : v = .non := hR.1
    exact ⟨_, rfl, rfl, _, rfl, ifF (by rw [decide_eq_true rfl]; rfl) (kk H (Same.refl H))⟩
  · obtain ⟨s0, ds, rfl, _⟩ := hT.head
    obtain ⟨a, ys, rfl, ha, hys⟩ := hR.head
    exact ⟨_, rfl, rfl, _, rfl, ifT (by rw [decide_eq_false (fun z => nomatch z)]; rfl) ⟨_, rfl, _, _, 5, rfl, hR, hT, by decide, fun H' hs => kk H' hs⟩⟩
end
end K02
set_option Elab.async false
set_option linter.all false
set_option maxRecDepth 100000
set_option maxHeartbeats 4000000
namespace K02
open PySem L2 PyProof.Rows
def spCkPart (k : Nat) : Sp := fun vs H Q _ => ∃ (v : V) (d : D) (m : Nat), vs = [v] ∧ RW H d v ∧ PtOk m d ∧ 2 * m + 8 ≤ k ∧ ∀ H', Same H H' → Q .non H'
def spCkIn (row : Bool) (k : Nat) : Sp := fun vs H Q _ => ∃ (v : V) (qs : List (Str × D × D)) (r : V) (m : Nat), vs = [v] ∧ RW H (.tup [S (if row = true then "row" else "record"), .lst (qs.map (ent row)), .leaf r]) v ∧ Opt (.leaf r) ∧ qs.length ≤ 25 ∧ (∀ q ∈ qs, PtOk m q.2.1 ∧ Df q.2.2) ∧
  (row = false → (qs.map (·.1)).Nodup ∧ ∀ q ∈ qs, okName q.1) ∧ 2 * m + 9 ≤ k ∧ ∀ H', Same H H' → Q .non H'
section
variable {P : Program} {w : World} {K : PySem.W.Frag} {mg : Str → Option Value} {base : Heap}
theorem scCu : FnScope ["order", "lacks"] ["order", "lacks"] (defScope sCkRules) := ⟨rfl, rfl, rfl, by decide +kernel, rfl, by decide +kernel, by decide +kernel⟩
theorem ok_ckrules {f : Addr} {fd : FuncData} (F : Fun K "check_rules" "check_rules" sCkRules f fd) : FnOk P w K mg base CX0 1 f fd ["order", "lacks"] spCkRules := by
  refine F.ok scCu (fun vs H Q E h => ?_) (fun cdv A outer s H vs Q E hr h => ?_)
  · obtain ⟨r, s, rfl, _⟩ := h
    rfl
  obtain ⟨r, s, rfl, hr1, hs1, kk⟩ := h
  refine ⟨_, pss_cons (ps_if (pt_cmpR op_notIn_seq (pv 0) (pe_tup (pa_cons pe_str (pa_cons pe_str pa_nil))) (by rfl)) pss_never pss_nil)
    (pss_one (ps_if (pt_cmpR op_notIn_seq (pv 1) (pe_tup (pa_cons pe_str (pa_cons pe_str pa_nil))) (by rfl)) pss_never pss_nil)), ?_⟩
  have go : ∀ {x y z : Str}, z = x ∨ z = y → (!inV (.str z) [.str x, .str y]) = false := fun {x y z} h => by
    rcases h with rfl | rfl
    · simp [inV, eqV]
    · simp [inV, eqV]
  refine ⟨_, rfl, by show 2 ≤ sizeLine; decide, fun t ht => ⟨t, _, rfl, .inr (SqT.of upd_same), rfl, rfl, _, rfl, ifF (go hr1) ?_⟩⟩
  have s1 := same_new ht (.tup [V.str (Str.ofString "soon"), V.str (Str.ofString "late")])
  refine ⟨_, rfl, by show 2 ≤ sizeLine; decide, fun t2 ht2 => ⟨t2, _, rfl, .inr (SqT.of upd_same), rfl, rfl, _, rfl, ifF (go hs1) ?_⟩⟩
  exact kk _ (s1.trans (same_new ht2 _))
theorem ckpart_none {f : Addr} {fd : FuncData} {ps : List Str} : FnOk P w K mg base CX0 0 f fd ps (spCkPart 0) := none_of fun vs H Q E h => by
  obtain ⟨v, d, m, _, _, _, h1, _⟩ := h
  omega
theorem ckin_none {row : Bool} {f : Addr} {fd : FuncData} {ps : List Str} : FnOk P w K mg base CX0 0 f fd ps (spCkIn row 0) := none_of fun vs H Q E h => by
  obtain ⟨v, qs, r, m, _, _, _, _, _, _, h1, _⟩ := h
  omega
theorem scCr : FnScope ["part", "inner", "default"] ["part"] (defScope sCkRow) := ⟨rfl, rfl, rfl, by decide +kernel, rfl, by decide +kernel, by decide +kernel⟩
theorem ok_ckrow {f fO fP fD : Addr} {fd fdO fdP fdD : FuncData} {k : Nat} (F : Fun K "check_row" "check_row" sCkRow f fd)
    (FO : Fun K "check_optional_name" "check_optional_name" sCkOpt fO fdO) (GO : FnOk P w K mg base CX0 2 fO fdO ["name"] spCkOpt) (bO : Binds K fdO ["name"] []) (mO : mg "check_optional_name" = some (.ref fO))
    (FD : Fun K "check_default" "check_default" sCkDef fD fdD) (GD : FnOk P w K mg base CX0 8 fD fdD ["default"] spCkDef) (bD : Binds K fdD ["default"] []) (mD : mg "check_default" = some (.ref fD))
    (FP : Fun K "check_part" "check_part" sCkPart fP fdP) (GP : FnOk P w K mg base CX0 k fP fdP ["part"] (spCkPart k)) (bP : Binds K fdP ["part"] []) (mP : mg "check_part" = some (.ref fP)) : FnOk P w K mg base CX0 (k + 1) f fd ["part"] (spCkIn true (k + 1)) := by
  refine F.ok scCr (fun vs H Q E h => ?_) (fun cdv A outer s H vs Q E hr h => ?_)
  · obtain ⟨v, qs, r, m, rfl, _⟩ := h
    rfl
  obtain ⟨v, qs, r, m, rfl, hR, ho, hl, hq, _, hk, kk⟩ := h
  have hr2 : Room 2 (A.deeper (envOfC "check_row" (defScope sCkRow) s.heap.objs.size f cdv)) := hr.mono (by omega)
  have hr8 : Room 8 (A.deeper (envOfC "check_row" (defScope sCkRow) s.heap.objs.size f cdv)) := hr.mono (by omega)
  refine ⟨_, pss_cons (ps_expr (pe_call GO hr2 rfl mO FO.kp bO .nil pass0 (pa_cons (pe_ix ix_tup (pv 0) pe_int (fun _ _ => rfl)) pa_nil)))
    (pss_one (ps_for PassesOwn.never rfl (pi_list (pe_ix ix_tup (pv 0) pe_int (fun _ _ => rfl))) (pg_tup rfl (pgs_cons (pg_name (i := 1) scCr.nd rfl (Or.inl rfl)) (pgs_cons (pg_name (i := 2) scCr.nd rfl (Or.inl rfl)) pgs_nil)))
      (pss_cons (ps_expr (pe_call GP hr rfl mP FP.kp bP .nil pass0 (pa_cons (pv 1) pa_nil))) (pss_one (ps_expr (pe_call GD hr8 rfl mD FD.kp bD .nil pass0 (pa_cons (pv 2) pa_nil))))))), ?_⟩
  obtain ⟨a, ys, rfl, ha, hys⟩ := hR.head
  obtain ⟨x, ys', rfl, hx, hy'⟩ := hys
  obtain ⟨y, ys'', rfl, hy, hn⟩ := hy'
  obtain ⟨lA, xs, rfl, hlA, hxs⟩ := hx
  obtain rfl : y = r := hy.1
  refine ⟨_, rfl, a, _, 2, _, rfl, rfl, SqT.of ha, atI_nat (j := 2) rfl, y, rfl, ho, fun H1 hs1 => ?_⟩
  refine ⟨_, rfl, a, _, 1, _, rfl, rfl, SqT.of (hs1 _ _ ha), atI_nat (j := 1) rfl, lA, rfl, ⟨_, SqL.of (hs1 _ _ hlA)⟩, ?_⟩
  refine for_list (K := K) (a := lA) (xs := xs) (fun i σ' H' => Same H H' ∧ ∃ v1 v2, σ' = [some (.ref a), v1, v2]) ⟨hs1, none, none, rfl⟩ (fun i σ' H' _ ⟨h, _⟩ => SqL.of (h _ _ hlA)) ?_ ?_
  · rintro i x σ' H2 hi ⟨hs2, v1, v2, rfl⟩
    obtain ⟨t, ht, hrt⟩ := RWs.item (hxs.same hs2) hi
    obtain ⟨q, hqm, rfl⟩ := List.mem_map.mp (List.mem_of_getElem? ht)
    obtain ⟨e, zs, rfl, he, hzs⟩ := hrt
    obtain ⟨z1, zs1, rfl, h1, z2, zs2, rfl, h2, hn2⟩ := hzs
    obtain rfl : zs2 = [] := hn2
    refine ⟨e, _, rfl, SqT.of he, rfl, _, _, rfl, _, _, rfl, rfl, ?_⟩
    refine ⟨_, rfl, z1, q.2.1, m, rfl, h1, (hq q hqm).1, by omega, fun H3 hs3 => ⟨_, rfl, z2, q.2.2, rfl, h2.same hs3, (hq q hqm).2, fun H4 hs4 => ⟨(hs2.trans hs3).trans hs4, _, _, rfl⟩⟩⟩
  · rintro σ' H2 ⟨hs2, _⟩
    exact kk H2 hs2
theorem scCe : FnScope ["part", "ahead", "field", "inner", "default"] ["part"] (defScope sCkRec) := ⟨rfl, rfl, rfl, by decide +kernel, rfl, by decide +kernel, by decide +kernel⟩
theorem ok_ckrec {f fO fP fD fN : Addr} {fd fdO fdP fdD fdN : FuncData} {k : Nat} (F : Fun K "check_record" "check_record" sCkRec f fd)
    (FO : Fun K "check_optional_name" "check_optional_name" sCkOpt fO fdO) (GO : FnOk P w K mg base CX0 2 fO fdO ["name"] spCkOpt) (bO : Binds K fdO ["name"] []) (mO : mg "check_optional_name" = some (.ref fO))
    (FN : Fun K "check_name" "check_name" sCkName fN fdN) (GN : FnOk P w K mg base CX0 1 fN fdN ["name"] spCkName) (bN : Binds K fdN ["name"] []) (mN : mg "check_name" = some (.ref fN))
    (FD : Fun K "check_default" "check_default" sCkDef fD fdD) (GD : FnOk P w K mg base CX0 8 fD fdD ["default"] spCkDef) (bD : Binds K fdD ["default"] []) (mD : mg "check_default" = some (.ref fD))
    (FP : Fun K "check_part" "check_part" sCkPart fP fdP) (GP : FnOk P w K mg base CX0 k fP fdP ["part"] (spCkPart k)) (bP : Binds K fdP ["part"] []) (mP : mg "check_part" = some (.ref fP)) : FnOk P w K mg base CX0 (k + 1) f fd ["part"] (spCkIn false (k + 1)) := by
  refine F.ok scCe (fun vs H Q E h => ?_) (fun cdv A outer s H vs Q E hr h => ?_)
  · obtain ⟨v, qs, r, m, rfl, _⟩ := h
    rfl
  obtain ⟨v, qs, r, m, rfl, hR, ho, hl, hq, hf, hk, kk⟩ := h
  obtain ⟨hnd, hok⟩ := hf rfl
  have hr1 : Room 1 (A.deeper (envOfC "check_record" (defScope sCkRec) s.heap.objs.size f cdv)) := hr.mono (by omega)
  have hr2 : Room 2 (A.deeper (envOfC "check_record" (defScope sCkRec) s.heap.objs.size f cdv)) := hr.mono (by omega)
  have hr8 : Room 8 (A.deeper (envOfC "check_record" (defScope sCkRec) s.heap.objs.size f cdv)) := hr.mono (by omega)
  refine ⟨_, pss_cons (ps_expr (pe_call GO hr2 rfl mO FO.kp bO .nil pass0 (pa_cons (pe_ix ix_tup (pv 0) pe_int (fun _ _ => rfl)) pa_nil)))
    (pss_cons (ps_set (i := 1) scCe.nd rfl (Or.inl rfl) pe_dnewK)
    (pss_one (ps_for PassesOwn.never rfl (pi_list (pe_ix ix_tup (pv 0) pe_int (fun _ _ => rfl))) (pg_tup rfl (pgs_cons (pg_name (i := 2) scCe.nd rfl (Or.inl rfl)) (pgs_cons (pg_name (i := 3) scCe.nd rfl (Or.inl rfl)) (pgs_cons (pg_name (i := 4) scCe.nd rfl (Or.inl rfl)) pgs_nil))))
      (pss_cons (ps_expr (pe_call GN hr1 rfl mN FN.kp bN .nil pass0 (pa_cons (pv 2) pa_nil)))
      (pss_cons (ps_if (pt_cmp (pc_din (hu_of hr) (pv 2) (pv 1)) rfl) pss_never pss_nil)
      (pss_cons (ps_dput (hu_of hr) (pv 1) (pv 2) pe_bl rfl)
      (pss_cons (ps_expr (pe_call GP hr rfl mP FP.kp bP .nil pass0 (pa_cons (pv 3) pa_nil))) (pss_one (ps_expr (pe_call GD hr8 rfl mD FD.kp bD .nil pass0 (pa_cons (pv 4) pa_nil))))))))))), ?_⟩
  obtain ⟨a, ys, rfl, ha, hys⟩ := hR.head
  obtain ⟨x, ys', rfl, hx, hy'⟩ := hys
  obtain ⟨y, ys'', rfl, hy, hn⟩ := hy'
  obtain ⟨lA, xs, rfl, hlA, hxs⟩ := hx
  obtain rfl : y = r := hy.1
  refine ⟨_, rfl, a, _, 2, _, rfl, rfl, SqT.of ha, atI_nat (j := 2) rfl, y, rfl, ho, fun H1 hs1 => ?_⟩
  intro dA hdA
  have s2 := same_new hdA (.dK [])
  refine ⟨_, rfl, a, _, 1, _, rfl, rfl, SqT.of (s2 _ _ (hs1 _ _ ha)), atI_nat (j := 1) rfl, lA, rfl, ⟨_, SqL.of (s2 _ _ (hs1 _ _ hlA))⟩, ?_⟩
  refine for_list (K := K) (a := lA) (xs := xs) (fun i σ' H' => Same H H' ∧ (∃ kvs : List (Key × V), H' dA = some (.dK kvs) ∧ kvs.length ≤ i ∧ ∀ z, z ∉ (qs.take i).map (·.1) → valV kvs (.inr z) = none) ∧ ∃ v2 v3 v4, σ' = [some (.ref a), some (.ref dA), v2, v3, v4]) ⟨hs1.trans s2, ⟨[], upd_same, Nat.le_refl _, fun _ _ => rfl⟩, none, none, none, rfl⟩ (fun i σ' H' _ ⟨h, _⟩ => SqL.of (h _ _ hlA)) ?_ ?_
  · rintro i x σ' H2 hi ⟨hs2, ⟨kvs, hd2, hkl, hkn⟩, v2, v3, v4, rfl⟩
    obtain ⟨t, ht, hrt⟩ := RWs.item hxs hi
    rw [List.getElem?_map] at ht
    obtain ⟨q, hqi, rfl⟩ : ∃ q, qs[i]? = some q ∧ ent false q = t := by
      cases e : qs[i]? with
      | none =>
        rw [e] at ht
        cases ht
      | some q =>
        rw [e] at ht
        exact ⟨q, rfl, Option.some.inj ht⟩
    have hqm := List.mem_of_getElem? hqi
    obtain ⟨hil, hqe⟩ := List.getElem?_eq_some_iff.mp hqi
    obtain ⟨e, zs, rfl, he, hzs⟩ := hrt
    obtain ⟨z0, zs0, rfl, h0, z1, zs1, rfl, h1, z2, zs2, rfl, h2, hn2⟩ := hzs
    obtain rfl : zs2 = [] := hn2
    obtain rfl : z0 = .str q.1 := h0.1
    have hnot : q.1 ∉ (qs.take i).map (·.1) := fun z => by
      have e1 : qs.map (·.1) = (qs.take i).map (·.1) ++ q.1 :: (qs.drop (i + 1)).map (·.1) := by
        have w1 : qs = qs.take i ++ q :: qs.drop (i + 1) := by
          rw [← hqe, ← List.drop_eq_getElem_cons hil, List.take_append_drop]
        calc qs.map (·.1) = (qs.take i ++ q :: qs.drop (i + 1)).map (·.1) := by rw [← w1]
          _ = _ := by rw [List.map_append, List.map_cons]
      rw [e1] at hnd
      exact (List.nodup_append.mp hnd).2.2 _ z _ List.mem_cons_self rfl
    have hvn := hkn _ hnot
    refine ⟨e, _, rfl, SqT.of (hs2 _ _ he), rfl, _, _, rfl, _, _, rfl, _, _, rfl, rfl, ?_⟩
    refine ⟨_, rfl, q.1, rfl, hok q hqm, fun H3 hs3 => ?_⟩
    have hd3 := hs3 _ _ hd2
    refine ⟨_, rfl, _, rfl, dA, _, rfl, DGet.k (k := Sum.inr q.1) hd3, _, rfl, ?_⟩
    refine ifF (by rw [hvn]; rfl) ⟨_, rfl, _, rfl, dA, _, rfl, DPut.k (k := Sum.inr q.1) hd3 (Nat.lt_of_le_of_lt (show kvs.length ≤ 25 by omega) (by decide)), ?_⟩
    have hs4 : Same H (upd H3 dA (.dK (putK kvs (Sum.inr q.1) (.bl true)))) := same_put (hs2.trans hs3) (hs1.free hdA)
    refine ⟨_, rfl, z1, q.2.1, m, rfl, h1.same hs4, (hq q hqm).1, by omega, fun H5 hs5 => ⟨_, rfl, z2, q.2.2, rfl, h2.same (hs4.trans hs5), (hq q hqm).2, fun H6 hs6 => ?_⟩⟩
    have hd4 : (upd H3 dA (.dK (putK kvs (Sum.inr q.1) (.bl true)))) dA = some (.dK (putK kvs (Sum.inr q.1) (.bl true))) := upd_same
    refine ⟨(hs4.trans hs5).trans hs6, ⟨_, hs6 _ _ (hs5 _ _ hd4), Nat.le_trans (length_putK _ _ _) (by omega), fun z hz => ?_⟩, _, _, _, rfl⟩
    have et : qs.take (i + 1) = qs.take i ++ [q] := by
      rw [List.take_add_one, hqi]
      rfl
    rw [et, List.map_append] at hz
    have hz1 : z ∉ (qs.take i).map (·.1) := fun y => hz (List.mem_append_left _ y)
    have hz2 : ¬ ((Sum.inr z : Key) = Sum.inr q.1) := fun y => hz (List.mem_append_right _ (by rw [Sum.inr.inj y]; exact List.mem_cons_self))
    rw [valV_put, if_neg hz2]
    exact hkn z hz1
  · rintro σ' H2 ⟨hs2, _⟩
    exact kk H2 hs2
theorem scCp : FnScope ["part"] ["part"] (defScope sCkPart) := ⟨rfl, rfl, rfl, by decide +kernel, rfl, by decide +kernel, by decide +kernel⟩
theorem ok_ckpart {f fF fN fR fE dP : Addr} {fd fdF fdN fdR fdE : FuncData} {k : Nat} (F : Fun K "check_part" "check_part" sCkPart f fd) (T : Txt K mg)
    (FF : Fun K "is_filled" "is_filled" sFilled fF fdF) (GF : FnOk P w K mg base CX0 1 fF fdF ["thing"] spFilled) (bF : Binds K fdF ["thing"] []) (mF : mg "is_filled" = some (.ref fF))
    (FN : Fun K "check_name" "check_name" sCkName fN fdN) (GN : FnOk P w K mg base CX0 1 fN fdN ["name"] spCkName) (bN : Binds K fdN ["name"] []) (mN : mg "check_name" = some (.ref fN))
    (TT : Tab K w dP szP) (mT : mg "PART_SIZES" = some (.ref dP))
    (FR : Fun K "check_row" "check_row" sCkRow fR fdR) (GR : FnOk P w K mg base CX0 k fR fdR ["part"] (spCkIn true k)) (bR : Binds K fdR ["part"] []) (mR : mg "check_row" = some (.ref fR))
    (FE : Fun K "check_record" "check_record" sCkRec fE fdE) (GE : FnOk P w K mg base CX0 k fE fdE ["part"] (spCkIn false k)) (bE : Binds K fdE ["part"] []) (mE : mg "check_record" = some (.ref fE)) : FnOk P w K mg base CX0 (k + 1) f fd ["part"] (spCkPart (k + 1)) := by
  refine F.ok scCp (fun vs H Q E h => ?_) (fun cdv A outer s H vs Q E hr h => ?_)
  · obtain ⟨v, d, m, rfl, _⟩ := h
    rfl
  obtain ⟨v, d, mm, rfl, hR, hT, hk, kk⟩ := h
  obtain ⟨es, n, KD⟩ := TT.kd
  have hm : 1 ≤ mm := by cases mm with
    | zero => exact hT.elim
    | succ j => omega
  have hr1 : Room 1 (A.deeper (envOfC "check_part" (defScope sCkPart) s.heap.objs.size f cdv)) := hr.mono (by omega)
  refine ⟨_, pss_cons (ps_if (PW.pt (pw_or (pt_not (pt_val (pe_call GF hr1 rfl mF FF.kp bF .nil pass0 (pa_cons (pv 0) pa_nil)))) (pw_or1 (pt_cmpR op_ne (pe_kget KD (pe_glob (v := .ref dP) rfl mT rfl) (pe_ix ix_tup (pv 0) pe_int (fun _ _ => rfl)) ⟨rfl, rfl, rfl, rfl⟩) (pe_callB call_len_seq (by rfl) T.len PySem.boot_len (pa_cons (pv 0) pa_nil)) (nomark _))))) pss_never pss_nil)
    (pss_one (ps_if (pt_cmpR op_eq (pe_ix ix_tup (pv 0) pe_int (fun _ _ => rfl)) pe_str (nomark _)) (pss_one (ps_expr (pe_call GN hr1 rfl mN FN.kp bN .nil pass0 (pa_cons (pe_ix ix_tup (pv 0) pe_int (fun _ _ => rfl)) pa_nil))))
      (pss_one (ps_if (pt_cmpR op_eq (pe_ix ix_tup (pv 0) pe_int (fun _ _ => rfl)) pe_str (nomark _)) (pss_one (ps_expr (pe_call GR hr rfl mR FR.kp bR .nil pass0 (pa_cons (pv 0) pa_nil))))
        (pss_one (ps_if (pt_cmpR op_eq (pe_ix ix_tup (pv 0) pe_int (fun _ _ => rfl)) pe_str (nomark _)) (pss_one (ps_expr (pe_call GE hr rfl mE FE.kp bE .nil pass0 (pa_cons (pv 0) pa_nil)))) pss_nil)))))), ?_⟩
  obtain ⟨s0, ds, rfl, hsz⟩ := hT.head
  obtain ⟨a, ys, rfl, ha, hys⟩ := hR.head
  obtain ⟨u0, hu, hrel⟩ := TT.at_ _ hsz
  have hl := hys.len
  have sq := SqT.of (K := K) ha
  have a0 : atI (V.str (Str.ofString s0) :: ys) 0 = some (.str (Str.ofString s0)) := atI_nat (j := 0) rfl
  refine ⟨_, rfl, _, S s0, ds, rfl, hR, _, rfl, iteF ⟨rfl, _, rfl, a, _, 0, _, rfl, rfl, sq, a0, _, u0, _, rfl, hu, hrel, _, rfl, a, _, rfl, .inr sq, rfl, _, rfl, ?_⟩⟩
  refine ifF ?_ ?_
  · rw [List.length_cons, hl, decide_eq_true rfl]
    rfl
  have dif : ∀ {x y z : String}, Str.ofString x = Str.ofString y → Str.ofString y ≠ Str.ofString z → decide (V.str (Str.ofString x) = V.str (Str.ofString z)) = false := fun h1 h2 => decide_eq_false fun q => h2 (h1.symm.trans (V.str.inj q))
  cases mm with
  | zero => exact hT.elim
  | succ mm =>
  rcases hT with e | ⟨z, hz, e⟩ | ⟨row, qs, r, e, ho, hl3, hq, hf⟩
  · obtain ⟨e1, e2⟩ := List.cons.inj (D.tup.inj e)
    have es0 : Str.ofString s0 = Str.ofString "any" := V.str.inj (D.leaf.inj e1)
    refine ⟨_, rfl, a, _, 0, _, rfl, rfl, sq, a0, rfl, _, rfl, ifF (dif es0 (by decide)) ?_⟩
    refine ⟨_, rfl, a, _, 0, _, rfl, rfl, sq, a0, rfl, _, rfl, ifF (dif es0 (by decide)) ?_⟩
    exact ⟨_, rfl, a, _, 0, _, rfl, rfl, sq, a0, rfl, _, rfl, ifF (dif es0 (by decide)) (kk H (Same.refl H))⟩
  · obtain ⟨e1, e2⟩ := List.cons.inj (D.tup.inj e)
    subst e2
    have es0 : Str.ofString s0 = Str.ofString "name" := V.str.inj (D.leaf.inj e1)
    obtain ⟨x, ys', rfl, hx, hy'⟩ := hys
    obtain rfl : x = .str z := hx.1
    refine ⟨_, rfl, a, _, 0, _, rfl, rfl, sq, a0, rfl, _, rfl, ifT (decide_eq_true (by rw [es0])) ?_⟩
    exact ⟨_, rfl, a, _, 1, _, rfl, rfl, sq, atI_nat (j := 1) rfl, z, rfl, hz, fun H1 hs1 => kk H1 hs1⟩
  · rcases ho with rfl | ⟨z, hz, rfl⟩
    all_goals
      cases row
      · have es0 : Str.ofString s0 = Str.ofString "record" := V.str.inj (D.leaf.inj (List.cons.inj (D.tup.inj e)).1)
        refine ⟨_, rfl, a, _, 0, _, rfl, rfl, sq, a0, rfl, _, rfl, ifF (dif es0 (by decide)) ?_⟩
        refine ⟨_, rfl, a, _, 0, _, rfl, rfl, sq, a0, rfl, _, rfl, ifF (dif es0 (by decide)) ?_⟩
        refine ⟨_, rfl, a, _, 0, _, rfl, rfl, sq, a0, rfl, _, rfl, ifT (decide_eq_true (by rw [es0])) ?_⟩
        rw [e] at hR
        exact ⟨_, rfl, _, qs, _, mm, rfl, hR, (by first | exact .inl rfl | exact .inr ⟨z, hz, rfl⟩), hl3, hq, hf, by omega, fun H1 hs1 => kk H1 hs1⟩
      · have es0 : Str.ofString s0 = Str.ofString "row" := V.str.inj (D.leaf.inj (List.cons.inj (D.tup.inj e)).1)
        refine ⟨_, rfl, a, _, 0, _, rfl, rfl, sq, a0, rfl, _, rfl, ifF (dif es0 (by decide)) ?_⟩
        refine ⟨_, rfl, a, _, 0, _, rfl, rfl, sq, a0, rfl, _, rfl, ifT (decide_eq_true (by rw [es0])) ?_⟩
        rw [e] at hR
        exact ⟨_, rfl, _, qs, _, mm, rfl, hR, (by first | exact .inl rfl | exact .inr ⟨z, hz, rfl⟩), hl3, hq, hf, by omega, fun H1 hs1 => kk H1 hs1⟩
end
end K02
set_option Elab.async false
set_option linter.all false
set_option maxRecDepth 100000
set_option maxHeartbeats 4000000
namespace K02
open PySem L2 PyProof.Rows
def EntAt (H0 H : Hp) (ks : List D) (es : List V) : Prop := es.length = ks.length ∧ ∀ (i : Nat) (k : D), ks[i]? = some k → ∃ (a : Addr) (q x r : V), es[i]? = some (V.ref a) ∧ H a = some (.tup [q, x, r]) ∧ RW H0 k x
def spEnt : Sp := fun vs H Q _ => ∃ (v : V) (d : D) (m : Nat) (H0 : Hp), vs = [v] ∧ RW H0 d v ∧ Same H0 H ∧ PtOk m d ∧ ∀ l es H', Same H H' → H l = none → H' l = some (.lst es) → EntAt H0 H' (kids d) es → Q (.ref l) H'
def spWith (k : Nat) : Sp := fun vs H Q _ => ∃ (v : V) (d : D) (m : Nat) (H0 : Hp), vs = [v] ∧ RW H0 d v ∧ Same H0 H ∧ PtOk m d ∧ m + 1 ≤ k ∧ (pre m d).length ≤ 1000 ∧ ∀ l xs H', Same H H' → H l = none → H' l = some (.lst xs) → RWs H0 (pre m d) xs → Q (.ref l) H'
def spNames : Sp := fun vs H Q _ => ∃ (v : V) (d : D) (m : Nat), vs = [v] ∧ RW H d v ∧ PtOk m d ∧ m ≤ 8 ∧ (pre m d).length ≤ 1000 ∧ ∀ l H', Same H H' → H l = none → H' l = some (.lst ((bnd m d).map V.str)) → Q (.ref l) H'
theorem RWs.app {H : Hp} : ∀ {ds es : List D} {xs ys : List V}, RWs H ds xs → RWs H es ys → RWs H (ds ++ es) (xs ++ ys)
  | [], es, xs, ys, h, k => by
    have e : xs = [] := h
    rw [e]
    exact k
  | d :: ds, es, xs, ys, h, k => by
    obtain ⟨x, zs, rfl, h1, h2⟩ := h
    exact ⟨x, zs ++ ys, rfl, h1, h2.app k⟩
theorem pre_ok : ∀ {m : Nat} {d : D}, PtOk m d → ∀ e ∈ pre m d, ∃ m', PtOk m' e
  | 0, _, h, _, _ => h.elim
  | m + 1, d, h, e, he => by
    rcases List.mem_cons.mp he with rfl | he
    · exact ⟨_, h⟩
    · rcases h with rfl | ⟨z, _, rfl⟩ | ⟨row, qs, r, rfl, hr, hl, hq, hf⟩
      · cases he
      · cases he
      · obtain ⟨k, hk, hek⟩ := List.mem_flatMap.mp he
        rw [kids_ent] at hk
        obtain ⟨q, hm, rfl⟩ := List.mem_map.mp hk
        exact pre_ok (hq q hm).1 e hek
/-- the parts within a part -/
theorem kids_ok {m : Nat} {d : D} (h : PtOk (m + 1) d) : ∀ k ∈ kids d, PtOk m k := by
  rcases h with rfl | ⟨z, _, rfl⟩ | ⟨row, qs, r, rfl, hr, hl, hq, hf⟩
  · exact fun _ z => nomatch z
  · exact fun _ z => nomatch z
  · rw [kids_ent]
    intro k hk
    obtain ⟨q, hm, rfl⟩ := List.mem_map.mp hk
    exact (hq q hm).1
section
variable {P : Program} {w : World} {K : PySem.W.Frag} {mg : Str → Option Value} {base : Heap}
theorem scEn : FnScope ["part", "index", "inner", "default"] ["part"] (defScope sEntries) := ⟨rfl, rfl, rfl, by decide +kernel, rfl, by decide +kernel, by decide +kernel⟩
theorem ok_ent {f : Addr} {fd : FuncData} (F : Fun K "entries_of" "entries_of" sEntries f fd) (T : Txt K mg) (zE : mg "enumerate" = none) : FnOk P w K mg base CX0 1 f fd ["part"] spEnt := by
  refine F.ok scEn (fun vs H Q E h => ?_) (fun cdv A outer s H vs Q E hr h => ?_)
  · obtain ⟨v, d, m, H0, rfl, _⟩ := h
    rfl
  obtain ⟨v, d, m, H0, rfl, hR, hs0, hT, kk⟩ := h
  refine ⟨_, pss_cons (ps_if (pt_cmpR op_eq (pe_ix ix_tup (pv 0) pe_int (fun _ _ => rfl)) pe_str (nomark _)) (pss_one (ps_ret (pe_lc (own := [("index", 1), ("inner", 2), ("default", 3)]) (g := gTup K 2 (gCons (gName 1) (gCons (gTup K 2 (gCons (gName 2) (gCons (gName 3) gNil))) gNil))) (tt := tYes) rfl scEn.nd (pi_enum rfl zE (pa_cons (pe_ix ix_tup (pv 0) pe_int (fun _ _ => rfl)) pa_nil)) (blkOk_by (N := ["part", "index", "inner", "default"]) (sc := defScope sEntries) (by decide +kernel))
      (fun _ _ _ _ _ => pg_tup rfl (pgs_cons (pg_name (i := 1) scEn.nd rfl (Or.inl rfl) (Or.inr rfl)) (pgs_cons (pg_tup rfl (pgs_cons (pg_name (i := 2) scEn.nd rfl (Or.inl rfl) (Or.inr rfl)) (pgs_cons (pg_name (i := 3) scEn.nd rfl (Or.inl rfl) (Or.inr rfl)) pgs_nil))) pgs_nil))) (fun _ _ _ _ _ => pts_nil)
      (fun _ _ _ _ _ => pe_tup (pa_cons (pv 1) (pa_cons (pv 2) (pa_cons (pv 3) pa_nil))))))) pss_nil)
    (pss_cons (ps_if (pt_cmpR op_eq (pe_ix ix_tup (pv 0) pe_int (fun _ _ => rfl)) pe_str (nomark _)) (pss_one (ps_ret (pe_callTy call_list_of (by rfl) T.list boot_list (pa_cons (pe_ix ix_tup (pv 0) pe_int (fun _ _ => rfl)) pa_nil)))) pss_nil)
    (pss_one (ps_ret (pe_lst pa_nil)))), ?_⟩
  have dif : ∀ {y z : String}, Str.ofString y ≠ Str.ofString z → decide (V.str (Str.ofString y) = V.str (Str.ofString z)) = false := fun h => decide_eq_false fun q => h (V.str.inj q)
  cases m with
  | zero => exact hT.elim
  | succ mm =>
  have two : (∃ s0 ds, d = .tup (S s0 :: ds) ∧ Str.ofString s0 ≠ Str.ofString "row" ∧ Str.ofString s0 ≠ Str.ofString "record" ∧ kids d = []) ∨ ∃ (row : Bool) (qs : List (Str × D × D)) (r : D), d = .tup [S (if row = true then "row" else "record"), .lst (qs.map (ent row)), r] ∧ qs.length ≤ 25 := by
    rcases hT with e | ⟨z, hz, e⟩ | ⟨row, qs, r, e, ho, hl3, hq, hf⟩
    · exact .inl ⟨_, _, e, by decide, by decide, by rw [e]; rfl⟩
    · exact .inl ⟨_, _, e, by decide, by decide, by rw [e]; rfl⟩
    · exact .inr ⟨row, qs, r, e, hl3⟩
  rcases two with ⟨s0, ds, hd, n1, n2, hkd⟩ | ⟨row, qs, r, e, hl3⟩
  · rw [hd] at hR
    obtain ⟨a, ys, rfl, ha, hys⟩ := hR.head
    have sq := SqT.of (K := K) (hs0 _ _ ha)
    have a0 : atI (V.str (Str.ofString s0) :: ys) 0 = some (.str (Str.ofString s0)) := atI_nat (j := 0) rfl
    refine ⟨_, rfl, a, _, 0, _, rfl, rfl, sq, a0, rfl, _, rfl, ifF (dif n1) ?_⟩
    refine ⟨_, rfl, a, _, 0, _, rfl, rfl, sq, a0, rfl, _, rfl, ifF (dif n2) ?_⟩
    refine ⟨by show 0 ≤ sizeLine; decide, fun l hl => kk l [] _ (same_new hl _) hl upd_same ?_⟩
    rw [hkd]
    exact ⟨rfl, fun _ _ z => by simp at z⟩
  have hkd : kids d = qs.map fun q => q.2.1 := by
    rw [e, kids_ent]
  rw [e] at hR
  obtain ⟨a, ys, rfl, ha, hys⟩ := hR.head
  obtain ⟨x, ys', rfl, hx, hy'⟩ := hys
  obtain ⟨lA, xs, rfl, hlA, hxs⟩ := hx
  have sq := SqT.of (K := K) (hs0 _ _ ha)
  have hxl : xs.length = qs.length := by
    rw [hxs.len, List.length_map]
  have itm : ∀ (i : Nat) (x : V), xs[i]? = some x → ∃ q, qs[i]? = some q ∧ RW H0 (ent row q) x := fun i x hi => by
    obtain ⟨t, ht, hrt⟩ := RWs.item hxs hi
    rw [List.getElem?_map] at ht
    cases e2 : qs[i]? with
    | none =>
      rw [e2] at ht
      cases ht
    | some q =>
      rw [e2] at ht
      exact ⟨q, rfl, (Option.some.inj ht) ▸ hrt⟩
  have a0 : ∀ {s : String} {ys : List V}, atI (V.str (Str.ofString s) :: ys) 0 = some (.str (Str.ofString s)) := atI_nat (j := 0) rfl
  cases row with
  | true =>
    refine ⟨_, rfl, a, _, 0, _, rfl, rfl, sq, a0, rfl, _, rfl, ifT (decide_eq_true rfl) ?_⟩
    refine ⟨_, rfl, a, _, 1, _, rfl, rfl, sq, atI_nat (j := 1) rfl, lA, xs, rfl, SqL.of (hs0 _ _ hlA), fun D0 hD => ?_⟩
    refine lc_it walk_enum (fun i H' => Same H H' ∧ ∃ ts : List V, H' D0 = some (.lst ts) ∧ ts.length = i ∧ ∀ (j : Nat) (k : D), j < i → (kids d)[j]? = some k → ∃ (a : Addr) (q x r : V), ts[j]? = some (V.ref a) ∧ H' a = some (.tup [q, x, r]) ∧ RW H0 k x) ⟨same_new hD _, [], upd_same, rfl, fun j k z => absurd z (Nat.not_lt_zero _)⟩ (fun i H' _ ⟨h, _⟩ => SqL.of (h _ _ (hs0 _ _ hlA))) ?_ ?_
    · rintro i x H2 H3 hi ⟨hs2, ts, hD2, htl, hts⟩ ⟨tA, x1, y1, rfl, htA, rfl, ex, ey⟩
      obtain ⟨q, hqi, hrq⟩ := itm i y1 ey
      obtain ⟨e1, zs, rfl, he, z1, zs1, rfl, h1, z2, zs2, rfl, h2, hn2⟩ := hrq
      obtain rfl : zs2 = [] := hn2
      have s3 := same_new htA (.tup [x1, .ref e1])
      refine ⟨tA, _, rfl, SqT.of upd_same, rfl, _, _, rfl, _, _, rfl, e1, _, rfl, SqT.of (s3 _ _ (hs2 _ _ (hs0 _ _ he))), rfl, _, _, rfl, _, _, rfl, rfl, rfl, rfl, ?_⟩
      unfold tYes
      refine iteT ⟨_, rfl, _, rfl, _, rfl, by show 3 ≤ sizeLine; decide, fun t ht => ?_⟩
      have s4 := same_new ht (.tup [x1, z1, z2])
      have hD4 := s4 _ _ (s3 _ _ hD2)
      have ntD : t ≠ D0 := (ne_of_none (s3 _ _ hD2) ht).symm
      refine ⟨ts, hD4, Nat.lt_of_le_of_lt (show ts.length ≤ 1000 by omega) (by decide), same_put ((hs2.trans s3).trans s4) hD, ts ++ [.ref t], upd_same, (by rw [List.length_append, htl]; rfl), fun j k hj hk => ?_⟩
      rcases Nat.lt_succ_iff_lt_or_eq.mp hj with hj | rfl
      · obtain ⟨a1, q1, x2, r1, b1, b2, b3⟩ := hts j k hj hk
        refine ⟨a1, q1, x2, r1, (by rw [List.getElem?_append_left (by omega)]; exact b1), ?_, b3⟩
        rw [upd_ne fun z => ?_]
        · exact s4 _ _ (s3 _ _ b2)
        · rw [z, hD2] at b2
          cases b2
      · refine ⟨t, x1, z1, z2, (by rw [List.getElem?_append_right (by omega), htl, Nat.sub_self]; rfl), (by rw [upd_ne ntD]; exact upd_same), ?_⟩
        rw [hkd, List.getElem?_map, hqi] at hk
        exact (Option.some.inj hk) ▸ h1
    · rintro H2 ⟨hs2, ts, hD2, htl, hts⟩
      have hkl : (kids d).length = xs.length := by
        rw [hkd, List.length_map, hxl]
      refine kk D0 ts H2 hs2 hD hD2 ⟨by omega, fun j k hk => hts j k ?_ hk⟩
      have := (List.getElem?_eq_some_iff.mp hk).1
      omega
  | false =>
    refine ⟨_, rfl, a, _, 0, _, rfl, rfl, sq, a0, rfl, _, rfl, ifF (dif (by decide)) ?_⟩
    refine ⟨_, rfl, a, _, 0, _, rfl, rfl, sq, a0, rfl, _, rfl, ifT (decide_eq_true rfl) ?_⟩
    refine ⟨_, rfl, a, _, 1, _, rfl, rfl, sq, atI_nat (j := 1) rfl, lA, xs, rfl, .inl (SqL.of (hs0 _ _ hlA)), fun l hl => ?_⟩
    have s2 := same_new hl (.lst xs)
    refine kk l xs _ s2 hl upd_same ⟨by rw [hkd, List.length_map, hxl], fun j k hk => ?_⟩
    rw [hkd, List.getElem?_map] at hk
    cases e2 : qs[j]? with
    | none =>
      rw [e2] at hk
      cases hk
    | some q =>
      rw [e2] at hk
      have hjl := (List.getElem?_eq_some_iff.mp e2).1
      have hxj := List.getElem?_eq_getElem (show j < xs.length by omega)
      generalize xs[j] = xj at hxj
      obtain ⟨q', hq', hrq⟩ := itm j xj hxj
      rw [e2] at hq'
      cases hq'
      obtain ⟨e1, zs, rfl, he, z0, zs0, rfl, h0, z1, zs1, rfl, h1, z2, zs2, rfl, h2, hn2⟩ := hrq
      obtain rfl : zs2 = [] := hn2
      exact ⟨e1, z0, z1, z2, hxj, s2 _ _ (hs0 _ _ he), (Option.some.inj hk) ▸ h1⟩
end
end K02
set_option Elab.async false
set_option linter.all false
set_option maxRecDepth 100000
set_option maxHeartbeats 4000000
namespace K02
open PySem L2 PyProof.Rows
theorem take_flat {α β : Type} {f : α → List β} {xs : List α} {i : Nat} {x : α} (h : xs[i]? = some x) : (xs.take (i + 1)).flatMap f = (xs.take i).flatMap f ++ f x := by
  rw [List.take_add_one, h, List.flatMap_append]
  show _ ++ (f x ++ []) = _
  rw [List.append_nil]
theorem take_flat_le {α β : Type} {f : α → List β} {xs : List α} {i : Nat} : ((xs.take i).flatMap f).length ≤ (xs.flatMap f).length := by
  have e : xs.flatMap f = (xs.take i).flatMap f ++ (xs.drop i).flatMap f := by
    rw [← List.flatMap_append, List.take_append_drop]
  rw [e, List.length_append]
  omega
section
variable {P : Program} {w : World} {K : PySem.W.Frag} {mg : Str → Option Value} {base : Heap}
theorem scWi : FnScope ["part", "found", "entry"] ["part"] (defScope sWithin) := ⟨rfl, rfl, rfl, by decide +kernel, rfl, by decide +kernel, by decide +kernel⟩
theorem with_none {f : Addr} {fd : FuncData} {ps : List Str} : FnOk P w K mg base CX0 0 f fd ps (spWith 0) := none_of fun vs H Q E h => by
  obtain ⟨v, d, m, H0, _, _, _, _, h1, _⟩ := h
  omega
theorem ok_with {f fE : Addr} {fd fdE : FuncData} {k : Nat} (F : Fun K "parts_within" "parts_within" sWithin f fd)
    (FE : Fun K "entries_of" "entries_of" sEntries fE fdE) (GE : FnOk P w K mg base CX0 1 fE fdE ["part"] spEnt) (bE : Binds K fdE ["part"] []) (mE : mg "entries_of" = some (.ref fE))
    (G : FnOk P w K mg base CX0 k f fd ["part"] (spWith k)) (b : Binds K fd ["part"] []) (m : mg "parts_within" = some (.ref f)) : FnOk P w K mg base CX0 (k + 1) f fd ["part"] (spWith (k + 1)) := by
  refine F.ok scWi (fun vs H Q E h => ?_) (fun cdv A outer s H vs Q E hr h => ?_)
  · obtain ⟨v, d, m, H0, rfl, _⟩ := h
    rfl
  obtain ⟨v, d, mm, H0, rfl, hR, hs0, hT, hk, hl, kk⟩ := h
  have hm : 1 ≤ mm := by cases mm with
    | zero => exact hT.elim
    | succ j => omega
  obtain ⟨mm, rfl⟩ : ∃ j, mm = j + 1 := ⟨mm - 1, by omega⟩
  have hr1 : Room 1 (A.deeper (envOfC "parts_within" (defScope sWithin) s.heap.objs.size f cdv)) := hr.mono (by omega)
  refine ⟨_, pss_cons (ps_set (i := 1) scWi.nd rfl (Or.inl rfl) (pe_lst (pa_cons (pv 0) pa_nil)))
    (Evl.pss_cut (ps_for PassesOwn.never rfl (pi_list (pe_call GE hr1 rfl mE FE.kp bE .nil pass0 (pa_cons (pv 0) pa_nil))) (pg_name (i := 2) scWi.nd rfl (Or.inl rfl))
      (pss_one (ps_expr (pe_bm PySem.F.plainAttrs_list PySem.F.slot_list_extend PySem.F.type_list_extend mt_extend (pv 1) (pa_cons (pe_call G hr rfl m F.kp b .nil pass0 (pa_cons (pe_ix ix_tup (pv 2) pe_int (fun _ _ => rfl)) pa_nil)) pa_nil)))))
    (pss_one (ps_ret (pv 1)))), ?_⟩
  refine ⟨_, rfl, by show 1 ≤ sizeLine; decide, fun fo hfo => ?_⟩
  have s1 := same_new hfo (.lst [v])
  have pe : pre (mm + 1) d = d :: (kids d).flatMap (pre mm) := rfl
  refine ⟨fun σ' H' => Same H H' ∧ (∃ xs, H' fo = some (.lst xs) ∧ RWs H0 (pre (mm + 1) d) xs) ∧ ∃ v2, σ' = [some v, some (.ref fo), v2], ?_, ?_⟩
  · refine ⟨_, rfl, v, d, mm + 1, H0, rfl, hR, hs0.trans s1, hT, fun lE es H2 hs2 hlE0 hlE hE => ?_⟩
    refine ⟨lE, rfl, ⟨_, SqL.of hlE⟩, ?_⟩
    have nfl : fo ≠ lE := (ne_of_none upd_same hlE0)
    have hlE1 : H lE = none := s1.free hlE0
    refine for_list (K := K) (a := lE) (xs := es) (fun i σ' H' => Same H H' ∧ Kp (fun a => a = fo) H2 H' ∧ (∃ xs, H' fo = some (.lst xs) ∧ RWs H0 (d :: ((kids d).take i).flatMap (pre mm)) xs) ∧ ∃ v2, σ' = [some v, some (.ref fo), v2])
      ⟨s1.trans hs2, .same (Same.refl _), ⟨[v], hs2 _ _ upd_same, ⟨v, [], rfl, hR, rfl⟩⟩, none, rfl⟩ (fun i σ' H' _ ⟨_, h, _⟩ => SqL.of (h _ _ hlE (.inl (Ne.symm nfl)))) ?_ ?_
    · rintro i x σ' H3 hi ⟨hs3, hk3, ⟨xs, hfo3, hxs⟩, v2, rfl⟩
      obtain ⟨hEl, hEa⟩ := hE
      have hil : i < (kids d).length := by
        have := (List.getElem?_eq_some_iff.mp hi).1
        omega
      have hkid := List.getElem?_eq_getElem hil
      obtain ⟨a1, q1, x1, r1, b1, b2, b3⟩ := hEa i _ hkid
      rw [hi] at b1
      obtain rfl : x = .ref a1 := Option.some.inj b1
      have hko := kids_ok hT _ (List.getElem_mem hil)
      have t1 := take_flat (f := pre mm) hkid
      have t2 := take_flat_le (f := pre mm) (xs := kids d) (i := i + 1)
      rw [t1, List.length_append] at t2
      rw [pe, List.length_cons] at hl
      refine ⟨_, rfl, .inl ⟨rfl, _, SqL.of hfo3⟩, _, rfl, a1, _, 1, _, rfl, rfl, SqT.of (hk3 _ _ b2 (.inr fun _ z => nomatch z)), atI_nat (j := 1) rfl, x1, _, mm, H0, rfl, b3, hs0.trans hs3, hko, by omega, by omega, fun l2 ys H4 hs4 hl20 hl2 hys => ?_⟩
      have hxl := hxs.len
      have hyl := hys.len
      rw [List.length_cons] at hxl
      refine ⟨fo, l2, xs, ys, rfl, rfl, hs4 _ _ hfo3, hl2, Nat.le_trans (show xs.length + ys.length ≤ 1001 by omega) (by decide), same_put (hs3.trans hs4) hfo, (hk3.trans (.same hs4)).trans (Kp.set (hs4 _ _ hfo3) rfl), ⟨xs ++ ys, upd_same, ?_⟩, _, rfl⟩
      rw [t1]
      exact hxs.app hys
    · rintro σ' H3 ⟨hs3, hk3, ⟨xs, hfo3, hxs⟩, r⟩
      rw [hE.1, List.take_length] at hxs
      exact ⟨hs3, ⟨xs, hfo3, hxs⟩, r⟩
  rintro _ H2 ⟨hs2, ⟨xs, hfo2, hxs⟩, v2, rfl⟩
  exact ⟨_, rfl, kk fo xs H2 hs2 hfo hfo2 hxs⟩
theorem scNo : FnScope ["part", "names", "each"] ["part"] (defScope sNamesOf) := ⟨rfl, rfl, rfl, by decide +kernel, rfl, by decide +kernel, by decide +kernel⟩
theorem ok_names {f fW : Addr} {fd fdW : FuncData} (F : Fun K "names_of_part" "names_of_part" sNamesOf f fd)
    (FW : Fun K "parts_within" "parts_within" sWithin fW fdW) (GW : FnOk P w K mg base CX0 9 fW fdW ["part"] (spWith 9)) (bW : Binds K fdW ["part"] []) (mW : mg "parts_within" = some (.ref fW)) : FnOk P w K mg base CX0 10 f fd ["part"] spNames := by
  refine F.ok scNo (fun vs H Q E h => ?_) (fun cdv A outer s H vs Q E hr h => ?_)
  · obtain ⟨v, d, m, rfl, _⟩ := h
    rfl
  obtain ⟨v, d, mm, rfl, hR, hT, hk, hl, kk⟩ := h
  refine ⟨_, pss_cons (ps_set (i := 1) scNo.nd rfl (Or.inl rfl) (pe_lst pa_nil))
    (Evl.pss_cut (ps_for PassesOwn.never rfl (pi_list (pe_call GW hr rfl mW FW.kp bW .nil pass0 (pa_cons (pv 0) pa_nil))) (pg_name (i := 2) scNo.nd rfl (Or.inl rfl))
      (pss_one (ps_if (pt_cmpR op_eq (pe_ix ix_tup (pv 2) pe_int (fun _ _ => rfl)) pe_str (nomark _)) (pss_one (ps_expr (pe_bm PySem.F.plainAttrs_list PySem.F.slot_list_append PySem.F.type_list_append mt_append (pv 1) (pa_cons (pe_ix ix_tup (pv 2) pe_int (fun _ _ => rfl)) pa_nil))))
        (pss_one (ps_if (PW.pt (pw_and (pt_cmpR op_ne (pe_ix ix_tup (pv 2) pe_int (fun _ _ => rfl)) pe_str (nomark _)) (pw_and1 (pt_cmpR op_notN (pe_ix ix_tup (pv 2) pe_int (fun _ _ => rfl)) pe_non (nomark _)))))
          (pss_one (ps_expr (pe_bm PySem.F.plainAttrs_list PySem.F.slot_list_append PySem.F.type_list_append mt_append (pv 1) (pa_cons (pe_ix ix_tup (pv 2) pe_int (fun _ _ => rfl)) pa_nil)))) pss_nil)))))
    (pss_one (ps_ret (pv 1)))), ?_⟩
  refine ⟨by show 0 ≤ sizeLine; decide, fun fo hfo => ?_⟩
  have s1 := same_new hfo (.lst [])
  have deq : ∀ {y z : String}, Str.ofString y ≠ Str.ofString z → decide (V.str (Str.ofString y) = V.str (Str.ofString z)) = false := fun h => decide_eq_false fun q => h (V.str.inj q)
  have a0 : ∀ {s : String} {ys : List V}, atI (V.str (Str.ofString s) :: ys) 0 = some (.str (Str.ofString s)) := atI_nat (j := 0) rfl
  refine ⟨fun σ' H' => Same H H' ∧ H' fo = some (.lst ((bnd mm d).map V.str)) ∧ ∃ v2, σ' = [some v, some (.ref fo), v2], ?_, ?_⟩
  · refine ⟨_, rfl, v, d, mm, H, rfl, hR, s1, hT, by omega, hl, fun lE es H2 hs2 hlE0 hlE hE => ?_⟩
    refine ⟨lE, rfl, ⟨_, SqL.of hlE⟩, ?_⟩
    have nfl : fo ≠ lE := (ne_of_none upd_same hlE0)
    have hel := hE.len
    refine for_list (K := K) (a := lE) (xs := es) (fun i σ' H' => Same H H' ∧ Kp (fun a => a = fo) H2 H' ∧ H' fo = some (.lst ((((pre mm d).take i).flatMap own).map V.str)) ∧ (((pre mm d).take i).flatMap own).length ≤ i ∧ ∃ v2, σ' = [some v, some (.ref fo), v2])
      ⟨s1.trans hs2, .same (Same.refl _), hs2 _ _ upd_same, Nat.le_refl _, none, rfl⟩ (fun i σ' H' _ ⟨_, h, _⟩ => SqL.of (h _ _ hlE (.inl (Ne.symm nfl)))) ?_ ?_
    · rintro i x σ' H3 hi ⟨hs3, hk3, hfo3, hol, v2, rfl⟩
      obtain ⟨e, he, hre⟩ := RWs.item hE hi
      have hil := (List.getElem?_eq_some_iff.mp he).1
      have t1 := take_flat (f := own) he
      obtain ⟨m', hTe⟩ := pre_ok hT e (List.mem_of_getElem? he)
      have room : ((((pre mm d).take i).flatMap own).map V.str).length < sizeLine := by
        rw [List.length_map]
        exact Nat.lt_of_le_of_lt (show _ ≤ 1000 by omega) (by decide)
      have add : ∀ z : Str, own e = [z] → Same H (upd H3 fo (.lst ((((pre mm d).take i).flatMap own).map V.str ++ [.str z]))) ∧ Kp (fun a => a = fo) H2 (upd H3 fo (.lst ((((pre mm d).take i).flatMap own).map V.str ++ [.str z]))) ∧ (upd H3 fo (.lst ((((pre mm d).take i).flatMap own).map V.str ++ [.str z]))) fo = some (.lst ((((pre mm d).take (i + 1)).flatMap own).map V.str)) ∧ (((pre mm d).take (i + 1)).flatMap own).length ≤ i + 1 := fun z ez => by
        refine ⟨same_put hs3 hfo, hk3.trans (Kp.set hfo3 rfl), ?_, ?_⟩
        · rw [upd_same, t1, ez, List.map_append]
          rfl
        · rw [t1, ez, List.length_append]
          show _ + 1 ≤ i + 1
          omega
      have keep : own e = [] → H3 fo = some (.lst ((((pre mm d).take (i + 1)).flatMap own).map V.str)) ∧ (((pre mm d).take (i + 1)).flatMap own).length ≤ i + 1 := fun ez => by
        rw [t1, ez, List.append_nil]
        exact ⟨hfo3, by omega⟩
      cases m' with
      | zero => exact hTe.elim
      | succ m' =>
      rcases hTe with rfl | ⟨z, hz, rfl⟩ | ⟨row, qs, r, rfl, ho, hl3, hq, hf⟩
      · obtain ⟨a, ys, rfl, ha, hys⟩ := hre.head
        have sq := SqT.of (K := K) (hs3 _ _ ha)
        refine ⟨_, rfl, a, _, 0, _, rfl, rfl, sq, a0, rfl, _, rfl, ifF (deq (by decide)) ?_⟩
        refine ⟨_, rfl, a, _, 0, _, rfl, rfl, sq, a0, rfl, _, rfl, ifF (by rw [decide_eq_true rfl]; rfl) (iteF ?_)⟩
        obtain ⟨k1, k2⟩ := keep rfl
        exact ⟨hs3, hk3, k1, k2, _, rfl⟩
      · obtain ⟨a, ys, rfl, ha, hys⟩ := hre.head
        obtain ⟨x, ys', rfl, hx, hy'⟩ := hys
        obtain rfl : x = .str z := hx.1
        have sq := SqT.of (K := K) (hs3 _ _ ha)
        refine ⟨_, rfl, a, _, 0, _, rfl, rfl, sq, a0, rfl, _, rfl, ifT (decide_eq_true rfl) ?_⟩
        refine ⟨_, rfl, .inl ⟨rfl, _, SqL.of hfo3⟩, _, rfl, a, _, 1, _, rfl, rfl, sq, atI_nat (j := 1) rfl, fo, _, _, rfl, rfl, hfo3, room, ?_⟩
        obtain ⟨k1, k2, k3, k4⟩ := add z rfl
        exact ⟨k1, k2, k3, k4, _, rfl⟩
      · obtain ⟨a, ys, rfl, ha, hys⟩ := hre.head
        obtain ⟨x, ys', rfl, hx, y, ys'', rfl, hy, hn⟩ := hys
        have sq := SqT.of (K := K) (hs3 _ _ ha)
        have n1 : Str.ofString (if row = true then "row" else "record") ≠ Str.ofString "name" := by cases row <;> decide
        have n2 : Str.ofString (if row = true then "row" else "record") ≠ Str.ofString "any" := by cases row <;> decide
        refine ⟨_, rfl, a, _, 0, _, rfl, rfl, sq, a0, rfl, _, rfl, ifF (deq n1) ?_⟩
        refine ⟨_, rfl, a, _, 0, _, rfl, rfl, sq, a0, rfl, _, rfl, ifT (by rw [deq n2]; rfl) ?_⟩
        rcases ho with rfl | ⟨z, hz, rfl⟩
        · obtain rfl : y = .non := hy.1
          refine ⟨_, rfl, a, _, 2, _, rfl, rfl, sq, atI_nat (j := 2) rfl, rfl, _, rfl, ifF (by rw [decide_eq_true rfl]; rfl) ?_⟩
          obtain ⟨k1, k2⟩ := keep rfl
          exact ⟨hs3, hk3, k1, k2, _, rfl⟩
        · obtain rfl : y = .str z := hy.1
          refine ⟨_, rfl, a, _, 2, _, rfl, rfl, sq, atI_nat (j := 2) rfl, rfl, _, rfl, ifT (by rw [decide_eq_false (fun z => nomatch z)]; rfl) ?_⟩
          refine ⟨_, rfl, .inl ⟨rfl, _, SqL.of hfo3⟩, _, rfl, a, _, 2, _, rfl, rfl, sq, atI_nat (j := 2) rfl, fo, _, _, rfl, rfl, hfo3, room, ?_⟩
          obtain ⟨k1, k2, k3, k4⟩ := add z rfl
          exact ⟨k1, k2, k3, k4, _, rfl⟩
    · rintro σ' H3 ⟨hs3, hk3, hfo3, hol, r⟩
      rw [hel, List.take_length] at hfo3
      exact ⟨hs3, hfo3, r⟩
  rintro _ H2 ⟨hs2, hfo2, v2, rfl⟩
  exact ⟨_, rfl, kk fo H2 hs2 hfo hfo2⟩
end
end K02
set_option Elab.async false
set_option linter.all false
set_option maxRecDepth 100000
set_option maxHeartbeats 4000000
namespace K02
open PySem L2 PyProof.Rows
abbrev szS : List (String × Int) := [("take", 3), ("set", 3), ("cases", 3)]
/-- a step: its first text, its name, what is behind -/
theorem StOk.three {d : D} (h : StOk d) : (∃ z t, d = .tup [S "set", .leaf (.str z), t] ∧ okName z ∧ TmOk 5 t) ∨ ∃ (s : String) (r x : D), (s = "take" ∨ s = "cases") ∧ d = .tup [S s, r, x] ∧ Opt r ∧ (s = "take" → stParts d = [x]) ∧ (s = "cases" → x = .lst (stParts d) ∧ (stParts d).length ≤ 20) ∧ stSet d = [] ∧ ∀ q ∈ stParts d, PtOk 7 q := by
  rcases h with ⟨z, t, hz, ht, e⟩ | ⟨r, q, hr, hq, e⟩ | ⟨r, qs, hr, hl, hq, e⟩
  · exact .inl ⟨z, t, e, hz, ht⟩
  · subst e
    refine .inr ⟨"take", r, q, .inl rfl, rfl, hr, fun _ => parts_take, (fun z => absurd z (by decide)), set_take, fun y hy => ?_⟩
    rw [parts_take] at hy
    rw [List.mem_singleton.mp hy]
    exact hq
  · subst e
    refine .inr ⟨"cases", r, .lst qs, .inr rfl, rfl, hr, (fun z => absurd z (by decide)), fun _ => ?_, set_cases, ?_⟩
    · rw [parts_cases]
      exact ⟨rfl, hl⟩
    · rw [parts_cases]
      exact hq
def spPoS : Sp := fun vs H Q _ => ∃ (v : V) (d : D) (H0 : Hp), vs = [v] ∧ RW H0 d v ∧ Same H0 H ∧ StOk d ∧ ∀ l xs H', Same H H' → H l = none → H' l = some (.lst xs) → RWs H0 (stParts d) xs → Q (.ref l) H'
def spNoS : Sp := fun vs H Q _ => ∃ (v : V) (d : D), vs = [v] ∧ RW H d v ∧ StOk d ∧ ((stParts d).flatMap (pre 7)).length ≤ 900 ∧ ∀ l H', Same H H' → H l = none → H' l = some (.lst ((stNames d).map V.str)) → Q (.ref l) H'
def spCkStep : Sp := fun vs H Q _ => ∃ (v : V) (d : D), vs = [v] ∧ RW H d v ∧ StOk d ∧ ∀ H', Same H H' → Q .non H'
theorem bnd_small (m : Nat) (d : D) : (bnd m d).length ≤ (pre m d).length := by
  have one : ∀ e : D, (own e).length ≤ 1 := fun e => by
    unfold own
    split <;> simp
  have go : ∀ ds : List D, (ds.flatMap own).length ≤ ds.length := fun ds => by
    induction ds with
    | nil => exact Nat.le_refl _
    | cons e ds ih =>
      rw [List.flatMap_cons, List.length_append, List.length_cons]
      have := one e
      omega
  exact go _
theorem bnds_small (m : Nat) : ∀ ds : List D, (ds.flatMap (bnd m)).length ≤ (ds.flatMap (pre m)).length
  | [] => Nat.le_refl _
  | d :: ds => by
    rw [List.flatMap_cons, List.flatMap_cons, List.length_append, List.length_append]
    have := bnd_small m d
    have := bnds_small m ds
    omega
section
variable {P : Program} {w : World} {K : PySem.W.Frag} {mg : Str → Option Value} {base : Heap}
theorem scPo : FnScope ["step"] ["step"] (defScope sPoS) := ⟨rfl, rfl, rfl, by decide +kernel, rfl, by decide +kernel, by decide +kernel⟩
theorem ok_pos {f : Addr} {fd : FuncData} (F : Fun K "parts_of_step" "parts_of_step" sPoS f fd) (T : Txt K mg) : FnOk P w K mg base CX0 1 f fd ["step"] spPoS := by
  refine F.ok scPo (fun vs H Q E h => ?_) (fun cdv A outer s H vs Q E hr h => ?_)
  · obtain ⟨v, d, H0, rfl, _⟩ := h
    rfl
  obtain ⟨v, d, H0, rfl, hR, hs0', hd, kk⟩ := h
  refine ⟨_, pss_cons (ps_if (pt_cmpR op_eq (pe_ix ix_tup (pv 0) pe_int (fun _ _ => rfl)) pe_str (nomark _)) (pss_one (ps_ret (pe_lst (pa_cons (pe_ix ix_tup (pv 0) pe_int (fun _ _ => rfl)) pa_nil)))) pss_nil)
    (pss_cons (ps_if (pt_cmpR op_eq (pe_ix ix_tup (pv 0) pe_int (fun _ _ => rfl)) pe_str (nomark _)) (pss_one (ps_ret (pe_callTy call_list_of (by rfl) T.list boot_list (pa_cons (pe_ix ix_tup (pv 0) pe_int (fun _ _ => rfl)) pa_nil)))) pss_nil)
    (pss_one (ps_ret (pe_lst pa_nil)))), ?_⟩
  have a0 : ∀ {s : String} {ys : List V}, atI (V.str (Str.ofString s) :: ys) 0 = some (.str (Str.ofString s)) := atI_nat (j := 0) rfl
  have deq : ∀ {y z : String}, Str.ofString y ≠ Str.ofString z → decide (V.str (Str.ofString y) = V.str (Str.ofString z)) = false := fun h => decide_eq_false fun q => h (V.str.inj q)
  rcases hd.three with ⟨z, t, e, _, _⟩ | ⟨s0, r, x, hs0, e, _, h1, h2, _, _⟩
  · have e0 : stParts d = [] := by rw [e, parts_set]
    rw [e] at hR
    obtain ⟨a, ys, rfl, ha, hys⟩ := hR.head
    have sq := SqT.of (K := K) (hs0' _ _ ha)
    refine ⟨_, rfl, a, _, 0, _, rfl, rfl, sq, a0, rfl, _, rfl, ifF (deq (by decide)) ?_⟩
    refine ⟨_, rfl, a, _, 0, _, rfl, rfl, sq, a0, rfl, _, rfl, ifF (deq (by decide)) ?_⟩
    refine ⟨by show 0 ≤ sizeLine; decide, fun l hl => kk l [] _ (same_new hl _) hl upd_same ?_⟩
    rw [e0]
    rfl
  · rw [e] at hR
    obtain ⟨a, ys, rfl, ha, hys⟩ := hR.head
    obtain ⟨y1, ys1, rfl, hy1, y2, ys2, rfl, hy2, hnil⟩ := hys
    obtain rfl : ys2 = [] := hnil
    have sq := SqT.of (K := K) (hs0' _ _ ha)
    have a2 : atI [V.str (Str.ofString s0), y1, y2] 2 = some y2 := at3_2
    refine ⟨_, rfl, a, _, 0, _, rfl, rfl, sq, a0, rfl, _, rfl, ?_⟩
    rcases hs0 with rfl | rfl
    · refine ifT (decide_eq_true rfl) ⟨_, rfl, a, _, 2, _, rfl, rfl, sq, a2, by show 1 ≤ sizeLine; decide, fun l hl => ?_⟩
      refine kk l _ _ (same_new hl _) hl upd_same ?_
      rw [h1 rfl]
      exact ⟨y2, [], rfl, hy2, rfl⟩
    · refine ifF (deq (by decide)) ⟨_, rfl, a, _, 0, _, rfl, rfl, sq, a0, rfl, _, rfl, ifT (decide_eq_true rfl) ?_⟩
      obtain ⟨ex, _⟩ := h2 rfl
      rw [ex] at hy2
      obtain ⟨l0, zs, rfl, hl0, hz⟩ := hy2
      exact ⟨_, rfl, a, _, 2, _, rfl, rfl, sq, a2, l0, zs, rfl, .inl (SqL.of (hs0' _ _ hl0)), fun l hl => kk l _ _ (same_new hl _) hl upd_same hz⟩
theorem scNs : FnScope ["step", "names", "part"] ["step"] (defScope sNoS) := ⟨rfl, rfl, rfl, by decide +kernel, rfl, by decide +kernel, by decide +kernel⟩
theorem ok_nos {f fP fN : Addr} {fd fdP fdN : FuncData} (F : Fun K "names_of_step" "names_of_step" sNoS f fd)
    (FP : Fun K "parts_of_step" "parts_of_step" sPoS fP fdP) (GP : FnOk P w K mg base CX0 1 fP fdP ["step"] spPoS) (bP : Binds K fdP ["step"] []) (mP : mg "parts_of_step" = some (.ref fP))
    (FN : Fun K "names_of_part" "names_of_part" sNamesOf fN fdN) (GN : FnOk P w K mg base CX0 10 fN fdN ["part"] spNames) (bN : Binds K fdN ["part"] []) (mN : mg "names_of_part" = some (.ref fN)) : FnOk P w K mg base CX0 11 f fd ["step"] spNoS := by
  refine F.ok scNs (fun vs H Q E h => ?_) (fun cdv A outer s H vs Q E hr h => ?_)
  · obtain ⟨v, d, rfl, _⟩ := h
    rfl
  obtain ⟨v, d, rfl, hR, hd, hl, kk⟩ := h
  have hr1 : Room 1 (A.deeper (envOfC "names_of_step" (defScope sNoS) s.heap.objs.size f cdv)) := hr.mono (by decide)
  refine ⟨_, pss_cons (ps_set (i := 1) scNs.nd rfl (Or.inl rfl) (pe_lst pa_nil))
    (Evl.pss_cut (ps_if (pt_cmpR op_eq (pe_ix ix_tup (pv 0) pe_int (fun _ _ => rfl)) pe_str (nomark _)) (pss_one (ps_expr (pe_bm PySem.F.plainAttrs_list PySem.F.slot_list_append PySem.F.type_list_append mt_append (pv 1) (pa_cons (pe_ix ix_tup (pv 0) pe_int (fun _ _ => rfl)) pa_nil)))) pss_nil)
    (Evl.pss_cut (ps_for PassesOwn.never rfl (pi_list (pe_call GP hr1 rfl mP FP.kp bP .nil pass0 (pa_cons (pv 0) pa_nil))) (pg_name (i := 2) scNs.nd rfl (Or.inl rfl))
      (pss_one (ps_expr (pe_bm PySem.F.plainAttrs_list PySem.F.slot_list_extend PySem.F.type_list_extend mt_extend (pv 1) (pa_cons (pe_call GN hr rfl mN FN.kp bN .nil pass0 (pa_cons (pv 2) pa_nil)) pa_nil)))))
    (pss_one (ps_ret (pv 1))))), ?_⟩
  refine ⟨by show 0 ≤ sizeLine; decide, fun fo hfo => ?_⟩
  have s1 := same_new hfo (.lst [])
  have a0 : ∀ {s : String} {ys : List V}, atI (V.str (Str.ofString s) :: ys) 0 = some (.str (Str.ofString s)) := atI_nat (j := 0) rfl
  have deq : ∀ {y z : String}, Str.ofString y ≠ Str.ofString z → decide (V.str (Str.ofString y) = V.str (Str.ofString z)) = false := fun h => decide_eq_false fun q => h (V.str.inj q)
  have hq : ∀ q ∈ stParts d, PtOk 7 q := by
    rcases hd.three with ⟨z, t, e, _, _⟩ | ⟨s0, r, x, hs0, e, _, h1, h2, _, h4⟩
    · rw [e, parts_set]
      exact fun _ z => nomatch z
    · exact h4
  have hsl : (stSet d).length ≤ 1 := by
    rcases hd.three with ⟨z, t, e, _, _⟩ | ⟨s0, r, x, hs0, e, _, h1, h2, h3, h4⟩
    · rw [e, set_set]
      exact Nat.le_refl _
    · rw [h3]
      exact Nat.zero_le _
  -- the set name
  refine ⟨fun σ' H' => Same H H' ∧ H' fo = some (.lst ((stSet d).map V.str)) ∧ σ' = [some v, some (.ref fo), none], ?_, ?_⟩
  · rcases hd.three with ⟨z, t, e, _, _⟩ | ⟨s0, r, x, hs0, e, _, h1, h2, h3, h4⟩
    · rw [e, set_set]
      rw [e] at hR
      obtain ⟨a, ys, rfl, ha, hys⟩ := hR.head
      obtain ⟨y1, ys1, rfl, hy1, _⟩ := hys
      obtain rfl : y1 = .str z := hy1.1
      have sq := SqT.of (K := K) (s1 _ _ ha)
      refine ⟨_, rfl, a, _, 0, _, rfl, rfl, sq, a0, rfl, _, rfl, ifT (decide_eq_true rfl) ?_⟩
      exact ⟨_, rfl, .inl ⟨rfl, _, SqL.of upd_same⟩, _, rfl, a, _, 1, _, rfl, rfl, sq, atI_nat (j := 1) rfl, fo, _, _, rfl, rfl, upd_same, by decide, same_put s1 hfo, upd_same, rfl⟩
    · rw [h3]
      rw [e] at hR
      obtain ⟨a, ys, rfl, ha, hys⟩ := hR.head
      have sq := SqT.of (K := K) (s1 _ _ ha)
      refine ⟨_, rfl, a, _, 0, _, rfl, rfl, sq, a0, rfl, _, rfl, ifF ?_ ⟨s1, upd_same, rfl⟩⟩
      rcases hs0 with rfl | rfl <;> exact deq (by decide)
  rintro _ H2 ⟨hs2, hfo2, rfl⟩
  -- those of the parts
  refine ⟨fun σ' H' => Same H H' ∧ H' fo = some (.lst ((stNames d).map V.str)) ∧ ∃ v2, σ' = [some v, some (.ref fo), v2], ?_, ?_⟩
  · refine ⟨_, rfl, v, d, H, rfl, hR, hs2, hd, fun lE es H3 hs3 hlE0 hlE hE => ⟨lE, rfl, ⟨_, SqL.of hlE⟩, ?_⟩⟩
    have nfl : fo ≠ lE := ne_of_none hfo2 hlE0
    refine for_list (K := K) (a := lE) (xs := es) (fun i σ' H' => Same H H' ∧ Kp (fun a => a = fo) H3 H' ∧ H' fo = some (.lst ((stSet d ++ ((stParts d).take i).flatMap (bnd 7)).map V.str)) ∧ ∃ v2, σ' = [some v, some (.ref fo), v2])
      ⟨hs2.trans hs3, .same (Same.refl _), (by rw [List.take_zero, List.flatMap_nil, List.append_nil]; exact hs3 _ _ hfo2), none, rfl⟩ (fun i σ' H' _ ⟨_, h, _⟩ => SqL.of (h _ _ hlE (.inl (Ne.symm nfl)))) ?_ ?_
    · rintro i x σ' H4 hi ⟨hs4, hk4, hfo4, v2, rfl⟩
      obtain ⟨q, hqi, hrw⟩ := hE.item hi
      have hqm := List.mem_of_getElem? hqi
      have t1 := take_flat (f := pre 7) hqi
      have t2 := take_flat_le (f := pre 7) (xs := stParts d) (i := i + 1)
      have t3 := bnds_small 7 ((stParts d).take i)
      have t4 := bnd_small 7 q
      rw [t1, List.length_append] at t2
      refine ⟨_, rfl, .inl ⟨rfl, _, SqL.of hfo4⟩, _, rfl, x, q, 7, rfl, hrw.same hs4, hq q hqm, by decide, by omega, fun l2 H5 hs5 hl20 hl2 => ?_⟩
      refine ⟨fo, l2, _, _, rfl, rfl, hs5 _ _ hfo4, hl2, ?_, same_put (hs4.trans hs5) hfo, (hk4.trans (.same hs5)).trans (Kp.set (hs5 _ _ hfo4) rfl), ?_, _, rfl⟩
      · rw [List.length_map, List.length_map, List.length_append]
        exact Nat.le_trans (show _ ≤ 2000 by omega) (by decide)
      · rw [upd_same, take_flat (f := bnd 7) hqi, ← List.map_append, List.append_assoc]
    · rintro σ' H4 ⟨hs4, hk4, hfo4, r⟩
      rw [hE.len, List.take_length] at hfo4
      exact ⟨hs4, hfo4, r⟩
  rintro _ H3 ⟨hs3, hfo3, v2, rfl⟩
  exact ⟨_, rfl, kk fo H3 hs3 hfo hfo3⟩
theorem scCs : FnScope ["step", "part"] ["step"] (defScope sCkStep) := ⟨rfl, rfl, rfl, by decide +kernel, rfl, by decide +kernel, by decide +kernel⟩
theorem ok_ckstep {f fF fN fT fO fP fC dS : Addr} {fd fdF fdN fdT fdO fdP fdC : FuncData} (F : Fun K "check_step" "check_step" sCkStep f fd) (T : Txt K mg)
    (FF : Fun K "is_filled" "is_filled" sFilled fF fdF) (GF : FnOk P w K mg base CX0 1 fF fdF ["thing"] spFilled) (bF : Binds K fdF ["thing"] []) (mF : mg "is_filled" = some (.ref fF))
    (TT : Tab K w dS szS) (mT : mg "STEP_SIZES" = some (.ref dS))
    (FN : Fun K "check_name" "check_name" sCkName fN fdN) (GN : FnOk P w K mg base CX0 1 fN fdN ["name"] spCkName) (bN : Binds K fdN ["name"] []) (mN : mg "check_name" = some (.ref fN))
    (FT : Fun K "check_term" "check_term" sCkTerm fT fdT) (GT : FnOk P w K mg base CX0 7 fT fdT ["term"] (spCkTerm 7)) (bT : Binds K fdT ["term"] []) (mTm : mg "check_term" = some (.ref fT))
    (FO : Fun K "check_optional_name" "check_optional_name" sCkOpt fO fdO) (GO : FnOk P w K mg base CX0 2 fO fdO ["name"] spCkOpt) (bO : Binds K fdO ["name"] []) (mO : mg "check_optional_name" = some (.ref fO))
    (FP : Fun K "parts_of_step" "parts_of_step" sPoS fP fdP) (GP : FnOk P w K mg base CX0 1 fP fdP ["step"] spPoS) (bP : Binds K fdP ["step"] []) (mP : mg "parts_of_step" = some (.ref fP))
    (FC : Fun K "check_part" "check_part" sCkPart fC fdC) (GC : FnOk P w K mg base CX0 24 fC fdC ["part"] (spCkPart 24)) (bC : Binds K fdC ["part"] []) (mC : mg "check_part" = some (.ref fC)) : FnOk P w K mg base CX0 25 f fd ["step"] spCkStep := by
  refine F.ok scCs (fun vs H Q E h => ?_) (fun cdv A outer s H vs Q E hr h => ?_)
  · obtain ⟨v, d, rfl, _⟩ := h
    rfl
  obtain ⟨v, d, rfl, hR, hd, kk⟩ := h
  obtain ⟨es, n, KD⟩ := TT.kd
  have hr1 : Room 1 (A.deeper (envOfC "check_step" (defScope sCkStep) s.heap.objs.size f cdv)) := hr.mono (by decide)
  have hr2 : Room 2 (A.deeper (envOfC "check_step" (defScope sCkStep) s.heap.objs.size f cdv)) := hr.mono (by decide)
  have hr7 : Room 7 (A.deeper (envOfC "check_step" (defScope sCkStep) s.heap.objs.size f cdv)) := hr.mono (by decide)
  refine ⟨_, pss_cons (ps_if (PW.pt (pw_or (pt_not (pt_val (pe_call GF hr1 rfl mF FF.kp bF .nil pass0 (pa_cons (pv 0) pa_nil)))) (pw_or1 (pt_cmpR op_ne (pe_kget KD (pe_glob (v := .ref dS) rfl mT rfl) (pe_ix ix_tup (pv 0) pe_int (fun _ _ => rfl)) ⟨rfl, rfl, rfl, rfl⟩) (pe_callB call_len_seq (by rfl) T.len PySem.boot_len (pa_cons (pv 0) pa_nil)) (nomark _))))) pss_never pss_nil)
    (pss_cons (ps_if (pt_cmpR op_eq (pe_ix ix_tup (pv 0) pe_int (fun _ _ => rfl)) pe_str (nomark _))
      (pss_cons (ps_expr (pe_call GN hr1 rfl mN FN.kp bN .nil pass0 (pa_cons (pe_ix ix_tup (pv 0) pe_int (fun _ _ => rfl)) pa_nil)))
      (pss_cons (ps_expr (pe_call GT hr7 rfl mTm FT.kp bT .nil pass0 (pa_cons (pe_ix ix_tup (pv 0) pe_int (fun _ _ => rfl)) pa_nil)))
      (pss_one ps_retN))) pss_nil)
    (pss_cons (ps_expr (pe_call GO hr2 rfl mO FO.kp bO .nil pass0 (pa_cons (pe_ix ix_tup (pv 0) pe_int (fun _ _ => rfl)) pa_nil)))
    (pss_one (ps_for PassesOwn.never rfl (pi_list (pe_call GP hr1 rfl mP FP.kp bP .nil pass0 (pa_cons (pv 0) pa_nil))) (pg_name (i := 1) scCs.nd rfl (Or.inl rfl)) (pss_one (ps_expr (pe_call GC hr rfl mC FC.kp bC .nil pass0 (pa_cons (pv 1) pa_nil)))))))), ?_⟩
  have a0 : ∀ {s : String} {ys : List V}, atI (V.str (Str.ofString s) :: ys) 0 = some (.str (Str.ofString s)) := atI_nat (j := 0) rfl
  have deq : ∀ {y z : String}, Str.ofString y ≠ Str.ofString z → decide (V.str (Str.ofString y) = V.str (Str.ofString z)) = false := fun h => decide_eq_false fun q => h (V.str.inj q)
  have head : ∀ (s0 : String) (r x : D), (s0, (3 : Int)) ∈ szS → d = .tup [S s0, r, x] → ∃ (a : Addr) (y1 y2 : V), v = .ref a ∧ H a = some (.tup [.str (Str.ofString s0), y1, y2]) ∧ RW H r y1 ∧ RW H x y2 ∧ ∃ u0, PySem.W.nsIn K dS (Str.ofString s0) = some (some u0) ∧ RelV (.int 3) u0 := fun s0 r x hs e => by
    rw [e] at hR
    obtain ⟨a, ys, rfl, ha, hys⟩ := hR.head
    obtain ⟨y1, ys1, rfl, hy1, y2, ys2, rfl, hy2, hnil⟩ := hys
    obtain rfl : ys2 = [] := hnil
    obtain ⟨u0, h1, h2⟩ := TT.at_ _ hs
    exact ⟨a, y1, y2, rfl, ha, hy1, hy2, u0, h1, h2⟩
  rcases hd.three with ⟨z, t, e, hz, ht⟩ | ⟨s0, r, x, hs0, e, ho, _, _, _, hq⟩
  · obtain ⟨a, y1, y2, rfl, ha, hy1, hy2, u0, hu, hrel⟩ := head "set" _ _ (by decide) e
    obtain rfl : y1 = .str z := hy1.1
    have sq := SqT.of (K := K) ha
    refine ⟨_, rfl, .ref a, S "set", _, rfl, by rw [e] at hR; exact hR, _, rfl, iteF ⟨rfl, _, rfl, a, _, 0, _, rfl, rfl, sq, a0, _, u0, _, rfl, hu, hrel, _, rfl, a, _, rfl, .inr sq, rfl, _, rfl, ?_⟩⟩
    refine ifF (show (!decide (V.int 3 = V.int ((3 : Nat) : Int))) = false by decide +kernel) ?_
    refine ⟨_, rfl, a, _, 0, _, rfl, rfl, sq, a0, rfl, _, rfl, ifT (decide_eq_true rfl) ?_⟩
    refine ⟨_, rfl, a, _, 1, _, rfl, rfl, sq, at3_1, z, rfl, hz, fun H1 hs1 => ?_⟩
    exact ⟨_, rfl, a, _, 2, _, rfl, rfl, SqT.of (hs1 _ _ ha), at3_2, y2, t, 5, rfl, hy2.same hs1, ht, by decide, fun H2 hs2 => kk H2 (hs1.trans hs2)⟩
  · obtain ⟨a, y1, y2, rfl, ha, hy1, hy2, u0, hu, hrel⟩ := head s0 r x (by rcases hs0 with rfl | rfl <;> decide) e
    have sq := SqT.of (K := K) ha
    refine ⟨_, rfl, .ref a, S s0, _, rfl, by rw [e] at hR; exact hR, _, rfl, iteF ⟨rfl, _, rfl, a, _, 0, _, rfl, rfl, sq, a0, _, u0, _, rfl, hu, hrel, _, rfl, a, _, rfl, .inr sq, rfl, _, rfl, ?_⟩⟩
    refine ifF (show (!decide (V.int 3 = V.int ((3 : Nat) : Int))) = false by decide +kernel) ?_
    refine ⟨_, rfl, a, _, 0, _, rfl, rfl, sq, a0, rfl, _, rfl, ifF (by rcases hs0 with rfl | rfl <;> exact deq (by decide)) ?_⟩
    obtain ⟨w0, rfl⟩ : ∃ w0, r = .leaf w0 := by
      rcases ho with rfl | ⟨z, _, rfl⟩
      · exact ⟨_, rfl⟩
      · exact ⟨_, rfl⟩
    obtain rfl : y1 = w0 := hy1.1
    refine ⟨_, rfl, a, _, 1, _, rfl, rfl, sq, at3_1, y1, rfl, ho, fun H1 hs1 => ?_⟩
    refine ⟨_, rfl, .ref a, d, H, rfl, hR, hs1, hd, fun lE xs H2 hs2 _ hlE hE => ⟨lE, rfl, ⟨_, SqL.of hlE⟩, ?_⟩⟩
    refine for_list (K := K) (a := lE) (xs := xs) (fun i σ' H' => Same H2 H' ∧ ∃ v1, σ' = [some (.ref a), v1]) ⟨Same.refl _, none, rfl⟩ (fun i σ' H' _ ⟨h, _⟩ => SqL.of (h _ _ hlE)) ?_ ?_
    · rintro i y σ' H3 hi ⟨hs3, v1, rfl⟩
      obtain ⟨q, hqi, hrw⟩ := hE.item hi
      exact ⟨_, rfl, y, q, 7, rfl, hrw.same ((hs1.trans hs2).trans hs3), hq q (List.mem_of_getElem? hqi), by decide, fun H4 hs4 => ⟨hs3.trans hs4, _, rfl⟩⟩
    · rintro σ' H3 ⟨hs3, _⟩
      exact kk H3 ((hs1.trans hs2).trans hs3)
end
end K02
set_option Elab.async false
set_option linter.all false
set_option maxRecDepth 100000
set_option maxHeartbeats 4000000
namespace K02
open PySem L2 PyProof.Rows
abbrev sInit : Stmt := inClass sPattern 0
abbrev sGPart : Stmt := inClass sPattern 1
abbrev sGOrd : Stmt := inClass sPattern 2
abbrev sGLck : Stmt := inClass sPattern 3
abbrev sMNames : Stmt := inClass sPattern 4
abbrev sMWith : Stmt := inClass sPattern 5
abbrev sMWout : Stmt := inClass sPattern 6
abbrev sMExch : Stmt := inClass sPattern 7
abbrev sMLen : Stmt := inClass sPattern 8
/-! ### depth -/
theorem Fits.succ {c : Nat} : ∀ {n : Nat} {d : D}, Fits c n d → Fits c (n + 1) d
  | 0, d, h => by
    obtain ⟨v, rfl⟩ := h
    trivial
  | n + 1, .leaf _, _ => trivial
  | n + 1, .lst ds, h => ⟨h.1, fun e m => (h.2 e m).succ⟩
  | n + 1, .tup ds, h => ⟨h.1, fun e m => (h.2 e m).succ⟩
theorem Fits.le {c n m : Nat} {d : D} (h : Fits c n d) (hm : n ≤ m) : Fits c m d := by
  induction hm with
  | refl => exact h
  | step _ ih => exact ih.succ
theorem fits_tup {c n : Nat} {ds : List D} (h1 : ds.length ≤ c) (h2 : ∀ d ∈ ds, Fits c n d) : Fits c (n + 1) (.tup ds) := ⟨h1, h2⟩
theorem fits_lst {c n : Nat} {ds : List D} (h1 : ds.length ≤ c) (h2 : ∀ d ∈ ds, Fits c n d) : Fits c (n + 1) (.lst ds) := ⟨h1, h2⟩
theorem TmOk.fits : ∀ {n : Nat} {d : D}, TmOk n d → Fits 1000 (2 * n) d
  | 0, _, h => h.elim
  | n + 1, d, h => by
    rcases h with ⟨i, rfl⟩ | ⟨z, _, rfl⟩ | ⟨z, ts, _, rfl, hl, ht⟩
    · refine fits_tup (by show 2 ≤ 1000; decide) fun e he => ?_
      simp at he
      rcases he with rfl | rfl <;> exact Fits.leaf
    · refine fits_tup (by show 2 ≤ 1000; decide) fun e he => ?_
      simp at he
      rcases he with rfl | rfl <;> exact Fits.leaf
    · refine fits_tup (n := 2 * n + 1) (by show 3 ≤ 1000; decide) fun e he => ?_
      simp at he
      rcases he with rfl | rfl | rfl
      · exact Fits.leaf
      · exact Fits.leaf
      · exact fits_lst (by omega) fun t m => (ht t m).fits
theorem Df.fits {d : D} (h : Df d) : Fits 1000 10 d := by
  rcases h with rfl | h
  · exact Fits.leaf
  · exact h.fits
theorem Opt.fits {d : D} {n : Nat} (h : Opt d) : Fits 1000 n d := by
  rcases h with rfl | ⟨z, _, rfl⟩ <;> exact Fits.leaf
theorem PtOk.fits : ∀ {n : Nat} {d : D}, PtOk n d → Fits 1000 (3 * n + 10) d
  | 0, _, h => h.elim
  | n + 1, d, h => by
    rcases h with rfl | ⟨z, _, rfl⟩ | ⟨row, qs, r, rfl, hr, hl, hq, hf⟩
    · refine fits_tup (n := 3 * n + 12) (by show 1 ≤ 1000; decide) fun e he => ?_
      simp at he
      rcases he with rfl
      exact Fits.leaf
    · refine fits_tup (n := 3 * n + 12) (by show 2 ≤ 1000; decide) fun e he => ?_
      simp at he
      rcases he with rfl | rfl <;> exact Fits.leaf
    · refine fits_tup (n := 3 * n + 12) (by show 3 ≤ 1000; decide) fun e he => ?_
      have he' : e = S (if row = true then "row" else "record") ∨ e = .lst (qs.map (ent row)) ∨ e = r := by
        rcases List.mem_cons.mp he with z | z
        · exact .inl z
        · rcases List.mem_cons.mp z with z | z
          · exact .inr (.inl z)
          · exact .inr (.inr (List.mem_singleton.mp z))
      rcases he' with rfl | rfl | rfl
      · exact Fits.leaf
      · refine fits_lst (n := 3 * n + 11) (by rw [List.length_map]; omega) fun t m => ?_
        obtain ⟨q, hm, rfl⟩ := List.mem_map.mp m
        obtain ⟨h1, h2⟩ := hq q hm
        have p1 : Fits 1000 (3 * n + 10) q.2.1 := h1.fits
        have p2 : Fits 1000 (3 * n + 10) q.2.2 := h2.fits.le (by omega)
        cases row
        · refine fits_tup (n := 3 * n + 10) (by show 3 ≤ 1000; decide) fun e he => ?_
          simp at he
          rcases he with rfl | rfl | rfl
          · exact Fits.leaf
          · exact p1
          · exact p2
        · refine fits_tup (n := 3 * n + 10) (by show 2 ≤ 1000; decide) fun e he => ?_
          simp at he
          rcases he with rfl | rfl
          · exact p1
          · exact p2
      · exact hr.fits
theorem StOk.fits {d : D} (h : StOk d) : Fits 1000 33 d := by
  have three : ∀ (s : String) (r x : D), Fits 1000 32 r → Fits 1000 32 x → Fits 1000 33 (.tup [S s, r, x]) := fun s r x h1 h2 => by
    refine fits_tup (n := 32) (by show 3 ≤ 1000; decide) fun e he => ?_
    simp at he
    rcases he with rfl | rfl | rfl
    · exact Fits.leaf
    · exact h1
    · exact h2
  rcases h with ⟨z, t, _, ht, rfl⟩ | ⟨r, q, hr, hq, rfl⟩ | ⟨r, qs, hr, hl, hq, rfl⟩
  · exact three _ _ _ Fits.leaf (ht.fits.le (by decide))
  · exact three _ _ _ hr.fits (hq.fits.le (by decide))
  · exact three _ _ _ hr.fits (fits_lst (by omega) fun q m => (hq q m).fits)
structure PrOk (ds : List D) : Prop where
  len : ds.length ≤ 30
  st : ∀ d ∈ ds, StOk d
theorem PrOk.fits {ds : List D} (h : PrOk ds) : Fits 1000 34 (.lst ds) := fits_lst (by have := h.len; omega) fun d m => (h.st d m).fits
theorem PgN.ok {N : List Str} {ds : List D} (h : PgN N ds) : PrOk ds := ⟨by have := h.len; omega, h.st⟩
/-! ### a pattern in the heap -/
/-- lists and tuples stand -/
def LT1 (H H1 : Hp) : Prop := ∀ b xs, (H b = some (.lst xs) → H1 b = some (.lst xs)) ∧ (H b = some (.tup xs) → H1 b = some (.tup xs))
theorem LT1.ins {H H1 : Hp} {x C dx : Addr} {fs : List (Str × V)} (hx : H x = some (.ins C dx fs)) (b : But x H H1) : LT1 H H1 := fun c xs => by
  have n : ∀ {o}, H c = some o → (∀ C dx fs, o ≠ HO.ins C dx fs) → c ≠ x := fun e q z => by
    rw [z, hx] at e
    exact q _ _ _ (Option.some.inj e).symm
  exact ⟨fun e => b c _ (n e fun _ _ _ z => nomatch z) e, fun e => b c _ (n e fun _ _ _ z => nomatch z) e⟩
mutual
theorem Rep.lt {H H1 : Hp} (k : LT1 H H1) : ∀ {d : D} {v : V} {F : List Addr}, Rep H d v F → Rep H1 d v F
  | .leaf w, u, F, h => h
  | .lst ds, u, F, h => by
    obtain ⟨a, xs, G, e, ha, hr, hn, rfl⟩ := h
    exact ⟨a, xs, G, e, (k a xs).1 ha, Reps.lt k hr, hn, rfl⟩
  | .tup ds, u, F, h => by
    obtain ⟨a, xs, e, ha, hr⟩ := h
    exact ⟨a, xs, e, (k a xs).2 ha, Reps.lt k hr⟩
theorem Reps.lt {H H1 : Hp} (k : LT1 H H1) : ∀ {ds : List D} {xs : List V} {F : List Addr}, Reps H ds xs F → Reps H1 ds xs F
  | [], xs, F, h => h
  | d :: ds, xs, F, h => by
    obtain ⟨x, ys, F1, F2, e, h1, h2, hd, rfl⟩ := h
    exact ⟨x, ys, F1, F2, e, Rep.lt k h1, Reps.lt k h2, hd, rfl⟩
end
theorem po_ : ¬ (("_steps" : Str) = "_order") := by decide +kernel
theorem pl_ : ¬ (("_steps" : Str) = "_lacks") := by decide +kernel
theorem ol_ : ¬ (("_order" : Str) = "_lacks") := by decide +kernel
def pfs (v : V) (r s : Str) : List (Str × V) := putF "_lacks" (.str s) (putF "_order" (.str r) (putF "_steps" v []))
theorem pfs_part (v : V) (r s : Str) : (pfs v r s).lookup ("_steps" : Str) = some v := by
  unfold pfs
  rw [lookup_putF, if_neg pl_, lookup_putF, if_neg po_, lookup_putF, if_pos rfl]
theorem pfs_order (v : V) (r s : Str) : (pfs v r s).lookup ("_order" : Str) = some (.str r) := by
  unfold pfs
  rw [lookup_putF, if_neg ol_, lookup_putF, if_pos rfl]
theorem pfs_lacks (v : V) (r s : Str) : (pfs v r s).lookup ("_lacks" : Str) = some (.str s) := by
  unfold pfs
  rw [lookup_putF, if_pos rfl]
def PatAt (C : Addr) (H : Hp) (o : Addr) (d : D) (r s : Str) (G : List Addr) : Prop := ∃ dx v, H o = some (.ins C dx (pfs v r s)) ∧ Rep H d v G
structure PCls (K : PySem.W.Frag) (C : Addr) : Prop where
  cl : Cls K C
  nP : NoAttr K C "_steps"
  nO : NoAttr K C "_order"
  nL : NoAttr K C "_lacks"
def spInit (C : Addr) : Sp := fun vs H Q _ => ∃ (x dx : Addr) (v : V) (r s : Str) (ds : List D), vs = [.ref x, v, .str r, .str s] ∧ H x = some (.ins C dx []) ∧ RW H (.lst ds) v ∧ PrOk ds ∧ okOrd r ∧ okLck s ∧
  ∀ u H' G, But x H H' → H' x = some (.ins C dx (pfs u r s)) → Rep H' (.lst ds) u G → (∀ a ∈ G, H a = none) → Q .non H'
def spGPart (C : Addr) : Sp := fun vs H Q _ => ∃ (o : Addr) (d : D) (r s : Str) (G : List Addr), vs = [.ref o] ∧ PatAt C H o d r s G ∧ Fits 1000 34 d ∧ ∀ u H' G', Same H H' → Rep H' d u G' → (∀ a ∈ G', H a = none) → Q u H'
def spGOrd (C : Addr) : Sp := fun vs H Q _ => ∃ (o : Addr) (d : D) (r s : Str) (G : List Addr), vs = [.ref o] ∧ PatAt C H o d r s G ∧ Q (.str r) H
def spGLck (C : Addr) : Sp := fun vs H Q _ => ∃ (o : Addr) (d : D) (r s : Str) (G : List Addr), vs = [.ref o] ∧ PatAt C H o d r s G ∧ Q (.str s) H
def spMNames (C : Addr) : Sp := fun vs H Q _ => ∃ (o : Addr) (ds : List D) (r s : Str) (G : List Addr) (N : List Str), vs = [.ref o] ∧ PatAt C H o (.lst ds) r s G ∧ PgN N ds ∧
  ∀ (l : Addr) (ys : List Str) H', Same H H' → H l = none → H' l = some (.lst (ys.map V.str)) → ys.Perm (TxSet.dd (ds.flatMap stNames)) → sortedS ys = true → Q (.ref l) H'
def spMLen (C : Addr) : Sp := fun vs H Q _ => ∃ (o : Addr) (ds : List D) (r s : Str) (G : List Addr), vs = [.ref o] ∧ PatAt C H o (.lst ds) r s G ∧ Q (.int ((ds.length : Nat) : Int)) H
def spMWith (C : Addr) : Sp := fun vs H Q _ => ∃ (o : Addr) (ds : List D) (r s r' : Str) (G : List Addr), vs = [.ref o, .str r'] ∧ PatAt C H o (.lst ds) r s G ∧ PrOk ds ∧ okOrd r' ∧ okLck s ∧
  ∀ o' H' G', Same H H' → H o' = none → PatAt C H' o' (.lst ds) r' s G' → (∀ a ∈ G', H a = none) → Q (.ref o') H'
/-- without a step; with two exchanged -/
def spMWout (C : Addr) : Sp := fun vs H Q _ => ∃ (o : Addr) (ds : List D) (r s : Str) (G : List Addr) (i : Nat), vs = [.ref o, .int (i : Int)] ∧ PatAt C H o (.lst ds) r s G ∧ PrOk ds ∧ okOrd r ∧ okLck s ∧ i < ds.length ∧
  ∀ o' H' G', Same H H' → H o' = none → PatAt C H' o' (.lst (ds.take i ++ ds.drop (i + 1))) r s G' → (∀ a ∈ G', H a = none) → Q (.ref o') H'
def exch (ds : List D) (i : Nat) : List D := (ds.set i (ds.getD (i + 1) (.leaf .non))).set (i + 1) (ds.getD i (.leaf .non))
def spMExch (C : Addr) : Sp := fun vs H Q _ => ∃ (o : Addr) (ds : List D) (r s : Str) (G : List Addr) (i : Nat), vs = [.ref o, .int (i : Int)] ∧ PatAt C H o (.lst ds) r s G ∧ PrOk ds ∧ okOrd r ∧ okLck s ∧ i + 1 < ds.length ∧
  ∀ o' H' G', Same H H' → H o' = none → PatAt C H' o' (.lst (exch ds i)) r s G' → (∀ a ∈ G', H a = none) → Q (.ref o') H'
/-- a new instance's heap -/
theorem same_ins {H : Hp} {x dx C : Addr} (hx : H x = none) (hdx : H dx = none) : Same H (upd (upd H dx (.own x)) x (.ins C dx [])) := fun b o e => by
  rw [upd_ne (ne_of_none e hx), upd_ne (ne_of_none e hdx)]
  exact e
theorem But.same {x : Addr} {H H1 H2 : Hp} (s : Same H H1) (b : But x H1 H2) (hx : H x = none) : Same H H2 := fun c o e => b c o (fun z => by
  rw [z, hx] at e
  cases e) (s c o e)
/-! ### walks of a set's two clauses -/
section
variable {w : World} {K : PySem.W.Frag} {g1 : TG} {te : TE} {vs1 : List Nat}
theorem sc2_list {g : TG} {wi1 : TI} {vs : List Nat} {σ : L2.St} {H1 : Hp} {S a : Addr} {xs : List V} {Qd : Hp → Prop} (Pv : Nat → Hp → Prop) (h0 : Pv 0 (upd H1 S (TxSet.SetTO w S []))) (hl : ∀ i H, i ≤ xs.length → Pv i H → SqL K H a xs)
    (hs : ∀ i x H, xs[i]? = some x → Pv i H → g x (wipe σ vs) H fun σ2 H2 => wipe σ2 vs = wipe σ vs ∧ wi1 σ2 H2 fun B1 H4 => ∃ V1 : Nat → Nat → Hp → Prop, (∃ m, V1 0 m H4) ∧ ∀ j k H, V1 j k H →
      (B1.stop j H ∧ Pv (i + 1) H) ∨ (B1.go j H ∧ ∃ Ny : Hp → Prop, (∀ H', Ny H' → ∃ k', k' < k ∧ V1 (j + 1) k' H') ∧ ∀ x H', B1.yld j H x H' → g1 x (wipe σ2 vs1) H' fun σ3 H5 => wipe σ3 vs1 = wipe σ2 vs1 ∧
        te σ3 H5 fun y H7 => ∃ (k : Str) (L : List Str), y = .str k ∧ H7 S = some (TxSet.SetTO w S L) ∧ L.length + 1 < scanBound ∧ Ny (upd H7 S (TxSet.SetTO w S (TxSet.ins L k))))) (hd : ∀ H, Pv xs.length H → Qd H) :
    ∃ W : Nat → Nat → Hp → Prop, (∃ m, W 0 m (upd H1 S (TxSet.SetTO w S []))) ∧ ∀ i m H, W i m H →
      ((Itl K a).stop i H ∧ Qd H) ∨ ((Itl K a).go i H ∧ ∃ Nx : Hp → Prop, (∀ H', Nx H' → ∃ m', m' < m ∧ W (i + 1) m' H') ∧ ∀ x H', (Itl K a).yld i H x H' → g x (wipe σ vs) H' fun σ2 H2 => wipe σ2 vs = wipe σ vs ∧
        wi1 σ2 H2 fun B1 H4 => ∃ V1 : Nat → Nat → Hp → Prop, (∃ m, V1 0 m H4) ∧ ∀ j k H, V1 j k H →
          (B1.stop j H ∧ Nx H) ∨ (B1.go j H ∧ ∃ Ny : Hp → Prop, (∀ H', Ny H' → ∃ k', k' < k ∧ V1 (j + 1) k' H') ∧ ∀ x H', B1.yld j H x H' → g1 x (wipe σ2 vs1) H' fun σ3 H5 => wipe σ3 vs1 = wipe σ2 vs1 ∧
            te σ3 H5 fun y H7 => ∃ (k : Str) (L : List Str), y = .str k ∧ H7 S = some (TxSet.SetTO w S L) ∧ L.length + 1 < scanBound ∧ Ny (upd H7 S (TxSet.SetTO w S (TxSet.ins L k))))) := by
  refine ⟨fun i m H => m = xs.length - i ∧ i ≤ xs.length ∧ Pv i H, ⟨xs.length, by simp, Nat.zero_le _, h0⟩, ?_⟩
  rintro i m H ⟨rfl, hi, p⟩
  have q := hl i H hi p
  by_cases hlt : i < xs.length
  · refine .inr ⟨⟨xs, xs[i], q, by simp [hlt]⟩, Pv (i + 1), fun H' p' => ⟨xs.length - (i + 1), by omega, rfl, hlt, p'⟩, fun x H' y => ?_⟩
    obtain ⟨e, y⟩ := y
    subst e
    exact hs i x _ (y xs q) p
  · have e : i = xs.length := by omega
    subst e
    exact .inl ⟨⟨xs, q, Nat.le_refl _⟩, hd H p⟩
theorem sc2_in {σ2 : L2.St} {H4 : Hp} {S b : Addr} {zs : List V} {Qd : Hp → Prop} (Pv : Nat → Hp → Prop) (h0 : Pv 0 H4) (hl : ∀ i H, i ≤ zs.length → Pv i H → SqL K H b zs)
    (hs : ∀ j x H, zs[j]? = some x → Pv j H → g1 x (wipe σ2 vs1) H fun σ3 H5 => wipe σ3 vs1 = wipe σ2 vs1 ∧
        te σ3 H5 fun y H7 => ∃ (k : Str) (L : List Str), y = .str k ∧ H7 S = some (TxSet.SetTO w S L) ∧ L.length + 1 < scanBound ∧ Pv (j + 1) (upd H7 S (TxSet.SetTO w S (TxSet.ins L k)))) (hd : ∀ H, Pv zs.length H → Qd H) :
    ∃ V1 : Nat → Nat → Hp → Prop, (∃ m, V1 0 m H4) ∧ ∀ j k H, V1 j k H →
      ((Itl K b).stop j H ∧ Qd H) ∨ ((Itl K b).go j H ∧ ∃ Ny : Hp → Prop, (∀ H', Ny H' → ∃ k', k' < k ∧ V1 (j + 1) k' H') ∧ ∀ x H', (Itl K b).yld j H x H' → g1 x (wipe σ2 vs1) H' fun σ3 H5 => wipe σ3 vs1 = wipe σ2 vs1 ∧
        te σ3 H5 fun y H7 => ∃ (k : Str) (L : List Str), y = .str k ∧ H7 S = some (TxSet.SetTO w S L) ∧ L.length + 1 < scanBound ∧ Ny (upd H7 S (TxSet.SetTO w S (TxSet.ins L k)))) := by
  refine ⟨fun i m H => m = zs.length - i ∧ i ≤ zs.length ∧ Pv i H, ⟨zs.length, by simp, Nat.zero_le _, h0⟩, ?_⟩
  rintro i m H ⟨rfl, hi, p⟩
  have q := hl i H hi p
  by_cases hlt : i < zs.length
  · refine .inr ⟨⟨zs, zs[i], q, by simp [hlt]⟩, Pv (i + 1), fun H' p' => ⟨zs.length - (i + 1), by omega, rfl, hlt, p'⟩, fun x H' y => ?_⟩
    obtain ⟨e, y⟩ := y
    subst e
    exact hs i x _ (y zs q) p
  · have e : i = zs.length := by omega
    subst e
    exact .inl ⟨⟨zs, q, Nat.le_refl _⟩, hd H p⟩
end
/-- among few names: few -/
theorem few_in : ∀ (N L : List Str), L.Nodup → (∀ z ∈ L, z ∈ N) → L.length ≤ N.length
  | N, [], _, _ => Nat.zero_le _
  | N, z :: L, hn, h => by
    obtain ⟨h1, h2⟩ := List.nodup_cons.mp hn
    have hz := h z List.mem_cons_self
    have k := few_in (N.erase z) L h2 fun y hy => (List.mem_erase_of_ne (fun e => h1 (by rw [← e]; exact hy))).mpr (h y (List.mem_cons_of_mem _ hy))
    have e := List.length_erase_of_mem hz
    have p := List.length_pos_of_mem hz
    rw [List.length_cons]
    omega
theorem dd_few {N xs : List Str} (h : ∀ z ∈ xs, z ∈ N) : (TxSet.dd xs).length ≤ N.length := few_in _ _ (TxSet.dd_nodup xs) fun z hz => h z ((TxSet.dd_mem xs z).mp hz)
theorem tot_one {ds : List D} {d : D} (h : d ∈ ds) : ((stParts d).flatMap (pre 7)).length ≤ stTot ds := by
  unfold stTot
  obtain ⟨s, t, rfl⟩ := List.append_of_mem h
  rw [List.flatMap_append, List.flatMap_cons, List.flatMap_append, List.flatMap_append, List.length_append, List.length_append]
  omega
theorem names_nm {N : List Str} {ds : List D} (h : PgN N ds) : ∀ z ∈ ds.flatMap stNames, z ∈ N := fun z hz => by
  obtain ⟨d, hd, hz⟩ := List.mem_flatMap.mp hz
  exact h.nm d hd z hz
theorem dd_app (xs ys : List Str) : TxSet.dd (xs ++ ys) = ys.foldl TxSet.ins (TxSet.dd xs) := by
  unfold TxSet.dd
  rw [List.foldl_append]
section
variable {P : Program} {w : World} {K : PySem.W.Frag} {mg : Str → Option Value} {base : Heap}
theorem scIn : FnScope ["self", "steps", "order", "lacks", "step"] ["self", "steps", "order", "lacks"] (defScope sInit) := ⟨rfl, rfl, rfl, by decide +kernel, rfl, by decide +kernel, by decide +kernel⟩
theorem ok_init {f C fP fU fF : Addr} {fd fdP fdU fdF : FuncData} (F : Fun K "__init__" "Program.__init__" sInit f fd) (CC : PCls K C)
    (FP : Fun K "check_step" "check_step" sCkStep fP fdP) (GP : FnOk P w K mg base CX0 25 fP fdP ["step"] spCkStep) (bP : Binds K fdP ["step"] []) (mP : mg "check_step" = some (.ref fP))
    (FU : Fun K "check_rules" "check_rules" sCkRules fU fdU) (GU : FnOk P w K mg base CX0 1 fU fdU ["order", "lacks"] spCkRules) (bU : Binds K fdU ["order", "lacks"] []) (mU : mg "check_rules" = some (.ref fU))
    (FF : Fun K "fresh" "fresh" sFresh fF fdF) (GF : FnOk P w K mg base CX0 40 fF fdF ["thing"] (spCopy 40)) (bF : Binds K fdF ["thing"] []) (mF : mg "fresh" = some (.ref fF)) : FnOk P w K mg base CX0 41 f fd ["self", "steps", "order", "lacks"] (spInit C) := by
  refine F.ok scIn (fun vs H Q E h => ?_) (fun cdv A outer s H vs Q E hr h => ?_)
  · obtain ⟨x, dx, v, r, s, d, rfl, _⟩ := h
    rfl
  obtain ⟨x, dx, v, r, s, ds, rfl, hx, hR, hT, ho, hc, kk⟩ := h
  have hr1 := hr.mono (show 1 ≤ 40 by decide)
  have hr25 := hr.mono (show 25 ≤ 40 by decide)
  refine ⟨_, pss_cons (ps_for PassesOwn.never rfl (pi_list (pv 1)) (pg_name (i := 4) scIn.nd rfl (Or.inl rfl)) (pss_one (ps_expr (pe_call GP hr25 rfl mP FP.kp bP .nil pass0 (pa_cons (pv 4) pa_nil)))))
    (pss_cons (ps_expr (pe_call GU hr1 rfl mU FU.kp bU .nil pass0 (pa_cons (pv 2) (pa_cons (pv 3) pa_nil))))
    (pss_cons (ps_fld (pv 0) (pe_call GF hr rfl mF FF.kp bF .nil pass0 (pa_cons (pv 1) pa_nil)) rfl)
    (pss_cons (ps_fld (pv 0) (pv 2) rfl) (pss_one (ps_fld (pv 0) (pv 3) rfl))))), ?_⟩
  obtain ⟨l, zs, rfl, hl3, hz⟩ := id hR
  refine ⟨_, rfl, l, rfl, ⟨_, SqL.of hl3⟩, ?_⟩
  refine for_list (K := K) (a := l) (xs := zs) (fun i σ' H' => Same H H' ∧ ∃ v4 : Option V, σ' = [some (.ref x), some (.ref l), some (.str r), some (.str s), v4]) ⟨Same.refl _, _, rfl⟩ (fun i σ' H' _ ⟨h, _⟩ => SqL.of (h _ _ hl3)) ?_ ?_
  · rintro i x0 σ' H4 hi ⟨hs4, v4, rfl⟩
    obtain ⟨q, hqi, hrw⟩ := hz.item hi
    exact ⟨_, rfl, x0, q, rfl, hrw.same hs4, hT.st q (List.mem_of_getElem? hqi), fun H5 hs5 => ⟨hs4.trans hs5, _, rfl⟩⟩
  · rintro σ' H1 ⟨hs1, v4, rfl⟩
    refine ⟨_, rfl, _, rfl, r, s, rfl, ho, hc, fun H2 hs2 => ?_⟩
    have hs12 := hs1.trans hs2
    refine ⟨_, rfl, .ref l, .lst ds, 34, rfl, by decide, hR.same hs12, hT.fits, fun u H3 G hs3 hr3 hG => ?_⟩
    have hs123 := hs12.trans hs3
    have hx3 := hs123 _ _ hx
    refine ⟨_, rfl, x, C, dx, [], rfl, hx3, CC.cl, CC.nP, (by show 0 < 1000; decide), _, rfl, _, rfl, x, C, dx, _, rfl, upd_same, CC.cl, CC.nO, (by show 1 < 1000; decide), _, rfl, _, rfl, x, C, dx, _, rfl, upd_same, CC.cl, CC.nL, (by show 2 < 1000; decide), ?_⟩
    have hb : But x H3 (upd (upd (upd H3 x (.ins C dx (putF "_steps" u []))) x (.ins C dx (putF "_order" (.str r) (putF "_steps" u [])))) x (.ins C dx (pfs u r s))) := fun b o n e => by
      rw [upd_ne n, upd_ne n, upd_ne n]
      exact e
    exact kk u _ G ((But.of hs123).trans hb) upd_same (hr3.lt (.ins hx3 hb)) fun a ha => hs12.free (hG a ha)
theorem scGp : FnScope ["self"] ["self"] (defScope sGPart) := ⟨rfl, rfl, rfl, by decide +kernel, rfl, by decide +kernel, by decide +kernel⟩
theorem ok_gpart {f C fF : Addr} {fd fdF : FuncData} (F : Fun K "steps" "Program.steps" sGPart f fd) (CC : PCls K C)
    (FF : Fun K "fresh" "fresh" sFresh fF fdF) (GF : FnOk P w K mg base CX0 40 fF fdF ["thing"] (spCopy 40)) (bF : Binds K fdF ["thing"] []) (mF : mg "fresh" = some (.ref fF)) : FnOk P w K mg base CX0 41 f fd ["self"] (spGPart C) := by
  refine F.ok scGp (fun vs H Q E h => ?_) (fun cdv A outer s H vs Q E hr h => ?_)
  · obtain ⟨o, d, r, s, G, rfl, _⟩ := h
    rfl
  obtain ⟨o, d, r, s, G, rfl, ⟨dx, v, ho, hR⟩, hT, kk⟩ := h
  refine ⟨_, pss_one (ps_ret (pe_call GF hr rfl mF FF.kp bF .nil pass0 (pa_cons (pe_fld (pv 0) rfl) pa_nil))), ?_⟩
  exact ⟨_, rfl, o, C, dx, _, _, rfl, ho, CC.cl, CC.nP, pfs_part _ _ _, v, d, 34, rfl, by decide, hR.rw, hT, fun u H3 G3 hs3 hr3 hG => kk u H3 G3 hs3 hr3 hG⟩
theorem scGo : FnScope ["self"] ["self"] (defScope sGOrd) := ⟨rfl, rfl, rfl, by decide +kernel, rfl, by decide +kernel, by decide +kernel⟩
theorem ok_gord {f C : Addr} {fd : FuncData} (F : Fun K "order" "Program.order" sGOrd f fd) (CC : PCls K C) : FnOk P w K mg base CX0 1 f fd ["self"] (spGOrd C) := by
  refine F.ok scGo (fun vs H Q E h => ?_) (fun cdv A outer s H vs Q E hr h => ?_)
  · obtain ⟨o, d, r, s, G, rfl, _⟩ := h
    rfl
  obtain ⟨o, d, r, s, G, rfl, ⟨dx, v, ho, hR⟩, kk⟩ := h
  exact ⟨_, pss_one (ps_ret (pe_fld (pv 0) rfl)), _, rfl, o, C, dx, _, _, rfl, ho, CC.cl, CC.nO, pfs_order _ _ _, kk⟩
theorem scGl : FnScope ["self"] ["self"] (defScope sGLck) := ⟨rfl, rfl, rfl, by decide +kernel, rfl, by decide +kernel, by decide +kernel⟩
theorem ok_glck {f C : Addr} {fd : FuncData} (F : Fun K "lacks" "Program.lacks" sGLck f fd) (CC : PCls K C) : FnOk P w K mg base CX0 1 f fd ["self"] (spGLck C) := by
  refine F.ok scGl (fun vs H Q E h => ?_) (fun cdv A outer s H vs Q E hr h => ?_)
  · obtain ⟨o, d, r, s, G, rfl, _⟩ := h
    rfl
  obtain ⟨o, d, r, s, G, rfl, ⟨dx, v, ho, hR⟩, kk⟩ := h
  exact ⟨_, pss_one (ps_ret (pe_fld (pv 0) rfl)), _, rfl, o, C, dx, _, _, rfl, ho, CC.cl, CC.nL, pfs_lacks _ _ _, kk⟩
theorem scMn : FnScope ["self", "step", "name"] ["self"] (defScope sMNames) := ⟨rfl, rfl, rfl, by decide +kernel, rfl, by decide +kernel, by decide +kernel⟩
theorem ok_mnames {f C fN : Addr} {fd fdN : FuncData} (F : Fun K "names" "Program.names" sMNames f fd) (CC : PCls K C) (T : Txt K mg) (zS : mg "sorted" = none)
    (FN : Fun K "names_of_step" "names_of_step" sNoS fN fdN) (GN : FnOk P w K mg base CX0 11 fN fdN ["step"] spNoS) (bN : Binds K fdN ["step"] []) (mN : mg "names_of_step" = some (.ref fN)) : FnOk P w K mg base CX0 12 f fd ["self"] (spMNames C) := by
  refine F.ok scMn (fun vs H Q E h => ?_) (fun cdv A outer s H vs Q E hr h => ?_)
  · obtain ⟨o, ds, r, s, G, N, rfl, _⟩ := h
    rfl
  obtain ⟨o, ds, r, s, G, N, rfl, ⟨dx, v, ho, hR⟩, hT, kk⟩ := h
  refine ⟨_, pss_one (ps_ret (pe_callB (by exact TxSet.call_sortT rfl) (by rfl) zS boot_sorted (pa_cons (by exact (TxSet.pe_sc2 (wi1 := iList K (tCall spNoS [] E0 (tCons (tVar 1) tNil))) (mine := [("step", 1), ("name", 2)]) (vs1 := [2]) (g := gName 1) (g1 := gName 2) rfl scMn.nd (pi_list (pe_fld (pv 0) rfl)) (blkOk_by (N := ["self", "step", "name"]) (sc := defScope sMNames) (by decide +kernel)) (by decide) (fun _ _ _ _ _ => pg_name (i := 1) scMn.nd rfl (Or.inl rfl))
      (fun _ _ _ _ _ => pi_list (pe_call GN hr rfl mN FN.kp bN .nil pass0 (pa_cons (pv 1) pa_nil))) (fun _ _ _ _ _ => pg_name (i := 2) scMn.nd rfl (Or.inl rfl)) (fun _ _ _ _ _ => pv 2))) pa_nil))), ?_⟩
  obtain ⟨l, zs, F0, rfl, hl, hz, hnl, rfl⟩ := hR
  refine ⟨_, rfl, o, C, dx, _, _, rfl, ho, CC.cl, CC.nP, pfs_part _ _ _, l, rfl, ⟨_, SqL.of hl⟩, fun S0 hS0 => ?_⟩
  have sb : scanBound = 4096 := rfl
  have small : ∀ i, (TxSet.dd ((ds.take i).flatMap stNames)).length ≤ 26 := fun i => Nat.le_trans (dd_few (N := N) fun z hz => by
    obtain ⟨d, hd, hz⟩ := List.mem_flatMap.mp hz
    exact hT.nm d (List.mem_of_mem_take hd) z hz) hT.nl
  refine sc2_list (K := K) (a := l) (xs := zs) (fun i H' => Same H H' ∧ H' S0 = some (TxSet.SetTO w S0 (TxSet.dd ((ds.take i).flatMap stNames)))) ⟨same_new hS0 _, upd_same⟩ (fun i H' _ ⟨h, _⟩ => SqL.of (h _ _ hl)) ?_ ?_
  · rintro i x H2 hi ⟨hs2, hS2⟩
    obtain ⟨d, Gd, hd, hrd, hGd, _⟩ := hz.item hi
    have hdm := List.mem_of_getElem? hd
    refine ⟨rfl, _, rfl, x, d, rfl, hrd.rw.same hs2, hT.st d hdm, Nat.le_trans (tot_one hdm) (Nat.le_trans hT.tot (by decide)), fun l2 H3 hs3 hl20 hl2 => ⟨l2, rfl, ⟨_, SqL.of hl2⟩, ?_⟩⟩
    have n2S : l2 ≠ S0 := fun z => by
      rw [z, hS2] at hl20
      cases hl20
    refine sc2_in (K := K) (b := l2) (zs := (stNames d).map V.str) (fun j H' => Same H H' ∧ H' l2 = some (.lst ((stNames d).map V.str)) ∧ H' S0 = some (TxSet.SetTO w S0 (TxSet.dd ((ds.take i).flatMap stNames ++ (stNames d).take j)))) ⟨hs2.trans hs3, hl2, (by rw [List.take_zero, List.append_nil]; exact hs3 _ _ hS2)⟩ (fun j H' _ ⟨_, h, _⟩ => SqL.of h) ?_ ?_
    · rintro j y H4 hj ⟨hs4, hl4, hS4⟩
      rw [List.getElem?_map] at hj
      obtain ⟨z, hzj, rfl⟩ : ∃ z, (stNames d)[j]? = some z ∧ V.str z = y := by
        cases e : (stNames d)[j]? with
        | none =>
          rw [e] at hj
          cases hj
        | some z =>
          rw [e] at hj
          exact ⟨z, rfl, Option.some.inj hj⟩
      refine ⟨rfl, _, rfl, z, _, rfl, hS4, ?_, same_put hs4 hS0, (by rw [upd_ne n2S]; exact hl4), ?_⟩
      · have := dd_few (N := N) (xs := (ds.take i).flatMap stNames ++ (stNames d).take j) fun y hy => by
          rcases List.mem_append.mp hy with hy | hy
          · obtain ⟨e, he, hy⟩ := List.mem_flatMap.mp hy
            exact hT.nm e (List.mem_of_mem_take he) y hy
          · exact hT.nm d hdm y (List.mem_of_mem_take hy)
        have := hT.nl
        omega
      · rw [upd_same, List.take_add_one, hzj, ← List.append_assoc]
        show _ = some (TxSet.SetTO w S0 (TxSet.dd (((ds.take i).flatMap stNames ++ (stNames d).take j) ++ [z])))
        rw [TxSet.dd_more]
        rfl
    · rintro H4 ⟨hs4, _, hS4⟩
      rw [List.length_map, List.take_length, ← take_flat hd] at hS4
      exact ⟨hs4, hS4⟩
  · rintro H2 ⟨hs2, hS2⟩
    rw [hz.len] at hS2
    have sm := small ds.length
    rw [List.take_length] at hS2 sm
    exact ⟨S0, _, rfl, hS2, by omega, fun ys p hp hso hp0 => kk p ys _ (hs2.trans (same_new hp0 _)) (hs2.free hp0) upd_same hp hso⟩
theorem scMl : FnScope ["self"] ["self"] (defScope sMLen) := ⟨rfl, rfl, rfl, by decide +kernel, rfl, by decide +kernel, by decide +kernel⟩
theorem ok_mlen {f C : Addr} {fd : FuncData} (F : Fun K "__len__" "Program.__len__" sMLen f fd) (CC : PCls K C) (T : Txt K mg) : FnOk P w K mg base CX0 1 f fd ["self"] (spMLen C) := by
  refine F.ok scMl (fun vs H Q E h => ?_) (fun cdv A outer s H vs Q E hr h => ?_)
  · obtain ⟨o, d, r, s, G, rfl, _⟩ := h
    rfl
  obtain ⟨o, ds, r, s, G, rfl, ⟨dx, v, ho, hR⟩, kk⟩ := h
  refine ⟨_, pss_one (ps_ret (pe_callB call_len_seq (by rfl) T.len PySem.boot_len (pa_cons (pe_fld (pv 0) rfl) pa_nil))), ?_⟩
  obtain ⟨l, zs, F0, rfl, hl, hz, hnl, rfl⟩ := hR
  refine ⟨_, rfl, o, C, dx, _, _, rfl, ho, CC.cl, CC.nP, pfs_part _ _ _, l, zs, rfl, .inl (SqL.of hl), ?_⟩
  rw [hz.len]
  exact kk
theorem scMw : FnScope ["self", "order"] ["self", "order"] (defScope sMWith) := ⟨rfl, rfl, rfl, by decide +kernel, rfl, by decide +kernel, by decide +kernel⟩
theorem ok_mwith {f C fI : Addr} {fd fdI : FuncData} (F : Fun K "with_order" "Program.with_order" sMWith f fd) (CC : PCls K C) (M : Mk K C fI) (mC : mg "Program" = some (.ref C))
    (GI : FnOk P w K mg base CX0 41 fI fdI ["self", "steps", "order", "lacks"] (spInit C)) (bI : Binds K fdI ["self", "steps", "order", "lacks"] []) : FnOk P w K mg base CX0 43 f fd ["self", "order"] (spMWith C) := by
  refine F.ok scMw (fun vs H Q E h => ?_) (fun cdv A outer s H vs Q E hr h => ?_)
  · obtain ⟨o, d, r, s, r', G, rfl, _⟩ := h
    rfl
  obtain ⟨o, d, r, s, r', G, rfl, ⟨dx, v, ho, hR⟩, hT, hr', hs', kk⟩ := h
  refine ⟨_, pss_one (ps_ret (pe_make M GI hr rfl mC bI .nil pass0 (pa_cons (pe_fld (pv 0) rfl) (pa_cons (pv 1) (pa_cons (pe_fld (pv 0) rfl) pa_nil))))), ?_⟩
  refine ⟨_, rfl, o, C, dx, _, _, rfl, ho, CC.cl, CC.nP, pfs_part _ _ _, _, rfl, _, rfl, o, C, dx, _, _, rfl, ho, CC.cl, CC.nL, pfs_lacks _ _ _, ?_⟩
  intro x dx2 hx hdx hne
  have st := same_ins (C := C) hx hdx
  refine ⟨x, dx2, v, r', s, d, rfl, upd_same, hR.rw.same st, hT, hr', hs', fun u H' G' hb hx' hr2 hG => ⟨rfl, kk x H' G' (But.same st hb hx) hx ⟨dx2, u, hx', hr2⟩ fun a ha => st.free (hG a ha)⟩⟩
end
end K02
set_option Elab.async false
set_option linter.all false
set_option maxRecDepth 100000
set_option maxHeartbeats 4000000
namespace K02
open PySem L2 PyProof.Rows
theorem cutV_pre (xs : List V) (m : Nat) : cutV xs none (some (m : Int)) = xs.take m := by
  unfold cutV
  rw [HT.sIx_none, HT.sIx_nat, List.drop_zero, Nat.sub_zero]
  rcases Nat.le_total m xs.length with h | h
  · rw [Nat.min_eq_left h]
  · rw [Nat.min_eq_right h, List.take_of_length_le (Nat.le_refl _), List.take_of_length_le h]
theorem cutV_post (xs : List V) (m : Nat) : cutV xs (some (m : Int)) none = xs.drop m := by
  unfold cutV
  rw [HT.sIx_none, HT.sIx_nat]
  rcases Nat.le_total m xs.length with h | h
  · rw [Nat.min_eq_left h]
    refine List.take_of_length_le ?_
    rw [List.length_drop]
    exact Nat.le_refl _
  · rw [Nat.min_eq_right h, Nat.sub_self, List.take_zero, List.drop_of_length_le h]
theorem RWs.take {H : Hp} : ∀ {ds : List D} {xs : List V} (i : Nat), RWs H ds xs → RWs H (ds.take i) (xs.take i)
  | [], xs, i, h => by
    have e : xs = [] := h
    rw [e, List.take_nil, List.take_nil]
    rfl
  | d :: ds, xs, 0, h => rfl
  | d :: ds, xs, i + 1, h => by
    obtain ⟨x, ys, rfl, h1, h2⟩ := h
    exact ⟨x, _, rfl, h1, h2.take i⟩
theorem RWs.drop {H : Hp} : ∀ {ds : List D} {xs : List V} (i : Nat), RWs H ds xs → RWs H (ds.drop i) (xs.drop i)
  | [], xs, i, h => by
    have e : xs = [] := h
    rw [e, List.drop_nil, List.drop_nil]
    rfl
  | d :: ds, xs, 0, h => h
  | d :: ds, xs, i + 1, h => by
    obtain ⟨x, ys, rfl, h1, h2⟩ := h
    exact h2.drop i
theorem RWs.put {H : Hp} {d : D} {x : V} (hx : RW H d x) : ∀ {ds : List D} {xs : List V} (i : Nat), RWs H ds xs → RWs H (ds.set i d) (xs.set i x)
  | [], xs, i, h => by
    have e : xs = [] := h
    rw [e]
    rfl
  | e :: ds, xs, 0, h => by
    obtain ⟨y, ys, rfl, h1, h2⟩ := h
    exact ⟨x, ys, rfl, hx, h2⟩
  | e :: ds, xs, i + 1, h => by
    obtain ⟨y, ys, rfl, h1, h2⟩ := h
    exact ⟨y, _, rfl, h1, RWs.put hx i h2⟩
theorem PrOk.out {ds : List D} (h : PrOk ds) (i : Nat) : PrOk (ds.take i ++ ds.drop (i + 1)) := by
  refine ⟨?_, fun d hd => ?_⟩
  · rw [List.length_append, List.length_take, List.length_drop]
    have := h.len
    omega
  · rcases List.mem_append.mp hd with z | z
    · exact h.st d (List.mem_of_mem_take z)
    · exact h.st d (List.mem_of_mem_drop z)
theorem PrOk.exch {ds : List D} (h : PrOk ds) {i : Nat} (hi : i + 1 < ds.length) : PrOk (exch ds i) := by
  have g : ∀ j, j < ds.length → ds.getD j (.leaf .non) ∈ ds := fun j hj => by
    rw [List.getD_eq_getElem?_getD, List.getElem?_eq_getElem hj]
    exact List.getElem_mem hj
  refine ⟨?_, fun d hd => ?_⟩
  · unfold K02.exch
    rw [List.length_set, List.length_set]
    exact h.len
  · rcases List.mem_or_eq_of_mem_set hd with z | rfl
    · rcases List.mem_or_eq_of_mem_set z with z | rfl
      · exact h.st d z
      · exact h.st _ (g _ hi)
    · exact h.st _ (g _ (by omega))
section
variable {P : Program} {w : World} {K : PySem.W.Frag} {mg : Str → Option Value} {base : Heap}
theorem scMo : FnScope ["self", "index"] ["self", "index"] (defScope sMWout) := ⟨rfl, rfl, rfl, by decide +kernel, rfl, by decide +kernel, by decide +kernel⟩
theorem ok_mwout {f C fI : Addr} {fd fdI : FuncData} (F : Fun K "without" "Program.without" sMWout f fd) (CC : PCls K C) (T : Txt K mg) (M : Mk K C fI) (mC : mg "Program" = some (.ref C))
    (GI : FnOk P w K mg base CX0 41 fI fdI ["self", "steps", "order", "lacks"] (spInit C)) (bI : Binds K fdI ["self", "steps", "order", "lacks"] []) : FnOk P w K mg base CX0 43 f fd ["self", "index"] (spMWout C) := by
  refine F.ok scMo (fun vs H Q E h => ?_) (fun cdv A outer s H vs Q E hr h => ?_)
  · obtain ⟨o, d, r, s, G, i, rfl, _⟩ := h
    rfl
  obtain ⟨o, ds, r, s, G, i, rfl, ⟨dx, v, ho, hR⟩, hT, hro, hlo, hi, kk⟩ := h
  refine ⟨_, pss_cons (ps_if (pt_not (pt_chain op_le op_lt pe_int (pv 1) (pe_callB call_len_seq (by rfl) T.len PySem.boot_len (pa_cons (pe_fld (pv 0) rfl) pa_nil)))) pss_never pss_nil)
    (pss_one (ps_ret (pe_make M GI hr rfl mC bI .nil pass0 (pa_cons (pe_op op_cat (pe_slice sl_list (pe_fld (pv 0) rfl) po_none (po_some (pv 1))) (pe_slice sl_list (pe_fld (pv 0) rfl) (po_some (pe_op op_add (pv 1) pe_int)) po_none)) (pa_cons (pe_fld (pv 0) rfl) (pa_cons (pe_fld (pv 0) rfl) pa_nil)))))), ?_⟩
  obtain ⟨l, zs, F0, rfl, hl, hz, hnl, rfl⟩ := id hR
  have hlen := hz.len
  refine ⟨_, rfl, _, _, rfl, rfl, _, rfl, ?_⟩
  refine ifT (decide_eq_true (by omega)) ⟨_, rfl, o, C, dx, _, _, rfl, ho, CC.cl, CC.nP, pfs_part _ _ _, l, zs, rfl, .inl (SqL.of hl), _, _, rfl, rfl, _, rfl, ?_⟩
  refine ifF (by rw [decide_eq_true (by omega)]; rfl) ?_
  refine ⟨_, rfl, o, C, dx, _, _, rfl, ho, CC.cl, CC.nP, pfs_part _ _ _, _, rfl, _, rfl, l, zs, rfl, SqL.of hl, fun p1 hp1 => ?_⟩
  rw [cutV_pre]
  have s1 := same_new hp1 (.lst (zs.take i))
  refine ⟨_, rfl, o, C, dx, _, _, rfl, s1 _ _ ho, CC.cl, CC.nP, pfs_part _ _ _, _, rfl, _, _, rfl, rfl, _, rfl, l, zs, rfl, SqL.of (s1 _ _ hl), fun p2 hp2 => ?_⟩
  rw [show ((i : Int) + 1) = ((i + 1 : Nat) : Int) by omega, cutV_post]
  have s2 := same_new hp2 (.lst (zs.drop (i + 1)))
  have sz : (zs.take i).length + (zs.drop (i + 1)).length ≤ 1000 := by
    rw [List.length_take, List.length_drop]
    have := hT.len
    omega
  refine ⟨p1, p2, _, _, rfl, rfl, s2 _ _ upd_same, upd_same, Nat.le_trans sz (by decide), fun p3 hp3 => ?_⟩
  have s3 := same_new hp3 (.lst (zs.take i ++ zs.drop (i + 1)))
  have s13 := (s1.trans s2).trans s3
  have ho3 := s13 _ _ ho
  refine ⟨_, rfl, o, C, dx, _, _, rfl, ho3, CC.cl, CC.nO, pfs_order _ _ _, _, rfl, o, C, dx, _, _, rfl, ho3, CC.cl, CC.nL, pfs_lacks _ _ _, ?_⟩
  intro x dx2 hx hdx hne
  have st := same_ins (C := C) hx hdx
  have hzr := hz.rw
  refine ⟨x, dx2, .ref p3, r, s, _, rfl, upd_same, ⟨p3, _, rfl, st _ _ upd_same, ((hzr.take i).app (hzr.drop (i + 1))).same (s13.trans st)⟩, hT.out i, hro, hlo, fun u H' G' hb hx' hr2 hG => ⟨rfl, ?_⟩⟩
  exact kk x H' G' (s13.trans (But.same st hb hx)) (s13.free hx) ⟨dx2, u, hx', hr2⟩ fun a ha => s13.free (st.free (hG a ha))
theorem scMx : FnScope ["self", "index", "steps"] ["self", "index"] (defScope sMExch) := ⟨rfl, rfl, rfl, by decide +kernel, rfl, by decide +kernel, by decide +kernel⟩
theorem ok_mexch {f C fI : Addr} {fd fdI : FuncData} (F : Fun K "exchanged" "Program.exchanged" sMExch f fd) (CC : PCls K C) (T : Txt K mg) (M : Mk K C fI) (mC : mg "Program" = some (.ref C))
    (GI : FnOk P w K mg base CX0 41 fI fdI ["self", "steps", "order", "lacks"] (spInit C)) (bI : Binds K fdI ["self", "steps", "order", "lacks"] []) : FnOk P w K mg base CX0 43 f fd ["self", "index"] (spMExch C) := by
  refine F.ok scMx (fun vs H Q E h => ?_) (fun cdv A outer s H vs Q E hr h => ?_)
  · obtain ⟨o, d, r, s, G, i, rfl, _⟩ := h
    rfl
  obtain ⟨o, ds, r, s, G, i, rfl, ⟨dx, v, ho, hR⟩, hT, hro, hlo, hi, kk⟩ := h
  refine ⟨_, pss_cons (ps_if (pt_not (pt_chain op_le op_lt pe_int (pv 1) (pe_op op_sub (pe_callB call_len_seq (by rfl) T.len PySem.boot_len (pa_cons (pe_fld (pv 0) rfl) pa_nil)) pe_int))) pss_never pss_nil)
    (pss_cons (ps_set (i := 2) scMx.nd rfl (Or.inl rfl) (pe_callTy call_list_of (by rfl) T.list boot_list (pa_cons (pe_fld (pv 0) rfl) pa_nil)))
    (Evl.pss_cut (ps_asg (pe_tup (pa_cons (pe_ix ix_list (pv 2) (pe_op op_add (pv 1) pe_int) (fun _ _ => rfl)) (pa_cons (pe_ix ix_list (pv 2) (pv 1) (fun _ _ => rfl)) pa_nil))) (pg_tup rfl (pgs_cons (pg_sub (pv 2) (pv 1) set_list) (pgs_cons (pg_sub (pv 2) (pe_op op_add (pv 1) pe_int) set_list) pgs_nil))))
    (pss_one (ps_ret (pe_make M GI hr rfl mC bI .nil pass0 (pa_cons (pv 2) (pa_cons (pe_fld (pv 0) rfl) (pa_cons (pe_fld (pv 0) rfl) pa_nil)))))))), ?_⟩
  obtain ⟨l, zs, F0, rfl, hl, hz, hnl, rfl⟩ := id hR
  have hlen := hz.len
  have hzr := hz.rw
  have e1 := List.getElem?_eq_getElem (show i < zs.length by omega)
  have e2 := List.getElem?_eq_getElem (show i + 1 < zs.length by omega)
  generalize zs[i]'(by omega) = x1 at e1
  generalize zs[i + 1]'(by omega) = x2 at e2
  obtain ⟨d1, g1, w1⟩ := hzr.item e1
  obtain ⟨d2, g2, w2⟩ := hzr.item e2
  refine ⟨_, rfl, _, _, rfl, rfl, _, rfl, ?_⟩
  refine ifT (decide_eq_true (by omega)) ⟨_, rfl, o, C, dx, _, _, rfl, ho, CC.cl, CC.nP, pfs_part _ _ _, l, zs, rfl, .inl (SqL.of hl), _, _, rfl, rfl, _, _, rfl, rfl, _, rfl, ?_⟩
  refine ifF (by rw [decide_eq_true (by omega)]; rfl) ?_
  refine ⟨_, rfl, o, C, dx, _, _, rfl, ho, CC.cl, CC.nP, pfs_part _ _ _, l, zs, rfl, .inl (SqL.of hl), fun p1 hp1 => ?_⟩
  have s1 := same_new hp1 (.lst zs)
  have ei : ((i : Int) + 1) = ((i + 1 : Nat) : Int) := by omega
  have q1 : (upd H p1 (.lst zs)) p1 = some (.lst zs) := upd_same
  refine ⟨fun σ' H' => Same H H' ∧ H' p1 = some (.lst ((zs.set i x2).set (i + 1) x1)) ∧ σ' = [some (.ref o), some (.int (i : Int)), some (.ref p1)], ?_, ?_⟩
  · refine ⟨_, rfl, _, rfl, _, _, rfl, rfl, p1, zs, _, x2, rfl, rfl, SqL.of q1, (by rw [ei]; exact atI_nat e2), _, rfl, _, rfl, p1, zs, _, x1, rfl, rfl, SqL.of q1, atI_nat e1, by show 2 ≤ sizeLine; decide, fun t ht => ?_⟩
    have s2 := same_new ht (.tup [x2, x1])
    refine ⟨t, _, rfl, SqT.of upd_same, rfl, _, _, rfl, _, rfl, _, rfl, p1, zs, _, i, rfl, rfl, s2 _ _ q1, Evl.ixN_nat (by omega), ?_⟩
    refine ⟨_, _, rfl, _, rfl, _, rfl, _, _, rfl, rfl, p1, zs.set i x2, _, i + 1, rfl, rfl, upd_same, (by rw [ei]; exact Evl.ixN_nat (by rw [List.length_set]; omega)), rfl, ?_⟩
    exact ⟨same_put (same_put (s1.trans s2) hp1) hp1, upd_same, rfl⟩
  rintro _ H3 ⟨s3, q3, rfl⟩
  have ho3 := s3 _ _ ho
  refine ⟨_, rfl, _, rfl, o, C, dx, _, _, rfl, ho3, CC.cl, CC.nO, pfs_order _ _ _, _, rfl, o, C, dx, _, _, rfl, ho3, CC.cl, CC.nL, pfs_lacks _ _ _, ?_⟩
  intro x dx2 hx hdx hne
  have st := same_ins (C := C) hx hdx
  have ex : exch ds i = (ds.set i d2).set (i + 1) d1 := by
    unfold exch
    rw [List.getD_eq_getElem?_getD, List.getD_eq_getElem?_getD, g1, g2]
    rfl
  refine ⟨x, dx2, .ref p1, r, s, exch ds i, rfl, upd_same, ⟨p1, _, rfl, st _ _ q3, ?_⟩, hT.exch hi, hro, hlo, fun u H' G' hb hx' hr2 hG => ⟨rfl, ?_⟩⟩
  · rw [ex]
    exact (RWs.put w1 (i + 1) (RWs.put w2 i hzr)).same (s3.trans st)
  · exact kk x H' G' (s3.trans (But.same st hb hx)) (s3.free hx) ⟨dx2, u, hx', hr2⟩ fun a ha => s3.free (st.free (hG a ha))
end
end K02
set_option Elab.async false
set_option linter.all false
set_option maxRecDepth 100000
set_option maxHeartbeats 4000000
namespace K02
open PySem L2 PyProof.Rows
def spTpParts : Sp := fun vs H Q _ => ∃ (v : V) (ds : List D) (H0 : Hp), vs = [v] ∧ RW H0 (.lst ds) v ∧ Same H0 H ∧ (∀ d ∈ ds, StOk d) ∧ (ds.flatMap stParts).length ≤ 900 ∧ ∀ l xs H', Same H H' → H l = none → H' l = some (.lst xs) → RWs H0 (ds.flatMap stParts) xs → Q (.ref l) H'
def spTpNames : Sp := fun vs H Q _ => ∃ (v : V) (ds : List D) (N : List Str), vs = [v] ∧ RW H (.lst ds) v ∧ PgN N ds ∧
  ∀ (l : Addr) (ys : List Str) H', Same H H' → H l = none → H' l = some (.lst (ys.map V.str)) → ys.Perm (TxSet.dd (ds.flatMap stNames)) → sortedS ys = true → Q (.ref l) H'
theorem set_small (d : D) : (stSet d).length ≤ 1 := by
  unfold stSet
  split
  · split <;> simp
  · simp
theorem sets_small (ds : List D) (i : Nat) : ((ds.take i).flatMap stSet).length ≤ ds.length := by
  have go : ∀ es : List D, (es.flatMap stSet).length ≤ es.length := fun es => by
    induction es with
    | nil => exact Nat.le_refl _
    | cons e es ih =>
      rw [List.flatMap_cons, List.length_append, List.length_cons]
      have := set_small e
      omega
  have := go (ds.take i)
  rw [List.length_take] at this
  omega
theorem step_parts {d : D} (h : StOk d) : ∀ q ∈ stParts d, PtOk 7 q := by
  rcases h.three with ⟨z, t, e, _, _⟩ | ⟨s0, r, x, _, _, _, _, _, _, h4⟩
  · rw [e, parts_set]
    exact fun _ z => nomatch z
  · exact h4
theorem parts_small : ∀ {qs : List D}, (∀ q ∈ qs, PtOk 7 q) → qs.length ≤ (qs.flatMap (pre 7)).length
  | [], _ => Nat.le_refl _
  | q :: qs, h => by
    rw [List.flatMap_cons, List.length_append, List.length_cons]
    have := parts_small fun y hy => h y (List.mem_cons_of_mem q hy)
    have : 1 ≤ (pre 7 q).length := by
      show 1 ≤ (q :: _).length
      rw [List.length_cons]
      omega
    omega
theorem law_names {ds : List D} {z : Str} : z ∈ ds.flatMap stNames ↔ z ∈ ds.flatMap stSet ++ (ds.flatMap stParts).flatMap (bnd 7) := by
  constructor
  · intro h
    obtain ⟨d, hd, hz⟩ := List.mem_flatMap.mp h
    rcases List.mem_append.mp hz with hz | hz
    · exact List.mem_append_left _ (List.mem_flatMap.mpr ⟨d, hd, hz⟩)
    · obtain ⟨q, hq, hz⟩ := List.mem_flatMap.mp hz
      exact List.mem_append_right _ (List.mem_flatMap.mpr ⟨q, List.mem_flatMap.mpr ⟨d, hd, hq⟩, hz⟩)
  · intro h
    rcases List.mem_append.mp h with h | h
    · obtain ⟨d, hd, hz⟩ := List.mem_flatMap.mp h
      exact List.mem_flatMap.mpr ⟨d, hd, List.mem_append_left _ hz⟩
    · obtain ⟨q, hq, hz⟩ := List.mem_flatMap.mp h
      obtain ⟨d, hd, hq⟩ := List.mem_flatMap.mp hq
      exact List.mem_flatMap.mpr ⟨d, hd, List.mem_append_right _ (List.mem_flatMap.mpr ⟨q, hq, hz⟩)⟩
def spBound (k : Nat) : Sp := fun vs H Q _ => ∃ (v : V) (d : D) (m : Nat), vs = [v] ∧ RW H d v ∧ PtOk m d ∧ m + 1 ≤ k ∧ (pre m d).length ≤ 1000 ∧ ∀ l H', Same H H' → H l = none → H' l = some (.lst ((bnd m d).map V.str)) → Q (.ref l) H'
theorem RW.ent {H : Hp} {row : Bool} {q : Str × D × D} {x : V} (h : RW H (ent row q) x) : ∃ a xs y, x = .ref a ∧ H a = some (.tup xs) ∧ atI xs (-2) = some y ∧ RW H q.2.1 y := by
  cases row with
  | true =>
    obtain ⟨a, zs, rfl, ha, z1, zs1, rfl, h1, z2, zs2, rfl, h2, hn⟩ := h
    obtain rfl : zs2 = [] := hn
    exact ⟨a, _, z1, rfl, ha, rfl, h1⟩
  | false =>
    obtain ⟨a, zs, rfl, ha, z0, zs0, rfl, h0, z1, zs1, rfl, h1, z2, zs2, rfl, h2, hn⟩ := h
    obtain rfl : zs2 = [] := hn
    exact ⟨a, _, z1, rfl, ha, rfl, h1⟩
theorem bnd_flat {m : Nat} {d : D} : bnd (m + 1) d = own d ++ (kids d).flatMap (bnd m) := by
  show (d :: (kids d).flatMap (pre m)).flatMap own = _
  rw [List.flatMap_cons, List.flatMap_assoc]
  rfl
section
variable {P : Program} {w : World} {K : PySem.W.Frag} {mg : Str → Option Value} {base : Heap}
theorem bound_none {f : Addr} {fd : FuncData} {ps : List Str} : FnOk P w K mg base CX0 0 f fd ps (spBound 0) := none_of fun vs H Q E h => by
  obtain ⟨v, d, m, _, _, _, h1, _⟩ := h
  omega

theorem scBo : FnScope ["piece", "found", "one"] ["piece"] (defScope sBound) := ⟨rfl, rfl, rfl, by decide +kernel, rfl, by decide +kernel, by decide +kernel⟩
theorem ok_bound {f : Addr} {fd : FuncData} {k : Nat} (F : Fun K "_law_ta_bound_names" "_law_ta_bound_names" sBound f fd) (T : Txt K mg)
    (G : FnOk P w K mg base CX0 k f fd ["piece"] (spBound k)) (b : Binds K fd ["piece"] []) (m : mg "_law_ta_bound_names" = some (.ref f)) : FnOk P w K mg base CX0 (k + 1) f fd ["piece"] (spBound (k + 1)) := by
  refine F.ok scBo (fun vs H Q E h => ?_) (fun cdv A outer s H vs Q E hr h => ?_)
  · obtain ⟨v, d, m, rfl, _⟩ := h
    rfl
  obtain ⟨v, d, mm, rfl, hR, hT, hk, hl, kk⟩ := h
  refine ⟨_, pss_cons (ps_if (pt_cmpR op_eq (pe_ix ix_tup (pv 0) pe_int (fun _ _ => rfl)) pe_str (nomark _)) (pss_one (ps_ret (pe_lst pa_nil))) pss_nil)
    (pss_cons (ps_if (pt_cmpR op_eq (pe_ix ix_tup (pv 0) pe_int (fun _ _ => rfl)) pe_str (nomark _)) (pss_one (ps_ret (pe_lst (pa_cons (pe_ix ix_tup (pv 0) pe_int (fun _ _ => rfl)) pa_nil)))) pss_nil)
    (Evl.pss_cut (ps_set (i := 1) scBo.nd rfl (Or.inl rfl) (pe_ifExp (pt_cmpR op_isN (pe_ix ix_tup (pv 0) pe_int (fun _ _ => rfl)) pe_non (nomark _)) (pe_lst pa_nil) (pe_lst (pa_cons (pe_ix ix_tup (pv 0) pe_int (fun _ _ => rfl)) pa_nil))))
    (Evl.pss_cut (ps_for PassesOwn.never rfl (pi_list (pe_ix ix_tup (pv 0) pe_int (fun _ _ => rfl))) (pg_name (i := 2) scBo.nd rfl (Or.inl rfl))
      (pss_one (ps_set (i := 1) scBo.nd rfl (Or.inl rfl) (pe_op op_cat (pv 1) (pe_call G hr rfl m F.kp b .nil pass0 (pa_cons (pe_ix ix_tup (pv 2) (pe_un un_neg pe_int) (fun _ _ => rfl)) pa_nil))))))
    (pss_one (ps_ret (pv 1)))))), ?_⟩
  have deq : ∀ {y z : String}, Str.ofString y ≠ Str.ofString z → decide (V.str (Str.ofString y) = V.str (Str.ofString z)) = false := fun h => decide_eq_false fun q => h (V.str.inj q)
  have a0 : ∀ {s : String} {ys : List V}, atI (V.str (Str.ofString s) :: ys) 0 = some (.str (Str.ofString s)) := atI_nat (j := 0) rfl
  cases mm with
  | zero => exact hT.elim
  | succ mm =>
  have hpl := bnd_small (mm + 1) d
  rcases hT with e | ⟨z, hz, e⟩ | ⟨row, qs, r, e, ho, hl3, hq, hf⟩
  · rw [e] at hR
    obtain ⟨a, ys, rfl, ha, hys⟩ := hR.head
    refine ⟨_, rfl, a, _, 0, _, rfl, rfl, SqT.of ha, a0, rfl, _, rfl, ifT (decide_eq_true rfl) ⟨by show 0 ≤ sizeLine; decide, fun l hl0 => ?_⟩⟩
    refine kk l _ (same_new hl0 _) hl0 ?_
    rw [e]
    exact upd_same
  · rw [e] at hR
    obtain ⟨a, ys, rfl, ha, hys⟩ := hR.head
    obtain ⟨x, ys', rfl, hx, hy'⟩ := hys
    obtain rfl : x = .str z := hx.1
    refine ⟨_, rfl, a, _, 0, _, rfl, rfl, SqT.of ha, a0, rfl, _, rfl, ifF (deq (by decide)) ?_⟩
    refine ⟨_, rfl, a, _, 0, _, rfl, rfl, SqT.of ha, a0, rfl, _, rfl, ifT (decide_eq_true rfl) ?_⟩
    refine ⟨_, rfl, a, _, 1, _, rfl, rfl, SqT.of ha, atI_nat (j := 1) rfl, by show 1 ≤ sizeLine; decide, fun l hl0 => ?_⟩
    refine kk l _ (same_new hl0 _) hl0 ?_
    rw [e]
    exact upd_same
  have hkd : kids d = qs.map fun q => q.2.1 := by
    rw [e, kids_ent]
  have n1 : Str.ofString (if row = true then "row" else "record") ≠ Str.ofString "name" := by cases row <;> decide
  have n2 : Str.ofString (if row = true then "row" else "record") ≠ Str.ofString "any" := by cases row <;> decide
  rw [e] at hR
  obtain ⟨a, ys, rfl, ha, hys⟩ := hR.head
  obtain ⟨x, ys', rfl, hx, y, ys'', rfl, hy, hn⟩ := hys
  obtain ⟨lA, xs, rfl, hlA, hxs⟩ := hx
  refine ⟨_, rfl, a, _, 0, _, rfl, rfl, SqT.of ha, a0, rfl, _, rfl, ifF (deq n2) ?_⟩
  refine ⟨_, rfl, a, _, 0, _, rfl, rfl, SqT.of ha, a0, rfl, _, rfl, ifF (deq n1) ?_⟩
  -- the rest
  refine ⟨fun σ' H' => Same H H' ∧ ∃ l : Addr, H l = none ∧ H' l = some (.lst ((own d).map V.str)) ∧ σ' = [some (.ref a), some (.ref l), none], ?_, ?_⟩
  · rcases ho with rfl | ⟨z, hz, rfl⟩
    · obtain rfl : y = .non := hy.1
      refine ⟨_, rfl, a, _, 2, _, rfl, rfl, SqT.of ha, atI_nat (j := 2) rfl, rfl, _, rfl, ifT (decide_eq_true rfl) ⟨by show 0 ≤ sizeLine; decide, fun l hl0 => ?_⟩⟩
      refine ⟨same_new hl0 _, l, hl0, ?_, rfl⟩
      rw [e]
      exact upd_same
    · obtain rfl : y = .str z := hy.1
      refine ⟨_, rfl, a, _, 2, _, rfl, rfl, SqT.of ha, atI_nat (j := 2) rfl, rfl, _, rfl, ifF (decide_eq_false (fun z => nomatch z)) ⟨_, rfl, a, _, 2, _, rfl, rfl, SqT.of ha, atI_nat (j := 2) rfl, by show 1 ≤ sizeLine; decide, fun l hl0 => ?_⟩⟩
      refine ⟨same_new hl0 _, l, hl0, ?_, rfl⟩
      rw [e]
      exact upd_same
  rintro _ H1 ⟨hs1, l1, hl10, hl1, rfl⟩
  -- the names within
  refine ⟨fun σ' H' => Same H H' ∧ ∃ (l : Addr) (v2 : Option V), H l = none ∧ H' l = some (.lst ((bnd (mm + 1) d).map V.str)) ∧ σ' = [some (.ref a), some (.ref l), v2], ?_, ?_⟩
  · refine ⟨_, rfl, a, _, 1, _, rfl, rfl, SqT.of (hs1 _ _ ha), atI_nat (j := 1) rfl, lA, rfl, ⟨_, SqL.of (hs1 _ _ hlA)⟩, ?_⟩
    have hxl : xs.length = qs.length := by
      rw [hxs.len, List.length_map]
    refine for_list (K := K) (a := lA) (xs := xs) (fun i σ' H' => Same H H' ∧ ∃ (l : Addr) (v2 : Option V), H l = none ∧ H' l = some (.lst ((own d ++ ((kids d).take i).flatMap (bnd mm)).map V.str)) ∧ σ' = [some (.ref a), some (.ref l), v2])
      ⟨hs1, l1, none, hl10, (by rw [List.take_zero, List.flatMap_nil, List.append_nil]; exact hl1), rfl⟩ (fun i σ' H' _ ⟨h, _⟩ => SqL.of (h _ _ hlA)) ?_ ?_
    · rintro i x σ' H3 hi ⟨hs3, l, v2, hl0, hl3', rfl⟩
      obtain ⟨t, ht, hrt⟩ := RWs.item (hxs.same hs3) hi
      rw [List.getElem?_map] at ht
      obtain ⟨q, hqi, rfl⟩ : ∃ q, qs[i]? = some q ∧ ent row q = t := by
        cases e2 : qs[i]? with
        | none =>
          rw [e2] at ht
          cases ht
        | some q =>
          rw [e2] at ht
          exact ⟨q, rfl, Option.some.inj ht⟩
      obtain ⟨b1, zs, y1, rfl, hb1, hat, hry⟩ := hrt.ent
      have hkid : (kids d)[i]? = some q.2.1 := by
        rw [hkd, List.getElem?_map, hqi]
        rfl
      have tk := take_flat (f := bnd mm) hkid
      have tp := take_flat_le (f := pre mm) (xs := kids d) (i := i + 1)
      rw [take_flat (f := pre mm) hkid, List.length_append] at tp
      have tb := take_flat_le (f := bnd mm) (xs := kids d) (i := i + 1)
      rw [tk, List.length_append] at tb
      have epre : (pre (mm + 1) d).length = ((kids d).flatMap (pre mm)).length + 1 := rfl
      have ebnd : (bnd (mm + 1) d).length = (own d).length + ((kids d).flatMap (bnd mm)).length := by
        rw [bnd_flat, List.length_append]
      refine ⟨_, rfl, _, rfl, 2, rfl, b1, zs, -2, y1, rfl, rfl, SqT.of hb1, hat, y1, q.2.1, mm, rfl, hry, (hq q (List.mem_of_getElem? hqi)).1, by omega, by omega, fun l2 H4 hs4 hl20 hl2 => ?_⟩
      refine ⟨l, l2, _, _, rfl, rfl, hs4 _ _ hl3', hl2, ?_, fun p hp => ?_⟩
      · rw [List.length_map, List.length_map, List.length_append]
        exact Nat.le_trans (show _ ≤ 2000 by omega) (by decide)
      · have s5 := same_new hp (.lst ((own d ++ ((kids d).take i).flatMap (bnd mm)).map V.str ++ (bnd mm q.2.1).map V.str))
        refine ⟨(hs3.trans hs4).trans s5, p, _, (hs3.trans hs4).free hp, ?_, rfl⟩
        rw [upd_same, ← List.map_append, List.append_assoc, ← tk]
    · rintro σ' H3 ⟨hs3, l, v2, hl0, hl3', r⟩
      have hkl : (kids d).length = xs.length := by
        rw [hkd, List.length_map, hxl]
      rw [← hkl, List.take_length, ← bnd_flat] at hl3'
      exact ⟨hs3, l, v2, hl0, hl3', r⟩
  rintro _ H2 ⟨hs2, l, v2, hl0, hl2, rfl⟩
  exact ⟨_, rfl, kk l H2 hs2 hl0 hl2⟩
theorem scTq : FnScope ["steps_here", "found", "step"] ["steps_here"] (defScope sTpParts) := ⟨rfl, rfl, rfl, by decide +kernel, rfl, by decide +kernel, by decide +kernel⟩
theorem ok_tparts {f : Addr} {fd : FuncData} (F : Fun K "_law_tp_parts" "_law_tp_parts" sTpParts f fd) (T : Txt K mg) : FnOk P w K mg base CX0 1 f fd ["steps_here"] spTpParts := by
  refine F.ok scTq (fun vs H Q E h => ?_) (fun cdv A outer s H vs Q E hr h => ?_)
  · obtain ⟨v, ds, H0, rfl, _⟩ := h
    rfl
  obtain ⟨v, ds, H0, rfl, hR, hs0, hd, hl, kk⟩ := h
  refine ⟨_, pss_cons (ps_set (i := 1) scTq.nd rfl (Or.inl rfl) (pe_lst pa_nil))
    (Evl.pss_cut (ps_for PassesOwn.never rfl (pi_list (pv 0)) (pg_name (i := 2) scTq.nd rfl (Or.inl rfl))
      (Evl.pss_cut (ps_if (pt_cmpR op_eq (pe_ix ix_tup (pv 2) pe_int (fun _ _ => rfl)) pe_str (nomark _)) (pss_one (ps_expr (pe_bm PySem.F.plainAttrs_list PySem.F.slot_list_append PySem.F.type_list_append mt_append (pv 1) (pa_cons (pe_ix ix_tup (pv 2) pe_int (fun _ _ => rfl)) pa_nil)))) pss_nil)
      (pss_one (ps_if (pt_cmpR op_eq (pe_ix ix_tup (pv 2) pe_int (fun _ _ => rfl)) pe_str (nomark _)) (pss_one (ps_set (i := 1) scTq.nd rfl (Or.inl rfl) (pe_op op_cat (pv 1) (pe_callTy call_list_of (by rfl) T.list boot_list (pa_cons (pe_ix ix_tup (pv 2) pe_int (fun _ _ => rfl)) pa_nil))))) pss_nil))))
    (pss_one (ps_ret (pv 1)))), ?_⟩
  obtain ⟨l0, zs, rfl, hl0, hz⟩ := hR
  have a0 : ∀ {s : String} {ys : List V}, atI (V.str (Str.ofString s) :: ys) 0 = some (.str (Str.ofString s)) := atI_nat (j := 0) rfl
  have deq : ∀ {y z : String}, Str.ofString y ≠ Str.ofString z → decide (V.str (Str.ofString y) = V.str (Str.ofString z)) = false := fun h => decide_eq_false fun q => h (V.str.inj q)
  refine ⟨by show 0 ≤ sizeLine; decide, fun fo hfo => ?_⟩
  have s1 := same_new hfo (.lst [])
  refine ⟨fun σ' H' => Same H H' ∧ ∃ (l : Addr) (xs : List V) (v2 : Option V), H l = none ∧ H' l = some (.lst xs) ∧ RWs H0 (ds.flatMap stParts) xs ∧ σ' = [some (.ref l0), some (.ref l), v2], ?_, ?_⟩
  · refine ⟨_, rfl, l0, rfl, ⟨_, SqL.of (s1 _ _ (hs0 _ _ hl0))⟩, ?_⟩
    refine for_list (K := K) (a := l0) (xs := zs) (fun i σ' H' => Same H H' ∧ ∃ (l : Addr) (xs : List V) (v2 : Option V), H l = none ∧ H' l = some (.lst xs) ∧ RWs H0 ((ds.take i).flatMap stParts) xs ∧ σ' = [some (.ref l0), some (.ref l), v2])
      ⟨s1, fo, [], none, hfo, upd_same, rfl, rfl⟩ (fun i σ' H' _ ⟨h, _⟩ => SqL.of (h _ _ (hs0 _ _ hl0))) ?_ ?_
    · rintro i x σ' H2 hi ⟨hs2, l, xs, v2, hlH, hl2, hxs, rfl⟩
      obtain ⟨d, hdi, hrw⟩ := hz.item hi
      have hok := hd d (List.mem_of_getElem? hdi)
      have hrw2 := hrw.same (hs0.trans hs2)
      have t1 := take_flat (f := stParts) hdi
      have t2 := take_flat_le (f := stParts) (xs := ds) (i := i + 1)
      have hxl := hxs.len
      rw [t1, List.length_append] at t2
      -- take
      refine ⟨fun σ' H' => Same H H' ∧ ∃ (xs' : List V) (tk : Bool), H' l = some (.lst xs') ∧ (tk = true → ∃ r x, d = .tup [S "take", r, x] ∧ RWs H0 ((ds.take (i + 1)).flatMap stParts) xs') ∧ (tk = false → xs' = xs ∧ ∀ r x, d ≠ .tup [S "take", r, x]) ∧ σ' = [some (.ref l0), some (.ref l), some x], ?_, ?_⟩
      · rcases hok.three with ⟨z, t, e, _, _⟩ | ⟨s0, r, y, hs0', e, _, h1, h2, _, _⟩
        · rw [e] at hrw2
          obtain ⟨a, ys, rfl, ha, hys⟩ := hrw2.head
          refine ⟨_, rfl, a, _, 0, _, rfl, rfl, SqT.of ha, a0, rfl, _, rfl, ifF (deq (by decide)) ⟨hs2, xs, false, hl2, (fun z => nomatch z), fun _ => ⟨rfl, fun r x q => ?_⟩, rfl⟩⟩
          rw [e] at q
          have q1 := V.str.inj (D.leaf.inj (List.cons.inj (D.tup.inj q)).1)
          exact absurd q1 (by decide)
        · rw [e] at hrw2
          obtain ⟨a, ys, rfl, ha, hys⟩ := hrw2.head
          obtain ⟨y1, ys1, rfl, hy1, y2, ys2, rfl, hy2, hnil⟩ := hys
          obtain rfl : ys2 = [] := hnil
          rcases hs0' with rfl | rfl
          · refine ⟨_, rfl, a, _, 0, _, rfl, rfl, SqT.of ha, a0, rfl, _, rfl, ifT (decide_eq_true rfl) ?_⟩
            refine ⟨_, rfl, .inl ⟨rfl, _, SqL.of hl2⟩, _, rfl, a, _, 2, _, rfl, rfl, SqT.of ha, at3_2, l, _, _, rfl, rfl, hl2, Nat.lt_of_le_of_lt (show xs.length ≤ 1000 by omega) (by decide), same_put hs2 hlH, xs ++ [y2], true, upd_same, fun _ => ⟨r, y, e, ?_⟩, (fun z => nomatch z), rfl⟩
            rw [t1, h1 rfl]
            have hrw0 := hrw
            rw [e] at hrw0
            obtain ⟨a', ys', e', ha', hys'⟩ := hrw0.head
            cases e'
            have ee := (hs0.trans hs2) _ _ ha'
            rw [ha] at ee
            cases ee
            obtain ⟨y1', ys1', e1, hy1', y2', ys2', e2, hy2', _⟩ := hys'
            cases e1
            cases e2
            exact hxs.app ⟨y2, [], rfl, hy2', rfl⟩
          · refine ⟨_, rfl, a, _, 0, _, rfl, rfl, SqT.of ha, a0, rfl, _, rfl, ifF (deq (by decide)) ⟨hs2, xs, false, hl2, (fun z => nomatch z), fun _ => ⟨rfl, fun r x q => ?_⟩, rfl⟩⟩
            rw [e] at q
            have q1 := V.str.inj (D.leaf.inj (List.cons.inj (D.tup.inj q)).1)
            exact absurd q1 (by decide)
      rintro _ H3 ⟨hs3, xs', tk, hl3, htk, hnt, rfl⟩
      have hrw3 := hrw.same (hs0.trans hs3)
      cases tk with
      | true =>
        obtain ⟨r, y, e, hxs'⟩ := htk rfl
        rw [e] at hrw3
        obtain ⟨a, ys, rfl, ha, hys⟩ := hrw3.head
        exact ⟨_, rfl, a, _, 0, _, rfl, rfl, SqT.of ha, a0, rfl, _, rfl, ifF (deq (by decide)) ⟨hs3, l, xs', _, hlH, hl3, hxs', rfl⟩⟩
      | false =>
        obtain ⟨rfl, hne⟩ := hnt rfl
        rcases hok.three with ⟨z, t, e, _, _⟩ | ⟨s0, r, y, hs0', e, _, h1, h2, _, _⟩
        · rw [e] at hrw3
          obtain ⟨a, ys, rfl, ha, hys⟩ := hrw3.head
          refine ⟨_, rfl, a, _, 0, _, rfl, rfl, SqT.of ha, a0, rfl, _, rfl, ifF (deq (by decide)) ⟨hs3, l, xs', _, hlH, hl3, ?_, rfl⟩⟩
          rw [t1, e, parts_set, List.append_nil]
          exact hxs
        · rcases hs0' with rfl | rfl
          · exact absurd e (hne _ _)
          have hrw0 := hrw
          obtain ⟨ey, hlen⟩ := h2 rfl
          rw [e, ey] at hrw0
          obtain ⟨a, ys, rfl, ha, y1, ys1, rfl, hy1, y2, ys2, rfl, hy2, hnil⟩ := hrw0.head
          obtain rfl : ys2 = [] := hnil
          obtain ⟨lc, cs, rfl, hlc, hcs⟩ := hy2
          have h03 := hs0.trans hs3
          refine ⟨_, rfl, a, _, 0, _, rfl, rfl, SqT.of (h03 _ _ ha), a0, rfl, _, rfl, ifT (decide_eq_true rfl) ?_⟩
          refine ⟨_, rfl, _, rfl, a, _, 2, _, rfl, rfl, SqT.of (h03 _ _ ha), at3_2, lc, cs, rfl, .inl (SqL.of (h03 _ _ hlc)), fun q hq => ?_⟩
          have sq := same_new hq (.lst cs)
          have hcl := hcs.len
          refine ⟨l, q, xs', cs, rfl, rfl, sq _ _ hl3, upd_same, Nat.le_trans (show xs'.length + cs.length ≤ 1000 by omega) (by decide), fun p hp => ?_⟩
          have sp := same_new hp (.lst (xs' ++ cs))
          refine ⟨(hs3.trans sq).trans sp, p, xs' ++ cs, _, hs3.free (sq.free hp), upd_same, ?_, rfl⟩
          rw [t1]
          exact hxs.app hcs
    · rintro σ' H2 ⟨hs2, l, xs, v2, hlH, hl2, hxs, rfl⟩
      rw [hz.len, List.take_length] at hxs
      exact ⟨hs2, l, xs, v2, hlH, hl2, hxs, rfl⟩
  rintro _ H2 ⟨hs2, l, xs, v2, hlH, hl2, hxs, rfl⟩
  exact ⟨_, rfl, kk l xs H2 hs2 hlH hl2 hxs⟩
theorem scTn : FnScope ["steps_here", "found", "piece", "step"] ["steps_here"] (defScope sTpNames) := ⟨rfl, rfl, rfl, by decide +kernel, rfl, by decide +kernel, by decide +kernel⟩
theorem ok_tnames {f fQ fB : Addr} {fd fdQ fdB : FuncData} (F : Fun K "_law_tp_names" "_law_tp_names" sTpNames f fd) (T : Txt K mg) (zS : mg "sorted" = none)
    (FQ : Fun K "_law_tp_parts" "_law_tp_parts" sTpParts fQ fdQ) (GQ : FnOk P w K mg base CX0 1 fQ fdQ ["steps_here"] spTpParts) (bQ : Binds K fdQ ["steps_here"] []) (mQ : mg "_law_tp_parts" = some (.ref fQ))
    (FB : Fun K "_law_ta_bound_names" "_law_ta_bound_names" sBound fB fdB) (GB : FnOk P w K mg base CX0 9 fB fdB ["piece"] (spBound 9)) (bB : Binds K fdB ["piece"] []) (mB : mg "_law_ta_bound_names" = some (.ref fB)) : FnOk P w K mg base CX0 10 f fd ["steps_here"] spTpNames := by
  refine F.ok scTn (fun vs H Q E h => ?_) (fun cdv A outer s H vs Q E hr h => ?_)
  · obtain ⟨v, ds, N, rfl, _⟩ := h
    rfl
  obtain ⟨v, ds, N, rfl, hR, hT, kk⟩ := h
  have hr1 : Room 1 (A.deeper (envOfC "_law_tp_names" (defScope sTpNames) s.heap.objs.size f cdv)) := hr.mono (by decide)
  refine ⟨_, Evl.pss_cut (ps_setLc (i := 1) (own := [("step", 3)]) (g := gName 3) (tt := tTest (tOp rEq (tOp (rIxT K) (tVar 3) (tC (.int 0))) (tC (.str (Str.ofString "set"))))) (by rfl) scTn.nd rfl rfl (sw_true rfl rfl rfl (by decide +kernel)) (pi_list (pv 0)) (blkOk_by (N := ["steps_here", "found", "piece", "step"]) (sc := defScope sTpNames) (by decide +kernel)) (fun _ _ _ _ _ => pg_name (i := 3) scTn.nd rfl (Or.inl rfl)) (fun _ _ _ _ _ => pts_one (pt_cmpR op_eq (pe_ix (show IxR _ (rIxT K) from ix_tup) (pv 3) pe_int (fun _ _ => rfl)) pe_str (nomark _)))
        (fun _ _ _ _ _ => pe_ix (show IxR _ (rIxT K) from ix_tup) (pv 3) pe_int (fun _ _ => rfl)))
    (Evl.pss_cut (ps_for PassesOwn.never rfl (pi_list (pe_call GQ hr1 rfl mQ FQ.kp bQ .nil pass0 (pa_cons (pv 0) pa_nil))) (pg_name (i := 2) scTn.nd rfl (Or.inl rfl))
      (pss_one (ps_set (i := 1) scTn.nd rfl (Or.inl rfl) (pe_op op_cat (pv 1) (pe_call GB hr rfl mB FB.kp bB .nil pass0 (pa_cons (pv 2) pa_nil))))))
    (pss_one (ps_ret (pe_sortSetT rfl rfl zS rfl T.set (pv 1))))), ?_⟩
  have a0 : ∀ {s : String} {ys : List V}, atI (V.str (Str.ofString s) :: ys) 0 = some (.str (Str.ofString s)) := atI_nat (j := 0) rfl
  have deq : ∀ {y z : String}, Str.ofString y ≠ Str.ofString z → decide (V.str (Str.ofString y) = V.str (Str.ofString z)) = false := fun h => decide_eq_false fun q => h (V.str.inj q)
  obtain ⟨l0, zs, rfl, hl0, hz⟩ := id hR
  have hzl := hz.len
  -- the set steps' names
  refine ⟨fun σ' H' => Same H H' ∧ ∃ l : Addr, H l = none ∧ H' l = some (.lst ((ds.flatMap stSet).map V.str)) ∧ σ' = [some (.ref l0), some (.ref l), none, none], ?_, ?_⟩
  · refine ⟨_, rfl, l0, rfl, ⟨_, SqL.of hl0⟩, fun D0 hD => ?_⟩
    refine lc_list (K := K) (a := l0) (xs := zs) (fun i H2 => Same H H2 ∧ H2 D0 = some (.lst (((ds.take i).flatMap stSet).map V.str))) ⟨same_new hD _, upd_same⟩ (fun i H2 _ ⟨h, _⟩ => SqL.of (h _ _ hl0)) ?_ ?_
    · rintro i x H2 hi ⟨hs2, hD2⟩
      obtain ⟨d, hdi, hrw⟩ := hz.item hi
      have hdm := List.mem_of_getElem? hdi
      have hrw2 := hrw.same hs2
      have hil := (List.getElem?_eq_some_iff.mp hdi).1
      have t1 := take_flat (f := stSet) hdi
      have room : (((ds.take i).flatMap stSet).map V.str).length < sizeLine := by
        rw [List.length_map]
        have := sets_small ds i
        have := hT.len
        exact Nat.lt_of_le_of_lt (show _ ≤ 1000 by omega) (by decide)
      refine ⟨rfl, ?_⟩
      rcases (hT.st d hdm).three with ⟨z, t, e, _, _⟩ | ⟨s0, r, y, hs0', e, _, h1, h2, h3, _⟩
      · rw [e, set_set] at t1
        rw [e] at hrw2
        obtain ⟨a, ys, rfl, ha, hys⟩ := hrw2.head
        obtain ⟨y1, ys1, rfl, hy1, _⟩ := hys
        obtain rfl : y1 = .str z := hy1.1
        refine ⟨_, rfl, a, _, 0, _, rfl, rfl, SqT.of ha, a0, rfl, _, rfl, ifT (decide_eq_true rfl) ?_⟩
        refine ⟨_, rfl, a, _, 1, _, rfl, rfl, SqT.of ha, atI_nat (j := 1) rfl, _, hD2, room, same_put hs2 hD, ?_⟩
        rw [upd_same, t1, List.map_append]
        rfl
      · rw [h3, List.append_nil] at t1
        rw [e] at hrw2
        obtain ⟨a, ys, rfl, ha, hys⟩ := hrw2.head
        refine ⟨_, rfl, a, _, 0, _, rfl, rfl, SqT.of ha, a0, rfl, _, rfl, ifF ?_ ⟨hs2, ?_⟩⟩
        · rcases hs0' with rfl | rfl <;> exact deq (by decide)
        · rw [t1]
          exact hD2
    · rintro H2 ⟨hs2, hD2⟩
      rw [hzl, List.take_length] at hD2
      exact ⟨hs2, D0, hD, hD2, rfl⟩
  rintro _ H1 ⟨hs1, l, hlH, hl1, rfl⟩
  have tp : (ds.flatMap stParts).length ≤ 60 := Nat.le_trans (parts_small (fun q hq => by
    obtain ⟨d, hd, hq⟩ := List.mem_flatMap.mp hq
    exact step_parts (hT.st d hd) q hq)) hT.tot
  have tb := bnds_small 7 (ds.flatMap stParts)
  have ts := sets_small ds ds.length
  rw [List.take_length] at ts
  have tt : ((ds.flatMap stParts).flatMap (pre 7)).length ≤ 60 := hT.tot
  have tl := hT.len
  -- those of the parts
  refine ⟨fun σ' H' => Same H H' ∧ ∃ (l : Addr) (v2 : Option V), H l = none ∧ H' l = some (.lst ((ds.flatMap stSet ++ (ds.flatMap stParts).flatMap (bnd 7)).map V.str)) ∧ σ' = [some (.ref l0), some (.ref l), v2, none], ?_, ?_⟩
  · refine ⟨_, rfl, _, ds, H, rfl, hR, hs1, hT.st, by omega, fun lE es H2 hs2 hlE0 hlE hE => ⟨lE, rfl, ⟨_, SqL.of hlE⟩, ?_⟩⟩
    refine for_list (K := K) (a := lE) (xs := es) (fun i σ' H' => Same H2 H' ∧ ∃ (l : Addr) (v2 : Option V), H l = none ∧ H' l = some (.lst ((ds.flatMap stSet ++ ((ds.flatMap stParts).take i).flatMap (bnd 7)).map V.str)) ∧ σ' = [some (.ref l0), some (.ref l), v2, none])
      ⟨Same.refl _, l, _, hlH, (by rw [List.take_zero, List.flatMap_nil, List.append_nil]; exact hs2 _ _ hl1), rfl⟩ (fun i σ' H' _ ⟨h, _⟩ => SqL.of (h _ _ hlE)) ?_ ?_
    · rintro i x σ' H3 hi ⟨hs3, l, v2, hlH, hl3, rfl⟩
      obtain ⟨q, hqi, hrw⟩ := hE.item hi
      have hqm := List.mem_of_getElem? hqi
      obtain ⟨d, hd, hqd⟩ := List.mem_flatMap.mp hqm
      have t1 := take_flat (f := bnd 7) hqi
      have t2 := take_flat_le (f := bnd 7) (xs := ds.flatMap stParts) (i := i + 1)
      have t3 := take_flat (f := pre 7) hqi
      have t4 := take_flat_le (f := pre 7) (xs := ds.flatMap stParts) (i := i + 1)
      rw [t1, List.length_append] at t2
      rw [t3, List.length_append] at t4
      have h023 := (hs1.trans hs2).trans hs3
      refine ⟨_, rfl, _, rfl, x, q, 7, rfl, hrw.same h023, step_parts (hT.st d hd) q hqd, by decide, by omega, fun l2 H4 hs4 hl20 hl2 => ?_⟩
      refine ⟨l, l2, _, _, rfl, rfl, hs4 _ _ hl3, hl2, ?_, fun p hp => ?_⟩
      · rw [List.length_map, List.length_map, List.length_append]
        exact Nat.le_trans (show _ ≤ 2000 by omega) (by decide)
      · have sp := same_new hp (.lst ((ds.flatMap stSet ++ ((ds.flatMap stParts).take i).flatMap (bnd 7)).map V.str ++ (bnd 7 q).map V.str))
        refine ⟨(hs3.trans hs4).trans sp, p, _, (h023.trans hs4).free hp, ?_, rfl⟩
        rw [upd_same, ← List.map_append, List.append_assoc, ← t1]
    · rintro σ' H3 ⟨hs3, l, v2, hlH, hl3, rfl⟩
      rw [hE.len, List.take_length] at hl3
      exact ⟨(hs1.trans hs2).trans hs3, l, v2, hlH, hl3, rfl⟩
  rintro _ H2 ⟨hs2, l, v2, hlH, hl2, rfl⟩
  have few := dd_few (N := N) (xs := ds.flatMap stSet ++ (ds.flatMap stParts).flatMap (bnd 7)) fun z hz => names_nm hT z (law_names.mpr hz)
  have nl := hT.nl
  refine ⟨_, rfl, l, _, rfl, SqL.of hl2, ?_, by omega, fun ys p hp hso hp0 => kk p ys _ (hs2.trans (same_new hp0 _)) (hs2.free hp0) upd_same (hp.trans ((List.perm_ext_iff_of_nodup (TxSet.dd_nodup _) (TxSet.dd_nodup _)).mpr fun z => ?_)) hso⟩
  · rw [List.length_append]
    omega
  · rw [TxSet.dd_mem, TxSet.dd_mem]
    exact law_names.symm
end
end K02
set_option Elab.async false
set_option linter.all false
set_option maxRecDepth 100000
set_option maxHeartbeats 4000000
namespace K02
open PySem L2 PyProof.Rows
def turnKw {α : Type} (us ws : List α) : List α := us ++ (ws.drop 2 ++ ((ws.drop 1).take 1 ++ ws.take 1))
def spMade (C : Addr) : Sp := fun vs H Q _ => ∃ (p t : Addr) (n : Nat) (v : V) (ds : List D) (r s : Str), vs = [.ref p, .ref t] ∧ Purse H p n ∧ n + 2 < 10 ^ 60 ∧ H t = some (.tup [v, .str r, .str s]) ∧ RW H (.lst ds) v ∧ PrOk ds ∧ okOrd r ∧ okLck s ∧
  ∀ o H' G, But p H H' → Purse H' p (n + 2) → H o = none → PatAt C H' o (.lst ds) r s G → (∀ a ∈ G, H a = none) → Q (.ref o) H'
theorem pfs_no {m : Str} (v : V) (r s : Str) (h1 : ¬ m = "_lacks") (h2 : ¬ m = "_order") (h3 : ¬ m = "_steps") : (pfs v r s).lookup m = none := by
  unfold pfs
  rw [lookup_putF, if_neg h1, lookup_putF, if_neg h2, lookup_putF, if_neg h3]
  rfl
theorem pfs_with (v : V) (r s : Str) : (pfs v r s).lookup ("with_order" : Str) = none := pfs_no v r s (by decide +kernel) (by decide +kernel) (by decide +kernel)
theorem pfs_wout (v : V) (r s : Str) : (pfs v r s).lookup ("without" : Str) = none := pfs_no v r s (by decide +kernel) (by decide +kernel) (by decide +kernel)
theorem pfs_exch (v : V) (r s : Str) : (pfs v r s).lookup ("exchanged" : Str) = none := pfs_no v r s (by decide +kernel) (by decide +kernel) (by decide +kernel)
/-- a pattern was made; else all stands but the purse -/
structure Done (C : Addr) (H : Hp) (p : Addr) (n : Nat) (d : D) (r s : Str) (H' : Hp) (o : Addr) (Go : List Addr) : Prop where
  bt : But p H H'
  pu : Purse H' p n
  pa : PatAt C H' o d r s Go
  no : H o = none
  nw : ∀ a ∈ Go, H a = none
theorem Done.kp {C p o : Addr} {H H1 H2 : Hp} {n m : Nat} {d : D} {r s : Str} {Go : List Addr} {S : Addr → Prop} (h : Done C H p n d r s H1 o Go) (hp : Purse H p m) (k : Kp S H1 H2) (hS : ∀ a, S a → H a = none ∧ a ∉ Go) : Done C H p n d r s H2 o Go := by
  have np : ¬ S p := fun z => by
    obtain ⟨po, e⟩ := hp.some
    rw [(hS p z).1] at e
    cases e
  refine ⟨fun b o n e => k b o (h.bt b o n e) (.inl fun z => ?_), ?_, ?_, h.no, h.nw⟩
  · rw [(hS b z).1] at e
    cases e
  · obtain ⟨x, y, z, e, q⟩ := h.pu
    exact ⟨x, y, z, k _ _ e (.inl np), q⟩
  · obtain ⟨dx, v, e, q⟩ := h.pa
    exact ⟨dx, v, k.there e (fun _ z => nomatch z), q.kp k fun a ha z => (hS a z).2 ha⟩
theorem two_of : ∀ {ds : List D}, 1 < ds.length → ∃ d0 d1 rest, ds = d0 :: d1 :: rest
  | [], h => absurd h (by decide)
  | [_], h => absurd h (by show ¬ 1 < 1; decide)
  | d0 :: d1 :: rest, _ => ⟨d0, d1, rest, rfl⟩
/-- a set step, for a while -/
def xS : D := .tup [S "set", S "a", .tup [S "number", .leaf (.int 3)]]
theorem xS_ok : StOk xS := .inl ⟨Str.ofString "a", _, menu_name (by decide +kernel), .inl ⟨3, rfl⟩, rfl⟩
theorem with_x {ds : List D} {i : Nat} (h : i ≤ ds.length) : (ds.take i ++ [xS] ++ ds.drop i).take i ++ (ds.take i ++ [xS] ++ ds.drop i).drop (i + 1) = ds ∧ i < (ds.take i ++ [xS] ++ ds.drop i).length := by
  have e1 : (ds.take i).length = i := by rw [List.length_take]; omega
  have e2 : (ds.take i ++ [xS]).length = i + 1 := by rw [List.length_append, e1]; rfl
  refine ⟨?_, ?_⟩
  · have e3 : (ds.take i ++ [xS] ++ ds.drop i).drop (i + 1) = ds.drop i := by
      rw [List.drop_append_of_le_length (by omega), List.drop_of_length_le (by omega), List.nil_append]
    have e4 : (ds.take i ++ [xS] ++ ds.drop i).take i = ds.take i := by
      rw [List.append_assoc, List.take_append_of_le_length (by omega), List.take_of_length_le (by omega)]
    rw [e3, e4, List.take_append_drop]
  · rw [List.length_append, e2]
    omega
theorem PrOk.with_x {ds : List D} (h : PrOk ds) (hl : ds.length < 20) (i : Nat) : PrOk (ds.take i ++ [xS] ++ ds.drop i) := by
  refine ⟨?_, fun d hd => ?_⟩
  · rw [List.length_append, List.length_append, List.length_take, List.length_drop]
    show _ + 1 + _ ≤ 30
    omega
  · rcases List.mem_append.mp hd with z | z
    · rcases List.mem_append.mp z with z | z
      · exact h.st d (List.mem_of_mem_take z)
      · rw [List.mem_singleton.mp z]
        exact xS_ok
    · exact h.st d (List.mem_of_mem_drop z)
section
variable {P : Program} {w : World} {K : PySem.W.Frag} {mg : Str → Option Value} {base : Heap}
theorem kb_init {fI : Addr} {fdI : FuncData} (F : Fun K "__init__" "Program.__init__" sInit fI fdI) : KBn K fdI ["self", "steps", "order", "lacks"] 1 ["lacks", "order", "steps"] turnKw turnKw := by
  obtain ⟨oc, od, kV, doc, pm, an, cdv, ct, osl, rfl, lk, hcd⟩ := F.ex
  refine ⟨fun s us ws _ h1 h2 => ?_, fun r1 r2 => r1.append ((r2.drop 2).append (((r2.drop 1).take 1).append (r2.take 1)))⟩
  match us, h1, ws, h2 with
  | [_], _, [_, _, _], _ => exact .of_eq rfl
theorem scMd : FnScope ["purse", "plan", "handed", "road", "made", "at"] ["purse", "plan"] (defScope sMade) := ⟨rfl, rfl, rfl, by decide +kernel, rfl, by decide +kernel, by decide +kernel⟩
theorem ok_made {f C fC fY fI fW fU fX fG fO fL fM pP pO pL : Addr} {fd fdC fdY fdI fdW fdU fdX fdG fdO fdL fdM : FuncData} (F : Fun K "_law_tp_made" "_law_tp_made" sMade f fd) (T : Txt K mg) (CC : PCls K C) (M : Mk K C fI) (mP : mg "Program" = some (.ref C))
    (FC : Fun K "_law_coin" "_law_coin" sCoin fC fdC) (GC : FnOk P w K mg base CX0 1 fC fdC ["purse", "many"] spCoin) (bC : Binds K fdC ["purse", "many"] []) (mC : mg "_law_coin" = some (.ref fC))
    (FY : Fun K "_law_ta_copy" "_law_ta_copy" sCopied fY fdY) (GY : FnOk P w K mg base CX0 40 fY fdY ["thing"] (spCopy 40)) (bY : Binds K fdY ["thing"] []) (mY : mg "_law_ta_copy" = some (.ref fY))
    (FI : Fun K "__init__" "Program.__init__" sInit fI fdI) (GI : FnOk P w K mg base CX0 41 fI fdI ["self", "steps", "order", "lacks"] (spInit C)) (bI : Binds K fdI ["self", "steps", "order", "lacks"] [])
    (mW : Meth K C "with_order" fW) (GW : FnOk P w K mg base CX0 43 fW fdW ["self", "order"] (spMWith C)) (bW : Binds K fdW ["self", "order"] [])
    (mU : Meth K C "without" fU) (GU : FnOk P w K mg base CX0 43 fU fdU ["self", "index"] (spMWout C)) (bU : Binds K fdU ["self", "index"] [])
    (mX : Meth K C "exchanged" fX) (GX : FnOk P w K mg base CX0 43 fX fdX ["self", "index"] (spMExch C)) (bX : Binds K fdX ["self", "index"] [])
    (pg : PropOf K C "steps" pP fG) (GG : FnOk P w K mg base CX0 41 fG fdG ["self"] (spGPart C)) (bG : Binds K fdG ["self"] [])
    (po : PropOf K C "order" pO fO) (GO : FnOk P w K mg base CX0 1 fO fdO ["self"] (spGOrd C)) (bO : Binds K fdO ["self"] [])
    (pl : PropOf K C "lacks" pL fL) (GL : FnOk P w K mg base CX0 1 fL fdL ["self"] (spGLck C)) (bL : Binds K fdL ["self"] [])
    (FM : Fun K "_law_ta_mark" "_law_ta_mark" sMark fM fdM) (GM : FnOk P w K mg base CX0 40 fM fdM ["thing", "tally"] (spMark 40)) (bM : Binds K fdM ["thing", "tally"] []) (mM : mg "_law_ta_mark" = some (.ref fM)) :
    FnOk P w K mg base CX0 44 f fd ["purse", "plan"] (spMade C) := by
  refine F.ok scMd (fun vs H Q E h => ?_) (fun cdv A outer s H vs Q E hr h => ?_)
  · obtain ⟨p, t, n, v, d, r, s, rfl, _⟩ := h
    rfl
  obtain ⟨p, t, n, v, ds, r, s, rfl, hp, hn, ht, hR, hT, hrd, hlk, kk⟩ := h
  have hr1 := hr.mono (show 1 ≤ 43 by decide)
  have hr2 := hr.mono (show 1 + 1 ≤ 43 by decide)
  have hr40 := hr.mono (show 40 ≤ 43 by decide)
  have hr42 := hr.mono (show 41 + 1 ≤ 43 by decide)
  refine ⟨_, Evl.pss_cut (ps_par (i := 2) (j := 3) rfl scMd.nd rfl rfl (by decide) rfl rfl (pa_cons (pe_call GY hr40 rfl mY FY.kp bY .nil pass0 (pa_cons (pe_ix ix_tup (pv 1) pe_int (fun _ _ => rfl)) pa_nil)) (pa_cons (pe_call GC hr1 rfl mC FC.kp bC .nil pass0 (pa_cons (pv 0) (pa_cons pe_int pa_nil))) pa_nil)) (by rfl))
    (Evl.pss_cut (ps_if (pt_cmpR op_eq (pv 3) pe_int (nomark _)) (pss_one (ps_set (i := 4) scMd.nd rfl (Or.inl rfl) (pe_meth (pe_make M GI hr42 rfl mP bI .nil pass0 (pa_cons (pv 2) (pa_cons (pe_ix ix_list (pe_lst (pa_cons pe_str (pa_cons pe_str pa_nil))) (pe_callTy call_int1 (by rfl) T.int boot_int (pa_cons (pe_cmpR op_eq (pe_ix ix_tup (pv 1) pe_int (fun _ _ => rfl)) pe_str (nomark _)) pa_nil)) (fun _ _ => rfl)) (pa_cons (pe_ix ix_tup (pv 1) pe_int (fun _ _ => rfl)) pa_nil))))
            CC.cl mW GW hr bW .nil pass0 (pa_cons (pe_ix ix_tup (pv 1) pe_int (fun _ _ => rfl)) pa_nil))))
      (pss_one (ps_if (pt_cmpR op_eq (pv 3) pe_int (nomark _)) (pss_one (ps_set (i := 4) scMd.nd rfl (Or.inl rfl) (pe_makeK0 M GI hr42 rfl mP (kb_init FI) pass0 (pk_cons (pe_ix ix_tup (pv 1) pe_int (fun _ _ => rfl)) (pk_cons (pe_ix ix_tup (pv 1) pe_int (fun _ _ => rfl)) (pk_cons (pv 2) pk_nil))))))
        (pss_one (ps_if (pt_cut (PW.pt (pw_and (pt_cmpR op_eq (pv 3) pe_int (nomark _)) (pw_and1 (pt_cmpR op_gt (pe_callB call_len_seq (by rfl) T.len PySem.boot_len (pa_cons (pv 2) pa_nil)) pe_int (nomark _))))))
          (pss_one (ps_set (i := 4) scMd.nd rfl (Or.inl rfl) (pe_meth (pe_make M GI hr42 rfl mP bI .nil pass0 (pa_cons (pe_op op_cat (pe_lst (pa_cons (pe_ix ix_list (pv 2) pe_int (fun _ _ => rfl)) (pa_cons (pe_ix ix_list (pv 2) pe_int (fun _ _ => rfl)) pa_nil))) (pe_slice sl_list (pv 2) (po_some pe_int) po_none)) (pa_cons (pe_ix ix_tup (pv 1) pe_int (fun _ _ => rfl)) (pa_cons (pe_ix ix_tup (pv 1) pe_int (fun _ _ => rfl)) pa_nil))))
            CC.cl mX GX hr bX .nil pass0 (pa_cons pe_int pa_nil))))
          (pss_one (ps_if (pt_cut (PW.pt (pw_and (pt_cmpR op_eq (pv 3) pe_int (nomark _)) (pw_and1 (pt_cmpR op_lt (pe_callB call_len_seq (by rfl) T.len PySem.boot_len (pa_cons (pv 2) pa_nil)) pe_int (nomark _))))))
            (pss_cons (ps_set (i := 5) scMd.nd rfl (Or.inl rfl) (pe_call GC hr1 rfl mC FC.kp bC .nil pass0 (pa_cons (pv 0) (pa_cons (pe_op op_add (pe_callB call_len_seq (by rfl) T.len PySem.boot_len (pa_cons (pv 2) pa_nil)) pe_int) pa_nil))))
            (pss_one (ps_set (i := 4) scMd.nd rfl (Or.inl rfl) (pe_meth (pe_make M GI hr42 rfl mP bI .nil pass0 (pa_cons (pe_op op_cat (pe_op op_cat (pe_slice sl_list (pv 2) po_none (po_some (pv 5))) (pe_lst (pa_cons (pe_tup (pa_cons pe_str (pa_cons pe_str (pa_cons (pe_tup (pa_cons pe_str (pa_cons pe_int pa_nil))) pa_nil)))) pa_nil))) (pe_slice sl_list (pv 2) (po_some (pv 5)) po_none)) (pa_cons (pe_ix ix_tup (pv 1) pe_int (fun _ _ => rfl)) (pa_cons (pe_ix ix_tup (pv 1) pe_int (fun _ _ => rfl)) pa_nil))))
              CC.cl mU GU hr bU .nil pass0 (pa_cons (pv 5) pa_nil)))))
            (pss_one (ps_set (i := 4) scMd.nd rfl (Or.inl rfl) (pe_make M GI hr42 rfl mP bI .nil pass0 (pa_cons (pv 2) (pa_cons (pe_ix ix_tup (pv 1) pe_int (fun _ _ => rfl)) (pa_cons (pe_ix ix_tup (pv 1) pe_int (fun _ _ => rfl)) pa_nil)))))))))))))
    (Evl.pss_cut (ps_if (pt_cmpR op_eq (pv 3) pe_int (nomark _)) (pss_one (ps_set (i := 4) scMd.nd rfl (Or.inl rfl) (pe_make M GI hr42 rfl mP bI .nil pass0 (pa_cons (pe_prop (pv 4) CC.cl pg GG hr42 bG .nil pass0 rfl) (pa_cons (pe_prop (pv 4) CC.cl po GO hr2 bO .nil pass0 rfl) (pa_cons (pe_prop (pv 4) CC.cl pl GL hr2 bL .nil pass0 rfl) pa_nil)))))) pss_nil)
    (pss_cons (ps_expr (pe_call GM hr40 rfl mM FM.kp bM .nil pass0 (pa_cons (pv 2) (pa_cons (pe_lst (pa_cons pe_int pa_nil)) pa_nil))))
    (pss_one (ps_ret (pv 4)))))), ?_⟩
  obtain ⟨po', hpo⟩ := hp.some
  have htp : t ≠ p := fun z => by
    obtain ⟨x, y, z', e, _⟩ := hp
    rw [z, e] at ht
    cases ht
  have t0 : atI [v, V.str r, V.str s] 0 = some v := atI_nat (j := 0) rfl
  have t1 : atI [v, V.str r, V.str s] 1 = some (.str r) := atI_nat (j := 1) rfl
  have t2 : atI [v, V.str r, V.str s] 2 = some (.str s) := atI_nat (j := 2) rfl
  have hfit := hT.fits
  have dlen := hT.len
  refine ⟨fun σ' H' => ∃ (u : V) (G : List Addr) (rd : Int), But p H H' ∧ Purse H' p (n + 1) ∧ Rep H' (.lst ds) u G ∧ (∀ a ∈ G, H a = none) ∧ σ' = [some (.ref p), some (.ref t), some u, some (.int rd), none, none], ?_, ?_⟩
  · refine ⟨_, rfl, t, _, 0, _, rfl, rfl, SqT.of ht, t0, v, .lst ds, 34, rfl, by decide, hR, hfit, fun u H1 G hs1 hr1 hG => ⟨_, rfl, p, 6, n, rfl, hp.same hs1, by omega, by decide, by decide, fun rd H2 r0 r1 hb hp2 => ⟨_, _, rfl, u, G, rd, (But.of hs1).trans hb, hp2, hr1.kp (hb.kp (hp.same hs1)) fun a ha z => hp.ne (hG a ha) z, hG, rfl⟩⟩⟩
  rintro _ H2 ⟨u, G, rd, hb2, hp2, hr2', hG, rfl⟩
  have ht2 := SqT.of (K := K) (hb2 _ _ htp ht)
  have fr2 : ∀ {Hx : Hp} {m : Nat}, But p H Hx → Purse Hx p m → ∀ {a : Addr}, Hx a = none → H a = none := fun {Hx} {m} hb hpx {a} e => But.free hb hpo hpx.some e
  have mk : ∀ (Hx : Hp) (u' : V) (r' : Str) (es : List D) (m : Nat), okOrd r' → PrOk es → But p H Hx → Purse Hx p m → m ≤ n + 2 → RW Hx (.lst es) u' → ∀ x dx : Addr, Hx x = none → Hx dx = none → ∀ Q' : Hp → Prop, (∀ H' Go, Done C H p (n + 2) (.lst es) r' s H' x Go → Same Hx H' → (∀ a ∈ Go, Hx a = none) → Q' H') →
      spInit C [.ref x, u', .str r', .str s] (upd (upd Hx dx (.own x)) x (.ins C dx [])) (fun v H3 => v = .non ∧ Q' H3) E0 := fun Hx u' r' es m hr' hes hbx hpx hm hw x dx hx hdx Q' q => by
    have st := same_ins (C := C) hx hdx
    refine ⟨x, dx, u', r', s, es, rfl, upd_same, hw.same st, hes, hr', hlk, fun w H' Go hb hx' hrw hG => ?_⟩
    have sx : Same Hx H' := But.same st hb hx
    exact ⟨rfl, q H' Go ⟨hbx.trans (.of sx), (hpx.same sx).mono hm, ⟨dx, w, hx', hrw⟩, fr2 hbx hpx hx, fun a ha => fr2 hbx hpx (st.free (hG a ha))⟩ sx fun a ha => st.free (hG a ha)⟩
  have apart : ∀ {Hx : Hp} {e : D} {u' : V} {G' Go : List Addr}, Rep Hx e u' G' → (∀ a ∈ Go, Hx a = none) → ∀ a, a ∈ G' → a ∉ Go := fun hr h a ha z => by
    obtain ⟨zs, q⟩ := hr.at_ a ha
    rw [h a z] at q
    cases q
  refine ⟨fun σ' H' => ∃ (o : Addr) (Go : List Addr) (v5 : Option V), Done C H p (n + 2) (.lst ds) r s H' o Go ∧ Rep H' (.lst ds) u G ∧ (∀ a ∈ G, a ∉ Go) ∧ σ' = [some (.ref p), some (.ref t), some u, some (.int rd), some (.ref o), v5], ?_, ?_⟩
  · refine ⟨_, rfl, rfl, _, rfl, ?_⟩
    refine ite2 (fun _ => ?_) (fun _ => ?_)
    · -- with_order
      refine ⟨_, rfl, by show 2 ≤ sizeLine; decide, fun q hq => ?_⟩
      have sq := same_new hq (.lst [V.str (Str.ofString "late"), V.str (Str.ofString "soon")])
      have ht3 := SqT.of (K := K) (sq _ _ (hb2 _ _ htp ht))
      refine ⟨_, rfl, t, _, 1, _, rfl, rfl, ht3, t1, rfl, .inr ⟨_, rfl, ?_⟩⟩
      obtain ⟨r', hr', hat⟩ : ∃ r' : Str, okOrd r' ∧ atI [V.str (Str.ofString "late"), V.str (Str.ofString "soon")] (if decide (V.str r = V.str (Str.ofString "late")) = true then (1 : Int) else 0) = some (.str r') := by
        split
        · exact ⟨_, .inl rfl, at_ofN (j := 1) rfl rfl⟩
        · exact ⟨_, .inr rfl, at_ofN (j := 0) rfl rfl⟩
      have hb3 := hb2.trans (But.of sq)
      have hr3 := hr2'.same sq
      refine ⟨q, _, _, _, rfl, rfl, SqL.of upd_same, hat, _, rfl, t, _, 2, _, rfl, rfl, ht3, t2, fun x dx hx hdx hne => mk _ u r' ds _ hr' hT hb3 (hp2.same sq) (by omega) hr3.rw x dx hx hdx _ fun H' Go hD hs hGo => ?_⟩
      obtain ⟨dx2, w2, e1, e2⟩ := hD.pa
      refine ⟨x, dx2, _, rfl, e1, pfs_with _ _ _, _, rfl, t, _, 1, _, rfl, rfl, SqT.of (hD.bt _ _ htp ht), t1, x, ds, r', s, r, Go, rfl, hD.pa, hT, hrd, hlk, fun o' H'' G' hs2 ho' pat' hG' => ?_⟩
      exact ⟨o', G', none, ⟨hD.bt.trans (.of hs2), hD.pu.same hs2, pat', fr2 hD.bt hD.pu ho', fun a ha => fr2 hD.bt hD.pu (hG' a ha)⟩, (hr3.same hs).same hs2, apart (hr3.same hs) hG', rfl⟩
    refine ⟨_, rfl, rfl, _, rfl, ?_⟩
    refine ite2 (fun _ => ?_) (fun _ => ?_)
    · -- by name
      exact ⟨_, rfl, t, _, 2, _, rfl, rfl, ht2, t2, _, rfl, t, _, 1, _, rfl, rfl, ht2, t1, _, rfl, rfl, rfl, fun x dx hx hdx hne => mk H2 u r ds _ hrd hT hb2 hp2 (by omega) hr2'.rw x dx hx hdx _ fun H' Go hD hs hGo => ⟨x, Go, none, hD, hr2'.same hs, apart hr2' hGo, rfl⟩⟩
    obtain ⟨hl, zs, G0, rfl, hhl, hz, hnl, rfl⟩ := id hr2'
    have hzl := hz.len
    have hzr := hz.rw
    have sqh := SqL.of (K := K) hhl
    refine ⟨fun b H' => H2 = H' ∧ (b = true → 1 < ds.length), ?_, ?_⟩
    · refine ⟨_, rfl, rfl, _, rfl, ?_⟩
      refine ite2 (fun _ => ?_) (fun _ => ⟨rfl, fun z => nomatch z⟩)
      exact ⟨_, rfl, hl, zs, rfl, .inl sqh, _, _, rfl, rfl, _, rfl, rfl, fun z => by
        have z' : (((zs.length : Nat) : Int)) > 1 := of_decide_eq_true z
        omega⟩
    rintro bb _ ⟨rfl, hbb⟩
    refine ite2 (fun c => ?_) (fun _ => ?_)
    · -- exchanged
      have hl2 := hbb c
      obtain ⟨d0, d1, rest, eds⟩ := two_of hl2
      rw [eds] at hzr
      obtain ⟨x0, ys0, e0, w0, x1, ys1, e1, w1, w2⟩ := hzr
      subst e1
      have a1 : atI zs 1 = some x1 := by rw [e0]; exact atI_nat (j := 1) rfl
      have a0 : atI zs 0 = some x0 := by rw [e0]; exact atI_nat (j := 0) rfl
      refine ⟨_, rfl, hl, zs, _, x1, rfl, rfl, sqh, a1, _, rfl, hl, zs, _, x0, rfl, rfl, sqh, a0, by show 2 ≤ sizeLine; decide, fun q1 hq1 => ?_⟩
      have s1 := same_new hq1 (.lst [x1, x0])
      have u1 : (upd H2 q1 (.lst [x1, x0])) q1 = some (.lst [x1, x0]) := upd_same
      generalize upd H2 q1 (.lst [x1, x0]) = HA at s1 u1 ⊢
      refine ⟨_, rfl, _, rfl, hl, zs, rfl, SqL.of (s1 _ _ hhl), fun q2 hq2 => ?_⟩
      rw [show cutV zs (some 2) none = ys1 by rw [show (2 : Int) = ((2 : Nat) : Int) from rfl, cutV_post, e0]; rfl]
      have s2 := same_new hq2 (.lst ys1)
      have u2 : (upd HA q2 (.lst ys1)) q2 = some (.lst ys1) := upd_same
      generalize upd HA q2 (.lst ys1) = HB at s2 u2 ⊢
      have yl : ys1.length ≤ 30 := by
        rw [e0] at hzl
        rw [List.length_cons, List.length_cons] at hzl
        omega
      refine ⟨q1, q2, [x1, x0], ys1, rfl, rfl, s2 _ _ u1, u2, Nat.le_trans (show 2 + ys1.length ≤ 1000 by omega) (by decide), fun q3 hq3 => ?_⟩
      have s3 := same_new hq3 (.lst ([x1, x0] ++ ys1))
      have u3 : (upd HB q3 (.lst ([x1, x0] ++ ys1))) q3 = some (.lst (x1 :: x0 :: ys1)) := upd_same
      generalize upd HB q3 (.lst ([x1, x0] ++ ys1)) = HC at s3 u3 ⊢
      have s13 := (s1.trans s2).trans s3
      have ht3 := SqT.of (K := K) (s13 _ _ (hb2 _ _ htp ht))
      have hes : PrOk (d1 :: d0 :: rest) := by
        rw [eds] at hT
        refine ⟨hT.len, fun d hd => hT.st d ?_⟩
        rcases List.mem_cons.mp hd with rfl | hd
        · exact List.mem_cons_of_mem _ List.mem_cons_self
        · rcases List.mem_cons.mp hd with rfl | hd
          · exact List.mem_cons_self
          · exact List.mem_cons_of_mem _ (List.mem_cons_of_mem _ hd)
      have hb3 := hb2.trans (But.of s13)
      have hr3 := hr2'.same s13
      have hw2 : RWs HC rest ys1 := w2.same s13
      have hw1 : RWs HC (d0 :: rest) (x0 :: ys1) := ⟨x0, _, rfl, w0.same s13, hw2⟩
      have hw0 : RWs HC (d1 :: d0 :: rest) (x1 :: x0 :: ys1) := ⟨x1, _, rfl, w1.same s13, hw1⟩
      have hall : RW HC (.lst (d1 :: d0 :: rest)) (.ref q3) := ⟨q3, _, rfl, u3, hw0⟩
      refine ⟨_, rfl, t, _, 1, _, rfl, rfl, ht3, t1, _, rfl, t, _, 2, _, rfl, rfl, ht3, t2, fun x dx hx hdx hne => mk _ (.ref q3) r (d1 :: d0 :: rest) _ hrd hes hb3 (hp2.same s13) (by omega) hall x dx hx hdx _ fun H' Go hD hs hGo => ?_⟩
      obtain ⟨dx2, w2', e1', e2'⟩ := hD.pa
      refine ⟨x, dx2, _, rfl, e1', pfs_exch _ _ _, x, d1 :: d0 :: rest, r, s, Go, 0, rfl, hD.pa, hes, hrd, hlk, by show 0 + 1 < rest.length + 2; omega, fun o' H'' G' hs2 ho' pat' hG' => ?_⟩
      have pat2 : PatAt C H'' o' (.lst ds) r s G' := by
        rw [eds]
        exact pat'
      exact ⟨o', G', none, ⟨hD.bt.trans (.of hs2), hD.pu.same hs2, pat2, fr2 hD.bt hD.pu ho', fun a ha => fr2 hD.bt hD.pu (hG' a ha)⟩, (hr3.same hs).same hs2, apart (hr3.same hs) hG', rfl⟩
    refine ⟨fun b H' => H2 = H' ∧ (b = true → ds.length < 20), ?_, ?_⟩
    · refine ⟨_, rfl, rfl, _, rfl, ?_⟩
      refine ite2 (fun _ => ?_) (fun _ => ⟨rfl, fun z => nomatch z⟩)
      exact ⟨_, rfl, hl, zs, rfl, .inl sqh, _, _, rfl, rfl, _, rfl, rfl, fun z => by
        have z' : (((zs.length : Nat) : Int)) < 20 := of_decide_eq_true z
        omega⟩
    rintro bb2 _ ⟨rfl, hbb2⟩
    refine ite2 (fun c => ?_) (fun _ => ?_)
    · -- one more step, and without it
      have hl20 := hbb2 c
      refine ⟨_, rfl, _, rfl, hl, zs, rfl, .inl sqh, _, _, rfl, rfl, p, _, n + 1, rfl, hp2, by omega, by omega, by omega, fun da H3 da0 da1 hb3' hp3 => ?_⟩
      obtain ⟨i, rfl⟩ : ∃ i : Nat, da = (i : Int) := ⟨da.toNat, by omega⟩
      have hid : i ≤ ds.length := by omega
      have hb3 := hb2.trans hb3'
      have nph : ∀ {a}, H a = none → a ≠ p := fun e => hp.ne e
      have hhl3 : H3 hl = some (.lst zs) := hb3' _ _ (nph (hG hl List.mem_cons_self)) hhl
      have hr3 : Rep H3 (.lst ds) (.ref hl) (hl :: G0) := hr2'.kp (hb3'.kp hp2) fun a ha z => nph (hG a ha) z
      have hz3 : RWs H3 ds zs := by
        obtain ⟨l', zs', e', h', w'⟩ := hr3.rw
        cases e'
        rw [hhl3] at h'
        cases h'
        exact w'
      refine ⟨_, rfl, _, rfl, _, rfl, hl, zs, rfl, SqL.of hhl3, fun q1 hq1 => ?_⟩
      rw [cutV_pre]
      have s1 := same_new hq1 (.lst (zs.take i))
      have v1 : (upd H3 q1 (.lst (zs.take i))) q1 = some (.lst (zs.take i)) := upd_same
      generalize upd H3 q1 (.lst (zs.take i)) = HA at s1 v1 ⊢
      refine ⟨by show 2 ≤ sizeLine; decide, fun m1 hm1 => ?_⟩
      have s2 := same_new hm1 (.tup [.str (Str.ofString "number"), .int 3])
      have h1 : Rep (upd HA m1 (.tup [.str (Str.ofString "number"), .int 3])) (.tup [S "number", .leaf (.int 3)]) (.ref m1) [] := rep_tup upd_same (reps_leaf leaf_str (reps_leaf leaf_int reps_nil))
      generalize upd HA m1 (.tup [.str (Str.ofString "number"), .int 3]) = HB at s2 h1 ⊢
      refine ⟨by show 3 ≤ sizeLine; decide, fun m2 hm2 => ?_⟩
      have s3 := same_new hm2 (.tup [.str (Str.ofString "set"), .str (Str.ofString "a"), .ref m1])
      have h2 : Rep (upd HB m2 (.tup [.str (Str.ofString "set"), .str (Str.ofString "a"), .ref m1])) xS (.ref m2) [] := rep_tup upd_same (reps_leaf leaf_str (reps_leaf leaf_str (reps_one (h1.same s3))))
      generalize upd HB m2 (.tup [.str (Str.ofString "set"), .str (Str.ofString "a"), .ref m1]) = HC at s3 h2 ⊢
      refine ⟨by show 1 ≤ sizeLine; decide, fun q2 hq2 => ?_⟩
      have s4 := same_new hq2 (.lst [V.ref m2])
      have v2 : (upd HC q2 (.lst [V.ref m2])) q2 = some (.lst [V.ref m2]) := upd_same
      generalize upd HC q2 (.lst [V.ref m2]) = HD at s4 v2 ⊢
      have s24 := (s2.trans s3).trans s4
      have ztl : (zs.take i).length ≤ 30 := by
        rw [List.length_take]
        omega
      refine ⟨q1, q2, _, _, rfl, rfl, s24 _ _ v1, v2, Nat.le_trans (show (zs.take i).length + 1 ≤ 1000 by omega) (by decide), fun q3 hq3 => ?_⟩
      have s5 := same_new hq3 (.lst (zs.take i ++ [V.ref m2]))
      have v3 : (upd HD q3 (.lst (zs.take i ++ [V.ref m2]))) q3 = some (.lst (zs.take i ++ [V.ref m2])) := upd_same
      generalize upd HD q3 (.lst (zs.take i ++ [V.ref m2])) = HE at s5 v3 ⊢
      have s15 := (s1.trans s24).trans s5
      refine ⟨_, rfl, _, rfl, _, rfl, hl, zs, rfl, SqL.of (s15 _ _ hhl3), fun q4 hq4 => ?_⟩
      rw [cutV_post]
      have s6 := same_new hq4 (.lst (zs.drop i))
      have v4 : (upd HE q4 (.lst (zs.drop i))) q4 = some (.lst (zs.drop i)) := upd_same
      generalize upd HE q4 (.lst (zs.drop i)) = HF at s6 v4 ⊢
      refine ⟨q3, q4, _, _, rfl, rfl, s6 _ _ v3, v4, ?_, fun q5 hq5 => ?_⟩
      · refine Nat.le_trans (show _ ≤ 1000 from ?_) (by decide)
        rw [List.length_append, List.length_drop]
        show (zs.take i).length + 1 + _ ≤ 1000
        omega
      have s7 := same_new hq5 (.lst (zs.take i ++ [V.ref m2] ++ zs.drop i))
      have v5 : (upd HF q5 (.lst (zs.take i ++ [V.ref m2] ++ zs.drop i))) q5 = some (.lst (zs.take i ++ [V.ref m2] ++ zs.drop i)) := upd_same
      generalize upd HF q5 (.lst (zs.take i ++ [V.ref m2] ++ zs.drop i)) = HG at s7 v5 ⊢
      have s17 := (s15.trans s6).trans s7
      have ht3 := SqT.of (K := K) (s17 _ _ (hb3 _ _ htp ht))
      have hb4 := hb3.trans (But.of s17)
      have hr4 := hr3.same s17
      obtain ⟨wx1, wx2⟩ := with_x hid
      have hes := hT.with_x hl20 i
      have hx : RW HG xS (.ref m2) := (h2.same (((s4.trans s5).trans s6).trans s7)).rw
      have hxs : RWs HG [xS] [V.ref m2] := ⟨_, [], rfl, hx, rfl⟩
      have hall : RW HG (.lst (ds.take i ++ [xS] ++ ds.drop i)) (.ref q5) := ⟨q5, _, rfl, v5, (((hz3.take i).same s17).app hxs).app ((hz3.drop i).same s17)⟩
      refine ⟨_, rfl, t, _, 1, _, rfl, rfl, ht3, t1, _, rfl, t, _, 2, _, rfl, rfl, ht3, t2, fun x dx hx0 hdx hne => mk _ (.ref q5) r _ _ hrd hes hb4 (hp3.same s17) (by omega) hall x dx hx0 hdx _ fun H' Go hD hs hGo => ?_⟩
      obtain ⟨dx2, w2', e1', e2'⟩ := hD.pa
      refine ⟨x, dx2, _, rfl, e1', pfs_wout _ _ _, _, rfl, x, _, r, s, Go, i, rfl, hD.pa, hes, hrd, hlk, wx2, fun o' H'' G' hs2 ho' pat' hG' => ?_⟩
      rw [wx1] at pat'
      exact ⟨o', G', _, ⟨hD.bt.trans (.of hs2), hD.pu.same hs2, pat', fr2 hD.bt hD.pu ho', fun a ha => fr2 hD.bt hD.pu (hG' a ha)⟩, (hr4.same hs).same hs2, apart (hr4.same hs) hG', rfl⟩
    · exact ⟨_, rfl, _, rfl, t, _, 1, _, rfl, rfl, ht2, t1, _, rfl, t, _, 2, _, rfl, rfl, ht2, t2, fun x dx hx hdx hne => mk H2 _ r ds _ hrd hT hb2 hp2 (by omega) hr2'.rw x dx hx hdx _ fun H' Go hD hs hGo => ⟨x, Go, none, hD, hr2'.same hs, apart hr2' hGo, rfl⟩⟩
  rintro _ H3 ⟨o, Go, v5, hD, hr3, hap, rfl⟩
  -- told, and made of it
  refine ⟨fun σ' H' => ∃ (o : Addr) (Go : List Addr) (v5 : Option V), Done C H p (n + 2) (.lst ds) r s H' o Go ∧ Rep H' (.lst ds) u G ∧ (∀ a ∈ G, a ∉ Go) ∧ σ' = [some (.ref p), some (.ref t), some u, some (.int rd), some (.ref o), v5], ?_, ?_⟩
  · refine ⟨_, rfl, rfl, _, rfl, ?_⟩
    refine ite2 (fun _ => ?_) (fun _ => ⟨o, Go, v5, hD, hr3, hap, rfl⟩)
    obtain ⟨dx, w0, e1, _⟩ := id hD.pa
    refine ⟨_, rfl, o, dx, _, rfl, e1, o, .lst ds, r, s, Go, rfl, hD.pa, hfit, fun u1 H4 G1 hs4 hr4 hG1 => ?_⟩
    have pa4 : PatAt C H4 o (.lst ds) r s Go := by
      obtain ⟨dx, v, e, q⟩ := hD.pa
      exact ⟨dx, v, hs4 _ _ e, q.same hs4⟩
    obtain ⟨dx4, w4, e4, _⟩ := id pa4
    refine ⟨_, rfl, o, dx4, _, rfl, e4, o, .lst ds, r, s, Go, rfl, pa4, _, rfl, o, dx4, _, rfl, e4, o, .lst ds, r, s, Go, rfl, pa4, fun x dx hx hdx hne => mk H4 u1 r ds _ hrd hT (hD.bt.trans (.of hs4)) (hD.pu.same hs4) (Nat.le_refl _) hr4.rw x dx hx hdx _ fun H' Go' hD' hs hGo => ⟨x, Go', v5, hD', (hr3.same hs4).same hs, apart (hr3.same hs4) hGo, rfl⟩⟩
  clear hD hr3 hap
  rintro _ H3 ⟨o, Go, v5, hD, hr3, hap, rfl⟩
  refine ⟨_, rfl, by show 1 ≤ sizeLine; decide, fun tl htl => ?_⟩
  have sl := same_new htl (.lst [.int 0])
  have ntl : tl ∉ G := fun z => by
    obtain ⟨zs, e⟩ := hr3.at_ tl z
    rw [htl] at e
    cases e
  have ntl2 : tl ∉ Go := fun z => by
    obtain ⟨dx2, w2, e1, e2⟩ := hD.pa
    obtain ⟨zs, e⟩ := e2.at_ tl z
    rw [htl] at e
    cases e
  have htl0 : H tl = none := fr2 hD.bt hD.pu htl
  refine ⟨u, tl, .lst ds, G, 34, 0, rfl, by decide, hr3.same sl, hfit, upd_same, ntl, fun H4 kp hr4 ht4 => ⟨_, rfl, ?_⟩⟩
  have hD4 : Done C H p (n + 2) (.lst ds) r s H4 o Go := hD.kp hp ((Kp.same sl).trans kp) fun a z => by
    rcases z with z | rfl
    · exact ⟨hG a z, hap a z⟩
    · exact ⟨htl0, ntl2⟩
  exact kk o H4 Go hD4.bt hD4.pu hD4.no hD4.pa hD4.nw
end
end K02
set_option Elab.async false
set_option linter.all false
set_option maxRecDepth 100000
set_option maxHeartbeats 4000000
namespace K02
open PySem L2 PyProof.Rows FLen
theorem rw_texts {H : Hp} : ∀ {ys : List Str}, RWs H (ys.map fun y => D.leaf (.str y)) (ys.map V.str)
  | [] => rfl
  | y :: ys => ⟨.str y, _, rfl, ⟨rfl, leaf_str⟩, rw_texts⟩
def spTells (C : Addr) : Sp := fun vs H Q _ => ∃ (o t : Addr) (v : V) (ds : List D) (r s : Str) (G : List Addr) (N : List Str), vs = [.ref o, .ref t] ∧ PatAt C H o (.lst ds) r s G ∧ H t = some (.tup [v, .str r, .str s]) ∧ RW H (.lst ds) v ∧ PgN N ds ∧ ∀ H', Same H H' → Q (.bl true) H'
section
variable {P : Program} {w : World} {K : PySem.W.Frag} {mg : Str → Option Value} {base : Heap}
theorem PatAt.same {C o : Addr} {H H1 : Hp} {d : D} {r s : Str} {G : List Addr} (h : PatAt C H o d r s G) (sm : Same H H1) : PatAt C H1 o d r s G := by
  obtain ⟨dx, v, e, q⟩ := h
  exact ⟨dx, v, sm _ _ e, q.same sm⟩
theorem scLo : FnScope ["made", "plan"] ["made", "plan"] (defScope sTells) := ⟨rfl, rfl, rfl, by decide +kernel, rfl, by decide +kernel, by decide +kernel⟩
theorem ok_tells {f C fS fB fG pP fO pO fL pL fN fE : Addr} {fd fdS fdB fdG fdO fdL fdN fdE : FuncData} (F : Fun K "_law_tp_tells" "_law_tp_tells" sTells f fd) (T : Txt K mg) (CC : PCls K C)
    (FS : Fun K "_law_ta_same" "_law_ta_same" sSame fS fdS) (GS : FnOk P w K mg base CX0 40 fS fdS ["told", "owed"] (spSame 40)) (bS : Binds K fdS ["told", "owed"] []) (mS : mg "_law_ta_same" = some (.ref fS))
    (FB : Fun K "_law_tp_names" "_law_tp_names" sTpNames fB fdB) (GB : FnOk P w K mg base CX0 10 fB fdB ["steps_here"] spTpNames) (bB : Binds K fdB ["steps_here"] []) (mB : mg "_law_tp_names" = some (.ref fB))
    (pg : PropOf K C "steps" pP fG) (GG : FnOk P w K mg base CX0 41 fG fdG ["self"] (spGPart C)) (bG : Binds K fdG ["self"] [])
    (po : PropOf K C "order" pO fO) (GO : FnOk P w K mg base CX0 1 fO fdO ["self"] (spGOrd C)) (bO : Binds K fdO ["self"] [])
    (pl : PropOf K C "lacks" pL fL) (GL : FnOk P w K mg base CX0 1 fL fdL ["self"] (spGLck C)) (bL : Binds K fdL ["self"] [])
    (mN : Meth K C "names" fN) (GN : FnOk P w K mg base CX0 12 fN fdN ["self"] (spMNames C)) (bN : Binds K fdN ["self"] [])
    (aE : PySem.W.findIn K (.ref C) "__len__" = some (some (.ref fE))) (iE : PySem.W.isFn K (.ref fE) = true) (GE : FnOk P w K mg base CX0 1 fE fdE ["self"] (spMLen C)) (bE : Binds K fdE ["self"] []) :
    FnOk P w K mg base CX0 43 f fd ["made", "plan"] (spTells C) := by
  refine F.ok scLo (fun vs H Q E h => ?_) (fun cdv A outer s H vs Q E hr h => ?_)
  · obtain ⟨o, t, v, d, r, s, G, N, rfl, _⟩ := h
    rfl
  obtain ⟨o, t, v, ds, r, s, G, N, rfl, hP, ht, hR, hT, kk⟩ := h
  have hr2 := hr.mono (show 1 + 1 ≤ 42 by decide)
  have hr10 := hr.mono (show 10 ≤ 42 by decide)
  have hr12 := hr.mono (show 12 ≤ 42 by decide)
  have hr40 := hr.mono (show 40 ≤ 42 by decide)
  refine ⟨_, pss_cons (ps_if (PW.pt (pw_or (pt_not (pt_val (pe_call GS hr40 rfl mS FS.kp bS .nil pass0 (pa_cons (pe_prop (pv 0) CC.cl pg GG hr bG .nil pass0 rfl) (pa_cons (pe_ix ix_tup (pv 1) pe_int (fun _ _ => rfl)) pa_nil)))))
      (pw_or1 (pt_not (pt_val (pe_call GS hr40 rfl mS FS.kp bS .nil pass0 (pa_cons (pe_tup (pa_cons (pe_prop (pv 0) CC.cl po GO hr2 bO .nil pass0 rfl) (pa_cons (pe_prop (pv 0) CC.cl pl GL hr2 bL .nil pass0 rfl) pa_nil)))
        (pa_cons (pe_tup (pa_cons (pe_ix ix_tup (pv 1) pe_int (fun _ _ => rfl)) (pa_cons (pe_ix ix_tup (pv 1) pe_int (fun _ _ => rfl)) pa_nil))) pa_nil)))))))) pss_never pss_nil)
    (pss_one (ps_ret (pe_and (pe_call GS hr40 rfl mS FS.kp bS .nil pass0 (pa_cons (pe_meth0 (pv 0) CC.cl mN GN hr12 bN .nil pass0)
        (pa_cons (pe_call GB hr10 rfl mB FB.kp bB .nil pass0 (pa_cons (pe_ix ix_tup (pv 1) pe_int (fun _ _ => rfl)) pa_nil)) pa_nil)))
      (pe_one (pe_cmpR op_eq (pe_callB (call_lenOwn aE iE (GE.raw bE .nil) hr2 pass0) (by rfl) T.len PySem.boot_len (pa_cons (pv 0) pa_nil)) (pe_callB call_len_seq (by rfl) T.len PySem.boot_len (pa_cons (pe_ix ix_tup (pv 1) pe_int (fun _ _ => rfl)) pa_nil)) (nomark _)))))), ?_⟩
  have t0 : atI [v, V.str r, V.str s] 0 = some v := atI_nat (j := 0) rfl
  have t1 : atI [v, V.str r, V.str s] 1 = some (.str r) := atI_nat (j := 1) rfl
  have t2 : atI [v, V.str r, V.str s] 2 = some (.str s) := atI_nat (j := 2) rfl
  have hok := hT.ok
  have ins : ∀ {Hx : Hp}, PatAt C Hx o (.lst ds) r s G → ∃ dx w, Hx o = some (.ins C dx (pfs w r s)) := fun h => by
    obtain ⟨dx, w, e, _⟩ := h
    exact ⟨dx, w, e⟩
  -- the steps
  obtain ⟨dx, w0, ho⟩ := ins hP
  refine ⟨_, rfl, o, dx, _, rfl, ho, o, .lst ds, r, s, G, rfl, hP, hok.fits, fun u1 H1 G1 hs1 hr1 hG1 => ⟨_, rfl, t, _, 0, _, rfl, rfl, SqT.of (hs1 _ _ ht), t0, u1, v, .lst ds, 34, rfl, by decide, hr1.rw, hR.same hs1, hok.fits, fun H2 hs2 => ⟨_, rfl, iteF ?_⟩⟩⟩
  have s2 := hs1.trans hs2
  -- the words
  have hP2 := hP.same s2
  obtain ⟨dx2, w2, ho2⟩ := ins hP2
  refine ⟨_, rfl, o, dx2, _, rfl, ho2, o, .lst ds, r, s, G, rfl, hP2, _, rfl, o, dx2, _, rfl, ho2, o, .lst ds, r, s, G, rfl, hP2, by show 2 ≤ sizeLine; decide, fun q1 hq1 => ?_⟩
  have s3 := same_new hq1 (.tup [.str r, .str s])
  have v3 : (upd H2 q1 (.tup [.str r, .str s])) q1 = some (.tup [.str r, .str s]) := upd_same
  generalize upd H2 q1 (.tup [.str r, .str s]) = H3 at s3 v3 ⊢
  have ht3 := SqT.of (K := K) (s3 _ _ (s2 _ _ ht))
  refine ⟨_, rfl, t, _, 1, _, rfl, rfl, ht3, t1, _, rfl, t, _, 2, _, rfl, rfl, ht3, t2, by show 2 ≤ sizeLine; decide, fun q2 hq2 => ?_⟩
  have s4 := same_new hq2 (.tup [.str r, .str s])
  have v4 : (upd H3 q2 (.tup [.str r, .str s])) q2 = some (.tup [.str r, .str s]) := upd_same
  generalize upd H3 q2 (.tup [.str r, .str s]) = H4 at s4 v4 ⊢
  have two : ∀ {Hx : Hp} {q : Addr}, Hx q = some (.tup [.str r, .str s]) → RW Hx (.tup [.leaf (.str r), .leaf (.str s)]) (.ref q) := fun h => ⟨_, _, rfl, h, .str r, _, rfl, ⟨rfl, leaf_str⟩, .str s, _, rfl, ⟨rfl, leaf_str⟩, rfl⟩
  refine ⟨.ref q1, .ref q2, _, 1, rfl, by decide, two (s4 _ _ v3), two v4, fits_tup (by show 2 ≤ 1000; decide) (fun e he => ?_), fun H5 hs5 => ⟨_, rfl, iteF ?_⟩⟩
  · simp at he
    rcases he with rfl | rfl <;> exact Fits.leaf
  have s5 := ((s2.trans s3).trans s4).trans hs5
  -- the names
  have hP5 := hP.same s5
  obtain ⟨dx5, w5, ho5⟩ := ins hP5
  refine ⟨_, rfl, o, dx5, _, rfl, ho5, pfs_no _ _ _ (by decide +kernel) (by decide +kernel) (by decide +kernel), o, ds, r, s, G, N, rfl, hP5, hT, fun l1 ys H6 hs6 hl10 hl1 pm1 so1 => ?_⟩
  have s6 := s5.trans hs6
  refine ⟨_, rfl, t, _, 0, _, rfl, rfl, SqT.of (s6 _ _ ht), t0, v, ds, N, rfl, hR.same s6, hT, fun l2 zs H7 hs7 hl20 hl2 pm2 so2 => ?_⟩
  have s7 := s6.trans hs7
  have ez : zs = ys := TxSet.one_rising pm2 so2 pm1 so1
  subst ez
  have few := dd_few (names_nm hT)
  have nl := hT.nl
  have lz : zs.length ≤ 63 := by
    rw [pm1.length_eq]
    omega
  refine ⟨.ref l1, .ref l2, .lst (zs.map fun y => D.leaf (.str y)), 1, rfl, by decide, ⟨l1, _, rfl, hs7 _ _ hl1, rw_texts⟩, ⟨l2, _, rfl, hl2, rw_texts⟩, fits_lst (by rw [List.length_map]; omega) (fun e he => ?_), fun H9 hs9 => ⟨_, rfl, iteT ?_⟩⟩
  · obtain ⟨y, _, rfl⟩ := List.mem_map.mp he
    exact Fits.leaf
  have s9 := s7.trans hs9
  -- the length
  have hP9 := hP.same s9
  obtain ⟨dx9, w9, ho9⟩ := ins hP9
  have hR9 := hR.same s9
  obtain ⟨lv, xs, rfl, hlv, hxs⟩ := hR9
  have tl := hT.len
  refine ⟨_, rfl, o, dx9, _, rfl, ho9, o, ds, r, s, G, rfl, hP9, ds.length, rfl, by omega, ?_⟩
  refine ⟨_, rfl, t, _, 0, _, rfl, rfl, SqT.of (s9 _ _ ht), t0, lv, xs, rfl, .inl (SqL.of hlv), rfl, ?_⟩
  rw [hxs.len, decide_eq_true rfl]
  exact kk H9 s9
end
end K02
set_option Elab.async false
set_option linter.all false
set_option maxRecDepth 100000
set_option maxHeartbeats 4000000
namespace K02
open PySem L2 PyProof.Rows
abbrev sTInit : Stmt := inClass (top 3) 0
def cNames : List Str := ["TakeError", "InvalidName", "InvalidPart", "InvalidTerm", "DoubleField", "InvalidRule", "InvalidAnswer", "UnknownPlace", "TakeEnded", "NothingToUndo", "Unreadable"].map Str.ofString
/-- the eleven classes stand as the text says; fI: the __init__ of the first, which the others have from it -/
structure ECls (K : PySem.W.Frag) (mg : Str → Option Value) (Cs : Nat → Addr) (fI : Addr) : Prop where
  mg : ∀ j x, cNames[j]? = some x → mg x = some (.ref (Cs j))
  oex : ∀ j, j < 11 → OexC K (Cs j)
  ew : ∀ j, j < 11 → ExcW K (Cs j)
  ini : ∀ j, j < 11 → PySem.W.findIn K (.ref (Cs j)) "__init__" = some (some (.ref fI))
  val : ∀ j, j < 11 → PySem.W.findIn K (.ref (Cs j)) "value" = some none
  tI : PySem.W.typeIn K (.ref fI) = some (.type "function")
  kit : ∀ i j, i < 11 → j < 11 → PySem.W.kitOne K (.ref (Cs i)) (.ref (Cs j)) = some (decide (j = 0 ∨ j = i))
  kitV : ∀ j, j < 11 → PySem.W.kitOne K (.ref (Cs j)) (.type "ValueError") = some true
  exm : ∀ j, j < 11 → PySem.W.exmOne K (.ref (Cs j)) (.ref (Cs 0)) = some true
def spTInit (K : PySem.W.Frag) : Sp := fun vs H Q _ => ∃ (x C : Addr) (v : V), vs = [.ref x, v] ∧ OexC K C ∧ PySem.W.findIn K (.ref C) "value" = some none ∧ H x = some (exo x C none) ∧
  ∀ dx, H dx = none → dx ≠ x → Q .non (upd (upd H dx (exd dx [("value", v)])) x (exo x C (some dx)))
/-- an error of a class with a number leaves, with the value that it holds -/
def Thr (Cs : Nat → Addr) (H : Hp) (E : XK) (c : Nat) (v : V) : Prop := ∀ (d : Addr) H', Same H H' → H d = none → H' d = some (.xd [(("value" : Str), v)]) → E (.ref (Cs c)) (some d) H'
theorem Thr.same {Cs : Nat → Addr} {H H1 : Hp} {E : XK} {c : Nat} {v : V} (h : Thr Cs H E c v) (s : Same H H1) : Thr Cs H1 E c v := fun d H' s2 hd hx => h d H' (s.trans s2) (s.free hd) hx
/-- the end of an error's making -/
theorem raise_at {K : PySem.W.Frag} {Cs : Nat → Addr} {H H1 : Hp} {E : XK} {c : Nat} {v : V} (T : OexC K (Cs c)) (hv : PySem.W.findIn K (.ref (Cs c)) "value" = some none) (t : Thr Cs H E c v) (s : Same H H1) :
    ∀ a, H1 a = none → spTInit K [.ref a, v] (upd H1 a (exo a (Cs c) none)) (fun v' H2 => v' = .non ∧ ∃ (d : Addr) (fs : List (Str × V)), H2 a = some (exo a (Cs c) (some d)) ∧ H2 d = some (exd d fs) ∧ H1 d = none ∧ E (.ref (Cs c)) (some d) (upd (L2.del H2 a) d (.xd fs))) (fun _ _ _ => False) := fun a ha =>
  ⟨a, Cs c, v, rfl, T, hv, upd_same, fun dx hd hn => by
    have hd0 : H1 dx = none := by
      rw [upd_ne hn] at hd
      exact hd
    have st : Same H1 (upd (L2.del (upd (upd (upd H1 a (exo a (Cs c) none)) dx (exd dx [(("value" : Str), v)])) a (exo a (Cs c) (some dx))) a) dx (.xd [(("value" : Str), v)])) := fun b o e => by
      have n1 := ne_of_none e hd0
      have n2 := ne_of_none e ha
      rw [upd_ne n1, del_ne n2, upd_ne n2, upd_ne n1, upd_ne n2]
      exact e
    refine ⟨rfl, dx, [(("value" : Str), v)], upd_same, ?_, hd0, t dx _ (s.trans st) (s.free hd0) upd_same⟩
    rw [upd_ne hn, upd_same]⟩
def ordB (r : Str) : Bool := inV (.str r) [.str (Str.ofString "soon"), .str (Str.ofString "late")]
theorem ord_of {r : Str} (h : ordB r = true) : okOrd r := by
  unfold ordB at h
  simp [inV, eqV] at h
  exact h.imp Eq.symm Eq.symm
theorem ord_to {r : Str} (h : okOrd r) : ordB r = true := by
  unfold ordB
  rcases h with rfl | rfl <;> decide +kernel
def spCkRulesX (Cs : Nat → Addr) : Sp := fun vs H Q E => ∃ r s : Str, vs = [.str r, .str s] ∧ okLck s ∧ (ordB r = true → ∀ H', Same H H' → Q .non H') ∧ (ordB r = false → Thr Cs H E 5 (.str r))
def spInitX (Cs : Nat → Addr) (C : Addr) : Sp := fun vs H Q E => ∃ (x dx : Addr) (v : V) (r s : Str) (ds : List D), vs = [.ref x, v, .str r, .str s] ∧ H x = some (.ins C dx []) ∧ RW H (.lst ds) v ∧ PrOk ds ∧ okLck s ∧
  (ordB r = true → ∀ u H' G, But x H H' → H' x = some (.ins C dx (pfs u r s)) → Rep H' (.lst ds) u G → (∀ a ∈ G, H a = none) → Q .non H') ∧ (ordB r = false → Thr Cs H E 5 (.str r))
def spMWithX (Cs : Nat → Addr) (C : Addr) : Sp := fun vs H Q E => ∃ (o : Addr) (ds : List D) (r s r' : Str) (G : List Addr), vs = [.ref o, .str r'] ∧ PatAt C H o (.lst ds) r s G ∧ PrOk ds ∧ okLck s ∧
  (ordB r' = true → ∀ o' H' G', Same H H' → H o' = none → PatAt C H' o' (.lst ds) r' s G' → (∀ a ∈ G', H a = none) → Q (.ref o') H') ∧ (ordB r' = false → Thr Cs H E 5 (.str r'))
def spMWoutX (Cs : Nat → Addr) (C : Addr) : Sp := fun vs H Q E => ∃ (o : Addr) (ds : List D) (r s : Str) (G : List Addr) (z : Int), vs = [.ref o, .int z] ∧ PatAt C H o (.lst ds) r s G ∧ PrOk ds ∧ okOrd r ∧ okLck s ∧
  (∀ i : Nat, z = (i : Int) → i < ds.length → ∀ o' H' G', Same H H' → H o' = none → PatAt C H' o' (.lst (ds.take i ++ ds.drop (i + 1))) r s G' → (∀ a ∈ G', H a = none) → Q (.ref o') H') ∧
  (¬ (0 ≤ z ∧ z < ((ds.length : Nat) : Int)) → Thr Cs H E 7 (.int z))
def spMExchX (Cs : Nat → Addr) (C : Addr) : Sp := fun vs H Q E => ∃ (o : Addr) (ds : List D) (r s : Str) (G : List Addr) (z : Int), vs = [.ref o, .int z] ∧ PatAt C H o (.lst ds) r s G ∧ PrOk ds ∧ okOrd r ∧ okLck s ∧
  (∀ i : Nat, z = (i : Int) → i + 1 < ds.length → ∀ o' H' G', Same H H' → H o' = none → PatAt C H' o' (.lst (exch ds i)) r s G' → (∀ a ∈ G', H a = none) → Q (.ref o') H') ∧
  (¬ (0 ≤ z ∧ z < ((ds.length : Nat) : Int) - 1) → Thr Cs H E 7 (.int z))
section
variable {P : Program} {w : World} {K : PySem.W.Frag} {mg : Str → Option Value} {base : Heap} {Cs : Nat → Addr} {fI0 : Addr} {fdI0 : FuncData}
theorem scTI : FnScope ["self", "value"] ["self", "value"] (defScope sTInit) := ⟨rfl, rfl, rfl, by decide +kernel, rfl, by decide +kernel, by decide +kernel⟩
theorem ok_tinit (F : Fun K "__init__" "TakeError.__init__" sTInit fI0 fdI0) : FnOk P w K mg base CX0 1 fI0 fdI0 ["self", "value"] (spTInit K) := by
  refine F.ok scTI (fun vs H Q E h => ?_) (fun cdv A outer s H vs Q E hr h => ?_)
  · obtain ⟨x, C, v, rfl, _⟩ := h
    rfl
  obtain ⟨x, C, v, rfl, T, hv, hx, k⟩ := h
  refine ⟨_, pss_one (ps_ost (pv 0) (pv 1)), ?_⟩
  exact ⟨_, rfl, _, rfl, x, C, rfl, T, hv, .inl ⟨hx, fun dx n ne => k dx n ne⟩⟩
theorem ok_ckrulesX {f : Addr} {fd : FuncData} (F : Fun K "check_rules" "check_rules" sCkRules f fd) (C : ECls K mg Cs fI0) (FI : Fun K "__init__" "TakeError.__init__" sTInit fI0 fdI0) (bI : Binds K fdI0 ["self", "value"] []) : FnOk P w K mg base (L2.CX P w) 3 f fd ["order", "lacks"] (spCkRulesX Cs) := by
  have GI : FnOk P w K mg base CX0 1 fI0 fdI0 ["self", "value"] (spTInit K) := ok_tinit FI
  refine F.okX scCu (fun vs H Q E h => ?_) (fun cdv A outer s H vs Q E hr h => ?_)
  · obtain ⟨r, s, rfl, _⟩ := h
    rfl
  obtain ⟨r, s, rfl, hs, kk, ke⟩ := h
  refine ⟨_, pss_cons (ps_if (pt_cmpR op_notIn_seq (pv 0) (pe_tup (pa_cons pe_str (pa_cons pe_str pa_nil))) (by rfl)) (pss_one (ps_raise rfl (takes_of rfl rfl rfl rfl) (pmk_oex (C.oex 5 (by decide)) (C.ini 5 (by decide)) C.tI GI hr bI .nil pass0 rfl (C.mg 5 _ rfl) (pa_cons (pv 0) pa_nil)))) pss_nil)
    (pss_one (ps_if (pt_cmpR op_notIn_seq (pv 1) (pe_tup (pa_cons pe_str (pa_cons pe_str pa_nil))) (by rfl)) pss_never pss_nil)), ?_⟩
  refine ⟨_, rfl, by show 2 ≤ sizeLine; decide, fun t ht => ⟨t, _, rfl, .inr (SqT.of upd_same), rfl, rfl, _, rfl, ?_⟩⟩
  have s1 := same_new ht (.tup [V.str (Str.ofString "soon"), V.str (Str.ofString "late")])
  show if (!ordB r) = true then _ else _
  cases ho : ordB r with
  | false => exact iteT ⟨_, rfl, (by show 1 ≤ 1000; decide), raise_at (C.oex 5 (by decide)) (C.val 5 (by decide)) (ke ho) s1⟩
  | true =>
    refine iteF ⟨_, rfl, by show 2 ≤ sizeLine; decide, fun t2 ht2 => ⟨t2, _, rfl, .inr (SqT.of upd_same), rfl, rfl, _, rfl, ifF ?_ (kk ho _ (s1.trans (same_new ht2 _)))⟩⟩
    rcases hs with rfl | rfl
    · simp [inV, eqV]
    · simp [inV, eqV]
theorem ok_initX {f C fP fU fF : Addr} {fd fdP fdU fdF : FuncData} (F : Fun K "__init__" "Program.__init__" sInit f fd) (CC : PCls K C)
    (FP : Fun K "check_step" "check_step" sCkStep fP fdP) (GP : FnOk P w K mg base CX0 25 fP fdP ["step"] spCkStep) (bP : Binds K fdP ["step"] []) (mP : mg "check_step" = some (.ref fP))
    (FU : Fun K "check_rules" "check_rules" sCkRules fU fdU) (GU : FnOk P w K mg base (L2.CX P w) 3 fU fdU ["order", "lacks"] (spCkRulesX Cs)) (bU : Binds K fdU ["order", "lacks"] []) (mU : mg "check_rules" = some (.ref fU))
    (FF : Fun K "fresh" "fresh" sFresh fF fdF) (GF : FnOk P w K mg base CX0 40 fF fdF ["thing"] (spCopy 40)) (bF : Binds K fdF ["thing"] []) (mF : mg "fresh" = some (.ref fF)) : FnOk P w K mg base (L2.CX P w) 41 f fd ["self", "steps", "order", "lacks"] (spInitX Cs C) := by
  refine F.okX scIn (fun vs H Q E h => ?_) (fun cdv A outer s H vs Q E hr h => ?_)
  · obtain ⟨x, dx, v, r, s, d, rfl, _⟩ := h
    rfl
  obtain ⟨x, dx, v, r, s, ds, rfl, hx, hR, hT, hc, kk, ke⟩ := h
  have hr1 := hr.mono (show 3 ≤ 40 by decide)
  have hr25 := hr.mono (show 25 ≤ 40 by decide)
  refine ⟨_, pss_cons (ps_for (passes_of rfl) rfl (pi_list (pv 1)) (pg_name (i := 4) scIn.nd rfl (Or.inl rfl)) (pss_one (ps_expr (pe_call GP hr25 rfl mP FP.kp bP .nil pass0 (pa_cons (pv 4) pa_nil)))))
    (pss_cons (ps_expr (pe_call GU hr1 rfl mU FU.kp bU .nil (passes_call (takes_of rfl rfl rfl rfl) fun _ _ _ _ h => h) (pa_cons (pv 2) (pa_cons (pv 3) pa_nil))))
    (pss_cons (ps_fld (pv 0) (pe_call GF hr rfl mF FF.kp bF .nil pass0 (pa_cons (pv 1) pa_nil)) rfl)
    (pss_cons (ps_fld (pv 0) (pv 2) rfl) (pss_one (ps_fld (pv 0) (pv 3) rfl))))), ?_⟩
  obtain ⟨l, zs, rfl, hl3, hz⟩ := id hR
  refine ⟨_, rfl, l, rfl, ⟨_, SqL.of hl3⟩, ?_⟩
  refine for_list (K := K) (a := l) (xs := zs) (fun i σ' H' => Same H H' ∧ ∃ v4 : Option V, σ' = [some (.ref x), some (.ref l), some (.str r), some (.str s), v4]) ⟨Same.refl _, _, rfl⟩ (fun i σ' H' _ ⟨h, _⟩ => SqL.of (h _ _ hl3)) ?_ ?_
  · rintro i x0 σ' H4 hi ⟨hs4, v4, rfl⟩
    obtain ⟨q, hqi, hrw⟩ := hz.item hi
    exact ⟨_, rfl, x0, q, rfl, hrw.same hs4, hT.st q (List.mem_of_getElem? hqi), fun H5 hs5 => ⟨hs4.trans hs5, _, rfl⟩⟩
  · rintro σ' H1 ⟨hs1, v4, rfl⟩
    refine ⟨_, rfl, _, rfl, r, s, rfl, hc, fun ho H2 hs2 => ?_, fun ho => (ke ho).same hs1⟩
    have hs12 := hs1.trans hs2
    refine ⟨_, rfl, .ref l, .lst ds, 34, rfl, by decide, hR.same hs12, hT.fits, fun u H3 G hs3 hr3 hG => ?_⟩
    have hs123 := hs12.trans hs3
    have hx3 := hs123 _ _ hx
    refine ⟨_, rfl, x, C, dx, [], rfl, hx3, CC.cl, CC.nP, (by show 0 < 1000; decide), _, rfl, _, rfl, x, C, dx, _, rfl, upd_same, CC.cl, CC.nO, (by show 1 < 1000; decide), _, rfl, _, rfl, x, C, dx, _, rfl, upd_same, CC.cl, CC.nL, (by show 2 < 1000; decide), ?_⟩
    have hb : But x H3 (upd (upd (upd H3 x (.ins C dx (putF "_steps" u []))) x (.ins C dx (putF "_order" (.str r) (putF "_steps" u [])))) x (.ins C dx (pfs u r s))) := fun b o n e => by
      rw [upd_ne n, upd_ne n, upd_ne n]
      exact e
    exact kk ho u _ G ((But.of hs123).trans hb) upd_same (hr3.lt (.ins hx3 hb)) fun a ha => hs12.free (hG a ha)
theorem ok_mwithX {f C fI : Addr} {fd fdI : FuncData} (F : Fun K "with_order" "Program.with_order" sMWith f fd) (CC : PCls K C) (M : Mk K C fI) (mC : mg "Program" = some (.ref C))
    (GI : FnOk P w K mg base (L2.CX P w) 41 fI fdI ["self", "steps", "order", "lacks"] (spInitX Cs C)) (bI : Binds K fdI ["self", "steps", "order", "lacks"] []) : FnOk P w K mg base (L2.CX P w) 43 f fd ["self", "order"] (spMWithX Cs C) := by
  refine F.okX scMw (fun vs H Q E h => ?_) (fun cdv A outer s H vs Q E hr h => ?_)
  · obtain ⟨o, d, r, s, r', G, rfl, _⟩ := h
    rfl
  obtain ⟨o, d, r, s, r', G, rfl, ⟨dx, v, ho, hR⟩, hT, hs', kk, ke⟩ := h
  refine ⟨_, pss_one (ps_ret (pe_make M GI hr rfl mC bI .nil (passes_call (takes_of rfl rfl rfl rfl) fun _ _ _ _ h => h) (pa_cons (pe_fld (pv 0) rfl) (pa_cons (pv 1) (pa_cons (pe_fld (pv 0) rfl) pa_nil))))), ?_⟩
  refine ⟨_, rfl, o, C, dx, _, _, rfl, ho, CC.cl, CC.nP, pfs_part _ _ _, _, rfl, _, rfl, o, C, dx, _, _, rfl, ho, CC.cl, CC.nL, pfs_lacks _ _ _, ?_⟩
  intro x dx2 hx hdx hne
  have st := same_ins (C := C) hx hdx
  exact ⟨x, dx2, v, r', s, d, rfl, upd_same, hR.rw.same st, hT, hs', fun hr' u H' G' hb hx' hr2 hG => ⟨rfl, kk hr' x H' G' (But.same st hb hx) hx ⟨dx2, u, hx', hr2⟩ fun a ha => st.free (hG a ha)⟩, fun hr' => (ke hr').same st⟩
theorem ok_mwoutX {f C fI : Addr} {fd fdI : FuncData} (F : Fun K "without" "Program.without" sMWout f fd) (CC : PCls K C) (T : Txt K mg) (M : Mk K C fI) (mC : mg "Program" = some (.ref C))
    (EC : ECls K mg Cs fI0) (FE : Fun K "__init__" "TakeError.__init__" sTInit fI0 fdI0) (bE : Binds K fdI0 ["self", "value"] [])
    (GI : FnOk P w K mg base CX0 41 fI fdI ["self", "steps", "order", "lacks"] (spInit C)) (bI : Binds K fdI ["self", "steps", "order", "lacks"] []) : FnOk P w K mg base (L2.CX P w) 43 f fd ["self", "index"] (spMWoutX Cs C) := by
  have GE : FnOk P w K mg base CX0 1 fI0 fdI0 ["self", "value"] (spTInit K) := ok_tinit FE
  refine F.okX scMo (fun vs H Q E h => ?_) (fun cdv A outer s H vs Q E hr h => ?_)
  · obtain ⟨o, d, r, s, G, i, rfl, _⟩ := h
    rfl
  obtain ⟨o, ds, r, s, G, z, rfl, ⟨dx, v, ho, hR⟩, hT, hro, hlo, kk, ke⟩ := h
  have hr2 := hr.mono (show 1 + 1 ≤ 42 by decide)
  refine ⟨_, pss_cons (ps_if (pt_not (pt_chain op_le op_lt pe_int (pv 1) (pe_callB call_len_seq (by rfl) T.len PySem.boot_len (pa_cons (pe_fld (pv 0) rfl) pa_nil)))) (pss_one (ps_raise rfl (takes_of rfl rfl rfl rfl) (pmk_oex (EC.oex 7 (by decide)) (EC.ini 7 (by decide)) EC.tI GE hr2 bE .nil pass0 rfl (EC.mg 7 _ rfl) (pa_cons (pv 1) pa_nil)))) pss_nil)
    (pss_one (ps_ret (pe_make M GI hr rfl mC bI .nil pass0 (pa_cons (pe_op op_cat (pe_slice sl_list (pe_fld (pv 0) rfl) po_none (po_some (pv 1))) (pe_slice sl_list (pe_fld (pv 0) rfl) (po_some (pe_op op_add (pv 1) pe_int)) po_none)) (pa_cons (pe_fld (pv 0) rfl) (pa_cons (pe_fld (pv 0) rfl) pa_nil)))))), ?_⟩
  obtain ⟨l, zs, F0, rfl, hl, hz, hnl, rfl⟩ := id hR
  have hlen := hz.len
  refine ⟨_, rfl, _, _, rfl, rfl, _, rfl, ?_⟩
  by_cases c0 : 0 ≤ z
  rotate_left
  · exact ifF (decide_eq_false c0) ⟨_, rfl, iteT ⟨_, rfl, (by show 1 ≤ 1000; decide), raise_at (EC.oex 7 (by decide)) (EC.val 7 (by decide)) (ke fun h => c0 h.1) (Same.refl _)⟩⟩
  refine ifT (decide_eq_true c0) ⟨_, rfl, o, C, dx, _, _, rfl, ho, CC.cl, CC.nP, pfs_part _ _ _, l, zs, rfl, .inl (SqL.of hl), _, _, rfl, rfl, _, rfl, ?_⟩
  by_cases c1 : z < ((ds.length : Nat) : Int)
  rotate_left
  · exact ifT (by rw [hlen, decide_eq_false c1]; rfl) ⟨_, rfl, (by show 1 ≤ 1000; decide), raise_at (EC.oex 7 (by decide)) (EC.val 7 (by decide)) (ke fun h => c1 h.2) (Same.refl _)⟩
  refine ifF (by rw [hlen, decide_eq_true c1]; rfl) ?_
  obtain ⟨i, rfl⟩ := Int.eq_ofNat_of_zero_le c0
  have hi : i < ds.length := by omega
  refine ⟨_, rfl, o, C, dx, _, _, rfl, ho, CC.cl, CC.nP, pfs_part _ _ _, _, rfl, _, rfl, l, zs, rfl, SqL.of hl, fun p1 hp1 => ?_⟩
  rw [cutV_pre]
  have s1 := same_new hp1 (.lst (zs.take i))
  refine ⟨_, rfl, o, C, dx, _, _, rfl, s1 _ _ ho, CC.cl, CC.nP, pfs_part _ _ _, _, rfl, _, _, rfl, rfl, _, rfl, l, zs, rfl, SqL.of (s1 _ _ hl), fun p2 hp2 => ?_⟩
  rw [show ((i : Int) + 1) = ((i + 1 : Nat) : Int) by omega, cutV_post]
  have s2 := same_new hp2 (.lst (zs.drop (i + 1)))
  have sz : (zs.take i).length + (zs.drop (i + 1)).length ≤ 1000 := by
    rw [List.length_take, List.length_drop]
    have := hT.len
    omega
  refine ⟨p1, p2, _, _, rfl, rfl, s2 _ _ upd_same, upd_same, Nat.le_trans sz (by decide), fun p3 hp3 => ?_⟩
  have s3 := same_new hp3 (.lst (zs.take i ++ zs.drop (i + 1)))
  have s13 := (s1.trans s2).trans s3
  have ho3 := s13 _ _ ho
  refine ⟨_, rfl, o, C, dx, _, _, rfl, ho3, CC.cl, CC.nO, pfs_order _ _ _, _, rfl, o, C, dx, _, _, rfl, ho3, CC.cl, CC.nL, pfs_lacks _ _ _, ?_⟩
  intro x dx2 hx hdx hne
  have st := same_ins (C := C) hx hdx
  have hzr := hz.rw
  refine ⟨x, dx2, .ref p3, r, s, _, rfl, upd_same, ⟨p3, _, rfl, st _ _ upd_same, ((hzr.take i).app (hzr.drop (i + 1))).same (s13.trans st)⟩, hT.out i, hro, hlo, fun u H' G' hb hx' hr2 hG => ⟨rfl, ?_⟩⟩
  exact kk i rfl hi x H' G' (s13.trans (But.same st hb hx)) (s13.free hx) ⟨dx2, u, hx', hr2⟩ fun a ha => s13.free (st.free (hG a ha))
theorem ok_mexchX {f C fI : Addr} {fd fdI : FuncData} (F : Fun K "exchanged" "Program.exchanged" sMExch f fd) (CC : PCls K C) (T : Txt K mg) (M : Mk K C fI) (mC : mg "Program" = some (.ref C))
    (EC : ECls K mg Cs fI0) (FE : Fun K "__init__" "TakeError.__init__" sTInit fI0 fdI0) (bE : Binds K fdI0 ["self", "value"] [])
    (GI : FnOk P w K mg base CX0 41 fI fdI ["self", "steps", "order", "lacks"] (spInit C)) (bI : Binds K fdI ["self", "steps", "order", "lacks"] []) : FnOk P w K mg base (L2.CX P w) 43 f fd ["self", "index"] (spMExchX Cs C) := by
  have GE : FnOk P w K mg base CX0 1 fI0 fdI0 ["self", "value"] (spTInit K) := ok_tinit FE
  refine F.okX scMx (fun vs H Q E h => ?_) (fun cdv A outer s H vs Q E hr h => ?_)
  · obtain ⟨o, d, r, s, G, i, rfl, _⟩ := h
    rfl
  obtain ⟨o, ds, r, s, G, z, rfl, ⟨dx, v, ho, hR⟩, hT, hro, hlo, kk, ke⟩ := h
  have hr2 := hr.mono (show 1 + 1 ≤ 42 by decide)
  refine ⟨_, pss_cons (ps_if (pt_not (pt_chain op_le op_lt pe_int (pv 1) (pe_op op_sub (pe_callB call_len_seq (by rfl) T.len PySem.boot_len (pa_cons (pe_fld (pv 0) rfl) pa_nil)) pe_int))) (pss_one (ps_raise rfl (takes_of rfl rfl rfl rfl) (pmk_oex (EC.oex 7 (by decide)) (EC.ini 7 (by decide)) EC.tI GE hr2 bE .nil pass0 rfl (EC.mg 7 _ rfl) (pa_cons (pv 1) pa_nil)))) pss_nil)
    (pss_cons (ps_set (i := 2) scMx.nd rfl (Or.inl rfl) (pe_callTy call_list_of (by rfl) T.list boot_list (pa_cons (pe_fld (pv 0) rfl) pa_nil)))
    (Evl.pss_cut (ps_asg (pe_tup (pa_cons (pe_ix ix_list (pv 2) (pe_op op_add (pv 1) pe_int) (fun _ _ => rfl)) (pa_cons (pe_ix ix_list (pv 2) (pv 1) (fun _ _ => rfl)) pa_nil))) (pg_tup rfl (pgs_cons (pg_sub (pv 2) (pv 1) set_list) (pgs_cons (pg_sub (pv 2) (pe_op op_add (pv 1) pe_int) set_list) pgs_nil))))
    (pss_one (ps_ret (pe_make M GI hr rfl mC bI .nil pass0 (pa_cons (pv 2) (pa_cons (pe_fld (pv 0) rfl) (pa_cons (pe_fld (pv 0) rfl) pa_nil)))))))), ?_⟩
  obtain ⟨l, zs, F0, rfl, hl, hz, hnl, rfl⟩ := id hR
  have hlen := hz.len
  have hzr := hz.rw
  refine ⟨_, rfl, _, _, rfl, rfl, _, rfl, ?_⟩
  by_cases c0 : 0 ≤ z
  rotate_left
  · exact ifF (decide_eq_false c0) ⟨_, rfl, iteT ⟨_, rfl, (by show 1 ≤ 1000; decide), raise_at (EC.oex 7 (by decide)) (EC.val 7 (by decide)) (ke fun h => c0 h.1) (Same.refl _)⟩⟩
  refine ifT (decide_eq_true c0) ⟨_, rfl, o, C, dx, _, _, rfl, ho, CC.cl, CC.nP, pfs_part _ _ _, l, zs, rfl, .inl (SqL.of hl), _, _, rfl, rfl, _, _, rfl, rfl, _, rfl, ?_⟩
  by_cases c1 : z < ((ds.length : Nat) : Int) - 1
  rotate_left
  · exact ifT (by rw [hlen, decide_eq_false c1]; rfl) ⟨_, rfl, (by show 1 ≤ 1000; decide), raise_at (EC.oex 7 (by decide)) (EC.val 7 (by decide)) (ke fun h => c1 h.2) (Same.refl _)⟩
  refine ifF (by rw [hlen, decide_eq_true c1]; rfl) ?_
  obtain ⟨i, rfl⟩ := Int.eq_ofNat_of_zero_le c0
  have hi : i + 1 < ds.length := by omega
  have e1 := List.getElem?_eq_getElem (show i < zs.length by omega)
  have e2 := List.getElem?_eq_getElem (show i + 1 < zs.length by omega)
  generalize zs[i]'(by omega) = x1 at e1
  generalize zs[i + 1]'(by omega) = x2 at e2
  obtain ⟨d1, g1, w1⟩ := hzr.item e1
  obtain ⟨d2, g2, w2⟩ := hzr.item e2
  refine ⟨_, rfl, o, C, dx, _, _, rfl, ho, CC.cl, CC.nP, pfs_part _ _ _, l, zs, rfl, .inl (SqL.of hl), fun p1 hp1 => ?_⟩
  have s1 := same_new hp1 (.lst zs)
  have ei : ((i : Int) + 1) = ((i + 1 : Nat) : Int) := by omega
  have q1 : (upd H p1 (.lst zs)) p1 = some (.lst zs) := upd_same
  refine ⟨fun σ' H' => Same H H' ∧ H' p1 = some (.lst ((zs.set i x2).set (i + 1) x1)) ∧ σ' = [some (.ref o), some (.int (i : Int)), some (.ref p1)], ?_, ?_⟩
  · refine ⟨_, rfl, _, rfl, _, _, rfl, rfl, p1, zs, _, x2, rfl, rfl, SqL.of q1, (by rw [ei]; exact atI_nat e2), _, rfl, _, rfl, p1, zs, _, x1, rfl, rfl, SqL.of q1, atI_nat e1, by show 2 ≤ sizeLine; decide, fun t ht => ?_⟩
    have s2 := same_new ht (.tup [x2, x1])
    refine ⟨t, _, rfl, SqT.of upd_same, rfl, _, _, rfl, _, rfl, _, rfl, p1, zs, _, i, rfl, rfl, s2 _ _ q1, Evl.ixN_nat (by omega), ?_⟩
    refine ⟨_, _, rfl, _, rfl, _, rfl, _, _, rfl, rfl, p1, zs.set i x2, _, i + 1, rfl, rfl, upd_same, (by rw [ei]; exact Evl.ixN_nat (by rw [List.length_set]; omega)), rfl, ?_⟩
    exact ⟨same_put (same_put (s1.trans s2) hp1) hp1, upd_same, rfl⟩
  rintro _ H3 ⟨s3, q3, rfl⟩
  have ho3 := s3 _ _ ho
  refine ⟨_, rfl, _, rfl, o, C, dx, _, _, rfl, ho3, CC.cl, CC.nO, pfs_order _ _ _, _, rfl, o, C, dx, _, _, rfl, ho3, CC.cl, CC.nL, pfs_lacks _ _ _, ?_⟩
  intro x dx2 hx hdx hne
  have st := same_ins (C := C) hx hdx
  have ex : exch ds i = (ds.set i d2).set (i + 1) d1 := by
    unfold exch
    rw [List.getD_eq_getElem?_getD, List.getD_eq_getElem?_getD, g1, g2]
    rfl
  refine ⟨x, dx2, .ref p1, r, s, exch ds i, rfl, upd_same, ⟨p1, _, rfl, st _ _ q3, ?_⟩, hT.exch hi, hro, hlo, fun u H' G' hb hx' hr2 hG => ⟨rfl, ?_⟩⟩
  · rw [ex]
    exact (RWs.put w1 (i + 1) (RWs.put w2 i hzr)).same (s3.trans st)
  · exact kk i rfl hi x H' G' (s3.trans (But.same st hb hx)) (s3.free hx) ⟨dx2, u, hx', hr2⟩ fun a ha => s3.free (st.free (hG a ha))
end
end K02
set_option Elab.async false
set_option linter.all false
set_option maxRecDepth 100000
set_option maxHeartbeats 2000000
/-! An object made in a try; what a suite asks of the own error that it holds. -/
namespace L2
open PySem PySem.Spec PyProof.Rows
/-- C(e, ..) in a try: a new instance, then __init__, which may raise -/
def tMakeS (C : Addr) (sp : Sp) (E : St → XK) (t : TA) : TE := fun σ H Q => t σ H fun vs H1 => ∀ y dy, H1 y = none → H1 dy = none → dy ≠ y → sp (.ref y :: vs) (upd (upd H1 dy (.own y)) y (.ins C dy [])) (fun v H2 => v = .non ∧ Q (.ref y) H2) (E σ)
def tMakeKS (C : Addr) (m : Nat) (sp : Sp) (gV : List V → List V → List V) (E : St → XK) (tk : TA) : TE := fun σ H Q => tk σ H fun zs H1 => zs.length = m ∧ ∀ y dy, H1 y = none → H1 dy = none → dy ≠ y → sp (gV [.ref y] zs) (upd (upd H1 dy (.own y)) y (.ins C dy [])) (fun v H2 => v = .non ∧ Q (.ref y) H2) (E σ)
section
variable {X : Cx} {CX : CXT} {k : Nat} {f C : Addr} {fd : FuncData} {ps ks : List Str} {sp : Sp} {x : Str} {p pos : Pos} {e : Expr} {es : List Expr} {kws : List Keyword} {t tk : TA} {E : St → XK}
variable {g : List Value → List Value → List Value} {gV : List V → List V → List V}
/-- the class is called with us and keywords, its __init__ bound to qs -/
theorem run_makeS {pins : List (Addr × Obj)} {σ : St} {H : Hp} {s : Shared} {Q : VK} {us ws qs : List Value} {vs : List V} (M : Mk X.K C f) (F : FnOk X.prog X.w X.K X.mg X.base CX k f fd ps sp) (hr : Room (k + 1) X.A) (hx : ∀ σ, PassesAt CX X σ (E σ)) (I : Inv X pins σ H s)
    (hb : ∀ z : Shared, X.K.In z.heap → BindsTo z fd ⟨.ref (s.heap.objs.size + 1) :: us, ks.zip ws⟩ (ps.zip qs)) (r : Vals vs qs)
    (h : sp vs (upd (upd H s.heap.objs.size (.own (s.heap.objs.size + 1))) (s.heap.objs.size + 1) (.ins C s.heap.objs.size [])) (fun v H2 => v = .non ∧ Q (.ref (s.heap.objs.size + 1)) H2) (E σ)) :
    wpAny (model X.prog X.w) X.A (call (.ref C) us (ks.zip ws)) (EP X pins σ Q) X.xe s := by
  have J := Inv.made (C := C) I
  have ran := F.run _ X.stack _ _ ⟨Value.ref (s.heap.objs.size + 1) :: us, ks.zip ws⟩ qs vs _ (E σ) (hr.make C us (ks.zip ws)) (J.env0.make C us (ks.zip ws)) (hb _ J.kIn) r h
  refine wpAny_call (make_map (f := f) I.kIn M.makes M.init (beq_iff_eq.mp M.fn) (codeAny_mono ran fun rr z hz => ?_))
  rcases rr with er | (u | _ | _ | _) <;> first | exact hx σ pins _ _ er z J hz | exact hz.elim | skip
  obtain ⟨v, H', J2, rv, ev, q3⟩ := J.after hz
  subst ev
  exact ⟨rv, V.ref (s.heap.objs.size + 1), H', J2, rfl, q3⟩
theorem pe_makeS (M : Mk X.K C f) (F : FnOk X.prog X.w X.K X.mg X.base CX k f fd ps sp) (hr : Room (k + 1) X.A) (hg : Gl X x) (hm : X.mg x = some (.ref C)) (hb : Binds X.K fd ps []) (hx : ∀ σ, PassesAt CX X σ (E σ)) (ha : PA X (e :: es) t)
    (hdb : (x == ("__debug__" : Str)) = false := by decide) (hs : starEach (e :: es) X.env = (false, eval e X.env) :: starEach es X.env := by rfl) (hpl : (backTo pos (starEach es X.env)).any (·.1) = false := by rfl) :
    PE X (.Call (.Name x p) (e :: es) [] pos) (tMakeS C sp E t) := by
  refine ⟨fun pins s σ H Q I h => wpAny_Call_Name_kw (ld_glob I hg hm ?_ hdb)⟩
  refine PySem.W.callWith_K (h₀ := X.base) I.ok.mod.kin M.kp (thn (ha.run pos pins s σ H _ I h) fun us z ⟨vs, H1, J, r, q⟩ => ⟨J.kIn, ?_⟩) hs hpl
  have hq := q (z.heap.objs.size + 1) z.heap.objs.size (J.hok.fresh (Nat.le_succ _)) (J.hok.fresh (Nat.le_refl _)) (Nat.ne_of_lt (Nat.lt_succ_self _))
  have r2 : Vals (V.ref (z.heap.objs.size + 1) :: vs) (Value.ref (z.heap.objs.size + 1) :: us) := .cons rfl r
  have hl : (Value.ref (z.heap.objs.size + 1) :: us).length = ps.length := by
    rw [← r2.length]
    exact F.len _ _ _ _ hq
  refine run_makeS (ks := []) (ws := []) M F hr hx J (fun y hy => ?_) r2 hq
  have b := hb y (Value.ref (z.heap.objs.size + 1) :: us) hy (by rw [List.append_nil]; exact hl)
  rw [List.append_nil] at b
  exact b
theorem pe_makeKS (M : Mk X.K C f) (F : FnOk X.prog X.w X.K X.mg X.base CX k f fd ps sp) (hr : Room (k + 1) X.A) (hg : Gl X x) (hm : X.mg x = some (.ref C)) (hb : KBn X.K fd ps 1 ks g gV) (hx : ∀ σ, PassesAt CX X σ (E σ)) (hkw : PK X kws tk)
    (hall : (backToKw pos (keywordEach kws X.env)).all (·.1.isSome) = true := by rfl) (hks : (backToKw pos (keywordEach kws X.env)).filterMap (·.1) = ks := by rfl) (hdb : (x == ("__debug__" : Str)) = false := by decide)
    (hpl : ((backTo pos (starEach [] X.env)).any (·.1) || (backToKw pos (keywordEach kws X.env)).any (·.1.isNone)) = false := by rfl) :
    PE X (.Call (.Name x p) [] kws pos) (tMakeKS C ks.length sp gV E tk) := by
  refine ⟨fun pins s σ H Q I h => wpAny_Call_Name_kw (ld_glob I hg hm ?_ hdb)⟩
  refine PySem.W.callWith_KW0 (h₀ := X.base) I.ok.mod.kin M.kp hall ?_ hpl
  refine thn (hkw.run pos pins s σ H _ I h) fun ws z ⟨zs, H1, J, rz, l2, q⟩ => ⟨J.kIn, ?_⟩
  rw [hks]
  have hq := q (z.heap.objs.size + 1) z.heap.objs.size (J.hok.fresh (Nat.le_succ _)) (J.hok.fresh (Nat.le_refl _)) (Nat.ne_of_lt (Nat.lt_succ_self _))
  have r1 : Vals [V.ref (z.heap.objs.size + 1)] [Value.ref (z.heap.objs.size + 1)] := .cons rfl .nil
  exact run_makeS (us := []) M F hr hx J (fun y hy => hb.to y [Value.ref (z.heap.objs.size + 1)] ws hy rfl (rz.length.symm.trans l2)) (hb.rel r1 rz) hq
end
/-! ### the error that a suite holds -/
/-- isinstance(e, c) -/
def rIsS (K : PySem.W.Frag) (a : Addr) (cls : Value) (d : Option Addr) : List V → Hp → VK → Prop := fun xs H Q => ∃ (D dd : Addr) (fs : List (Str × V)) (c : V) (u : Value) (b : Bool), cls = .ref D ∧ d = some dd ∧ ExcW K D ∧ xs = [.ref a, c] ∧ ClsV c u ∧ H dd = some (.xd fs) ∧ PySem.W.kitOne K (.ref D) u = some b ∧ Q (.bl b) H
/-- isinstance(e, (c, ..)) -/
def rIsST (K : PySem.W.Frag) (a : Addr) (cls : Value) (d : Option Addr) : List V → Hp → VK → Prop := fun xs H Q => ∃ (D dd : Addr) (fs : List (Str × V)) (tp : Addr) (cs : List V) (us : List Value) (b : Bool), cls = .ref D ∧ d = some dd ∧ ExcW K D ∧ xs = [.ref a, .ref tp] ∧ H tp = some (.tup cs) ∧ Paired ClsV cs us ∧ H dd = some (.xd fs) ∧ PySem.W.kitAny K (.ref D) us = some b ∧ Q (.bl b) H
/-- e.f -/
def tValS (K : PySem.W.Frag) (f : Str) (a : Addr) (cls : Value) (d : Option Addr) (te : TE) : TE := fun σ H Q => te σ H fun x H1 => ∃ (D dd : Addr) (fs : List (Str × V)) (v : V), x = .ref a ∧ cls = .ref D ∧ d = some dd ∧ ExcW K D ∧ PySem.W.findIn K (.ref D) f = some none ∧ H1 dd = some (.xd fs) ∧ fs.lookup f = some v ∧ Q v H1
section
variable {X : Cx} {a : Addr} {oe : Obj} {cls : Value} {d : Option Addr} {pn : List (Addr × Obj)}
theorem held_at {pins : List (Addr × Obj)} {σ : St} {H : Hp} {s : Shared} {D dd : Addr} {fs : List (Str × V)} (I : Inv (X.suite a ((a, oe) :: pn)) pins σ H s) (hz : Zc (.ref D) (some dd) oe) (hf : ∃ vs, oe.data = .fields vs) (hd : H dd = some (.xd fs)) :
    ∃ od : Obj, PySem.W.InstAt s.heap a oe D (some od) ∧ ∀ (f : Str) (v : V), fs.lookup f = some v → ∃ u, PySem.W.lookIn f od = some (some u) ∧ RelV v u := by
  obtain ⟨ha, _⟩ := I.pin (a, oe) (List.mem_append_left _ List.mem_cons_self)
  obtain ⟨vs, hdat⟩ := hf
  have hx : ObjOk X.prog X.w H s.heap dd (.xd fs) := I.hok dd _ hd
  obtain ⟨mA, hns, hr⟩ := hx
  obtain ⟨od, ho, hl⟩ := lookIn_ns hns
  refine ⟨od, ⟨ha, hz.1, by unfold PySem.W.notCls; rw [hdat] <;> rfl, by rw [hz.2]; exact ho⟩, fun f v e => ?_⟩
  obtain ⟨u, hu, ru⟩ := RelO.some_of (v := v) (o := mA f) (by rw [← e]; exact hr f)
  exact ⟨u, by rw [hl, hu], ru⟩
theorem call_isS (hz : Zc cls d oe) (hf : ∃ vs, oe.data = .fields vs) : CallR (X.suite a ((a, oe) :: pn)) (.builtin "isinstance") (rIsS X.K a cls d) := by
  intro pins s σ H xs us Q I r h
  obtain ⟨D, dd, fs, c, u, b, rfl, rfl, T, rfl, k, hd, e, q⟩ := h
  obtain ⟨u1, u2, rfl, r1, r2⟩ := vals2 r
  have e2 := k.eq r2
  subst e2
  obtain rfl : u1 = Value.ref a := r1
  obtain ⟨od, J, _⟩ := held_at I hz hf hd
  exact PySem.W.kia_one (PySem.W.kitx_exc T.is1 T.ga T.gg T.ex T.ca T.sg T.tk T.ob) I.kIn J e (fun z => nomatch z) fun tk' => ⟨.bl b, H, I.tok tk', rfl, q⟩
theorem call_isST (hz : Zc cls d oe) (hf : ∃ vs, oe.data = .fields vs) : CallR (X.suite a ((a, oe) :: pn)) (.builtin "isinstance") (rIsST X.K a cls d) := by
  intro pins s σ H xs us Q I r h
  obtain ⟨D, dd, fs, tp, cs, ws, b, rfl, rfl, T, rfl, hT, k, hd, e, q⟩ := h
  obtain ⟨u1, u2, rfl, r1, r2⟩ := vals2 r
  obtain rfl : u1 = Value.ref a := r1
  cases (show u2 = Value.ref tp from r2)
  obtain ⟨od, J, _⟩ := held_at I hz hf hd
  obtain ⟨_, its, rv, o, h1, h2, n, h3⟩ := (show ObjOk X.prog X.w H s.heap tp (.tup cs) from I.hok tp _ hT)
  have e3 := ClsV.all k rv
  subst e3
  obtain ⟨oc, od2, dt, sl⟩ := o
  simp only at h2 h3
  subst h2 h3
  exact PySem.W.kia_tup (PySem.W.kitx_exc T.is1 T.ga T.gg T.ex T.ca T.sg T.tk T.ob) I.kIn J h1 e (fun z => nomatch z) fun tk' => ⟨.bl b, H, I.tok tk', rfl, q⟩
theorem pe_valS {e : Expr} {te : TE} {f : Str} {pos : Pos} (hz : Zc cls d oe) (hf : ∃ vs, oe.data = .fields vs) (he : PE (X.suite a ((a, oe) :: pn)) e te) (hb : attributeBase e f X.env (eval e X.env) = eval e X.env := by rfl) :
    PE (X.suite a ((a, oe) :: pn)) (.Attribute e f pos) (tValS X.K f a cls d te) := by
  refine ⟨fun pins s σ H Q I h => attr_of hb (thn (he.run pins s σ H _ I h) fun u s1 hh => ?_)⟩
  obtain ⟨y, H1, J1, ry, D, dd, fs, v, rfl, rfl, rfl, T, hno, hd, hl, q⟩ := hh
  obtain rfl : u = Value.ref a := ry
  obtain ⟨od, J, hfs⟩ := held_at J1 hz hf hd
  obtain ⟨w', hu, ru⟩ := hfs f v hl
  exact HandSPX.exc_get J1.kIn J T.ga T.gg T.ex (PySem.W.findObj_own T.hd hno rfl hu) (handed_of ru) ⟨v, H1, J1.tok _, ru, q⟩
end
end L2
set_option Elab.async false
set_option linter.all false
set_option maxRecDepth 100000
set_option maxHeartbeats 2000000
/-! An own object's method called in a try, where it may raise; by place or by name. -/
namespace L2
open PySem PySem.Spec PyProof.Rows
def tMethT (C : Addr) (m : Str) (sp : Sp) (E : St → XK) (ta : TE) (t : TA) : TE := fun σ H Q => ta σ H fun x H1 => ∃ o dx fs, x = .ref o ∧ H1 o = some (.ins C dx fs) ∧ fs.lookup m = none ∧ t σ H1 fun vs H2 => sp (.ref o :: vs) H2 Q (E σ)
def tMethKT (C : Addr) (m : Str) (sp : Sp) (gV : List V → List V → List V) (E : St → XK) (ta : TE) (tk : TA) : TE := fun σ H Q => ta σ H fun x H1 => ∃ o dx fs, x = .ref o ∧ H1 o = some (.ins C dx fs) ∧ fs.lookup m = none ∧ tk σ H1 fun zs H2 => sp (gV [.ref o] zs) H2 Q (E σ)
section
variable {X : Cx} {CX : CXT} {k : Nat} {f C : Addr} {fd : FuncData} {ps ks : List Str} {sp : Sp} {m : Str} {pos apos : Pos} {o e : Expr} {es : List Expr} {kws : List Keyword} {ta : TE} {t tk : TA} {E : St → XK}
variable {g : List Value → List Value → List Value} {gV : List V → List V → List V}
theorem run_kT {pins : List (Addr × Obj)} {σ : St} {H : Hp} {s : Shared} {Q : VK} {us ws : List Value} {vs zs : List V} (F : FnOk X.prog X.w X.K X.mg X.base CX k f fd ps sp) (hr : Room k X.A) (hb : KBinds X.K fd ps ks g gV) (hx : PassesAt CX X σ (E σ))
    (J : Inv X pins σ H s) (r : Vals vs us) (rz : Vals zs ws) (q : sp (gV vs zs) H Q (E σ)) : wpAny (model X.prog X.w) X.A (call (.ref f) us (ks.zip ws)) (EP X pins σ Q) X.xe s := by
  have both := hb.rel r rz
  have ran := F.run X.A X.stack s H ⟨us, ks.zip ws⟩ (g us ws) (gV vs zs) Q (E σ) hr J.env0 (hb.to s us ws J.kIn (both.length.symm.trans (F.len _ _ _ _ q))) both q
  refine wpAny_call (codeAny_mono ran fun rr z hz => ?_)
  rcases rr with er | (u | _ | _ | _) <;> first | exact hx pins H _ er z J hz | exact hz.elim | exact J.after hz
theorem pe_methT {pl : Sem Bool} (he : PE X o ta) (c : Cls X.K C) (hm : Meth X.K C m f) (F : FnOk X.prog X.w X.K X.mg X.base CX k f fd ps sp) (hr : Room k X.A) (hb : Binds X.K fd ps []) (hx : ∀ σ, PassesAt CX X σ (E σ)) (ha : PA X (e :: es) t)
    (hst : starEach (e :: es) X.env = (false, eval e X.env) :: starEach es X.env := by rfl) (hpl : (backTo pos (starEach es X.env)).any (·.1) = false := by rfl)
    (ht : eval (.Call (.Attribute o m apos) (e :: es) [] pos) X.env = (do
      let ov ← eval o X.env
      standAt apos.atName
      let (g0, first) ← holding [ov] (getMethod ov m pl)
      callWith pos g0 first (backTo pos (starEach (e :: es) X.env)) (backToKw pos (keywordEach [] X.env))) := by rfl) :
    PE X (.Call (.Attribute o m apos) (e :: es) [] pos) (tMethT C m sp E ta t) := by
  refine ⟨fun pins s σ H Q J h => ?_⟩
  refine PySem.W.methodCall_KW (pl := pl) (thn (he.run pins s σ H _ J h) fun u s1 ⟨x, H1, J1, rx, a, dx, fs, ex, ea, l, q⟩ => ?_) ht
  subst ex
  cases (show u = Value.ref a from rx)
  refine getmeth_ok J1 ea c hm l ?_
  refine PySem.W.callWith_K (first := [.ref a]) (h₀ := X.base) J.ok.mod.kin hm.kp (thn (ha.run pos pins s1 σ H1 _ J1 q) fun us s2 ⟨vs, H2, J2, r, q2⟩ => ⟨J2.kIn, ?_⟩) hst hpl
  exact run_fnS (us := .ref a :: us) (vs := .ref a :: vs) F hr hb (hx σ) J2 (.cons rfl r) q2
theorem pe_methKT {pl : Sem Bool} (he : PE X o ta) (c : Cls X.K C) (hm : Meth X.K C m f) (F : FnOk X.prog X.w X.K X.mg X.base CX k f fd ps sp) (hr : Room k X.A) (hb : KBinds X.K fd ps ks g gV) (hx : ∀ σ, PassesAt CX X σ (E σ)) (hkw : PK X kws tk)
    (hall : (backToKw pos (keywordEach kws X.env)).all (·.1.isSome) = true := by rfl) (hks : (backToKw pos (keywordEach kws X.env)).filterMap (·.1) = ks := by rfl)
    (hpl : ((backTo pos (starEach [] X.env)).any (·.1) || (backToKw pos (keywordEach kws X.env)).any (·.1.isNone)) = false := by rfl)
    (ht : eval (.Call (.Attribute o m apos) [] kws pos) X.env = (do
      let ov ← eval o X.env
      standAt apos.atName
      let (g0, first) ← holding [ov] (getMethod ov m pl)
      callWith pos g0 first (backTo pos (starEach [] X.env)) (backToKw pos (keywordEach kws X.env))) := by rfl) :
    PE X (.Call (.Attribute o m apos) [] kws pos) (tMethKT C m sp gV E ta tk) := by
  refine ⟨fun pins s σ H Q J h => ?_⟩
  refine PySem.W.methodCall_KW (pl := pl) (thn (he.run pins s σ H _ J h) fun u s1 ⟨x, H1, J1, rx, a, dx, fs, ex, ea, l, q⟩ => ?_) ht
  subst ex
  cases (show u = Value.ref a from rx)
  refine getmeth_ok J1 ea c hm l ?_
  refine PySem.W.callWith_KW0 (first := [.ref a]) (h₀ := X.base) J.ok.mod.kin hm.kp hall ?_ hpl
  refine thn (hkw.run pos pins s1 σ H1 _ J1 q) fun ws s2 ⟨zs, H2, J2, rz, q2⟩ => ⟨J2.kIn, ?_⟩
  rw [hks]
  exact run_kT (us := [.ref a]) (vs := [.ref a]) F hr hb (hx σ) J2 (.cons rfl .nil) rz q2
end
end L2
set_option Elab.async false
set_option linter.all false
set_option maxRecDepth 100000
set_option maxHeartbeats 4000000
namespace K02
open PySem L2 PyProof.Rows
def pairKw {α : Type} : List α → List α → List α
  | [x], [y] => [x, y]
  | _, _ => []
/-- what a call asks: of a program, by which way, at what; and what comes of it -/
def DerF (ds : List D) (r : Str) (way : Int) (at_ : V) (f : Option (List D × Str)) : Prop :=
  (way < 2 ∧ ∃ z : Int, at_ = .int z ∧ ((∃ i : Nat, z = (i : Int) ∧ i < ds.length ∧ f = some (ds.take i ++ ds.drop (i + 1), r)) ∨ (¬ (0 ≤ z ∧ z < ((ds.length : Nat) : Int)) ∧ f = none))) ∨
  (¬ way < 2 ∧ ¬ 3 < way ∧ ∃ z : Int, at_ = .int z ∧ ((∃ i : Nat, z = (i : Int) ∧ i + 1 < ds.length ∧ f = some (exch ds i, r)) ∨ (¬ (0 ≤ z ∧ z < ((ds.length : Nat) : Int) - 1) ∧ f = none))) ∨
  (¬ way < 2 ∧ 3 < way ∧ ∃ u : Str, at_ = .str u ∧ ((ordB u = true ∧ f = some (ds, u)) ∨ (ordB u = false ∧ f = none)))
def DRes (C : Addr) (H H' : Hp) (l : Addr) (s : Str) : Option (List D × Str) → Prop
  | none => H' l = some (.lst [.str (Str.ofString "refused"), .bl true])
  | some q => ∃ o' G', H' l = some (.lst [.str (Str.ofString "made"), .ref o']) ∧ PatAt C H' o' (.lst q.1) q.2 s G' ∧ ∀ a ∈ G', H a = none
def spDeriv (C : Addr) : Sp := fun vs H Q _ => ∃ (o : Addr) (way : Int) (at_ : V) (ds : List D) (r s : Str) (G : List Addr) (f : Option (List D × Str)), vs = [.ref o, .int way, at_] ∧ PatAt C H o (.lst ds) r s G ∧ PrOk ds ∧ okOrd r ∧ okLck s ∧ DerF ds r way at_ f ∧
  ∀ l H', Same H H' → H l = none → DRes C H H' l s f → Q (.ref l) H'
def tIsA (K : PySem.W.Frag) (a : Addr) (cls : Value) (d : Option Addr) (v : V) : TE := tCB (rIsS K a cls d) (tCons (tVar 4) (tCons (tC v) tNil))
def tIsAny (K : PySem.W.Frag) (Cs : Nat → Addr) (a : Addr) (cls : Value) (d : Option Addr) (js : List Nat) : TE := tCB (rIsST K a cls d) (tCons (tVar 4) (tCons (tTup (js.foldr (fun j t => tCons (tC (.ref (Cs j))) t) tNil)) tNil))
def callBoth (C : Addr) (m : Str) (sp : Sp) (z : Int) (W : WX) : TS := tAsg (tLst (tCons (tC (.str (Str.ofString "made"))) (tCons (tIf (tTest (tOp rEq (tVar 1) (tC (.int z))))
  (tMethT C m sp (WE W) (tVar 0) (tCons (tVar 2) tNil)) (tMethKT C m sp pairKw (WE W) (tVar 0) (tCons (tVar 2) tNil))) tNil))) (gName 3)
def t_tryD (Cs : Nat → Addr) (C : Addr) : WX → TS := fun W => tIfS (tTest (tOp (rI0 fun i j => .bl (decide (i < j))) (tVar 1) (tC (.int 2)))) (callBoth C "without" (spMWoutX Cs C) 0 W)
  (tIfS (tTest (tOp (rI0 fun i j => .bl (decide (j < i))) (tVar 1) (tC (.int 3)))) (callBoth C "with_order" (spMWithX Cs C) 4 W) (callBoth C "exchanged" (spMExchX Cs C) 2 W))
def t_suiteD (K : PySem.W.Frag) (Cs : Nat → Addr) : Addr → Value → Option Addr → TS := fun a cls d =>
  tSeq (tAsg (tIsAny K Cs a cls d [1, 2, 3, 4, 6]) (gName 5))
  (tSeq (tAsg (tOrV (tVar 5) (tOrV (tIsAny K Cs a cls d [8, 9, 10]) (tNotV (tIsA K a cls d (.ty "ValueError"))))) (gName 5))
  (tSeq (tAsg (tOrV (tVar 5) (tOp rEq (tIsA K a cls d (.ref (Cs 7))) (tIsA K a cls d (.ref (Cs 5))))) (gName 5))
  (tAsg (tLst (tCons (tC (.str (Str.ofString "refused"))) (tCons (tAndV (tOp rEq (tIsA K a cls d (.ref (Cs 5))) (tOp (rI0 fun i j => .bl (decide (j < i))) (tVar 1) (tC (.int 3)))) (tAndV (tNotV (tVar 5)) (tOp rEq (tValS K "value" a cls d (tVar 4)) (tVar 2)))) tNil))) (gName 3))))
section
variable {P : Program} {w : World} {K : PySem.W.Frag} {mg : Str → Option Value} {base : Heap} {Cs : Nat → Addr} {fI0 : Addr} {fdI0 : FuncData}
theorem pair_rel {vs : List V} {us : List Value} {zs : List V} {ws : List Value} (r1 : Vals vs us) (r2 : Vals zs ws) : Vals (pairKw vs zs) (pairKw us ws) := by
  cases r1 with
  | nil => exact .nil
  | cons a t =>
    cases t with
    | nil =>
      cases r2 with
      | nil => exact .nil
      | cons b u =>
        cases u with
        | nil => exact .cons a (.cons b .nil)
        | cons _ _ => exact .nil
    | cons _ _ => exact .nil
theorem kb_with {fW : Addr} {fdW : FuncData} (F : Fun K "with_order" "Program.with_order" sMWith fW fdW) : KBinds K fdW ["self", "order"] ["order"] pairKw pairKw := by
  obtain ⟨oc, od, kV, doc, pm, an, cdv, ct, osl, rfl, lk, hcd⟩ := F.ex
  refine ⟨fun s us ws _ hl => ?_, fun r1 r2 => pair_rel r1 r2⟩
  match us, ws, hl with
  | [_], [_], _ => exact .of_eq rfl
  | [], _, hl => cases hl
  | [_], [], hl => cases hl
  | [_], _ :: _ :: _, hl => cases hl
  | _ :: _ :: _, _, hl => cases hl
theorem kb_wout {fW : Addr} {fdW : FuncData} (F : Fun K "without" "Program.without" sMWout fW fdW) : KBinds K fdW ["self", "index"] ["index"] pairKw pairKw := by
  obtain ⟨oc, od, kV, doc, pm, an, cdv, ct, osl, rfl, lk, hcd⟩ := F.ex
  refine ⟨fun s us ws _ hl => ?_, fun r1 r2 => pair_rel r1 r2⟩
  match us, ws, hl with
  | [_], [_], _ => exact .of_eq rfl
  | [], _, hl => cases hl
  | [_], [], hl => cases hl
  | [_], _ :: _ :: _, hl => cases hl
  | _ :: _ :: _, _, hl => cases hl
theorem kb_exch {fW : Addr} {fdW : FuncData} (F : Fun K "exchanged" "Program.exchanged" sMExch fW fdW) : KBinds K fdW ["self", "index"] ["index"] pairKw pairKw := by
  obtain ⟨oc, od, kV, doc, pm, an, cdv, ct, osl, rfl, lk, hcd⟩ := F.ex
  refine ⟨fun s us ws _ hl => ?_, fun r1 r2 => pair_rel r1 r2⟩
  match us, ws, hl with
  | [_], [_], _ => exact .of_eq rfl
  | [], _, hl => cases hl
  | [_], [], hl => cases hl
  | [_], _ :: _ :: _, hl => cases hl
  | _ :: _ :: _, _, hl => cases hl
theorem scDe : FnScope ["made", "way", "at", "found", "e", "other"] ["made", "way", "at"] (defScope sDeriv) := ⟨rfl, rfl, rfl, by decide +kernel, rfl, by decide +kernel, by decide +kernel⟩
theorem ok_deriv {f C fO fW fX : Addr} {fd fdO fdW fdX : FuncData} (F : Fun K "_law_ta_derived" "_law_ta_derived" sDeriv f fd) (T : Txt K mg) (zV : mg "ValueError" = none) (CC : PCls K C) (EC : ECls K mg Cs fI0)
    (FO : Fun K "with_order" "Program.with_order" sMWith fO fdO) (mO : Meth K C "with_order" fO) (GO : FnOk P w K mg base (L2.CX P w) 43 fO fdO ["self", "order"] (spMWithX Cs C)) (bO : Binds K fdO ["self", "order"] [])
    (FW : Fun K "without" "Program.without" sMWout fW fdW) (mW : Meth K C "without" fW) (GW : FnOk P w K mg base (L2.CX P w) 43 fW fdW ["self", "index"] (spMWoutX Cs C)) (bW : Binds K fdW ["self", "index"] [])
    (FX : Fun K "exchanged" "Program.exchanged" sMExch fX fdX) (mX : Meth K C "exchanged" fX) (GX : FnOk P w K mg base (L2.CX P w) 43 fX fdX ["self", "index"] (spMExchX Cs C)) (bX : Binds K fdX ["self", "index"] []) :
    FnOk P w K mg base CX0 44 f fd ["made", "way", "at"] (spDeriv C) := by
  refine F.ok scDe (fun vs H Q E h => ?_) (fun cdv A outer s H vs Q E hr h => ?_)
  · obtain ⟨o, w, at_, d, r, s, G, f, rfl, _⟩ := h
    rfl
  obtain ⟨o, way, at_, ds, r, s, G, ff, rfl, pat, hT, hro, hlo, hF, kk⟩ := h
  refine ⟨_, pss_cons (ps_set (i := 3) scDe.nd rfl (Or.inl rfl) (pe_lst pa_nil))
    (pss_cons (ps_try_as (i := 4) (tb := t_tryD Cs C) (ts := t_suiteD K Cs) (Wout := fun _ _ _ _ => False) rfl rfl scDe.nd rfl rfl ⟨rfl, by decide, Or.inl (EC.mg 0 _ rfl)⟩ takes0
      (fun W pn xe tk _ => pss_one (ps_if (by exact (pt_cmpR op_lt (pv 1) pe_int (nomark _)))
        (pss_one (ps_set (i := 3) scDe.nd rfl (Or.inl rfl) (by exact (pe_lst (pa_cons pe_str (pa_cons (pe_ifExp (pt_cmpR op_eq (pv 1) pe_int (nomark _))
          (pe_methT (pv 0) CC.cl mW GW hr bW (fun σ => passAt tk σ) (by exact (pa_cons (pv 2) pa_nil)))
          (pe_methKT (pv 0) CC.cl mW GW hr (kb_wout FW) (fun σ => passAt tk σ) (by exact (pk_cons (pv 2) pk_nil)))) pa_nil))))))
        (pss_one (ps_if (by exact (pt_cmpR op_gt (pv 1) pe_int (nomark _)))
          (pss_one (ps_set (i := 3) scDe.nd rfl (Or.inl rfl) (by exact (pe_lst (pa_cons pe_str (pa_cons (pe_ifExp (pt_cmpR op_eq (pv 1) pe_int (nomark _))
            (pe_methT (pv 0) CC.cl mO GO hr bO (fun σ => passAt tk σ) (by exact (pa_cons (pv 2) pa_nil)))
            (pe_methKT (pv 0) CC.cl mO GO hr (kb_with FO) (fun σ => passAt tk σ) (by exact (pk_cons (pv 2) pk_nil)))) pa_nil))))))
          (pss_one (ps_set (i := 3) scDe.nd rfl (Or.inl rfl) (by exact (pe_lst (pa_cons pe_str (pa_cons (pe_ifExp (pt_cmpR op_eq (pv 1) pe_int (nomark _))
            (pe_methT (pv 0) CC.cl mX GX hr bX (fun σ => passAt tk σ) (by exact (pa_cons (pv 2) pa_nil)))
            (pe_methKT (pv 0) CC.cl mX GX hr (kb_exch FX) (fun σ => passAt tk σ) (by exact (pk_cons (pv 2) pk_nil)))) pa_nil))))))))))
      (fun a oe cls d pn hz hf => pss_cons (ps_set (i := 5) scDe.nd rfl (Or.inl rfl) (by exact (pe_callB (call_isST hz hf) (by rfl) T.isi boot_isinstance (pa_cons (pv 4) (pa_cons (pe_tup
            (pa_cons (pe_glob (v := .ref (Cs 1)) rfl (EC.mg 1 _ rfl) rfl) (pa_cons (pe_glob (v := .ref (Cs 2)) rfl (EC.mg 2 _ rfl) rfl) (pa_cons (pe_glob (v := .ref (Cs 3)) rfl (EC.mg 3 _ rfl) rfl)
            (pa_cons (pe_glob (v := .ref (Cs 4)) rfl (EC.mg 4 _ rfl) rfl) (pa_cons (pe_glob (v := .ref (Cs 6)) rfl (EC.mg 6 _ rfl) rfl) pa_nil)))))) pa_nil)))))
          (pss_cons (ps_set (i := 5) scDe.nd rfl (Or.inl rfl) (by exact (pe_or (pv 5) (pe_or (pe_callB (call_isST hz hf) (by rfl) T.isi boot_isinstance (pa_cons (pv 4) (pa_cons (pe_tup
            (pa_cons (pe_glob (v := .ref (Cs 8)) rfl (EC.mg 8 _ rfl) rfl) (pa_cons (pe_glob (v := .ref (Cs 9)) rfl (EC.mg 9 _ rfl) rfl) (pa_cons (pe_glob (v := .ref (Cs 10)) rfl (EC.mg 10 _ rfl) rfl) pa_nil)))) pa_nil)))
            (pe_one (pe_not (pe_callB (call_isS hz hf) (by rfl) T.isi boot_isinstance (pa_cons (pv 4) (pa_cons (pe_bltn (v := .ty "ValueError") (by rfl) zV (by decide +kernel) rfl) pa_nil)))))))))
          (pss_cons (ps_set (i := 5) scDe.nd rfl (Or.inl rfl) (by exact (pe_or (pv 5) (pe_one (pe_cmpR op_eq (pe_callB (call_isS hz hf) (by rfl) T.isi boot_isinstance (pa_cons (pv 4) (pa_cons (pe_glob (v := .ref (Cs 7)) rfl (EC.mg 7 _ rfl) rfl) pa_nil)))
            (pe_callB (call_isS hz hf) (by rfl) T.isi boot_isinstance (pa_cons (pv 4) (pa_cons (pe_glob (v := .ref (Cs 5)) rfl (EC.mg 5 _ rfl) rfl) pa_nil))) (nomark _))))))
          (pss_one (ps_set (i := 3) scDe.nd rfl (Or.inl rfl) (by exact (pe_lst (pa_cons pe_str (pa_cons (pe_and (pe_cmpR op_eq (pe_callB (call_isS hz hf) (by rfl) T.isi boot_isinstance (pa_cons (pv 4) (pa_cons (pe_glob (v := .ref (Cs 5)) rfl (EC.mg 5 _ rfl) rfl) pa_nil))) (pe_cmpR op_gt (pv 1) pe_int (nomark _)) (nomark _))
            (pe_and (pe_not (pv 5)) (pe_one (pe_cmpR op_eq (pe_valS hz hf (pv 4)) (pv 2) (nomark _))))) pa_nil))))))))))
    (pss_one (ps_ret (pv 3)))), ?_⟩
  obtain ⟨dx, v, ho, hR⟩ := id pat
  refine ⟨by show 0 ≤ sizeLine; decide, fun l0 hl0 => ?_⟩
  have s0 := same_new hl0 (.lst [])
  show t_tryD Cs C _ _ _ (upd H l0 (.lst []))
  generalize upd H l0 (.lst []) = H0 at s0
  have made : ∀ (q : List D × Str), ff = some q → ∀ (H1 : Hp) (o' : Addr) (G' : List Addr), Same H0 H1 → PatAt C H1 o' (.lst q.1) q.2 s G' → (∀ a ∈ G', H0 a = none) → (3 - 1 ≤ sizeLine) ∧ ∀ l, H1 l = none → Q (.ref l) (upd H1 l (.lst [.str (Str.ofString "made"), .ref o'])) := fun q hq H1 o' G' hs pa hG0 => by
    refine ⟨by decide, fun l hl => ?_⟩
    have st := same_new hl (.lst [.str (Str.ofString "made"), .ref o'])
    refine kk l _ ((s0.trans hs).trans st) ((s0.trans hs).free hl) ?_
    rw [hq]
    exact ⟨o', G', upd_same, pa.same st, fun a ha => s0.free (hG0 a ha)⟩
  have refused : ff = none → ∀ (c : Nat), c = 5 ∧ 3 < way ∨ c = 7 ∧ ¬ 3 < way → scal at_ at_ = true → ∀ (D : L2.Ends) (σ : L2.St), σ = [some (.ref o), some (.int way), some at_, some (.ref l0), none, none] → (∀ (l : Addr) (H' : Hp) (v5 : Option V), Q (.ref l) H' → D.nx [some (.ref o), some (.int way), some at_, some (.ref l), none, v5] H') → Thr Cs H0 (WE (wAs K (.ref (Cs 0)) 4 (t_suiteD K Cs) (fun _ _ _ _ => False) D) σ) c at_ := by
    rintro hff c hc hsc D _ rfl hD dd H2 hs2 hdd0 hdd
    have c5 : c < 11 := by omega
    have ew := EC.ew c c5
    have kit := fun j hj => EC.kit c j c5 hj
    have no : ∀ j, j < 11 → j ≠ 0 → j ≠ 5 → j ≠ 7 → PySem.W.kitOne K (.ref (Cs c)) (.ref (Cs j)) = some false := fun j hj h0 h5 h7 => by
      rw [kit j hj, decide_eq_false (by omega)]
    refine ⟨true, EC.exm c c5, fun _ a _ => ?_, fun z => nomatch z⟩
    refine ⟨_, rfl, by show 5 ≤ sizeLine; decide, fun tp htp => ?_⟩
    have s1 := same_new htp (.tup [V.ref (Cs 1), V.ref (Cs 2), V.ref (Cs 3), V.ref (Cs 4), V.ref (Cs 6)])
    refine ⟨Cs c, dd, _, tp, _, _, false, rfl, rfl, ew, rfl, upd_same, .cons (.own _) (.cons (.own _) (.cons (.own _) (.cons (.own _) (.cons (.own _) .nil)))), s1 _ _ hdd,
      kitAny_cons (no 1 (by decide) (by decide) (by decide) (by decide)) (fun _ => kitAny_cons (no 2 (by decide) (by decide) (by decide) (by decide)) (fun _ => kitAny_cons (no 3 (by decide) (by decide) (by decide) (by decide)) (fun _ => kitAny_cons (no 4 (by decide) (by decide) (by decide) (by decide)) (fun _ => kitAny_cons (no 6 (by decide) (by decide) (by decide) (by decide)) (fun _ => kitAny_nil) fun z => nomatch z) fun z => nomatch z) fun z => nomatch z) fun z => nomatch z) (fun z => nomatch z), ?_⟩
    refine ⟨_, rfl, false, rfl, iteF ⟨_, rfl, by show 3 ≤ sizeLine; decide, fun tp2 htp2 => ?_⟩⟩
    have s2 := s1.trans (same_new htp2 (.tup [V.ref (Cs 8), V.ref (Cs 9), V.ref (Cs 10)]))
    refine ⟨Cs c, dd, _, tp2, _, _, false, rfl, rfl, ew, rfl, upd_same, .cons (.own _) (.cons (.own _) (.cons (.own _) .nil)), s2 _ _ hdd,
      kitAny_cons (no 8 (by decide) (by decide) (by decide) (by decide)) (fun _ => kitAny_cons (no 9 (by decide) (by decide) (by decide) (by decide)) (fun _ => kitAny_cons (no 10 (by decide) (by decide) (by decide) (by decide)) (fun _ => kitAny_nil) fun z => nomatch z) fun z => nomatch z) (fun z => nomatch z), ?_⟩
    refine ⟨false, rfl, iteF ⟨_, rfl, Cs c, dd, _, .ty "ValueError", _, _, rfl, rfl, ew, rfl, .ty _, s2 _ _ hdd, EC.kitV c c5, true, rfl, ?_⟩⟩
    have is : ∀ {σ : L2.St} {Hx : Hp} {j : Nat} {Qx : VK}, Same H2 Hx → σ[4]? = some (some (V.ref a)) → j < 11 → (∀ b, b = decide (j = 0 ∨ j = c) → Qx (.bl b) Hx) → tIsA K a (.ref (Cs c)) (some dd) (.ref (Cs j)) σ Hx Qx := fun {σ Hx j Qx} hs h4 hj hq => ⟨_, h4, Cs c, dd, _, .ref (Cs j), .ref (Cs j), _, rfl, rfl, ew, rfl, .own _, hs _ _ hdd, kit j hj, hq _ rfl⟩
    refine ⟨_, rfl, false, rfl, iteF (is s2 rfl (by decide) fun b7 e7 => is s2 rfl (by decide) fun b5 e5 => ⟨rfl, ?_⟩)⟩
    have n75 : decide (V.bl b7 = V.bl b5) = false := by
      rcases hc with ⟨rfl, _⟩ | ⟨rfl, _⟩ <;> rw [e7, e5] <;> decide
    rw [n75]
    refine is s2 rfl (by decide) fun b5' e5' => ⟨_, rfl, _, _, rfl, rfl, rfl, ?_⟩
    have t5 : decide (V.bl b5' = V.bl (decide (3 < way))) = true := by
      rcases hc with ⟨rfl, h3⟩ | ⟨rfl, h3⟩
      · rw [e5', decide_eq_true h3]
        decide
      · rw [e5', decide_eq_false h3]
        decide
    rw [t5]
    refine ⟨_, rfl, iteT ⟨_, rfl, false, rfl, true, rfl, iteT ?_⟩⟩
    refine ⟨_, rfl, Cs c, dd, _, at_, rfl, rfl, rfl, ew, EC.val c c5, s2 _ _ hdd, rfl, _, rfl, hsc, ?_⟩
    rw [decide_eq_true rfl]
    refine ⟨by show 2 ≤ sizeLine; decide, fun l hl => ?_⟩
    have st := same_new hl (.lst [V.str (Str.ofString "refused"), V.bl true])
    exact hD l _ _ (kk l _ (((s0.trans hs2).trans s2).trans st) (((s0.trans hs2).trans s2).free hl) (by
      rw [hff]
      exact upd_same))
  have ho0 := s0 _ _ ho
  have pat0 : PatAt C H0 o (.lst ds) r s G := ⟨dx, v, ho0, hR.same s0⟩
  refine ⟨_, rfl, _, _, rfl, rfl, _, rfl, ?_⟩
  rcases hF with ⟨w1, z, rfl, hF⟩ | ⟨w1, w3, z, rfl, hF⟩ | ⟨w1, w3, u, rfl, hF⟩
  · refine ifT (decide_eq_true w1) ⟨_, rfl, rfl, _, rfl, ?_⟩
    have yes : ∀ i : Nat, z = (i : Int) → i < ds.length → ff = some (ds.take i ++ ds.drop (i + 1), r) := fun i e hi => by
      rcases hF with ⟨j, e2, _, h⟩ | ⟨h, _⟩
      · obtain rfl : i = j := by omega
        exact h
      · omega
    have no : ¬ (0 ≤ z ∧ z < ((ds.length : Nat) : Int)) → ff = none := fun e => by
      rcases hF with ⟨j, e2, _, h⟩ | ⟨_, h⟩
      · omega
      · exact h
    refine ite2 (fun _ => ?_) (fun _ => ?_)
    · refine ⟨_, rfl, o, dx, _, rfl, ho0, pfs_wout _ _ _, _, rfl, o, ds, r, s, G, z, rfl, pat0, hT, hro, hlo, fun i e hi o' H1 G' hs ho' pa hG' => ?_, fun e => ?_⟩
      · obtain ⟨g1, g2⟩ := made _ (yes i e hi) H1 o' G' hs pa hG'
        exact ⟨g1, fun l hl => ⟨_, rfl, g2 l hl⟩⟩
      · exact refused (no e) 7 (.inr ⟨rfl, by omega⟩) rfl _ _ rfl fun l H' v5 q => ⟨_, rfl, q⟩
    · refine ⟨_, rfl, o, dx, _, rfl, ho0, pfs_wout _ _ _, _, rfl, o, ds, r, s, G, z, rfl, pat0, hT, hro, hlo, fun i e hi o' H1 G' hs ho' pa hG' => ?_, fun e => ?_⟩
      · obtain ⟨g1, g2⟩ := made _ (yes i e hi) H1 o' G' hs pa hG'
        exact ⟨g1, fun l hl => ⟨_, rfl, g2 l hl⟩⟩
      · exact refused (no e) 7 (.inr ⟨rfl, by omega⟩) rfl _ _ rfl fun l H' v5 q => ⟨_, rfl, q⟩
  · refine ifF (decide_eq_false w1) ⟨_, rfl, _, _, rfl, rfl, _, rfl, ifF (decide_eq_false w3) ⟨_, rfl, rfl, _, rfl, ?_⟩⟩
    have yes : ∀ i : Nat, z = (i : Int) → i + 1 < ds.length → ff = some (exch ds i, r) := fun i e hi => by
      rcases hF with ⟨j, e2, _, h⟩ | ⟨h, _⟩
      · obtain rfl : i = j := by omega
        exact h
      · omega
    have no : ¬ (0 ≤ z ∧ z < ((ds.length : Nat) : Int) - 1) → ff = none := fun e => by
      rcases hF with ⟨j, e2, _, h⟩ | ⟨_, h⟩
      · omega
      · exact h
    refine ite2 (fun _ => ?_) (fun _ => ?_)
    · refine ⟨_, rfl, o, dx, _, rfl, ho0, pfs_exch _ _ _, _, rfl, o, ds, r, s, G, z, rfl, pat0, hT, hro, hlo, fun i e hi o' H1 G' hs ho' pa hG' => ?_, fun e => ?_⟩
      · obtain ⟨g1, g2⟩ := made _ (yes i e hi) H1 o' G' hs pa hG'
        exact ⟨g1, fun l hl => ⟨_, rfl, g2 l hl⟩⟩
      · exact refused (no e) 7 (.inr ⟨rfl, by omega⟩) rfl _ _ rfl fun l H' v5 q => ⟨_, rfl, q⟩
    · refine ⟨_, rfl, o, dx, _, rfl, ho0, pfs_exch _ _ _, _, rfl, o, ds, r, s, G, z, rfl, pat0, hT, hro, hlo, fun i e hi o' H1 G' hs ho' pa hG' => ?_, fun e => ?_⟩
      · obtain ⟨g1, g2⟩ := made _ (yes i e hi) H1 o' G' hs pa hG'
        exact ⟨g1, fun l hl => ⟨_, rfl, g2 l hl⟩⟩
      · exact refused (no e) 7 (.inr ⟨rfl, by omega⟩) rfl _ _ rfl fun l H' v5 q => ⟨_, rfl, q⟩
  · refine ifF (decide_eq_false w1) ⟨_, rfl, _, _, rfl, rfl, _, rfl, ifT (decide_eq_true w3) ⟨_, rfl, rfl, _, rfl, ?_⟩⟩
    have yes : ordB u = true → ff = some (ds, u) := fun e => by
      rcases hF with ⟨_, h⟩ | ⟨h, _⟩
      · exact h
      · rw [e] at h
        cases h
    have no : ordB u = false → ff = none := fun e => by
      rcases hF with ⟨h, _⟩ | ⟨_, h⟩
      · rw [e] at h
        cases h
      · exact h
    refine ite2 (fun _ => ?_) (fun _ => ?_)
    · refine ⟨_, rfl, o, dx, _, rfl, ho0, pfs_with _ _ _, _, rfl, o, ds, r, s, u, G, rfl, pat0, hT, hlo, fun e o' H1 G' hs ho' pa hG' => ?_, fun e => ?_⟩
      · obtain ⟨g1, g2⟩ := made _ (yes e) H1 o' G' hs pa hG'
        exact ⟨g1, fun l hl => ⟨_, rfl, g2 l hl⟩⟩
      · exact refused (no e) 5 (.inl ⟨rfl, w3⟩) rfl _ _ rfl fun l H' v5 q => ⟨_, rfl, q⟩
    · refine ⟨_, rfl, o, dx, _, rfl, ho0, pfs_with _ _ _, _, rfl, o, ds, r, s, u, G, rfl, pat0, hT, hlo, fun e o' H1 G' hs ho' pa hG' => ?_, fun e => ?_⟩
      · obtain ⟨g1, g2⟩ := made _ (yes e) H1 o' G' hs pa hG'
        exact ⟨g1, fun l hl => ⟨_, rfl, g2 l hl⟩⟩
      · exact refused (no e) 5 (.inl ⟨rfl, w3⟩) rfl _ _ rfl fun l H' v5 q => ⟨_, rfl, q⟩
end
end K02
set_option Elab.async false
set_option linter.all false
set_option maxRecDepth 100000
set_option maxHeartbeats 4000000
namespace K02
open PySem L2 PyProof.Rows
/-! ### a program's steps, one left out or two exchanged -/
theorem exch_zero {a b : D} {ds : List D} : exch (a :: b :: ds) 0 = b :: a :: ds := rfl
theorem exch_succ {a : D} {ds : List D} {i : Nat} : exch (a :: ds) (i + 1) = a :: exch ds i := rfl
theorem exch_eq : ∀ {ds : List D} {i : Nat} {d1 d2 : D}, ds[i]? = some d1 → ds[i + 1]? = some d2 → exch ds i = ds.take i ++ [d2, d1] ++ ds.drop (i + 2)
  | [], i, _, _, h, _ => by simp at h
  | [a], 0, _, _, _, h => by simp at h
  | [a], i + 1, _, _, h, _ => by simp at h
  | a :: b :: ds, 0, d1, d2, h1, h2 => by
    have e1 : a = d1 := by simpa using h1
    have e2 : b = d2 := by simpa using h2
    rw [e1, e2]
    rfl
  | a :: b :: ds, i + 1, d1, d2, h1, h2 => by
    rw [exch_succ, exch_eq (ds := b :: ds) (i := i) (by simpa using h1) (by simpa using h2)]
    rfl
theorem tot_cons {a : D} {ds : List D} : stTot (a :: ds) = ((stParts a).flatMap (pre 7)).length + stTot ds := by
  unfold stTot
  rw [List.flatMap_cons, List.flatMap_append, List.length_append]
theorem tot_app {as bs : List D} : stTot (as ++ bs) = stTot as + stTot bs := by
  unfold stTot
  rw [List.flatMap_append, List.flatMap_append, List.length_append]
theorem tot_exch : ∀ {ds : List D} {i : Nat}, i + 1 < ds.length → stTot (exch ds i) = stTot ds
  | [], i, h => absurd h (Nat.not_lt_zero _)
  | [a], i, h => absurd h (by show ¬ i + 1 < 1; omega)
  | a :: b :: ds, 0, _ => by
    rw [exch_zero, tot_cons, tot_cons, tot_cons, tot_cons]
    omega
  | a :: b :: ds, i + 1, h => by
    have h' : i + 1 < (b :: ds).length := by
      have : (a :: b :: ds).length = (b :: ds).length + 1 := rfl
      omega
    rw [exch_succ, tot_cons, tot_exch h', ← tot_cons]
theorem mem_exch {ds : List D} {i : Nat} (hi : i + 1 < ds.length) {d : D} (hd : d ∈ exch ds i) : d ∈ ds := by
  have g : ∀ j, j < ds.length → ds.getD j (.leaf .non) ∈ ds := fun j hj => by
    rw [List.getD_eq_getElem?_getD, List.getElem?_eq_getElem hj]
    exact List.getElem_mem hj
  rcases List.mem_or_eq_of_mem_set hd with z | rfl
  · rcases List.mem_or_eq_of_mem_set z with z | rfl
    · exact z
    · exact g _ hi
  · exact g _ (by omega)
theorem PgN.exch {N : List Str} {ds : List D} (h : PgN N ds) {i : Nat} (hi : i + 1 < ds.length) : PgN N (exch ds i) := by
  refine ⟨?_, fun d hd => h.st d (mem_exch hi hd), fun d hd => h.nm d (mem_exch hi hd), h.nl, by rw [tot_exch hi]; exact h.tot⟩
  unfold K02.exch
  rw [List.length_set, List.length_set]
  exact h.len
theorem PgN.out {N : List Str} {ds : List D} (h : PgN N ds) (i : Nat) : PgN N (ds.take i ++ ds.drop (i + 1)) := by
  have sub : ∀ d ∈ ds.take i ++ ds.drop (i + 1), d ∈ ds := fun d hd => by
    rcases List.mem_append.mp hd with z | z
    · exact List.mem_of_mem_take z
    · exact List.mem_of_mem_drop z
  refine ⟨?_, fun d hd => h.st d (sub d hd), fun d hd => h.nm d (sub d hd), h.nl, ?_⟩
  · rw [List.length_append, List.length_take, List.length_drop]
    have := h.len
    omega
  · have e : stTot (ds.take i ++ ds.drop i) = stTot ds := by rw [List.take_append_drop]
    have l : stTot (ds.drop (i + 1)) ≤ stTot (ds.drop i) := by
      rw [← List.drop_drop]
      generalize ds.drop i = es
      cases es with
      | nil => exact Nat.le_refl _
      | cons a es =>
        rw [tot_cons]
        exact Nat.le_add_left _ _
    rw [tot_app] at e ⊢
    have := h.tot
    omega
/-- what comes of a call of without or exchanged -/
def derf (ds : List D) (r : Str) (way z : Int) : Option (List D × Str) :=
  if way < 2 then (if 0 ≤ z ∧ z < ((ds.length : Nat) : Int) then some (ds.take z.toNat ++ ds.drop (z.toNat + 1), r) else none)
  else (if 0 ≤ z ∧ z < ((ds.length : Nat) : Int) - 1 then some (exch ds z.toNat, r) else none)
theorem derf_ok {ds : List D} {r : Str} {way z : Int} (h : way < 4) : DerF ds r way (.int z) (derf ds r way z) := by
  unfold derf
  by_cases h2 : way < 2
  · rw [if_pos h2]
    refine .inl ⟨h2, z, rfl, ?_⟩
    by_cases hz : 0 ≤ z ∧ z < ((ds.length : Nat) : Int)
    · rw [if_pos hz]
      exact .inl ⟨z.toNat, by omega, by omega, rfl⟩
    · rw [if_neg hz]
      exact .inr ⟨hz, rfl⟩
  · rw [if_neg h2]
    refine .inr (.inl ⟨h2, by omega, z, rfl, ?_⟩)
    by_cases hz : 0 ≤ z ∧ z < ((ds.length : Nat) : Int) - 1
    · rw [if_pos hz]
      exact .inl ⟨z.toNat, by omega, by omega, rfl⟩
    · rw [if_neg hz]
      exact .inr ⟨hz, rfl⟩
def derw (ds : List D) (u : Str) : Option (List D × Str) := if ordB u = true then some (ds, u) else none
theorem derw_ok {ds : List D} {r u : Str} {way : Int} (h : 3 < way) : DerF ds r way (.str u) (derw ds u) := by
  refine .inr (.inr ⟨by omega, h, u, rfl, ?_⟩)
  unfold derw
  cases e : ordB u with
  | true => exact .inl ⟨rfl, if_pos rfl⟩
  | false => exact .inr ⟨rfl, if_neg (by decide)⟩
/-! ### the heap without two places -/
def mask (p k : Addr) (H : Hp) : Hp := fun b => if b = p ∨ b = k then none else H b
theorem mask_le {p k : Addr} {H : Hp} : Same (mask p k H) H := fun b o e => by
  unfold mask at e
  split at e
  · cases e
  · exact e
theorem mask_at {p k b : Addr} {H : Hp} {o : HO} (h1 : b ≠ p) (h2 : b ≠ k) (e : H b = some o) : mask p k H b = some o := by
  unfold mask
  rw [if_neg (fun z => z.elim h1 h2)]
  exact e
theorem mask_p {p k : Addr} {H : Hp} : mask p k H p = none := if_pos (.inl rfl)
theorem mask_k {p k : Addr} {H : Hp} : mask p k H k = none := if_pos (.inr rfl)
theorem mask_kp {p k : Addr} {H : Hp} {xs ys : List V} (hp : H p = some (.lst xs)) (hk : H k = some (.lst ys)) : Kp (fun b => b = p ∨ b = k) H (mask p k H) := fun b o e h => by
  have h1 : b ≠ p := fun z => by
    subst z
    rcases h with h | h
    · exact h (.inl rfl)
    · exact h xs (Option.some.inj (e.symm.trans hp))
  have h2 : b ≠ k := fun z => by
    subst z
    rcases h with h | h
    · exact h (.inr rfl)
    · exact h ys (Option.some.inj (e.symm.trans hk))
  exact mask_at h1 h2 e
theorem purse_isl {H : Hp} {p : Addr} {n : Nat} (h : Purse H p n) : ∃ xs, H p = some (HO.lst xs) := by
  obtain ⟨a, b, c, e, _⟩ := h
  exact ⟨_, e⟩
/-- a plan and a program made by it -/
structure J (C : Addr) (M : Hp) (t o : Addr) (ds : List D) (r s : Str) : Prop where
  ex : ∃ v G, M t = some (.tup [v, .str r, .str s]) ∧ RW M (.lst ds) v ∧ PatAt C M o (.lst ds) r s G
  pg : ∃ N, PgN N ds
  ord : okOrd r
  lck : okLck s
theorem J.same {C t o : Addr} {M M1 : Hp} {ds : List D} {r s : Str} (h : J C M t o ds r s) (k : Same M M1) : J C M1 t o ds r s := by
  obtain ⟨⟨v, G, a1, a2, a3⟩, b1, b2, b3⟩ := h
  exact ⟨⟨v, G, k _ _ a1, a2.same k, a3.same k⟩, b1, b2, b3⟩
def menuW : List Str := ["soon", "late", "", "Soon", "soon ", "absent", "nothing", "later", "lat", "so"].map Str.ofString
structure InvR (C : Addr) (H H' : Hp) (p k m t o : Addr) (c : Nat) (M : Hp) (ds : List D) (r s : Str) (ks : List V) : Prop where
  bt : But p H H'
  pu : Purse H' p c
  np : k ≠ p
  nk : H k = none
  le : Same M H'
  mp : M p = none
  mkk : M k = none
  hk : H' k = some (.lst ks)
  all : ∀ x ∈ ks, ∃ q o' t' ds' r' s', x = .ref q ∧ M q = some (.tup [.ref o', .ref t']) ∧ J C M t' o' ds' r' s'
  me : M m = some (.lst (menuW.map V.str))
  j : J C M t o ds r s
section
variable {C : Addr} {H H1 H2 M M1 : Hp} {p k m t o : Addr} {c c' : Nat} {ds : List D} {r s : Str} {ks : List V}
theorem same_but (h : Same M H1) (b : But p H1 H2) (hp : M p = none) : Same M H2 := fun a x e => b a x (fun z => by
  rw [z, hp] at e
  cases e) (h a x e)
theorem InvR.but (h : InvR C H H1 p k m t o c M ds r s ks) (b : But p H1 H2) (hp : Purse H2 p c') : InvR C H H2 p k m t o c' M ds r s ks :=
  ⟨h.bt.trans b, hp, h.np, h.nk, same_but h.le b h.mp, h.mp, h.mkk, b _ _ h.np h.hk, h.all, h.me, h.j⟩
theorem InvR.same (h : InvR C H H1 p k m t o c M ds r s ks) (b : Same H1 H2) : InvR C H H2 p k m t o c M ds r s ks := h.but (.of b) (h.pu.same b)
theorem InvR.mono (h : InvR C H H1 p k m t o c M ds r s ks) (hc : c ≤ c') : InvR C H H1 p k m t o c' M ds r s ks := h.but (.refl _ _) (h.pu.mono hc)
theorem InvR.up (h : InvR C H H1 p k m t o c M ds r s ks) : Same M (mask p k H1) := fun a x e => mask_at (fun z => by
  rw [z, h.mp] at e
  cases e) (fun z => by
  rw [z, h.mkk] at e
  cases e) (h.le a x e)
/-- with all that stands by now -/
theorem InvR.grow (h : InvR C H H1 p k m t o c M ds r s ks) : InvR C H H1 p k m t o c (mask p k H1) ds r s ks :=
  ⟨h.bt, h.pu, h.np, h.nk, mask_le, mask_p, mask_k, h.hk, fun x hx => by
    obtain ⟨q, o', t', ds', r', s', e, e2, j⟩ := h.all x hx
    exact ⟨q, o', t', ds', r', s', e, h.up _ _ e2, j.same h.up⟩, h.up _ _ h.me, h.j.same h.up⟩
/-- another plan with its program -/
theorem InvR.with (h : InvR C H H1 p k m t o c M ds r s ks) {t2 o2 : Addr} {ds2 : List D} {r2 s2 : Str} (j : J C M t2 o2 ds2 r2 s2) : InvR C H H1 p k m t2 o2 c M ds2 r2 s2 ks := ⟨h.bt, h.pu, h.np, h.nk, h.le, h.mp, h.mkk, h.hk, h.all, h.me, j⟩
/-- one more is kept -/
theorem InvR.push (h : InvR C H H1 p k m t o c M ds r s ks) {q : Addr} (hq : M q = some (.tup [.ref o, .ref t])) : InvR C H (upd H1 k (.lst (ks ++ [.ref q]))) p k m t o c M ds r s (ks ++ [.ref q]) := by
  refine ⟨fun b x n e => ?_, ?_, h.np, h.nk, fun b x e => ?_, h.mp, h.mkk, upd_same, fun x hx => ?_, h.me, h.j⟩
  · rw [upd_ne (ne_of_none e h.nk)]
    exact h.bt b x n e
  · obtain ⟨x, y, z, e, r⟩ := h.pu
    exact ⟨x, y, z, by rw [upd_ne h.np.symm]; exact e, r⟩
  · rw [upd_ne (ne_of_none e h.mkk)]
    exact h.le b x e
  · rcases List.mem_append.mp hx with z | z
    · exact h.all x z
    · exact ⟨q, o, t, ds, r, s, List.mem_singleton.mp z, hq, h.j⟩
/-- what was found: a new program stands in the heap without the two places -/
theorem InvR.pat (h : InvR C H H1 p k m t o c M ds r s ks) {H0 : Hp} {d : D} {r2 s2 : Str} {o2 : Addr} {G : List Addr} (pa : PatAt C H1 o2 d r2 s2 G) (hp : ∃ x, H0 p = some x) (hk : ∃ x, H0 k = some x) (hG : ∀ a ∈ G, H0 a = none) : PatAt C (mask p k H1) o2 d r2 s2 G := by
  obtain ⟨xs, e1⟩ := purse_isl h.pu
  have kp := mask_kp e1 h.hk
  obtain ⟨dx, v, a1, a2⟩ := pa
  refine ⟨dx, v, kp.there a1 (fun _ z => nomatch z), a2.kp kp fun a ha z => ?_⟩
  have e := hG a ha
  rcases z with rfl | rfl
  · obtain ⟨x, e2⟩ := hp
    rw [e] at e2
    cases e2
  · obtain ⟨x, e2⟩ := hk
    rw [e] at e2
    cases e2
theorem DRes.same {C : Addr} {H H1 H2 : Hp} {l : Addr} {s : Str} {f : Option (List D × Str)} (h : DRes C H H1 l s f) (k : Same H1 H2) : DRes C H H2 l s f := by
  cases f with
  | none => exact k _ _ h
  | some q =>
    obtain ⟨o', G', e, pa, g⟩ := h
    exact ⟨o', G', k _ _ e, pa.same k, g⟩
end
theorem at4 {a b c e i : Int} (h0 : 0 ≤ i) (h1 : i < 4) : ∃ z, atI [V.int a, V.int b, V.int c, V.int e] i = some (.int z) := by
  have h : i = ((0 : Nat) : Int) ∨ i = ((1 : Nat) : Int) ∨ i = ((2 : Nat) : Int) ∨ i = ((3 : Nat) : Int) := by omega
  rcases h with h | h | h | h
  · exact ⟨_, at_ofN h rfl⟩
  · exact ⟨_, at_ofN h rfl⟩
  · exact ⟨_, at_ofN h rfl⟩
  · exact ⟨_, at_ofN h rfl⟩
theorem menu_word {i : Int} (h0 : 0 ≤ i) (h1 : i < 10) : ∃ u : Str, atI (menuW.map V.str) i = some (.str u) := by
  obtain ⟨j, rfl⟩ := Int.eq_ofNat_of_zero_le h0
  have hj : j < menuW.length := by
    show j < 10
    omega
  exact ⟨menuW[j], at_ofN rfl (by rw [List.getElem?_map, List.getElem?_eq_getElem hj]; rfl)⟩
def refT : PyData := .list [.str (Str.ofString "refused"), .bool true]
theorem ref_sh : SeqAt.shaped refT = true := by decide +kernel
theorem ref_eq : PyData.eqv refT refT = true := by decide +kernel
theorem ne_ref {K : PySem.W.Frag} {H : Hp} {l q : Addr} {Q : VK} (h1 : H l = some (.lst [V.str (Str.ofString "refused"), V.bl true])) (h2 : H q = some (.lst [V.str (Str.ofString "refused"), V.bl true])) (k : Q (.bl false) H) : rNeD K (.ref l) (.ref q) H Q := by
  refine ⟨refT, refT, .lst (SqL.of h1) (.cons (.str _) (.cons (.bl _) .nil)), .lst (SqL.of h2) (.cons (.str _) (.cons (.bl _) .nil)), ref_sh, ref_sh, ?_⟩
  rw [ref_eq]
  exact k
end K02
set_option Elab.async false
set_option linter.all false
set_option maxRecDepth 100000
set_option maxHeartbeats 4000000
namespace K02
open PySem L2 PyProof.Rows
def cR : Nat := cPl + 100
def spRight : Sp := fun vs H Q _ => ∃ (p : Addr) (n : Nat), vs = [.ref p] ∧ Purse H p n ∧ n + cR < 10 ^ 60 ∧ ∀ H', But p H H' → Purse H' p (n + cR) → Q (.bl true) H'
section
variable {P : Program} {w : World} {K : PySem.W.Frag} {mg : Str → Option Value} {base : Heap}
theorem scRi : FnScope ["purse", "plan", "made", "kept", "menu", "turn", "size", "way", "at", "found", "rows", "owed", "word", "mode", "one"] ["purse"] (defScope sRight) := ⟨rfl, rfl, rfl, by decide +kernel, rfl, by decide +kernel, by decide +kernel⟩
theorem ok_right {f C fC fN fD fL fT : Addr} {fd fdC fdN fdD fdL fdT : FuncData} (F : Fun K "_law_right" "_law_right" sRight f fd) (T : Txt K mg)
    (FC : Fun K "_law_coin" "_law_coin" sCoin fC fdC) (GC : FnOk P w K mg base CX0 1 fC fdC ["purse", "many"] spCoin) (bC : Binds K fdC ["purse", "many"] []) (mC : mg "_law_coin" = some (.ref fC))
    (FN : Fun K "_law_tp_plan" "_law_tp_plan" sPlan fN fdN) (GN : FnOk P w K mg base CX0 16 fN fdN ["purse", "is_great"] spPlan) (bN : Binds K fdN ["purse", "is_great"] []) (mN : mg "_law_tp_plan" = some (.ref fN))
    (FD : Fun K "_law_tp_made" "_law_tp_made" sMade fD fdD) (GD : FnOk P w K mg base CX0 44 fD fdD ["purse", "plan"] (spMade C)) (bD : Binds K fdD ["purse", "plan"] []) (mD : mg "_law_tp_made" = some (.ref fD))
    (FL : Fun K "_law_tp_tells" "_law_tp_tells" sTells fL fdL) (GL : FnOk P w K mg base CX0 43 fL fdL ["made", "plan"] (spTells C)) (bL : Binds K fdL ["made", "plan"] []) (mL : mg "_law_tp_tells" = some (.ref fL))
    (FT : Fun K "_law_ta_derived" "_law_ta_derived" sDeriv fT fdT) (GT : FnOk P w K mg base CX0 44 fT fdT ["made", "way", "at"] (spDeriv C)) (bT : Binds K fdT ["made", "way", "at"] []) (mT : mg "_law_ta_derived" = some (.ref fT)) :
    FnOk P w K mg base CX0 45 f fd ["purse"] spRight := by
  refine F.ok scRi (fun vs H Q E h => ?_) (fun cdv A outer s H vs Q E hr h => ?_)
  · obtain ⟨p, n, rfl, _⟩ := h
    rfl
  obtain ⟨p, n, rfl, hp, hn, kk⟩ := h
  have hr1 := hr.mono (show 1 ≤ 44 by decide)
  have hr16 := hr.mono (show 16 ≤ 44 by decide)
  have hr43 := hr.mono (show 43 ≤ 44 by decide)
  refine ⟨_, (pss_cons (ps_set (i := 1) scRi.nd rfl (Or.inl rfl) (pe_call GN hr16 rfl mN FN.kp bN .nil pass0 (pa_cons (pv 0) (pa_cons (pe_cmpR op_eq (pe_call GC hr1 rfl mC FC.kp bC .nil pass0 (pa_cons (pv 0) (pa_cons pe_int pa_nil))) pe_int (nomark _)) pa_nil))))
    (Evl.pss_cut (ps_par (i := 2) (j := 3) rfl scRi.nd rfl rfl (by decide) rfl rfl (pa_cons (pe_call GD hr rfl mD FD.kp bD .nil pass0 (pa_cons (pv 0) (pa_cons (pv 1) pa_nil))) (pa_cons (pe_lst pa_nil) pa_nil)) (by rfl))
    (Evl.pss_cut (ps_set (i := 4) scRi.nd rfl (Or.inl rfl) (pe_lst (pa_cons pe_str (pa_cons pe_str (pa_cons pe_str (pa_cons pe_str (pa_cons pe_str (pa_cons pe_str (pa_cons pe_str (pa_cons pe_str (pa_cons pe_str (pa_cons pe_str pa_nil))))))))))))
    (Evl.pss_cut (ps_for PassesOwn.never rfl (pi_range1 rfl T.range (pa_cons pe_int pa_nil)) (pg_name (i := 5) scRi.nd rfl (Or.inl rfl))
    (Evl.pss_cut (ps_par (i := 6) (j := 7) rfl scRi.nd rfl rfl (by decide) rfl rfl (pa_cons (pe_callB call_len_seq (by rfl) T.len PySem.boot_len (pa_cons (pe_ix ix_tup (pv 1) pe_int (fun _ _ => rfl)) pa_nil)) (pa_cons (pe_call GC hr1 rfl mC FC.kp bC .nil pass0 (pa_cons (pv 0) (pa_cons pe_int pa_nil))) pa_nil)) (by rfl))
    (Evl.pss_cut (ps_set (i := 8) scRi.nd rfl (Or.inl rfl) (pe_ix ix_list (pe_lst (pa_cons (pe_op op_sub (pe_call GC hr1 rfl mC FC.kp bC .nil pass0 (pa_cons (pv 0) (pa_cons (pe_op op_add (pv 6) pe_int) pa_nil))) pe_int) (pa_cons (pe_call GC hr1 rfl mC FC.kp bC .nil pass0 (pa_cons (pv 0) (pa_cons (pe_op op_add (pv 6) pe_int) pa_nil))) (pa_cons pe_int (pa_cons (pe_un un_neg pe_int) pa_nil))))) (pe_callB (call_max2 rfl) (by rfl) T.max boot_max (pa_cons pe_int (pa_cons (pe_op op_sub (pe_call GC hr1 rfl mC FC.kp bC .nil pass0 (pa_cons (pv 0) (pa_cons pe_int pa_nil))) pe_int) pa_nil))) (fun _ _ => rfl)))
    (Evl.pss_cut (ps_par (i := 9) (j := 10) rfl scRi.nd rfl rfl (by decide) rfl rfl (pa_cons (pe_call GT hr rfl mT FT.kp bT .nil pass0 (pa_cons (pv 2) (pa_cons (pv 7) (pa_cons (pv 8) pa_nil)))) (pa_cons (pe_callTy call_list_of (by rfl) T.list boot_list (pa_cons (pe_ix ix_tup (pv 1) pe_int (fun _ _ => rfl)) pa_nil)) pa_nil)) (by rfl))
    (Evl.pss_cut (ps_if (pt_not (pt_chain op_le op_lt pe_int (pv 8) (pe_op op_sub (pv 6) (pe_callTy call_int1 (by rfl) T.int boot_int (pa_cons (pe_cmpR op_gt (pv 7) pe_int (nomark _)) pa_nil))))) (pss_one (ps_if (pt_cmpR (op_neD hr.units) (pv 9) (pe_lst (pa_cons pe_str (pa_cons pe_bl pa_nil))) (nomark _)) pss_never pss_nil)) (Evl.pss_cut (ps_set (i := 11) scRi.nd rfl (Or.inl rfl) (pe_op op_cat (pe_slice sl_list (pv 10) po_none (po_some (pv 8))) (pe_slice sl_list (pv 10) (po_some (pe_op op_add (pv 8) pe_int)) po_none)))
    (Evl.pss_cut (ps_if (pt_cmpR op_gt (pv 7) pe_int (nomark _)) (pss_one (ps_set (i := 11) scRi.nd rfl (Or.inl rfl) (pe_op op_cat (pe_op op_cat (pe_slice sl_list (pv 10) po_none (po_some (pv 8))) (pe_lst (pa_cons (pe_ix ix_list (pv 10) (pe_op op_add (pv 8) pe_int) (fun _ _ => rfl)) (pa_cons (pe_ix ix_list (pv 10) (pv 8) (fun _ _ => rfl)) pa_nil)))) (pe_slice sl_list (pv 10) (po_some (pe_op op_add (pv 8) pe_int)) po_none)))) pss_nil)
    (pss_cons (ps_if (PW.pt (pw_or (pt_cmpR op_ne (pe_ix ix_list (pv 9) pe_int (fun _ _ => rfl)) pe_str (nomark _)) (pw_or1 (pt_not (pt_val (pe_call GL hr43 rfl mL FL.kp bL .nil pass0 (pa_cons (pe_ix ix_list (pv 9) pe_int (fun _ _ => rfl)) (pa_cons (pe_tup (pa_cons (pv 11) (pa_cons (pe_ix ix_tup (pv 1) pe_int (fun _ _ => rfl)) (pa_cons (pe_ix ix_tup (pv 1) pe_int (fun _ _ => rfl)) pa_nil)))) pa_nil)))))))) pss_never pss_nil)
    (pss_cons (ps_expr (pe_bm PySem.F.plainAttrs_list PySem.F.slot_list_append PySem.F.type_list_append mt_append (pv 3) (pa_cons (pe_tup (pa_cons (pv 2) (pa_cons (pv 1) pa_nil))) pa_nil)))
    (pss_one (ps_if (pt_cmpR op_eq (pe_call GC hr1 rfl mC FC.kp bC .nil pass0 (pa_cons (pv 0) (pa_cons pe_int pa_nil))) pe_int (nomark _)) (pss_one (ps_par (i := 2) (j := 1) rfl scRi.nd rfl rfl (by decide) rfl rfl (pa_cons (pe_ix ix_list (pv 9) pe_int (fun _ _ => rfl)) (pa_cons (pe_tup (pa_cons (pv 11) (pa_cons (pe_ix ix_tup (pv 1) pe_int (fun _ _ => rfl)) (pa_cons (pe_ix ix_tup (pv 1) pe_int (fun _ _ => rfl)) pa_nil)))) pa_nil)) (by rfl))) pss_nil)))))))
    (Evl.pss_cut (ps_par (i := 12) (j := 13) rfl scRi.nd rfl rfl (by decide) rfl rfl (pa_cons (pe_ix ix_list (pv 4) (pe_call GC hr1 rfl mC FC.kp bC .nil pass0 (pa_cons (pv 0) (pa_cons (pe_callB call_len_seq (by rfl) T.len PySem.boot_len (pa_cons (pv 4) pa_nil)) pa_nil))) (fun _ _ => rfl)) (pa_cons (pe_op op_add pe_int (pe_call GC hr1 rfl mC FC.kp bC .nil pass0 (pa_cons (pv 0) (pa_cons pe_int pa_nil)))) pa_nil)) (by rfl))
    (Evl.pss_cut (ps_set (i := 9) scRi.nd rfl (Or.inl rfl) (pe_call GT hr rfl mT FT.kp bT .nil pass0 (pa_cons (pv 2) (pa_cons (pv 13) (pa_cons (pv 12) pa_nil)))))
    (Evl.pss_cut (ps_if (pt_cmpR op_notIn_seq (pv 12) (pe_tup (pa_cons pe_str (pa_cons pe_str pa_nil))) (by rfl)) (pss_one (ps_if (pt_cmpR (op_neD hr.units) (pv 9) (pe_lst (pa_cons pe_str (pa_cons pe_bl pa_nil))) (nomark _)) pss_never pss_nil)) (pss_one (ps_if (PW.pt (pw_or (pt_cmpR op_ne (pe_ix ix_list (pv 9) pe_int (fun _ _ => rfl)) pe_str (nomark _)) (pw_or1 (pt_not (pt_val (pe_call GL hr43 rfl mL FL.kp bL .nil pass0 (pa_cons (pe_ix ix_list (pv 9) pe_int (fun _ _ => rfl)) (pa_cons (pe_tup (pa_cons (pe_ix ix_tup (pv 1) pe_int (fun _ _ => rfl)) (pa_cons (pv 12) (pa_cons (pe_ix ix_tup (pv 1) pe_int (fun _ _ => rfl)) pa_nil)))) pa_nil)))))))) pss_never pss_nil)))
    (pss_one (ps_if (pt_not (pt_val (pe_call GL hr43 rfl mL FL.kp bL .nil pass0 (pa_cons (pv 2) (pa_cons (pv 1) pa_nil))))) pss_never pss_nil))))))))))
    (pss_one (ps_ret (pe_callB (cr_all rfl) (by rfl) T.all (by decide +kernel) (pa_cons (pe_lc (own := [("one", 14)]) (g := gName 14) (tt := tYes) rfl scRi.nd (pi_list (pv 3)) (blkOk_by (N := ["purse", "plan", "made", "kept", "menu", "turn", "size", "way", "at", "found", "rows", "owed", "word", "mode", "one"]) (sc := defScope sRight) (by decide +kernel)) (fun _ _ _ _ _ => pg_name (i := 14) scRi.nd rfl (Or.inl rfl)) (fun _ _ _ _ _ => pts_nil)
        (fun _ _ _ _ _ => (pe_call GL hr43 rfl mL FL.kp bL .nil pass0 (pa_cons (pe_ix (show IxR _ (rIxT K) from ix_tup) (pv 14) pe_int (fun _ _ => rfl)) (pa_cons (pe_ix (show IxR _ (rIxT K) from ix_tup) (pv 14) pe_int (fun _ _ => rfl)) pa_nil))))) pa_nil)))))))), ?_⟩
  obtain ⟨po, hpo⟩ := hp.some
  have hcR : cR = cPl + 100 := rfl
  have new_p : ∀ {Hx : Hp} {m : Nat} {G : List Addr}, Purse Hx p m → (∀ a ∈ G, Hx a = none) → p ∉ G := fun hpx h z => by
    obtain ⟨o, e⟩ := hpx.some
    rw [h p z] at e
    cases e
  -- the plan
  refine ⟨_, rfl, _, rfl, p, 3, n, rfl, hp, by omega, by decide, by decide, fun d0 H1 a1 a2 hb1 hp1 => ⟨rfl, ?_⟩⟩
  refine ⟨p, _, n + 1, rfl, hp1, by omega, fun t ds r s0 G N H2 hb2 hp2 ht0 hPl hG hok => ?_⟩
  obtain ⟨v0, ht, hR, hro, hlo⟩ := hPl
  have pnG := new_p hp1 hG
  have htp : t ≠ p := hp1.ne ht0
  -- the program
  refine ⟨fun σ' H' => ∃ (o k : Addr) (Go : List Addr), But p H2 H' ∧ Purse H' p (n + 1 + cPl + 2) ∧ PatAt C H' o (.lst ds) r s0 Go ∧ (∀ a ∈ Go, H2 a = none) ∧ H2 k = none ∧ H' k = some (.lst []) ∧ k ∉ Go ∧ k ≠ o ∧ σ' = [some (.ref p), some (.ref t), some (.ref o), some (.ref k), none, none, none, none, none, none, none, none, none, none, none], ?_, ?_⟩
  · refine ⟨_, rfl, _, rfl, p, t, n + 1 + cPl, v0, ds, r, s0, rfl, hp2, by omega, ht, hR.rw, hok.ok, hro, hlo, fun o H3 Go hb3 hp3 ho pat hGo => ⟨by show 0 ≤ sizeLine; decide, fun k hk => ?_⟩⟩
    have st := same_new hk (.lst [])
    obtain ⟨dx, w0, e1, e2⟩ := id pat
    obtain ⟨_, hx2⟩ := hp2.some
    refine ⟨_, _, rfl, o, k, Go, hb3.trans (.of st), hp3.same st, pat.same st, hGo, hb3.free hx2 hp3.some hk, upd_same, fun z => ?_, fun z => ?_, rfl⟩
    · obtain ⟨zs, e⟩ := e2.at_ k z
      rw [hk] at e
      cases e
    · rw [z, e1] at hk
      cases hk
  rintro _ H3 ⟨o, k, Go, hb3, hp3, pat, hGo, hk0, hk3, nkG, nko, rfl⟩
  have hb03 := (hb1.trans hb2).trans hb3
  have pnGo := new_p hp2 hGo
  have nkp : k ≠ p := hp2.ne hk0
  have hk00 : H k = none := (hb1.trans hb2).free hpo hp2.some hk0
  have R3 : Rep H3 (.lst ds) v0 G := hR.kp (hb3.kp hp2) fun a ha z => pnG (z ▸ ha)
  have nkG2 : k ∉ G := fun z => by
    obtain ⟨zs, e⟩ := hR.at_ k z
    rw [hk0] at e
    cases e
  have ht3 := hb3 _ _ htp ht
  -- the menu
  refine ⟨fun σ' H' => ∃ (m : Addr) (M : Hp), InvR C H H' p k m t o (n + 1 + cPl + 2) M ds r s0 [] ∧ σ' = [some (.ref p), some (.ref t), some (.ref o), some (.ref k), some (.ref m), none, none, none, none, none, none, none, none, none, none], ?_, ?_⟩
  · refine ⟨by show 10 ≤ sizeLine; decide, fun m hm => ?_⟩
    show ∃ m' M', InvR C H (upd H3 m (.lst (menuW.map V.str))) p k m' t o (n + 1 + cPl + 2) M' ds r s0 [] ∧ _
    have sm := same_new hm (.lst (menuW.map V.str))
    have hm4 : (upd H3 m (.lst (menuW.map V.str))) m = some (.lst (menuW.map V.str)) := upd_same
    generalize upd H3 m (.lst (menuW.map V.str)) = H4 at sm hm4 ⊢
    have hk4 := sm _ _ hk3
    obtain ⟨xs, hp4⟩ := purse_isl (hp3.same sm)
    have kp := mask_kp hp4 hk4
    have nkt : t ≠ k := ne_of_none ht hk0
    refine ⟨m, mask p k H4, ⟨hb03.trans (.of sm), hp3.same sm, nkp, hk00, mask_le, mask_p, mask_k, hk4, (fun x z => nomatch z), mask_at (hp3.ne hm) (ne_of_none hk3 hm).symm hm4, ⟨⟨v0, Go, mask_at htp nkt (sm _ _ ht3), ((R3.same sm).kp kp fun a ha z => ?_).rw, ?_⟩, ⟨N, hok⟩, hro, hlo⟩⟩, rfl⟩
    · rcases z with rfl | rfl
      · exact pnG ha
      · exact nkG2 ha
    · obtain ⟨dx, w0, e1, e2⟩ := pat.same sm
      refine ⟨dx, w0, kp.there e1 (fun _ z => nomatch z), e2.kp kp fun a ha z => ?_⟩
      rcases z with rfl | rfl
      · exact pnGo ha
      · exact nkG ha
  generalize hn1 : n + 1 + cPl + 2 = n1
  rintro _ H4 ⟨m, M0, hI0, rfl⟩
  clear hb3 hp3 pat hGo hk0 hk3 nkG nko hb03 pnGo nkp hk00 R3 nkG2 ht3 hb1 hp1 hb2 hp2 ht0 hG hok ht hR hro hlo pnG htp
  -- the loop
  refine ⟨fun σ' H' => ∃ (M : Hp) (t o : Addr) (ds : List D) (r s : Str) (ks : List V) (v5 v6 v7 v8 v9 v10 v11 v12 v13 : Option V), InvR C H H' p k m t o (n1 + 7 * 10) M ds r s ks ∧ ks.length ≤ 7 ∧ σ' = [some (.ref p), some (.ref t), some (.ref o), some (.ref k), some (.ref m), v5, v6, v7, v8, v9, v10, v11, v12, v13, none], ?_, ?_⟩
  · refine ⟨7, rfl, by decide, by decide, ?_⟩
    refine for_range (lo := 0) (n := 7) (fun i σ' H' => ∃ (M : Hp) (t o : Addr) (ds : List D) (r s : Str) (ks : List V) (v5 v6 v7 v8 v9 v10 v11 v12 v13 : Option V), InvR C H H' p k m t o (n1 + i * 10) M ds r s ks ∧ ks.length ≤ i ∧ σ' = [some (.ref p), some (.ref t), some (.ref o), some (.ref k), some (.ref m), v5, v6, v7, v8, v9, v10, v11, v12, v13, none])
      ⟨M0, t, o, ds, r, s0, [], _, _, _, _, _, _, _, _, _, by rw [Nat.zero_mul]; exact hI0, Nat.le_refl 0, rfl⟩ ?_ ?_
    · rintro i σ' H5 hi ⟨M, t, o, ds, r, s, ks, v5, v6, v7, v8, v9, v10, v11, v12, v13, hI, hks, rfl⟩
      have hi7 : i < 7 := by
        have z : (7 : Int).toNat = 7 := rfl
        omega
      generalize hc : n1 + i * 10 = c at hI
      obtain ⟨⟨v, G, ht, hR, pat⟩, ⟨N, pg⟩, hro, hlo⟩ := id hI.j
      obtain ⟨lz, zs, rfl, hlz, hzs⟩ := id hR
      have hlen := hzs.len
      have dl := pg.len
      have t0 : atI [V.ref lz, V.str r, V.str s] 0 = some (.ref lz) := atI_nat (j := 0) rfl
      have t1 : atI [V.ref lz, V.str r, V.str s] 1 = some (.str r) := atI_nat (j := 1) rfl
      have t2 : atI [V.ref lz, V.str r, V.str s] 2 = some (.str s) := atI_nat (j := 2) rfl
      have tp : ∀ {Hx : Hp}, Same M Hx → SqT K Hx t [V.ref lz, V.str r, V.str s] := fun h => SqT.of (h _ _ ht)
      -- size and way
      refine ⟨fun σ' H' => ∃ d : Int, 0 ≤ d ∧ d < 4 ∧ InvR C H H' p k m t o (c + 1) M ds r s ks ∧ σ' = [some (.ref p), some (.ref t), some (.ref o), some (.ref k), some (.ref m), some (.int (0 + (i : Int))), some (.int ((ds.length : Nat) : Int)), some (.int d), v8, v9, v10, v11, v12, v13, none], ?_, ?_⟩
      · refine ⟨_, rfl, t, _, 0, _, rfl, rfl, tp hI.le, t0, lz, zs, rfl, .inl (SqL.of (hI.le _ _ hlz)), _, rfl, p, 4, c, rfl, hI.pu, by omega, by decide, by decide, fun d H6 d0 d1 hb hp6 => ?_⟩
        rw [hlen]
        exact ⟨_, _, rfl, d, d0, d1, hI.but hb hp6, rfl⟩
      rintro _ H6 ⟨d, d0, d1, hI6, rfl⟩
      -- at
      refine ⟨fun σ' H' => ∃ z : Int, InvR C H H' p k m t o (c + 4) M ds r s ks ∧ σ' = [some (.ref p), some (.ref t), some (.ref o), some (.ref k), some (.ref m), some (.int (0 + (i : Int))), some (.int ((ds.length : Nat) : Int)), some (.int d), some (.int z), v9, v10, v11, v12, v13, none], ?_, ?_⟩
      · refine ⟨_, rfl, _, rfl, _, _, rfl, rfl, p, _, c + 1, rfl, hI6.pu, by omega, by omega, by omega, fun e1 H7 b0 b1 hb7 hp7 => ⟨_, _, rfl, rfl, ?_⟩⟩
        refine ⟨_, rfl, _, rfl, _, _, rfl, rfl, p, _, c + 2, rfl, hp7, by omega, by omega, by omega, fun e2 H8 b2 b3 hb8 hp8 => ⟨_, rfl, by show 4 ≤ sizeLine; decide, fun q hq => ?_⟩⟩
        have sq := same_new hq (.lst [V.int (e1 - 3), V.int e2, V.int 999, V.int (-999)])
        refine ⟨_, rfl, p, 9, c + 3, rfl, hp8.same sq, by omega, by decide, by decide, fun e3 H9 b4 b5 hb9 hp9 => ⟨_, _, rfl, rfl, _, _, rfl, ?_⟩⟩
        obtain ⟨z, hz⟩ := at4 (a := e1 - 3) (b := e2) (c := 999) (e := -999) (i := if e3 - 5 > 0 then e3 - 5 else 0) (by split <;> omega) (by split <;> omega)
        refine ⟨q, _, _, _, rfl, rfl, SqL.of (hb9 _ _ (hp8.ne hq) upd_same), hz, ?_⟩
        exact ⟨z, hI6.but (((hb7.trans hb8).trans (.of sq)).trans hb9) hp9, rfl⟩
      rintro _ H9 ⟨z, hI9, rfl⟩
      -- found and rows
      refine ⟨fun σ' H' => ∃ (l q : Addr) (H0 : Hp), InvR C H H' p k m t o (c + 4) M ds r s ks ∧ (∃ x, H0 p = some x) ∧ (∃ x, H0 k = some x) ∧ DRes C H0 H' l s (derf ds r d z) ∧ H' q = some (.lst zs) ∧ σ' = [some (.ref p), some (.ref t), some (.ref o), some (.ref k), some (.ref m), some (.int (0 + (i : Int))), some (.int ((ds.length : Nat) : Int)), some (.int d), some (.int z), some (.ref l), some (.ref q), v11, v12, v13, none], ?_, ?_⟩
      · refine ⟨_, rfl, _, rfl, _, rfl, o, d, .int z, ds, r, s, G, derf ds r d z, rfl, pat.same hI9.le, pg.ok, hro, hlo, derf_ok (by omega), fun l H10 hs10 hl hres => ?_⟩
        have hI10 := hI9.same hs10
        refine ⟨_, rfl, t, _, 0, _, rfl, rfl, tp hI10.le, t0, lz, zs, rfl, .inl (SqL.of (hI10.le _ _ hlz)), fun q hq => ?_⟩
        have sq := same_new hq (.lst zs)
        refine ⟨_, _, rfl, l, q, H9, hI10.same sq, hI9.pu.some, ⟨_, hI9.hk⟩, hres.same sq, upd_same, rfl⟩
      rintro _ H10 ⟨l, q, H0, hI10, hp0, hk0, hD, hq, rfl⟩
      -- what was found
      refine ⟨fun σ' H' => ∃ (M : Hp) (t o : Addr) (ds : List D) (r s : Str) (ks : List V) (v6 v7 v8 v9 v10 v11 v12 v13 : Option V), InvR C H H' p k m t o (c + 5) M ds r s ks ∧ ks.length ≤ i + 1 ∧ σ' = [some (.ref p), some (.ref t), some (.ref o), some (.ref k), some (.ref m), some (.int (0 + (i : Int))), v6, v7, v8, v9, v10, v11, v12, v13, none], ?_, ?_⟩
      · -- refused: nothing changes
        have bad : (¬ (0 ≤ z ∧ z < ((ds.length : Nat) : Int) - (if decide (1 < d) = true then (1 : Int) else 0))) → derf ds r d z = none := fun h => by
          unfold derf
          by_cases h2 : d < 2
          · rw [if_pos h2]
            rw [decide_eq_false (by omega), if_neg (by decide), Int.sub_zero] at h
            exact if_neg h
          · rw [if_neg h2]
            rw [decide_eq_true (by omega), if_pos rfl] at h
            exact if_neg h
        have rf : derf ds r d z = none → H10 l = some (.lst [V.str (Str.ofString "refused"), V.bl true]) := fun h => by
          rw [h] at hD
          exact hD
        refine ⟨_, rfl, _, _, rfl, rfl, _, rfl, ?_⟩
        by_cases c0 : 0 ≤ z
        rotate_left
        · refine ifF (decide_eq_false c0) ⟨_, rfl, iteT ⟨_, rfl, by show 2 ≤ sizeLine; decide, fun q3 hq3 => ?_⟩⟩
          have s3 := same_new hq3 (.lst [V.str (Str.ofString "refused"), V.bl true])
          exact ne_ref (s3 _ _ (rf (bad fun h => c0 h.1))) upd_same ⟨_, rfl, iteF ⟨M, t, o, ds, r, s, ks, _, _, _, _, _, _, _, _, (hI10.same s3).mono (by omega), by omega, rfl⟩⟩
        refine ifT (decide_eq_true c0) ⟨_, rfl, _, rfl, _, _, rfl, rfl, .inr ⟨_, rfl, _, _, rfl, rfl, _, _, rfl, rfl, _, rfl, ?_⟩⟩
        by_cases c1 : z < ((ds.length : Nat) : Int) - (if decide (1 < d) = true then (1 : Int) else 0)
        rotate_left
        · refine ifT (by rw [decide_eq_false c1]; rfl) ⟨_, rfl, by show 2 ≤ sizeLine; decide, fun q3 hq3 => ?_⟩
          have s3 := same_new hq3 (.lst [V.str (Str.ofString "refused"), V.bl true])
          exact ne_ref (s3 _ _ (rf (bad fun h => c1 h.2))) upd_same ⟨_, rfl, iteF ⟨M, t, o, ds, r, s, ks, _, _, _, _, _, _, _, _, (hI10.same s3).mono (by omega), by omega, rfl⟩⟩
        refine ifF (by rw [decide_eq_true c1]; rfl) ?_
        clear bad rf
        obtain ⟨j, rfl⟩ := Int.eq_ofNat_of_zero_le c0
        -- made
        obtain ⟨dso, eD, ⟨No, pgo⟩, hcase⟩ : ∃ dso, derf ds r d (j : Int) = some (dso, r) ∧ (∃ N, PgN N dso) ∧ ((¬ 1 < d ∧ j < ds.length ∧ dso = ds.take j ++ ds.drop (j + 1)) ∨ (1 < d ∧ j + 1 < ds.length ∧ dso = exch ds j)) := by
          unfold derf
          by_cases h2 : d < 2
          · rw [decide_eq_false (by omega), if_neg (by decide), Int.sub_zero] at c1
            rw [if_pos h2, if_pos ⟨c0, c1⟩, Int.toNat_natCast]
            exact ⟨_, rfl, ⟨N, pg.out j⟩, .inl ⟨by omega, by omega, rfl⟩⟩
          · rw [decide_eq_true (by omega), if_pos rfl] at c1
            rw [if_neg h2, if_pos ⟨c0, c1⟩, Int.toNat_natCast]
            exact ⟨_, rfl, ⟨N, pg.exch (by omega)⟩, .inr ⟨by omega, by omega, rfl⟩⟩
        rw [eD] at hD
        obtain ⟨o', G', hl, pa, hG'⟩ := hD
        have hj : j < ds.length := by
          rcases hcase with ⟨_, h, _⟩ | ⟨_, h, _⟩ <;> omega
        have patM := hI10.pat pa hp0 hk0 hG'
        have hIg := hI10.grow
        have hzs1 := hzs.same hI10.up
        have ht1 := hI10.up _ _ ht
        generalize mask p k H10 = M1 at patM hIg hzs1 ht1
        have tp1 : ∀ {Hx : Hp}, Same M1 Hx → SqT K Hx t [V.ref lz, V.str r, V.str s] := fun h => SqT.of (h _ _ ht1)
        have hp10 := hI10.pu.some
        have hk10 := hI10.hk
        clear hI10 eD pat tp hI9 hI6 hI
        have ei : ((j : Int) + 1) = ((j + 1 : Nat) : Int) := by omega
        have ei2 : ((j : Int) + 2) = ((j + 2 : Nat) : Int) := by omega
        have zl : zs.length ≤ 20 := by omega
        -- owed
        refine ⟨fun σ' H' => Same H10 H' ∧ ∃ w : Addr, H10 w = none ∧ H' w = some (.lst (zs.take j ++ zs.drop (j + 1))) ∧ σ' = [some (.ref p), some (.ref t), some (.ref o), some (.ref k), some (.ref m), some (.int (0 + (i : Int))), some (.int ((ds.length : Nat) : Int)), some (.int d), some (.int (j : Int)), some (.ref l), some (.ref q), some (.ref w), v12, v13, none], ?_, ?_⟩
        · refine ⟨_, rfl, _, rfl, _, rfl, q, zs, rfl, SqL.of hq, fun p1 hp1 => ?_⟩
          rw [cutV_pre]
          have s1 := same_new hp1 (.lst (zs.take j))
          refine ⟨_, rfl, _, rfl, _, _, rfl, rfl, _, rfl, q, zs, rfl, SqL.of (s1 _ _ hq), fun p2 hp2 => ?_⟩
          rw [ei, cutV_post]
          have s2 := same_new hp2 (.lst (zs.drop (j + 1)))
          have sz : (zs.take j).length + (zs.drop (j + 1)).length ≤ 1000 := by
            rw [List.length_take, List.length_drop]
            omega
          refine ⟨p1, p2, _, _, rfl, rfl, s2 _ _ upd_same, upd_same, Nat.le_trans sz (by decide), fun p3 hp3 => ?_⟩
          have s3 := same_new hp3 (.lst (zs.take j ++ zs.drop (j + 1)))
          exact ⟨(s1.trans s2).trans s3, p3, (s1.trans s2).free hp3, upd_same, rfl⟩
        rintro _ H11 ⟨hs11, w1, hw10, hw1, rfl⟩
        refine ⟨fun σ' H' => Same H10 H' ∧ ∃ (w : Addr) (os : List V), H10 w = none ∧ H' w = some (.lst os) ∧ RWs M1 dso os ∧ σ' = [some (.ref p), some (.ref t), some (.ref o), some (.ref k), some (.ref m), some (.int (0 + (i : Int))), some (.int ((ds.length : Nat) : Int)), some (.int d), some (.int (j : Int)), some (.ref l), some (.ref q), some (.ref w), v12, v13, none], ?_, ?_⟩
        · refine ⟨_, rfl, _, _, rfl, rfl, _, rfl, ?_⟩
          rcases hcase with ⟨h1, h2, rfl⟩ | ⟨h1, h2, rfl⟩
          · exact ifF (decide_eq_false h1) ⟨hs11, w1, _, hw10, hw1, (hzs1.take j).app (hzs1.drop (j + 1)), rfl⟩
          have hq11 := hs11 _ _ hq
          have x1 := List.getElem?_eq_getElem (show j < zs.length by omega)
          have x2 := List.getElem?_eq_getElem (show j + 1 < zs.length by omega)
          generalize zs[j]'(by omega) = y1 at x1
          generalize zs[j + 1]'(by omega) = y2 at x2
          obtain ⟨d1, g1, r1⟩ := hzs1.item x1
          obtain ⟨d2, g2, r2⟩ := hzs1.item x2
          refine ifT (decide_eq_true h1) ⟨_, rfl, _, rfl, _, rfl, q, zs, rfl, SqL.of hq11, fun p1 hp1 => ?_⟩
          rw [cutV_pre]
          have s1 := same_new hp1 (.lst (zs.take j))
          have q1 := s1 _ _ hq11
          refine ⟨_, rfl, _, rfl, _, _, rfl, rfl, q, zs, _, y2, rfl, rfl, SqL.of q1, (by rw [ei]; exact atI_nat x2), _, rfl, _, rfl, q, zs, _, y1, rfl, rfl, SqL.of q1, atI_nat x1, by show 2 ≤ sizeLine; decide, fun p2 hp2 => ?_⟩
          have s2 := same_new hp2 (.lst [y2, y1])
          refine ⟨p1, p2, _, _, rfl, rfl, s2 _ _ upd_same, upd_same, ?_, fun p3 hp3 => ?_⟩
          · refine Nat.le_trans ?_ (show 1000 ≤ sizeLine by decide)
            rw [List.length_take]
            show min j zs.length + 2 ≤ 1000
            omega
          have s3 := same_new hp3 (.lst (zs.take j ++ [y2, y1]))
          have s13 := (s1.trans s2).trans s3
          refine ⟨_, rfl, _, rfl, _, _, rfl, rfl, _, rfl, q, zs, rfl, SqL.of (s13 _ _ hq11), fun p4 hp4 => ?_⟩
          rw [ei2, cutV_post]
          have s4 := same_new hp4 (.lst (zs.drop (j + 2)))
          refine ⟨p3, p4, _, _, rfl, rfl, s4 _ _ upd_same, upd_same, ?_, fun p5 hp5 => ?_⟩
          · refine Nat.le_trans ?_ (show 1000 ≤ sizeLine by decide)
            rw [List.length_append, List.length_take, List.length_drop]
            show min j zs.length + 2 + (zs.length - (j + 2)) ≤ 1000
            omega
          have s5 := same_new hp5 (.lst (zs.take j ++ [y2, y1] ++ zs.drop (j + 2)))
          refine ⟨(((hs11.trans s13).trans s4).trans s5), p5, _, ((hs11.trans s13).trans s4).free hp5, upd_same, ?_, rfl⟩
          rw [exch_eq g1 g2]
          exact ((hzs1.take j).app (show RWs M1 [d2, d1] [y2, y1] from ⟨y2, _, rfl, r2, y1, _, rfl, r1, rfl⟩)).app (hzs1.drop (j + 2))
        rintro _ H12 ⟨hs12, w, os, hw0, hw, hos, rfl⟩
        clear hs11 hw10 hw1 hcase
        have hI12 := hIg.same hs12
        have hl12 := hs12 _ _ hl
        -- told
        refine ⟨_, rfl, l, _, _, _, rfl, rfl, SqL.of hl12, atI_nat (j := 0) rfl, rfl, _, rfl, ifF (by rw [decide_eq_true rfl]; rfl) ?_⟩
        refine ⟨_, rfl, l, _, _, _, rfl, rfl, SqL.of hl12, atI_nat (j := 1) rfl, _, rfl, _, rfl, t, _, 1, _, rfl, rfl, tp1 hI12.le, t1, _, rfl, t, _, 2, _, rfl, rfl, tp1 hI12.le, t2, by show 3 ≤ sizeLine; decide, fun pp hpp => ?_⟩
        have sp := same_new hpp (.tup [V.ref w, V.str r, V.str s])
        have hI13 := hI12.same sp
        refine ⟨o', pp, .ref w, dso, r, s, G', No, rfl, patM.same hI13.le, upd_same, ⟨w, os, rfl, sp _ _ hw, hos.same hI13.le⟩, pgo, fun H14 hs14 => ⟨_, rfl, iteF ?_⟩⟩
        have hI14 := hI13.same hs14
        have hl14 := hs14 _ _ (sp _ _ hl12)
        have hw14 := hs14 _ _ (sp _ _ hw)
        clear hI12 hI13 hl12 hw
        -- kept
        refine ⟨_, rfl, .inl ⟨rfl, _, SqL.of hI14.hk⟩, _, rfl, _, rfl, by show 2 ≤ sizeLine; decide, fun q4 hq4 => ?_⟩
        have s4 := same_new hq4 (.tup [V.ref o, V.ref t])
        have hI15 := hI14.same s4
        have up2 := hI15.up
        have e4 : mask p k (upd H14 q4 (.tup [V.ref o, V.ref t])) q4 = some (.tup [V.ref o, V.ref t]) := mask_at (hI14.pu.ne hq4) (ne_of_none hI14.hk hq4).symm upd_same
        have hl15 := s4 _ _ hl14
        have hw15 := s4 _ _ hw14
        have hI16 := hI15.grow.push e4
        have hk15 := hI15.hk
        have nlk : l ≠ k := fun z => by
          rw [z, hk15] at hl15
          cases hl15
          exact absurd hI15.all fun hall => by
            obtain ⟨_, _, _, _, _, _, e, _⟩ := hall _ List.mem_cons_self
            cases e
        have nwk : w ≠ k := fun z => by
          rw [z, hk10] at hw0
          cases hw0
        refine ⟨k, ks, _, rfl, rfl, hk15, Nat.lt_of_le_of_lt hks (Nat.lt_of_lt_of_le hi7 (by decide)), ?_⟩
        generalize hH15 : upd H14 q4 (.tup [V.ref o, V.ref t]) = H15 at hI15 up2 e4 hl15 hw15 hI16 hk15
        generalize mask p k H15 = M2 at up2 e4 hI16
        have hl16 : (upd H15 k (.lst (ks ++ [V.ref q4]))) l = some (.lst [V.str (Str.ofString "made"), V.ref o']) := by
          rw [upd_ne nlk]
          exact hl15
        have hw16 : (upd H15 k (.lst (ks ++ [V.ref q4]))) w = some (.lst os) := by
          rw [upd_ne nwk]
          exact hw15
        generalize upd H15 k (.lst (ks ++ [V.ref q4])) = H16 at hI16 hl16 hw16
        have kl : (ks ++ [V.ref q4]).length ≤ i + 1 := by
          rw [List.length_append]
          show ks.length + 1 ≤ i + 1
          omega
        refine ⟨_, rfl, p, 2, c + 4, rfl, hI16.pu, by omega, by decide, by decide, fun dz H17 z0 z1 hb17 hp17 => ⟨rfl, _, rfl, ?_⟩⟩
        have hI17 := hI16.but hb17 hp17
        refine ite2 (fun _ => ?_) (fun _ => ?_)
        · have nlp : l ≠ p := fun z => by
            obtain ⟨x, y, z3, e, _⟩ := hI16.pu
            rw [z, e] at hl16
            cases hl16
          have nwp : w ≠ p := fun z => by
            obtain ⟨x, hx⟩ := hp10
            rw [z, hx] at hw0
            cases hw0
          have hl17 := hb17 _ _ nlp hl16
          have hw17 := hb17 _ _ nwp hw16
          have t17 := tp1 (fun a x e => hI17.le a x (up2 a x e))
          refine ⟨_, rfl, l, _, _, _, rfl, rfl, SqL.of hl17, atI_nat (j := 1) rfl, _, rfl, _, rfl, t, _, 1, _, rfl, rfl, t17, t1, _, rfl, t, _, 2, _, rfl, rfl, t17, t2, by show 3 ≤ sizeLine; decide, fun t' ht' => ?_⟩
          have s8 := same_new ht' (.tup [V.ref w, V.str r, V.str s])
          have hI18 := hI17.same s8
          have up3 := hI18.up
          have j18 : J C (mask p k (upd H17 t' (.tup [V.ref w, V.str r, V.str s]))) t' o' dso r s := by
            refine ⟨⟨.ref w, G', mask_at (hI17.pu.ne ht') (ne_of_none hI17.hk ht').symm upd_same, ⟨w, os, rfl, mask_at nwp nwk (s8 _ _ hw17), hos.same (up2.trans up3)⟩, patM.same (up2.trans up3)⟩, ⟨No, pgo⟩, hro, hlo⟩
          exact ⟨_, _, rfl, _, t', o', dso, r, s, _, _, _, _, _, _, _, _, _, hI18.grow.with j18, kl, rfl⟩
        · exact ⟨M2, t, o, ds, r, s, _, _, _, _, _, _, _, _, _, hI17, kl, rfl⟩
      clear hlen dl t0 t1 t2 tp hzs hlz hR pat pg hro hlo ht hI6 hI9 hI
      rintro _ H20 ⟨M, t, o, ds, r, s, ks, w6, w7, w8, w9, w10, w11, w12, w13, hI, hks, rfl⟩
      obtain ⟨⟨v, G, ht, hR, pat⟩, ⟨N, pg⟩, hro, hlo⟩ := id hI.j
      have t0 : atI [v, V.str r, V.str s] 0 = some v := atI_nat (j := 0) rfl
      have t2 : atI [v, V.str r, V.str s] 2 = some (.str s) := atI_nat (j := 2) rfl
      have tp : ∀ {Hx : Hp}, Same M Hx → SqT K Hx t [v, V.str r, V.str s] := fun h => SqT.of (h _ _ ht)
      -- word and mode
      refine ⟨fun σ' H' => ∃ (u : Str) (e : Int), 3 < e ∧ InvR C H H' p k m t o (c + 7) M ds r s ks ∧ σ' = [some (.ref p), some (.ref t), some (.ref o), some (.ref k), some (.ref m), some (.int (0 + (i : Int))), w6, w7, w8, w9, w10, w11, some (.str u), some (.int e), none], ?_, ?_⟩
      · refine ⟨_, rfl, _, rfl, _, rfl, m, _, rfl, .inl (SqL.of (hI.le _ _ hI.me)), p, _, c + 5, rfl, hI.pu, by omega, (by decide), (by decide), fun e1 H21 b0 b1 hb21 hp21 => ?_⟩
        have b1' : e1 < 10 := b1
        obtain ⟨u, hu⟩ := menu_word b0 b1'
        have hI21 := hI.but hb21 hp21
        refine ⟨m, _, _, _, rfl, rfl, SqL.of (hI21.le _ _ hI.me), hu, _, rfl, p, 2, c + 6, rfl, hp21, by omega, by decide, by decide, fun e2 H22 b2 b3 hb22 hp22 => ⟨_, _, rfl, rfl, ?_⟩⟩
        exact ⟨_, _, rfl, u, 4 + e2, by omega, hI21.but hb22 hp22, rfl⟩
      rintro _ H22 ⟨u, e, he, hI22, rfl⟩
      -- found
      refine ⟨fun σ' H' => ∃ (l : Addr) (H0 : Hp), InvR C H H' p k m t o (c + 7) M ds r s ks ∧ DRes C H0 H' l s (derw ds u) ∧ σ' = [some (.ref p), some (.ref t), some (.ref o), some (.ref k), some (.ref m), some (.int (0 + (i : Int))), w6, w7, w8, some (.ref l), w10, w11, some (.str u), some (.int e), none], ?_, ?_⟩
      · exact ⟨_, rfl, _, rfl, _, rfl, o, e, .str u, ds, r, s, G, derw ds u, rfl, pat.same hI22.le, pg.ok, hro, hlo, derw_ok he, fun l H23 hs23 hl hres => ⟨l, H22, hI22.same hs23, hres, rfl⟩⟩
      rintro _ H23 ⟨l, H0, hI23, hD, rfl⟩
      -- what was found
      refine ⟨fun σ' H' => InvR C H H' p k m t o (c + 7) M ds r s ks ∧ σ' = [some (.ref p), some (.ref t), some (.ref o), some (.ref k), some (.ref m), some (.int (0 + (i : Int))), w6, w7, w8, some (.ref l), w10, w11, some (.str u), some (.int e), none], ?_, ?_⟩
      · refine ⟨_, rfl, by show 2 ≤ sizeLine; decide, fun pp hpp => ⟨pp, _, rfl, .inr (SqT.of upd_same), rfl, rfl, _, rfl, ?_⟩⟩
        have sp := same_new hpp (.tup [V.str (Str.ofString "soon"), V.str (Str.ofString "late")])
        have hI24 := hI23.same sp
        have hD24 := hD.same sp
        generalize upd H23 pp (.tup [V.str (Str.ofString "soon"), V.str (Str.ofString "late")]) = H24 at sp hI24 hD24 ⊢
        show if (!ordB u) = true then _ else _
        unfold derw at hD24
        cases ho : ordB u with
        | false =>
          rw [ho, if_neg (by decide)] at hD24
          refine iteT ⟨_, rfl, by show 2 ≤ sizeLine; decide, fun q3 hq3 => ?_⟩
          have s3 := same_new hq3 (.lst [V.str (Str.ofString "refused"), V.bl true])
          exact ne_ref (s3 _ _ hD24) upd_same ⟨_, rfl, iteF ⟨hI24.same s3, rfl⟩⟩
        | true =>
          rw [ho, if_pos rfl] at hD24
          obtain ⟨o', G', hl, pa, hG'⟩ := hD24
          refine iteF ⟨_, rfl, l, _, _, _, rfl, rfl, SqL.of hl, atI_nat (j := 0) rfl, rfl, _, rfl, ifF (by rw [decide_eq_true rfl]; rfl) ?_⟩
          refine ⟨_, rfl, l, _, _, _, rfl, rfl, SqL.of hl, atI_nat (j := 1) rfl, _, rfl, t, _, 0, _, rfl, rfl, tp hI24.le, t0, _, rfl, _, rfl, t, _, 2, _, rfl, rfl, tp hI24.le, t2, by show 3 ≤ sizeLine; decide, fun pq hpq => ?_⟩
          have sq := same_new hpq (.tup [v, V.str u, V.str s])
          have hI25 := hI24.same sq
          exact ⟨o', pq, v, ds, u, s, G', N, rfl, pa.same sq, upd_same, hR.same hI25.le, pg, fun H26 hs26 => ⟨_, rfl, iteF ⟨hI25.same hs26, rfl⟩⟩⟩
      rintro _ H24 ⟨hI24, rfl⟩
      refine ⟨_, rfl, _, rfl, o, t, v, ds, r, s, G, N, rfl, pat.same hI24.le, hI24.le _ _ ht, hR.same hI24.le, pg, fun H25 hs25 => ⟨_, rfl, iteF ?_⟩⟩
      exact ⟨M, t, o, ds, r, s, ks, _, _, _, _, _, _, _, _, _, (hI24.same hs25).mono (by rw [Nat.succ_mul]; omega), hks, rfl⟩
    · rintro σ' H5 ⟨M, t, o, ds, r, s, ks, v5, v6, v7, v8, v9, v10, v11, v12, v13, hI, hks, rfl⟩
      exact ⟨M, t, o, ds, r, s, ks, v5, v6, v7, v8, v9, v10, v11, v12, v13, hI, by
        have z : (7 : Int).toNat = 7 := rfl
        omega, rfl⟩
  rintro _ H5 ⟨M, t, o, ds, r, s, ks, v5, v6, v7, v8, v9, v10, v11, v12, v13, hI, hks, rfl⟩
  -- all that was kept
  refine ⟨_, rfl, k, rfl, ⟨_, SqL.of hI.hk⟩, fun D0 hD => ?_⟩
  refine lc_list (K := K) (a := k) (xs := ks) (fun i H' => Same H5 H' ∧ H' D0 = some (.lst ((List.replicate i true).map V.bl))) ⟨same_new hD _, upd_same⟩ (fun i H' _ ⟨h, _⟩ => SqL.of (h _ _ hI.hk)) ?_ ?_
  · rintro i x H6 hi ⟨hs6, hD6⟩
    obtain ⟨q, o', t', ds', r', s', rfl, hq, j'⟩ := hI.all x (List.mem_of_getElem? hi)
    have le6 := hI.le.trans hs6
    have i7 : i < 8 := by
      have := (List.getElem?_eq_some_iff.mp hi).1
      omega
    obtain ⟨⟨v, G, ht, hR, pat⟩, ⟨N, pg⟩, hro, hlo⟩ := j'
    refine ⟨rfl, ?_⟩
    unfold tYes
    refine iteT ⟨_, rfl, q, _, 0, _, rfl, rfl, SqT.of (le6 _ _ hq), atI_nat (j := 0) rfl, _, rfl, q, _, 1, _, rfl, rfl, SqT.of (le6 _ _ hq), atI_nat (j := 1) rfl, ?_⟩
    refine ⟨o', t', v, ds', r', s', G, N, rfl, pat.same le6, le6 _ _ ht, hR.same le6, pg, fun H7 hs7 => ?_⟩
    refine ⟨_, hs7 _ _ hD6, ?_, same_put (hs6.trans hs7) hD, ?_⟩
    · rw [List.length_map, List.length_replicate]
      exact Nat.lt_of_lt_of_le i7 (by decide)
    · rw [upd_same, List.replicate_succ', List.map_append]
      rfl
  · rintro H6 ⟨hs6, hD6⟩
    refine ⟨D0, _, rfl, SqL.of hD6, ?_⟩
    have ea : (List.replicate ks.length true).all id = true := by simp
    rw [ea]
    have hI6 := hI.same hs6
    exact kk H6 hI6.bt (hI6.pu.mono (by omega))
end
end K02
set_option Elab.async false
set_option linter.all false
set_option maxRecDepth 100000
set_option maxHeartbeats 4000000
namespace K02
open PySem L2 PyProof.Rows
/-! ### the law -/
def spLaw (K : PySem.W.Frag) : Sp := fun vs H Q _ => ∃ (a : Addr) (ns : List Int), vs = [.ref a] ∧ SqL K H a (ns.map V.int) ∧ ns.length ≤ 63 ∧ ∀ H', Q (.bl true) H'
section
variable {P : Program} {w : World} {K : PySem.W.Frag} {mg : Str → Option Value} {base : Heap}
theorem scL : FnScope ["script", "spot", "purse", "turn"] ["script"] (defScope sLaw) := ⟨rfl, rfl, rfl, by decide +kernel, rfl, by decide +kernel, by decide +kernel⟩
theorem ok_law {f fP fR : Addr} {fd fdP fdR : FuncData} (F : Fun K "law" "law" sLaw f fd) (T : Txt K mg) (GP : FnOk P w K mg base CX0 1 fP fdP ["script", "place"] (spPurse K)) (bP : Binds K fdP ["script", "place"] []) (mP : mg "_law_purse" = some (.ref fP)) (kP : PySem.W.keepIn K (.ref fP) = true)
    (GR : FnOk P w K mg base CX0 45 fR fdR ["purse"] spRight) (bR : Binds K fdR ["purse"] []) (mR : mg "_law_right" = some (.ref fR)) (kR : PySem.W.keepIn K (.ref fR) = true) : FnOk P w K mg base CX0 46 f fd ["script"] (spLaw K) := by
  refine F.ok scL (fun vs H Q E h => ?_) (fun cdv A outer s H vs Q E hr h => ?_)
  · obtain ⟨a, ns, rfl, _⟩ := h
    rfl
  obtain ⟨a, ns, rfl, hS, hl, kk⟩ := h
  have hr1 : Room 1 (A.deeper (envOfC "law" (defScope sLaw) s.heap.objs.size f cdv)) := hr.mono (by decide)
  refine ⟨_, pss_cons (ps_for PassesOwn.never rfl (pi_range1 rfl T.range (pa_cons (pe_callB (call_max2 rfl) (by rfl) T.max boot_max (pa_cons pe_int (pa_cons (pe_callB (call_min2 rfl) (by rfl) T.min boot_min (pa_cons pe_int (pa_cons (pe_callB call_len_seq (by rfl) T.len PySem.boot_len (pa_cons (pv 0) pa_nil)) pa_nil))) pa_nil))) pa_nil)) (pg_name (i := 1) scL.nd rfl (Or.inl rfl))
      (pss_cons (ps_set (i := 2) scL.nd rfl (Or.inl rfl) (pe_call GP hr1 rfl mP kP bP .nil pass0 (pa_cons (pv 0) (pa_cons (pv 1) pa_nil))))
      (pss_one (ps_for PassesOwn.never rfl (pi_range1 rfl T.range (pa_cons pe_int pa_nil)) (pg_name (i := 3) scL.nd rfl (Or.inl rfl))
        (pss_one (ps_if (pt_not (pt_val (pe_call GR hr rfl mR kR bR .nil pass0 (pa_cons (pv 2) pa_nil)))) pss_never pss_nil))))))
    (pss_one (ps_ret pe_bl)), ?_⟩
  refine ⟨_, rfl, a, _, rfl, .inl hS, _, _, rfl, _, _, rfl, _, rfl, ?_, ?_, ?_⟩
  · split <;> split <;> omega
  · split <;> split <;> omega
  refine for_range (lo := 0) (fun i σ' H' => Same H H' ∧ ∃ v1 v2 v3 : Option V, σ' = [some (.ref a), v1, v2, v3]) ⟨Same.refl _, _, _, _, rfl⟩ ?_ ?_
  · rintro i σ' H1 hi ⟨hs1, v1, v2, v3, rfl⟩
    have hi6 : i ≤ 100 := by
      revert hi
      split <;> split <;> omega
    refine ⟨_, rfl, _, rfl, a, ns, i, by rw [Int.zero_add]; rfl, hs1.seq hS, hl, hi6, fun p H2 hp hs2 hpu => ?_⟩
    refine ⟨2, rfl, by decide, by decide, ?_⟩
    refine for_range (lo := 0) (n := 2) (fun j σ' H' => (But p H1 H' ∧ Purse H' p (j * cR)) ∧ ∃ v1 v3 : Option V, σ' = [some (.ref a), v1, some (.ref p), v3]) ⟨⟨.of hs2, by rw [Nat.zero_mul]; exact hpu⟩, _, _, rfl⟩ ?_ ?_
    · rintro j σ' H3 hj ⟨hA3, w1, w3, rfl⟩
      have hc : cR < 10 ^ 50 := by decide
      have hj3 : j * cR ≤ 1 * cR := Nat.mul_le_mul_right cR (by omega)
      refine ⟨_, rfl, p, j * cR, rfl, hA3.2, by omega, fun H4 hb4 hp4 => ⟨true, rfl, ?_⟩⟩
      refine ⟨⟨hA3.1.trans hb4, ?_⟩, _, _, rfl⟩
      rw [Nat.succ_mul]
      exact hp4
    · rintro σ' H3 ⟨hA3, w1, w3, rfl⟩
      refine ⟨fun b o e => ?_, _, _, _, rfl⟩
      have e1 := hs1 b o e
      exact hA3.1 b o (ne_of_none e1 hp) e1
  · rintro σ' H1 _
    exact kk H1
end
end K02
set_option Elab.async false
set_option linter.all false
set_option maxRecDepth 100000
set_option maxHeartbeats 4000000
namespace K02
open PySem L2 PyProof.Rows FLen
/-! ### what the classes say, as one word -/
def clsOne (K : PySem.W.Frag) (C fI : Addr) : Bool :=
  decide (PySem.W.findIn K (.ref C) "__setattr__" = some (some (.builtin "object.__setattr__"))) && (decide (PySem.W.subIn K (.ref C) (.type "BaseException") = some true) && (decide (PySem.W.typeIn K (.ref C) = some (.type "type")) &&
  (PySem.W.keepIn K (.ref C) && ((PySem.W.clsIn K C).isSome && (decide (PySem.W.findIn K (.ref C) "__getattribute__" = some (some (.builtin "BaseException.__getattribute__"))) && (decide (PySem.W.findIn K (.ref C) "__getattr__" = some none) &&
  (PySem.W.hasDictIn K C && (decide (PySem.W.findIn K (.ref C) "__class__" = some (some (.builtin "object.__class__"))) && (decide (PySem.W.specialIn K (.builtin "object.__class__") "__get__" = some (some (.builtin "getset_descriptor.__get__"))) &&
  (decide (PySem.W.takesIn K (.builtin "object.__class__") = some true) && (decide (PySem.W.mroIn K C (.type "object") = some true) && (decide (PySem.W.findIn K (.ref C) "__init__" = some (some (.ref fI))) &&
  (decide (PySem.W.findIn K (.ref C) "value" = some none) && decide (PySem.W.kitOne K (.ref C) (.type "ValueError") = some true))))))))))))))
def clsAll (K : PySem.W.Frag) (Cs : List Addr) (fI : Addr) : Bool :=
  ((List.range 11).all fun j => clsOne K (Cs.getD j 0) fI) && (((List.range 11).all fun i => (List.range 11).all fun j => decide (PySem.W.kitOne K (.ref (Cs.getD i 0)) (.ref (Cs.getD j 0)) = some (decide (j = 0 ∨ j = i)))) &&
    (List.range 11).all fun j => decide (PySem.W.exmOne K (.ref (Cs.getD j 0)) (.ref (Cs.getD 0 0)) = some true))
theorem cls_of {K : PySem.W.Frag} {mg : Str → Option Value} {Cs : List Addr} {fI : Addr} (pk : clsAll K Cs fI = true) (tI : PySem.W.typeIn K (.ref fI) = some (.type "function")) (hm : ∀ j x, cNames[j]? = some x → mg x = some (.ref (Cs.getD j 0)))
    (hx : ∀ j, j < 11 → ∃ nm q N bs bm sn sub ab col dd k0 k1 k2 k3 k5, K.lookup (Cs.getD j 0) = some (excClassObj nm q (Cs.getD j 0) N bs bm true sn sub ab col dd k0 k1 k2 k3 k5 "ValueError.__new__") ∧ PySem.HandSPX.refsVE bm = true) :
    ECls K mg (fun j => Cs.getD j 0) fI := by
  obtain ⟨p1, p23⟩ := Bool.and_eq_true_iff.mp pk
  obtain ⟨p2, p3⟩ := Bool.and_eq_true_iff.mp p23
  have one : ∀ j, j < 11 → clsOne K (Cs.getD j 0) fI = true := fun j hj => List.all_eq_true.mp p1 j (List.mem_range.mpr hj)
  have two : ∀ i j, i < 11 → j < 11 → PySem.W.kitOne K (.ref (Cs.getD i 0)) (.ref (Cs.getD j 0)) = some (decide (j = 0 ∨ j = i)) := fun i j hi hj =>
    of_decide_eq_true (List.all_eq_true.mp (List.all_eq_true.mp p2 i (List.mem_range.mpr hi)) j (List.mem_range.mpr hj))
  have three : ∀ j, j < 11 → PySem.W.exmOne K (.ref (Cs.getD j 0)) (.ref (Cs.getD 0 0)) = some true := fun j hj => of_decide_eq_true (List.all_eq_true.mp p3 j (List.mem_range.mpr hj))
  have each : ∀ j, j < 11 → OexC K (Cs.getD j 0) ∧ ExcW K (Cs.getD j 0) ∧ PySem.W.findIn K (.ref (Cs.getD j 0)) "__init__" = some (some (.ref fI)) ∧ PySem.W.findIn K (.ref (Cs.getD j 0)) "value" = some none ∧ PySem.W.kitOne K (.ref (Cs.getD j 0)) (.type "ValueError") = some true := fun j hj => by
    have h := one j hj
    unfold clsOne at h
    obtain ⟨h1, h⟩ := Bool.and_eq_true_iff.mp h
    obtain ⟨h2, h⟩ := Bool.and_eq_true_iff.mp h
    obtain ⟨h3, h⟩ := Bool.and_eq_true_iff.mp h
    obtain ⟨h4, h⟩ := Bool.and_eq_true_iff.mp h
    obtain ⟨h5, h⟩ := Bool.and_eq_true_iff.mp h
    obtain ⟨h6, h⟩ := Bool.and_eq_true_iff.mp h
    obtain ⟨h7, h⟩ := Bool.and_eq_true_iff.mp h
    obtain ⟨h8, h⟩ := Bool.and_eq_true_iff.mp h
    obtain ⟨h9, h⟩ := Bool.and_eq_true_iff.mp h
    obtain ⟨h10, h⟩ := Bool.and_eq_true_iff.mp h
    obtain ⟨h11, h⟩ := Bool.and_eq_true_iff.mp h
    obtain ⟨h12, h⟩ := Bool.and_eq_true_iff.mp h
    obtain ⟨h13, h⟩ := Bool.and_eq_true_iff.mp h
    obtain ⟨h14, h15⟩ := Bool.and_eq_true_iff.mp h
    exact ⟨⟨hx j hj, of_decide_eq_true h1, of_decide_eq_true h2, of_decide_eq_true h3, h4⟩, ⟨h5, of_decide_eq_true h6, of_decide_eq_true h7, of_decide_eq_true h2, h8, of_decide_eq_true h9, of_decide_eq_true h10, of_decide_eq_true h11, of_decide_eq_true h12⟩,
      of_decide_eq_true h13, of_decide_eq_true h14, of_decide_eq_true h15⟩
  exact ⟨hm, fun j hj => (each j hj).1, fun j hj => (each j hj).2.1, fun j hj => (each j hj).2.2.1, fun j hj => (each j hj).2.2.2.1, tI, two, fun j hj => (each j hj).2.2.2.2, three⟩
theorem all_mk {l : PySem.W.OpenLaw} {w : World} {K : PySem.W.Frag} {h : Heap} {mg : Str → Option Value} {fa : Addr} (X : K.In h) (G : h.Ns mainGlobals mg) (hfa : mg "law" = some (.ref fa))
    {C pP pO pL dT dP dS : Addr} {rP rO rL : List Value} {t8 t9 u0 u1 u2 v0 v1 v2 v3 w0 w1 w2 : Tok} {f_fresh : Addr} {od_fresh an_fresh : Option Addr} {sl_fresh : Array (Option Value)}
    {oc_fresh kV_fresh dc_fresh pm_fresh cd_fresh ct_fresh : Value} {f_ent : Addr} {od_ent an_ent : Option Addr} {sl_ent : Array (Option Value)} {oc_ent kV_ent dc_ent pm_ent cd_ent ct_ent : Value} {f_with : Addr}
    {od_with an_with : Option Addr} {sl_with : Array (Option Value)} {oc_with kV_with dc_with pm_with cd_with ct_with : Value} {f_names : Addr} {od_names an_names : Option Addr} {sl_names : Array (Option Value)}
    {oc_names kV_names dc_names pm_names cd_names ct_names : Value} {f_pos : Addr} {od_pos an_pos : Option Addr} {sl_pos : Array (Option Value)} {oc_pos kV_pos dc_pos pm_pos cd_pos ct_pos : Value} {f_nos : Addr}
    {od_nos an_nos : Option Addr} {sl_nos : Array (Option Value)} {oc_nos kV_nos dc_nos pm_nos cd_nos ct_nos : Value} {f_fil : Addr} {od_fil an_fil : Option Addr} {sl_fil : Array (Option Value)}
    {oc_fil kV_fil dc_fil pm_fil cd_fil ct_fil : Value} {f_ckn : Addr} {od_ckn an_ckn : Option Addr} {sl_ckn : Array (Option Value)} {oc_ckn kV_ckn dc_ckn pm_ckn cd_ckn ct_ckn : Value} {f_cko : Addr}
    {od_cko an_cko : Option Addr} {sl_cko : Array (Option Value)} {oc_cko kV_cko dc_cko pm_cko cd_cko ct_cko : Value} {f_ckt : Addr} {od_ckt an_ckt : Option Addr} {sl_ckt : Array (Option Value)}
    {oc_ckt kV_ckt dc_ckt pm_ckt cd_ckt ct_ckt : Value} {f_ckd : Addr} {od_ckd an_ckd : Option Addr} {sl_ckd : Array (Option Value)} {oc_ckd kV_ckd dc_ckd pm_ckd cd_ckd ct_ckd : Value} {f_ckp : Addr}
    {od_ckp an_ckp : Option Addr} {sl_ckp : Array (Option Value)} {oc_ckp kV_ckp dc_ckp pm_ckp cd_ckp ct_ckp : Value} {f_ckr : Addr} {od_ckr an_ckr : Option Addr} {sl_ckr : Array (Option Value)}
    {oc_ckr kV_ckr dc_ckr pm_ckr cd_ckr ct_ckr : Value} {f_cke : Addr} {od_cke an_cke : Option Addr} {sl_cke : Array (Option Value)} {oc_cke kV_cke dc_cke pm_cke cd_cke ct_cke : Value} {f_cks : Addr}
    {od_cks an_cks : Option Addr} {sl_cks : Array (Option Value)} {oc_cks kV_cks dc_cks pm_cks cd_cks ct_cks : Value} {f_cku : Addr} {od_cku an_cku : Option Addr} {sl_cku : Array (Option Value)}
    {oc_cku kV_cku dc_cku pm_cku cd_cku ct_cku : Value} {f_purse : Addr} {od_purse an_purse : Option Addr} {sl_purse : Array (Option Value)} {oc_purse kV_purse dc_purse pm_purse cd_purse ct_purse : Value} {f_coin : Addr}
    {od_coin an_coin : Option Addr} {sl_coin : Array (Option Value)} {oc_coin kV_coin dc_coin pm_coin cd_coin ct_coin : Value} {f_mark : Addr} {od_mark an_mark : Option Addr} {sl_mark : Array (Option Value)}
    {oc_mark kV_mark dc_mark pm_mark cd_mark ct_mark : Value} {f_copied : Addr} {od_copied an_copied : Option Addr} {sl_copied : Array (Option Value)} {oc_copied kV_copied dc_copied pm_copied cd_copied ct_copied : Value} {f_same : Addr}
    {od_same an_same : Option Addr} {sl_same : Array (Option Value)} {oc_same kV_same dc_same pm_same cd_same ct_same : Value} {f_bound : Addr} {od_bound an_bound : Option Addr} {sl_bound : Array (Option Value)}
    {oc_bound kV_bound dc_bound pm_bound cd_bound ct_bound : Value} {f_term : Addr} {od_term an_term : Option Addr} {sl_term : Array (Option Value)} {oc_term kV_term dc_term pm_term cd_term ct_term : Value} {f_part : Addr}
    {od_part an_part : Option Addr} {sl_part : Array (Option Value)} {oc_part kV_part dc_part pm_part cd_part ct_part : Value} {f_stems : Addr} {od_stems an_stems : Option Addr} {sl_stems : Array (Option Value)}
    {oc_stems kV_stems dc_stems pm_stems cd_stems ct_stems : Value} {f_plan : Addr} {od_plan an_plan : Option Addr} {sl_plan : Array (Option Value)} {oc_plan kV_plan dc_plan pm_plan cd_plan ct_plan : Value} {f_tparts : Addr}
    {od_tparts an_tparts : Option Addr} {sl_tparts : Array (Option Value)} {oc_tparts kV_tparts dc_tparts pm_tparts cd_tparts ct_tparts : Value} {f_made : Addr} {od_made an_made : Option Addr} {sl_made : Array (Option Value)}
    {oc_made kV_made dc_made pm_made cd_made ct_made : Value} {f_tnames : Addr} {od_tnames an_tnames : Option Addr} {sl_tnames : Array (Option Value)} {oc_tnames kV_tnames dc_tnames pm_tnames cd_tnames ct_tnames : Value} {f_tells : Addr}
    {od_tells an_tells : Option Addr} {sl_tells : Array (Option Value)} {oc_tells kV_tells dc_tells pm_tells cd_tells ct_tells : Value} {f_deriv : Addr} {od_deriv an_deriv : Option Addr} {sl_deriv : Array (Option Value)}
    {oc_deriv kV_deriv dc_deriv pm_deriv cd_deriv ct_deriv : Value} {f_right : Addr} {od_right an_right : Option Addr} {sl_right : Array (Option Value)} {oc_right kV_right dc_right pm_right cd_right ct_right : Value} {f_law : Addr}
    {od_law an_law : Option Addr} {sl_law : Array (Option Value)} {oc_law kV_law dc_law pm_law cd_law ct_law : Value} {f_init : Addr} {od_init an_init : Option Addr} {sl_init : Array (Option Value)}
    {oc_init kV_init dc_init pm_init cd_init ct_init : Value} {f_gpart : Addr} {od_gpart an_gpart : Option Addr} {sl_gpart : Array (Option Value)} {oc_gpart kV_gpart dc_gpart pm_gpart cd_gpart ct_gpart : Value} {f_gord : Addr}
    {od_gord an_gord : Option Addr} {sl_gord : Array (Option Value)} {oc_gord kV_gord dc_gord pm_gord cd_gord ct_gord : Value} {f_glck : Addr} {od_glck an_glck : Option Addr} {sl_glck : Array (Option Value)}
    {oc_glck kV_glck dc_glck pm_glck cd_glck ct_glck : Value} {f_mnames : Addr} {od_mnames an_mnames : Option Addr} {sl_mnames : Array (Option Value)} {oc_mnames kV_mnames dc_mnames pm_mnames cd_mnames ct_mnames : Value} {f_mwith : Addr}
    {od_mwith an_mwith : Option Addr} {sl_mwith : Array (Option Value)} {oc_mwith kV_mwith dc_mwith pm_mwith cd_mwith ct_mwith : Value} {f_mwout : Addr} {od_mwout an_mwout : Option Addr} {sl_mwout : Array (Option Value)}
    {oc_mwout kV_mwout dc_mwout pm_mwout cd_mwout ct_mwout : Value} {f_mexch : Addr} {od_mexch an_mexch : Option Addr} {sl_mexch : Array (Option Value)} {oc_mexch kV_mexch dc_mexch pm_mexch cd_mexch ct_mexch : Value} {f_mlen : Addr}
    {od_mlen an_mlen : Option Addr} {sl_mlen : Array (Option Value)} {oc_mlen kV_mlen dc_mlen pm_mlen cd_mlen ct_mlen : Value} {f_tinit : Addr} {od_tinit an_tinit : Option Addr} {sl_tinit : Array (Option Value)}
    {oc_tinit kV_tinit dc_tinit pm_tinit cd_tinit ct_tinit : Value} {C0 N0 : Addr} {nm0 q0 : Str} {bs0 sub0 : List Value} {sn0 : List Str} {ab0 : Bool}
    {col0 : Option Bool} {dd0 : Option Addr} {x00 x01 x02 x03 x05 : Option Value} {C1 N1 : Addr} {nm1 q1 : Str} {bs1 sub1 : List Value}
    {sn1 : List Str} {ab1 : Bool} {col1 : Option Bool} {dd1 : Option Addr} {x10 x11 x12 x13 x15 : Option Value} {C2 N2 : Addr}
    {nm2 q2 : Str} {bs2 sub2 : List Value} {sn2 : List Str} {ab2 : Bool} {col2 : Option Bool} {dd2 : Option Addr}
    {x20 x21 x22 x23 x25 : Option Value} {C3 N3 : Addr} {nm3 q3 : Str} {bs3 sub3 : List Value} {sn3 : List Str} {ab3 : Bool}
    {col3 : Option Bool} {dd3 : Option Addr} {x30 x31 x32 x33 x35 : Option Value} {C4 N4 : Addr} {nm4 q4 : Str} {bs4 sub4 : List Value}
    {sn4 : List Str} {ab4 : Bool} {col4 : Option Bool} {dd4 : Option Addr} {x40 x41 x42 x43 x45 : Option Value} {C5 N5 : Addr}
    {nm5 q5 : Str} {bs5 sub5 : List Value} {sn5 : List Str} {ab5 : Bool} {col5 : Option Bool} {dd5 : Option Addr}
    {x50 x51 x52 x53 x55 : Option Value} {C6 N6 : Addr} {nm6 q6 : Str} {bs6 sub6 : List Value} {sn6 : List Str} {ab6 : Bool}
    {col6 : Option Bool} {dd6 : Option Addr} {x60 x61 x62 x63 x65 : Option Value} {C7 N7 : Addr} {nm7 q7 : Str} {bs7 sub7 : List Value}
    {sn7 : List Str} {ab7 : Bool} {col7 : Option Bool} {dd7 : Option Addr} {x70 x71 x72 x73 x75 : Option Value} {C8 N8 : Addr}
    {nm8 q8 : Str} {bs8 sub8 : List Value} {sn8 : List Str} {ab8 : Bool} {col8 : Option Bool} {dd8 : Option Addr}
    {x80 x81 x82 x83 x85 : Option Value} {C9 N9 : Addr} {nm9 q9 : Str} {bs9 sub9 : List Value} {sn9 : List Str} {ab9 : Bool}
    {col9 : Option Bool} {dd9 : Option Addr} {x90 x91 x92 x93 x95 : Option Value} {C10 N10 : Addr} {nm10 q10 : Str} {bs10 sub10 : List Value}
    {sn10 : List Str} {ab10 : Bool} {col10 : Option Bool} {dd10 : Option Addr} {x100 x101 x102 x103 x105 : Option Value}
    (aC0 : PySem.W.nsIn K mainGlobals "TakeError" = some (some (.ref C0)))
    (aC1 : PySem.W.nsIn K mainGlobals "InvalidName" = some (some (.ref C1)))
    (aC2 : PySem.W.nsIn K mainGlobals "InvalidPart" = some (some (.ref C2)))
    (aC3 : PySem.W.nsIn K mainGlobals "InvalidTerm" = some (some (.ref C3)))
    (aC4 : PySem.W.nsIn K mainGlobals "DoubleField" = some (some (.ref C4)))
    (aC5 : PySem.W.nsIn K mainGlobals "InvalidRule" = some (some (.ref C5)))
    (aC6 : PySem.W.nsIn K mainGlobals "InvalidAnswer" = some (some (.ref C6)))
    (aC7 : PySem.W.nsIn K mainGlobals "UnknownPlace" = some (some (.ref C7)))
    (aC8 : PySem.W.nsIn K mainGlobals "TakeEnded" = some (some (.ref C8)))
    (aC9 : PySem.W.nsIn K mainGlobals "NothingToUndo" = some (some (.ref C9)))
    (aC10 : PySem.W.nsIn K mainGlobals "Unreadable" = some (some (.ref C10)))
    (xL0 : K.lookup C0 = some (excClassObj nm0 q0 C0 N0 bs0 [.type "ValueError", .type "Exception", .type "BaseException", .type "object"] true sn0 sub0 ab0 col0 dd0 x00 x01 x02 x03 x05 "ValueError.__new__"))
    (xL1 : K.lookup C1 = some (excClassObj nm1 q1 C1 N1 bs1 [.ref C0, .type "ValueError", .type "Exception", .type "BaseException", .type "object"] true sn1 sub1 ab1 col1 dd1 x10 x11 x12 x13 x15 "ValueError.__new__"))
    (xL2 : K.lookup C2 = some (excClassObj nm2 q2 C2 N2 bs2 [.ref C0, .type "ValueError", .type "Exception", .type "BaseException", .type "object"] true sn2 sub2 ab2 col2 dd2 x20 x21 x22 x23 x25 "ValueError.__new__"))
    (xL3 : K.lookup C3 = some (excClassObj nm3 q3 C3 N3 bs3 [.ref C0, .type "ValueError", .type "Exception", .type "BaseException", .type "object"] true sn3 sub3 ab3 col3 dd3 x30 x31 x32 x33 x35 "ValueError.__new__"))
    (xL4 : K.lookup C4 = some (excClassObj nm4 q4 C4 N4 bs4 [.ref C0, .type "ValueError", .type "Exception", .type "BaseException", .type "object"] true sn4 sub4 ab4 col4 dd4 x40 x41 x42 x43 x45 "ValueError.__new__"))
    (xL5 : K.lookup C5 = some (excClassObj nm5 q5 C5 N5 bs5 [.ref C0, .type "ValueError", .type "Exception", .type "BaseException", .type "object"] true sn5 sub5 ab5 col5 dd5 x50 x51 x52 x53 x55 "ValueError.__new__"))
    (xL6 : K.lookup C6 = some (excClassObj nm6 q6 C6 N6 bs6 [.ref C0, .type "ValueError", .type "Exception", .type "BaseException", .type "object"] true sn6 sub6 ab6 col6 dd6 x60 x61 x62 x63 x65 "ValueError.__new__"))
    (xL7 : K.lookup C7 = some (excClassObj nm7 q7 C7 N7 bs7 [.ref C0, .type "ValueError", .type "Exception", .type "BaseException", .type "object"] true sn7 sub7 ab7 col7 dd7 x70 x71 x72 x73 x75 "ValueError.__new__"))
    (xL8 : K.lookup C8 = some (excClassObj nm8 q8 C8 N8 bs8 [.ref C0, .type "ValueError", .type "Exception", .type "BaseException", .type "object"] true sn8 sub8 ab8 col8 dd8 x80 x81 x82 x83 x85 "ValueError.__new__"))
    (xL9 : K.lookup C9 = some (excClassObj nm9 q9 C9 N9 bs9 [.ref C0, .type "ValueError", .type "Exception", .type "BaseException", .type "object"] true sn9 sub9 ab9 col9 dd9 x90 x91 x92 x93 x95 "ValueError.__new__"))
    (xL10 : K.lookup C10 = some (excClassObj nm10 q10 C10 N10 bs10 [.ref C0, .type "ValueError", .type "Exception", .type "BaseException", .type "object"] true sn10 sub10 ab10 col10 dd10 x100 x101 x102 x103 x105 "ValueError.__new__"))
    (aI : PySem.W.findIn K (.ref C0) "__init__" = some (some (.ref f_tinit)))
    (tI : PySem.W.typeIn K (.ref f_tinit) = some (.type "function"))
    (a_fresh : PySem.W.nsIn K mainGlobals "fresh" = some (some (.ref f_fresh)))
    (l_fresh : K.lookup f_fresh = some ⟨oc_fresh, od_fresh, .func (PySem.W.fnOf "fresh" "fresh" (defArgs sFresh) (defBody sFresh) (defScope sFresh) .none kV_fresh dc_fresh pm_fresh an_fresh cd_fresh ct_fresh), sl_fresh⟩)
    (c_fresh : PySem.W.codeIn K cd_fresh "fresh" = true)
    (k_fresh : PySem.W.keepIn K (.ref f_fresh) = true)
    (a_ent : PySem.W.nsIn K mainGlobals "entries_of" = some (some (.ref f_ent)))
    (l_ent : K.lookup f_ent = some ⟨oc_ent, od_ent, .func (PySem.W.fnOf "entries_of" "entries_of" (defArgs sEntries) (defBody sEntries) (defScope sEntries) .none kV_ent dc_ent pm_ent an_ent cd_ent ct_ent), sl_ent⟩)
    (c_ent : PySem.W.codeIn K cd_ent "entries_of" = true)
    (k_ent : PySem.W.keepIn K (.ref f_ent) = true)
    (a_with : PySem.W.nsIn K mainGlobals "parts_within" = some (some (.ref f_with)))
    (l_with : K.lookup f_with = some ⟨oc_with, od_with, .func (PySem.W.fnOf "parts_within" "parts_within" (defArgs sWithin) (defBody sWithin) (defScope sWithin) .none kV_with dc_with pm_with an_with cd_with ct_with), sl_with⟩)
    (c_with : PySem.W.codeIn K cd_with "parts_within" = true)
    (k_with : PySem.W.keepIn K (.ref f_with) = true)
    (a_names : PySem.W.nsIn K mainGlobals "names_of_part" = some (some (.ref f_names)))
    (l_names : K.lookup f_names = some ⟨oc_names, od_names, .func (PySem.W.fnOf "names_of_part" "names_of_part" (defArgs sNamesOf) (defBody sNamesOf) (defScope sNamesOf) .none kV_names dc_names pm_names an_names cd_names ct_names), sl_names⟩)
    (c_names : PySem.W.codeIn K cd_names "names_of_part" = true)
    (k_names : PySem.W.keepIn K (.ref f_names) = true)
    (a_pos : PySem.W.nsIn K mainGlobals "parts_of_step" = some (some (.ref f_pos)))
    (l_pos : K.lookup f_pos = some ⟨oc_pos, od_pos, .func (PySem.W.fnOf "parts_of_step" "parts_of_step" (defArgs sPoS) (defBody sPoS) (defScope sPoS) .none kV_pos dc_pos pm_pos an_pos cd_pos ct_pos), sl_pos⟩)
    (c_pos : PySem.W.codeIn K cd_pos "parts_of_step" = true)
    (k_pos : PySem.W.keepIn K (.ref f_pos) = true)
    (a_nos : PySem.W.nsIn K mainGlobals "names_of_step" = some (some (.ref f_nos)))
    (l_nos : K.lookup f_nos = some ⟨oc_nos, od_nos, .func (PySem.W.fnOf "names_of_step" "names_of_step" (defArgs sNoS) (defBody sNoS) (defScope sNoS) .none kV_nos dc_nos pm_nos an_nos cd_nos ct_nos), sl_nos⟩)
    (c_nos : PySem.W.codeIn K cd_nos "names_of_step" = true)
    (k_nos : PySem.W.keepIn K (.ref f_nos) = true)
    (a_fil : PySem.W.nsIn K mainGlobals "is_filled" = some (some (.ref f_fil)))
    (l_fil : K.lookup f_fil = some ⟨oc_fil, od_fil, .func (PySem.W.fnOf "is_filled" "is_filled" (defArgs sFilled) (defBody sFilled) (defScope sFilled) .none kV_fil dc_fil pm_fil an_fil cd_fil ct_fil), sl_fil⟩)
    (c_fil : PySem.W.codeIn K cd_fil "is_filled" = true)
    (k_fil : PySem.W.keepIn K (.ref f_fil) = true)
    (a_ckn : PySem.W.nsIn K mainGlobals "check_name" = some (some (.ref f_ckn)))
    (l_ckn : K.lookup f_ckn = some ⟨oc_ckn, od_ckn, .func (PySem.W.fnOf "check_name" "check_name" (defArgs sCkName) (defBody sCkName) (defScope sCkName) .none kV_ckn dc_ckn pm_ckn an_ckn cd_ckn ct_ckn), sl_ckn⟩)
    (c_ckn : PySem.W.codeIn K cd_ckn "check_name" = true)
    (k_ckn : PySem.W.keepIn K (.ref f_ckn) = true)
    (a_cko : PySem.W.nsIn K mainGlobals "check_optional_name" = some (some (.ref f_cko)))
    (l_cko : K.lookup f_cko = some ⟨oc_cko, od_cko, .func (PySem.W.fnOf "check_optional_name" "check_optional_name" (defArgs sCkOpt) (defBody sCkOpt) (defScope sCkOpt) .none kV_cko dc_cko pm_cko an_cko cd_cko ct_cko), sl_cko⟩)
    (c_cko : PySem.W.codeIn K cd_cko "check_optional_name" = true)
    (k_cko : PySem.W.keepIn K (.ref f_cko) = true)
    (a_ckt : PySem.W.nsIn K mainGlobals "check_term" = some (some (.ref f_ckt)))
    (l_ckt : K.lookup f_ckt = some ⟨oc_ckt, od_ckt, .func (PySem.W.fnOf "check_term" "check_term" (defArgs sCkTerm) (defBody sCkTerm) (defScope sCkTerm) .none kV_ckt dc_ckt pm_ckt an_ckt cd_ckt ct_ckt), sl_ckt⟩)
    (c_ckt : PySem.W.codeIn K cd_ckt "check_term" = true)
    (k_ckt : PySem.W.keepIn K (.ref f_ckt) = true)
    (a_ckd : PySem.W.nsIn K mainGlobals "check_default" = some (some (.ref f_ckd)))
    (l_ckd : K.lookup f_ckd = some ⟨oc_ckd, od_ckd, .func (PySem.W.fnOf "check_default" "check_default" (defArgs sCkDef) (defBody sCkDef) (defScope sCkDef) .none kV_ckd dc_ckd pm_ckd an_ckd cd_ckd ct_ckd), sl_ckd⟩)
    (c_ckd : PySem.W.codeIn K cd_ckd "check_default" = true)
    (k_ckd : PySem.W.keepIn K (.ref f_ckd) = true)
    (a_ckp : PySem.W.nsIn K mainGlobals "check_part" = some (some (.ref f_ckp)))
    (l_ckp : K.lookup f_ckp = some ⟨oc_ckp, od_ckp, .func (PySem.W.fnOf "check_part" "check_part" (defArgs sCkPart) (defBody sCkPart) (defScope sCkPart) .none kV_ckp dc_ckp pm_ckp an_ckp cd_ckp ct_ckp), sl_ckp⟩)
    (c_ckp : PySem.W.codeIn K cd_ckp "check_part" = true)
    (k_ckp : PySem.W.keepIn K (.ref f_ckp) = true)
    (a_ckr : PySem.W.nsIn K mainGlobals "check_row" = some (some (.ref f_ckr)))
    (l_ckr : K.lookup f_ckr = some ⟨oc_ckr, od_ckr, .func (PySem.W.fnOf "check_row" "check_row" (defArgs sCkRow) (defBody sCkRow) (defScope sCkRow) .none kV_ckr dc_ckr pm_ckr an_ckr cd_ckr ct_ckr), sl_ckr⟩)
    (c_ckr : PySem.W.codeIn K cd_ckr "check_row" = true)
    (k_ckr : PySem.W.keepIn K (.ref f_ckr) = true)
    (a_cke : PySem.W.nsIn K mainGlobals "check_record" = some (some (.ref f_cke)))
    (l_cke : K.lookup f_cke = some ⟨oc_cke, od_cke, .func (PySem.W.fnOf "check_record" "check_record" (defArgs sCkRec) (defBody sCkRec) (defScope sCkRec) .none kV_cke dc_cke pm_cke an_cke cd_cke ct_cke), sl_cke⟩)
    (c_cke : PySem.W.codeIn K cd_cke "check_record" = true)
    (k_cke : PySem.W.keepIn K (.ref f_cke) = true)
    (a_cks : PySem.W.nsIn K mainGlobals "check_step" = some (some (.ref f_cks)))
    (l_cks : K.lookup f_cks = some ⟨oc_cks, od_cks, .func (PySem.W.fnOf "check_step" "check_step" (defArgs sCkStep) (defBody sCkStep) (defScope sCkStep) .none kV_cks dc_cks pm_cks an_cks cd_cks ct_cks), sl_cks⟩)
    (c_cks : PySem.W.codeIn K cd_cks "check_step" = true)
    (k_cks : PySem.W.keepIn K (.ref f_cks) = true)
    (a_cku : PySem.W.nsIn K mainGlobals "check_rules" = some (some (.ref f_cku)))
    (l_cku : K.lookup f_cku = some ⟨oc_cku, od_cku, .func (PySem.W.fnOf "check_rules" "check_rules" (defArgs sCkRules) (defBody sCkRules) (defScope sCkRules) .none kV_cku dc_cku pm_cku an_cku cd_cku ct_cku), sl_cku⟩)
    (c_cku : PySem.W.codeIn K cd_cku "check_rules" = true)
    (k_cku : PySem.W.keepIn K (.ref f_cku) = true)
    (a_purse : PySem.W.nsIn K mainGlobals "_law_purse" = some (some (.ref f_purse)))
    (l_purse : K.lookup f_purse = some ⟨oc_purse, od_purse, .func (PySem.W.fnOf "_law_purse" "_law_purse" (defArgs sPurse) (defBody sPurse) (defScope sPurse) .none kV_purse dc_purse pm_purse an_purse cd_purse ct_purse), sl_purse⟩)
    (c_purse : PySem.W.codeIn K cd_purse "_law_purse" = true)
    (k_purse : PySem.W.keepIn K (.ref f_purse) = true)
    (a_coin : PySem.W.nsIn K mainGlobals "_law_coin" = some (some (.ref f_coin)))
    (l_coin : K.lookup f_coin = some ⟨oc_coin, od_coin, .func (PySem.W.fnOf "_law_coin" "_law_coin" (defArgs sCoin) (defBody sCoin) (defScope sCoin) .none kV_coin dc_coin pm_coin an_coin cd_coin ct_coin), sl_coin⟩)
    (c_coin : PySem.W.codeIn K cd_coin "_law_coin" = true)
    (k_coin : PySem.W.keepIn K (.ref f_coin) = true)
    (a_mark : PySem.W.nsIn K mainGlobals "_law_ta_mark" = some (some (.ref f_mark)))
    (l_mark : K.lookup f_mark = some ⟨oc_mark, od_mark, .func (PySem.W.fnOf "_law_ta_mark" "_law_ta_mark" (defArgs sMark) (defBody sMark) (defScope sMark) .none kV_mark dc_mark pm_mark an_mark cd_mark ct_mark), sl_mark⟩)
    (c_mark : PySem.W.codeIn K cd_mark "_law_ta_mark" = true)
    (k_mark : PySem.W.keepIn K (.ref f_mark) = true)
    (a_copied : PySem.W.nsIn K mainGlobals "_law_ta_copy" = some (some (.ref f_copied)))
    (l_copied : K.lookup f_copied = some ⟨oc_copied, od_copied, .func (PySem.W.fnOf "_law_ta_copy" "_law_ta_copy" (defArgs sCopied) (defBody sCopied) (defScope sCopied) .none kV_copied dc_copied pm_copied an_copied cd_copied ct_copied), sl_copied⟩)
    (c_copied : PySem.W.codeIn K cd_copied "_law_ta_copy" = true)
    (k_copied : PySem.W.keepIn K (.ref f_copied) = true)
    (a_same : PySem.W.nsIn K mainGlobals "_law_ta_same" = some (some (.ref f_same)))
    (l_same : K.lookup f_same = some ⟨oc_same, od_same, .func (PySem.W.fnOf "_law_ta_same" "_law_ta_same" (defArgs sSame) (defBody sSame) (defScope sSame) .none kV_same dc_same pm_same an_same cd_same ct_same), sl_same⟩)
    (c_same : PySem.W.codeIn K cd_same "_law_ta_same" = true)
    (k_same : PySem.W.keepIn K (.ref f_same) = true)
    (a_bound : PySem.W.nsIn K mainGlobals "_law_ta_bound_names" = some (some (.ref f_bound)))
    (l_bound : K.lookup f_bound = some ⟨oc_bound, od_bound, .func (PySem.W.fnOf "_law_ta_bound_names" "_law_ta_bound_names" (defArgs sBound) (defBody sBound) (defScope sBound) .none kV_bound dc_bound pm_bound an_bound cd_bound ct_bound), sl_bound⟩)
    (c_bound : PySem.W.codeIn K cd_bound "_law_ta_bound_names" = true)
    (k_bound : PySem.W.keepIn K (.ref f_bound) = true)
    (a_term : PySem.W.nsIn K mainGlobals "_law_tk_term" = some (some (.ref f_term)))
    (l_term : K.lookup f_term = some ⟨oc_term, od_term, .func (PySem.W.fnOf "_law_tk_term" "_law_tk_term" (defArgs sTerm) (defBody sTerm) (defScope sTerm) .none kV_term dc_term pm_term an_term cd_term ct_term), sl_term⟩)
    (c_term : PySem.W.codeIn K cd_term "_law_tk_term" = true)
    (k_term : PySem.W.keepIn K (.ref f_term) = true)
    (a_part : PySem.W.nsIn K mainGlobals "_law_tk_part" = some (some (.ref f_part)))
    (l_part : K.lookup f_part = some ⟨oc_part, od_part, .func (PySem.W.fnOf "_law_tk_part" "_law_tk_part" (defArgs sPart) (defBody sPart) (defScope sPart) .none kV_part dc_part pm_part an_part cd_part ct_part), sl_part⟩)
    (c_part : PySem.W.codeIn K cd_part "_law_tk_part" = true)
    (k_part : PySem.W.keepIn K (.ref f_part) = true)
    (a_stems : PySem.W.nsIn K mainGlobals "_law_tk_stems" = some (some (.ref f_stems)))
    (l_stems : K.lookup f_stems = some ⟨oc_stems, od_stems, .func (PySem.W.fnOf "_law_tk_stems" "_law_tk_stems" (defArgs sStems) (defBody sStems) (defScope sStems) .none kV_stems dc_stems pm_stems an_stems cd_stems ct_stems), sl_stems⟩)
    (c_stems : PySem.W.codeIn K cd_stems "_law_tk_stems" = true)
    (k_stems : PySem.W.keepIn K (.ref f_stems) = true)
    (a_plan : PySem.W.nsIn K mainGlobals "_law_tp_plan" = some (some (.ref f_plan)))
    (l_plan : K.lookup f_plan = some ⟨oc_plan, od_plan, .func (PySem.W.fnOf "_law_tp_plan" "_law_tp_plan" (defArgs sPlan) (defBody sPlan) (defScope sPlan) .none kV_plan dc_plan pm_plan an_plan cd_plan ct_plan), sl_plan⟩)
    (c_plan : PySem.W.codeIn K cd_plan "_law_tp_plan" = true)
    (k_plan : PySem.W.keepIn K (.ref f_plan) = true)
    (a_tparts : PySem.W.nsIn K mainGlobals "_law_tp_parts" = some (some (.ref f_tparts)))
    (l_tparts : K.lookup f_tparts = some ⟨oc_tparts, od_tparts, .func (PySem.W.fnOf "_law_tp_parts" "_law_tp_parts" (defArgs sTpParts) (defBody sTpParts) (defScope sTpParts) .none kV_tparts dc_tparts pm_tparts an_tparts cd_tparts ct_tparts), sl_tparts⟩)
    (c_tparts : PySem.W.codeIn K cd_tparts "_law_tp_parts" = true)
    (k_tparts : PySem.W.keepIn K (.ref f_tparts) = true)
    (a_made : PySem.W.nsIn K mainGlobals "_law_tp_made" = some (some (.ref f_made)))
    (l_made : K.lookup f_made = some ⟨oc_made, od_made, .func (PySem.W.fnOf "_law_tp_made" "_law_tp_made" (defArgs sMade) (defBody sMade) (defScope sMade) .none kV_made dc_made pm_made an_made cd_made ct_made), sl_made⟩)
    (c_made : PySem.W.codeIn K cd_made "_law_tp_made" = true)
    (k_made : PySem.W.keepIn K (.ref f_made) = true)
    (a_tnames : PySem.W.nsIn K mainGlobals "_law_tp_names" = some (some (.ref f_tnames)))
    (l_tnames : K.lookup f_tnames = some ⟨oc_tnames, od_tnames, .func (PySem.W.fnOf "_law_tp_names" "_law_tp_names" (defArgs sTpNames) (defBody sTpNames) (defScope sTpNames) .none kV_tnames dc_tnames pm_tnames an_tnames cd_tnames ct_tnames), sl_tnames⟩)
    (c_tnames : PySem.W.codeIn K cd_tnames "_law_tp_names" = true)
    (k_tnames : PySem.W.keepIn K (.ref f_tnames) = true)
    (a_tells : PySem.W.nsIn K mainGlobals "_law_tp_tells" = some (some (.ref f_tells)))
    (l_tells : K.lookup f_tells = some ⟨oc_tells, od_tells, .func (PySem.W.fnOf "_law_tp_tells" "_law_tp_tells" (defArgs sTells) (defBody sTells) (defScope sTells) .none kV_tells dc_tells pm_tells an_tells cd_tells ct_tells), sl_tells⟩)
    (c_tells : PySem.W.codeIn K cd_tells "_law_tp_tells" = true)
    (k_tells : PySem.W.keepIn K (.ref f_tells) = true)
    (a_deriv : PySem.W.nsIn K mainGlobals "_law_ta_derived" = some (some (.ref f_deriv)))
    (l_deriv : K.lookup f_deriv = some ⟨oc_deriv, od_deriv, .func (PySem.W.fnOf "_law_ta_derived" "_law_ta_derived" (defArgs sDeriv) (defBody sDeriv) (defScope sDeriv) .none kV_deriv dc_deriv pm_deriv an_deriv cd_deriv ct_deriv), sl_deriv⟩)
    (c_deriv : PySem.W.codeIn K cd_deriv "_law_ta_derived" = true)
    (k_deriv : PySem.W.keepIn K (.ref f_deriv) = true)
    (a_right : PySem.W.nsIn K mainGlobals "_law_right" = some (some (.ref f_right)))
    (l_right : K.lookup f_right = some ⟨oc_right, od_right, .func (PySem.W.fnOf "_law_right" "_law_right" (defArgs sRight) (defBody sRight) (defScope sRight) .none kV_right dc_right pm_right an_right cd_right ct_right), sl_right⟩)
    (c_right : PySem.W.codeIn K cd_right "_law_right" = true)
    (k_right : PySem.W.keepIn K (.ref f_right) = true)
    (a_law : PySem.W.nsIn K mainGlobals "law" = some (some (.ref f_law)))
    (l_law : K.lookup f_law = some ⟨oc_law, od_law, .func (PySem.W.fnOf "law" "law" (defArgs sLaw) (defBody sLaw) (defScope sLaw) .none kV_law dc_law pm_law an_law cd_law ct_law), sl_law⟩)
    (c_law : PySem.W.codeIn K cd_law "law" = true)
    (k_law : PySem.W.keepIn K (.ref f_law) = true)
    (aC : PySem.W.nsIn K mainGlobals "Program" = some (some (.ref C)))
    (cPg : PySem.W.plainGet K C Str.empty = true)
    (cHd : PySem.W.hasDictIn K C = true)
    (cPo : PySem.W.plainOver K C = true)
    (cSa : PySem.W.findIn K (.ref C) "__setattr__" = some (some (.builtin "object.__setattr__")))
    (nP : PySem.W.findIn K (.ref C) "_steps" = some none)
    (nO : PySem.W.findIn K (.ref C) "_order" = some none)
    (nL : PySem.W.findIn K (.ref C) "_lacks" = some none)
    (mkM : PySem.W.makesIn K C = true)
    (mkI : PySem.W.findIn K (.ref C) "__init__" = some (some (.ref f_init)))
    (mkK : PySem.W.keepIn K (.ref C) = true)
    (i_init : PySem.W.isFn K (.ref f_init) = true)
    (w_mnames : PySem.W.findIn K (.ref C) "names" = some (some (.ref f_mnames)))
    (i_mnames : PySem.W.isFn K (.ref f_mnames) = true)
    (w_mwith : PySem.W.findIn K (.ref C) "with_order" = some (some (.ref f_mwith)))
    (i_mwith : PySem.W.isFn K (.ref f_mwith) = true)
    (w_mwout : PySem.W.findIn K (.ref C) "without" = some (some (.ref f_mwout)))
    (i_mwout : PySem.W.isFn K (.ref f_mwout) = true)
    (w_mexch : PySem.W.findIn K (.ref C) "exchanged" = some (some (.ref f_mexch)))
    (i_mexch : PySem.W.isFn K (.ref f_mexch) = true)
    (w_mlen : PySem.W.findIn K (.ref C) "__len__" = some (some (.ref f_mlen)))
    (i_mlen : PySem.W.isFn K (.ref f_mlen) = true)
    (p1_gpart : PySem.W.findIn K (.ref C) "steps" = some (some (.ref pP)))
    (p2_gpart : PySem.W.specialIn K (.ref pP) "__get__" = some (some (.builtin "property.__get__")))
    (p3_gpart : PySem.W.takesIn K (.ref pP) = some true)
    (p4_gpart : PySem.W.recIn K pP "property" = some (.ref f_gpart :: rP))
    (p1_gord : PySem.W.findIn K (.ref C) "order" = some (some (.ref pO)))
    (p2_gord : PySem.W.specialIn K (.ref pO) "__get__" = some (some (.builtin "property.__get__")))
    (p3_gord : PySem.W.takesIn K (.ref pO) = some true)
    (p4_gord : PySem.W.recIn K pO "property" = some (.ref f_gord :: rO))
    (p1_glck : PySem.W.findIn K (.ref C) "lacks" = some (some (.ref pL)))
    (p2_glck : PySem.W.specialIn K (.ref pL) "__get__" = some (some (.builtin "property.__get__")))
    (p3_glck : PySem.W.takesIn K (.ref pL) = some true)
    (p4_glck : PySem.W.recIn K pL "property" = some (.ref f_glck :: rL))
    (l_init : K.lookup f_init = some ⟨oc_init, od_init, .func (PySem.W.fnOf "__init__" "Program.__init__" (defArgs sInit) (defBody sInit) (defScope sInit) .none kV_init dc_init pm_init an_init cd_init ct_init), sl_init⟩)
    (c_init : PySem.W.codeIn K cd_init "Program.__init__" = true)
    (k_init : PySem.W.keepIn K (.ref f_init) = true)
    (l_gpart : K.lookup f_gpart = some ⟨oc_gpart, od_gpart, .func (PySem.W.fnOf "steps" "Program.steps" (defArgs sGPart) (defBody sGPart) (defScope sGPart) .none kV_gpart dc_gpart pm_gpart an_gpart cd_gpart ct_gpart), sl_gpart⟩)
    (c_gpart : PySem.W.codeIn K cd_gpart "Program.steps" = true)
    (k_gpart : PySem.W.keepIn K (.ref f_gpart) = true)
    (l_gord : K.lookup f_gord = some ⟨oc_gord, od_gord, .func (PySem.W.fnOf "order" "Program.order" (defArgs sGOrd) (defBody sGOrd) (defScope sGOrd) .none kV_gord dc_gord pm_gord an_gord cd_gord ct_gord), sl_gord⟩)
    (c_gord : PySem.W.codeIn K cd_gord "Program.order" = true)
    (k_gord : PySem.W.keepIn K (.ref f_gord) = true)
    (l_glck : K.lookup f_glck = some ⟨oc_glck, od_glck, .func (PySem.W.fnOf "lacks" "Program.lacks" (defArgs sGLck) (defBody sGLck) (defScope sGLck) .none kV_glck dc_glck pm_glck an_glck cd_glck ct_glck), sl_glck⟩)
    (c_glck : PySem.W.codeIn K cd_glck "Program.lacks" = true)
    (k_glck : PySem.W.keepIn K (.ref f_glck) = true)
    (l_mnames : K.lookup f_mnames = some ⟨oc_mnames, od_mnames, .func (PySem.W.fnOf "names" "Program.names" (defArgs sMNames) (defBody sMNames) (defScope sMNames) .none kV_mnames dc_mnames pm_mnames an_mnames cd_mnames ct_mnames), sl_mnames⟩)
    (c_mnames : PySem.W.codeIn K cd_mnames "Program.names" = true)
    (k_mnames : PySem.W.keepIn K (.ref f_mnames) = true)
    (l_mwith : K.lookup f_mwith = some ⟨oc_mwith, od_mwith, .func (PySem.W.fnOf "with_order" "Program.with_order" (defArgs sMWith) (defBody sMWith) (defScope sMWith) .none kV_mwith dc_mwith pm_mwith an_mwith cd_mwith ct_mwith), sl_mwith⟩)
    (c_mwith : PySem.W.codeIn K cd_mwith "Program.with_order" = true)
    (k_mwith : PySem.W.keepIn K (.ref f_mwith) = true)
    (l_mwout : K.lookup f_mwout = some ⟨oc_mwout, od_mwout, .func (PySem.W.fnOf "without" "Program.without" (defArgs sMWout) (defBody sMWout) (defScope sMWout) .none kV_mwout dc_mwout pm_mwout an_mwout cd_mwout ct_mwout), sl_mwout⟩)
    (c_mwout : PySem.W.codeIn K cd_mwout "Program.without" = true)
    (k_mwout : PySem.W.keepIn K (.ref f_mwout) = true)
    (l_mexch : K.lookup f_mexch = some ⟨oc_mexch, od_mexch, .func (PySem.W.fnOf "exchanged" "Program.exchanged" (defArgs sMExch) (defBody sMExch) (defScope sMExch) .none kV_mexch dc_mexch pm_mexch an_mexch cd_mexch ct_mexch), sl_mexch⟩)
    (c_mexch : PySem.W.codeIn K cd_mexch "Program.exchanged" = true)
    (k_mexch : PySem.W.keepIn K (.ref f_mexch) = true)
    (l_mlen : K.lookup f_mlen = some ⟨oc_mlen, od_mlen, .func (PySem.W.fnOf "__len__" "Program.__len__" (defArgs sMLen) (defBody sMLen) (defScope sMLen) .none kV_mlen dc_mlen pm_mlen an_mlen cd_mlen ct_mlen), sl_mlen⟩)
    (c_mlen : PySem.W.codeIn K cd_mlen "Program.__len__" = true)
    (k_mlen : PySem.W.keepIn K (.ref f_mlen) = true)
    (l_tinit : K.lookup f_tinit = some ⟨oc_tinit, od_tinit, .func (PySem.W.fnOf "__init__" "TakeError.__init__" (defArgs sTInit) (defBody sTInit) (defScope sTInit) .none kV_tinit dc_tinit pm_tinit an_tinit cd_tinit ct_tinit), sl_tinit⟩)
    (c_tinit : PySem.W.codeIn K cd_tinit "TakeError.__init__" = true)
    (k_tinit : PySem.W.keepIn K (.ref f_tinit) = true)
    (aT : PySem.W.nsIn K mainGlobals "TERM_SIZES" = some (some (.ref dT)))
    (aP : PySem.W.nsIn K mainGlobals "PART_SIZES" = some (some (.ref dP)))
    (aS : PySem.W.nsIn K mainGlobals "STEP_SIZES" = some (some (.ref dS)))
    (aN : PySem.W.nsIn K mainGlobals "LONGEST_NAME" = some (some (.int 8 t8)))
    (aL : PySem.W.nsIn K mainGlobals "LETTERS" = some (some (.str LT t9)))
    (kT : He.dicW K dT = some (He.keysIn w.params ["read", "number", "call"]))
    (kP : He.dicW K dP = some (He.keysIn w.params ["name", "any", "row", "record"]))
    (kS : He.dicW K dS = some (He.keysIn w.params ["take", "set", "cases"]))
    (eT0 : PySem.W.nsIn K dT "read" = some (some (.int 2 u0)))
    (eT1 : PySem.W.nsIn K dT "number" = some (some (.int 2 u1)))
    (eT2 : PySem.W.nsIn K dT "call" = some (some (.int 3 u2)))
    (eP0 : PySem.W.nsIn K dP "name" = some (some (.int 2 v0)))
    (eP1 : PySem.W.nsIn K dP "any" = some (some (.int 1 v1)))
    (eP2 : PySem.W.nsIn K dP "row" = some (some (.int 3 v2)))
    (eP3 : PySem.W.nsIn K dP "record" = some (some (.int 3 v3)))
    (eS0 : PySem.W.nsIn K dS "take" = some (some (.int 3 w0)))
    (eS1 : PySem.W.nsIn K dS "set" = some (some (.int 3 w1)))
    (eS2 : PySem.W.nsIn K dS "cases" = some (some (.int 3 w2)))
    (z_len : PySem.W.nsIn K mainGlobals "len" = some none)
    (z_max : PySem.W.nsIn K mainGlobals "max" = some none)
    (z_min : PySem.W.nsIn K mainGlobals "min" = some none)
    (z_abs : PySem.W.nsIn K mainGlobals "abs" = some none)
    (z_int : PySem.W.nsIn K mainGlobals "int" = some none)
    (z_range : PySem.W.nsIn K mainGlobals "range" = some none)
    (z_set : PySem.W.nsIn K mainGlobals "set" = some none)
    (z_list : PySem.W.nsIn K mainGlobals "list" = some none)
    (z_tuple : PySem.W.nsIn K mainGlobals "tuple" = some none)
    (z_all : PySem.W.nsIn K mainGlobals "all" = some none)
    (z_repr : PySem.W.nsIn K mainGlobals "repr" = some none)
    (z_isinstance : PySem.W.nsIn K mainGlobals "isinstance" = some none)
    (z_dict : PySem.W.nsIn K mainGlobals "dict" = some none)
    (z_bool : PySem.W.nsIn K mainGlobals "bool" = some none)
    (z_str : PySem.W.nsIn K mainGlobals "str" = some none)
    (z_enumerate : PySem.W.nsIn K mainGlobals "enumerate" = some none)
    (z_sorted : PySem.W.nsIn K mainGlobals "sorted" = some none)
    (z_ValueError : PySem.W.nsIn K mainGlobals "ValueError" = some none)
    (pk : clsAll K [C0, C1, C2, C3, C4, C5, C6, C7, C8, C9, C10] f_tinit = true)
    : ∃ fd : FuncData, (∀ (s : Shared) (v : Value), BindsTo s fd ⟨[v], []⟩ [("script", v)]) ∧ ∀ base : Heap, K.In base → base.Ns mainGlobals mg → FnOk l.prog w K mg base CX0 46 fa fd ["script"] (spLaw K) := by
  have e := hfa.symm.trans (PySem.W.mg_of X G a_law)
  cases e
  have m_fresh := PySem.W.mg_of X G a_fresh
  have m_ent := PySem.W.mg_of X G a_ent
  have m_with := PySem.W.mg_of X G a_with
  have m_names := PySem.W.mg_of X G a_names
  have m_pos := PySem.W.mg_of X G a_pos
  have m_nos := PySem.W.mg_of X G a_nos
  have m_fil := PySem.W.mg_of X G a_fil
  have m_ckn := PySem.W.mg_of X G a_ckn
  have m_cko := PySem.W.mg_of X G a_cko
  have m_ckt := PySem.W.mg_of X G a_ckt
  have m_ckd := PySem.W.mg_of X G a_ckd
  have m_ckp := PySem.W.mg_of X G a_ckp
  have m_ckr := PySem.W.mg_of X G a_ckr
  have m_cke := PySem.W.mg_of X G a_cke
  have m_cks := PySem.W.mg_of X G a_cks
  have m_cku := PySem.W.mg_of X G a_cku
  have m_purse := PySem.W.mg_of X G a_purse
  have m_coin := PySem.W.mg_of X G a_coin
  have m_mark := PySem.W.mg_of X G a_mark
  have m_copied := PySem.W.mg_of X G a_copied
  have m_same := PySem.W.mg_of X G a_same
  have m_bound := PySem.W.mg_of X G a_bound
  have m_term := PySem.W.mg_of X G a_term
  have m_part := PySem.W.mg_of X G a_part
  have m_stems := PySem.W.mg_of X G a_stems
  have m_plan := PySem.W.mg_of X G a_plan
  have m_tparts := PySem.W.mg_of X G a_tparts
  have m_made := PySem.W.mg_of X G a_made
  have m_tnames := PySem.W.mg_of X G a_tnames
  have m_tells := PySem.W.mg_of X G a_tells
  have m_deriv := PySem.W.mg_of X G a_deriv
  have m_right := PySem.W.mg_of X G a_right
  have m_law := PySem.W.mg_of X G a_law
  have y_len := PySem.W.mg_none_of X G z_len
  have y_max := PySem.W.mg_none_of X G z_max
  have y_min := PySem.W.mg_none_of X G z_min
  have y_abs := PySem.W.mg_none_of X G z_abs
  have y_int := PySem.W.mg_none_of X G z_int
  have y_range := PySem.W.mg_none_of X G z_range
  have y_set := PySem.W.mg_none_of X G z_set
  have y_list := PySem.W.mg_none_of X G z_list
  have y_tuple := PySem.W.mg_none_of X G z_tuple
  have y_all := PySem.W.mg_none_of X G z_all
  have y_repr := PySem.W.mg_none_of X G z_repr
  have y_isinstance := PySem.W.mg_none_of X G z_isinstance
  have y_dict := PySem.W.mg_none_of X G z_dict
  have y_bool := PySem.W.mg_none_of X G z_bool
  have y_str := PySem.W.mg_none_of X G z_str
  have y_enumerate := PySem.W.mg_none_of X G z_enumerate
  have y_sorted := PySem.W.mg_none_of X G z_sorted
  have y_ValueError := PySem.W.mg_none_of X G z_ValueError
  have T : Txt K mg := ⟨y_len, y_max, y_min, y_abs, y_int, y_range, y_set, y_list, y_tuple, y_all, y_repr, y_isinstance⟩
  have F_fresh := fun_mk (st := sFresh) l_fresh c_fresh k_fresh
  have b_fresh := F_fresh.binds (ps := ["thing"]) fun _ _ _ _ _ _ us hl => match us, hl with | [_], _ => rfl
  have F_ent := fun_mk (st := sEntries) l_ent c_ent k_ent
  have b_ent := F_ent.binds (ps := ["part"]) fun _ _ _ _ _ _ us hl => match us, hl with | [_], _ => rfl
  have F_with := fun_mk (st := sWithin) l_with c_with k_with
  have b_with := F_with.binds (ps := ["part"]) fun _ _ _ _ _ _ us hl => match us, hl with | [_], _ => rfl
  have F_names := fun_mk (st := sNamesOf) l_names c_names k_names
  have b_names := F_names.binds (ps := ["part"]) fun _ _ _ _ _ _ us hl => match us, hl with | [_], _ => rfl
  have F_pos := fun_mk (st := sPoS) l_pos c_pos k_pos
  have b_pos := F_pos.binds (ps := ["step"]) fun _ _ _ _ _ _ us hl => match us, hl with | [_], _ => rfl
  have F_nos := fun_mk (st := sNoS) l_nos c_nos k_nos
  have b_nos := F_nos.binds (ps := ["step"]) fun _ _ _ _ _ _ us hl => match us, hl with | [_], _ => rfl
  have F_fil := fun_mk (st := sFilled) l_fil c_fil k_fil
  have b_fil := F_fil.binds (ps := ["thing"]) fun _ _ _ _ _ _ us hl => match us, hl with | [_], _ => rfl
  have F_ckn := fun_mk (st := sCkName) l_ckn c_ckn k_ckn
  have b_ckn := F_ckn.binds (ps := ["name"]) fun _ _ _ _ _ _ us hl => match us, hl with | [_], _ => rfl
  have F_cko := fun_mk (st := sCkOpt) l_cko c_cko k_cko
  have b_cko := F_cko.binds (ps := ["name"]) fun _ _ _ _ _ _ us hl => match us, hl with | [_], _ => rfl
  have F_ckt := fun_mk (st := sCkTerm) l_ckt c_ckt k_ckt
  have b_ckt := F_ckt.binds (ps := ["term"]) fun _ _ _ _ _ _ us hl => match us, hl with | [_], _ => rfl
  have F_ckd := fun_mk (st := sCkDef) l_ckd c_ckd k_ckd
  have b_ckd := F_ckd.binds (ps := ["default"]) fun _ _ _ _ _ _ us hl => match us, hl with | [_], _ => rfl
  have F_ckp := fun_mk (st := sCkPart) l_ckp c_ckp k_ckp
  have b_ckp := F_ckp.binds (ps := ["part"]) fun _ _ _ _ _ _ us hl => match us, hl with | [_], _ => rfl
  have F_ckr := fun_mk (st := sCkRow) l_ckr c_ckr k_ckr
  have b_ckr := F_ckr.binds (ps := ["part"]) fun _ _ _ _ _ _ us hl => match us, hl with | [_], _ => rfl
  have F_cke := fun_mk (st := sCkRec) l_cke c_cke k_cke
  have b_cke := F_cke.binds (ps := ["part"]) fun _ _ _ _ _ _ us hl => match us, hl with | [_], _ => rfl
  have F_cks := fun_mk (st := sCkStep) l_cks c_cks k_cks
  have b_cks := F_cks.binds (ps := ["step"]) fun _ _ _ _ _ _ us hl => match us, hl with | [_], _ => rfl
  have F_cku := fun_mk (st := sCkRules) l_cku c_cku k_cku
  have b_cku := F_cku.binds (ps := ["order", "lacks"]) fun _ _ _ _ _ _ us hl => match us, hl with | [_, _], _ => rfl
  have F_purse := fun_mk (st := sPurse) l_purse c_purse k_purse
  have b_purse := F_purse.binds (ps := ["script", "place"]) fun _ _ _ _ _ _ us hl => match us, hl with | [_, _], _ => rfl
  have F_coin := fun_mk (st := sCoin) l_coin c_coin k_coin
  have b_coin := F_coin.binds (ps := ["purse", "many"]) fun _ _ _ _ _ _ us hl => match us, hl with | [_, _], _ => rfl
  have F_mark := fun_mk (st := sMark) l_mark c_mark k_mark
  have b_mark := F_mark.binds (ps := ["thing", "tally"]) fun _ _ _ _ _ _ us hl => match us, hl with | [_, _], _ => rfl
  have F_copied := fun_mk (st := sCopied) l_copied c_copied k_copied
  have b_copied := F_copied.binds (ps := ["thing"]) fun _ _ _ _ _ _ us hl => match us, hl with | [_], _ => rfl
  have F_same := fun_mk (st := sSame) l_same c_same k_same
  have b_same := F_same.binds (ps := ["told", "owed"]) fun _ _ _ _ _ _ us hl => match us, hl with | [_, _], _ => rfl
  have F_bound := fun_mk (st := sBound) l_bound c_bound k_bound
  have b_bound := F_bound.binds (ps := ["piece"]) fun _ _ _ _ _ _ us hl => match us, hl with | [_], _ => rfl
  have F_term := fun_mk (st := sTerm) l_term c_term k_term
  have b_term := F_term.binds (ps := ["purse", "labels", "left", "deep"]) fun _ _ _ _ _ _ us hl => match us, hl with | [_, _, _, _], _ => rfl
  have F_part := fun_mk (st := sPart) l_part c_part k_part
  have b_part := F_part.binds (ps := ["purse", "labels", "left", "deep"]) fun _ _ _ _ _ _ us hl => match us, hl with | [_, _, _, _], _ => rfl
  have F_stems := fun_mk (st := sStems) l_stems c_stems k_stems
  have b_stems := F_stems.binds (ps := ["purse", "many"]) fun _ _ _ _ _ _ us hl => match us, hl with | [_, _], _ => rfl
  have F_plan := fun_mk (st := sPlan) l_plan c_plan k_plan
  have b_plan := F_plan.binds (ps := ["purse", "is_great"]) fun _ _ _ _ _ _ us hl => match us, hl with | [_, _], _ => rfl
  have F_tparts := fun_mk (st := sTpParts) l_tparts c_tparts k_tparts
  have b_tparts := F_tparts.binds (ps := ["steps_here"]) fun _ _ _ _ _ _ us hl => match us, hl with | [_], _ => rfl
  have F_made := fun_mk (st := sMade) l_made c_made k_made
  have b_made := F_made.binds (ps := ["purse", "plan"]) fun _ _ _ _ _ _ us hl => match us, hl with | [_, _], _ => rfl
  have F_tnames := fun_mk (st := sTpNames) l_tnames c_tnames k_tnames
  have b_tnames := F_tnames.binds (ps := ["steps_here"]) fun _ _ _ _ _ _ us hl => match us, hl with | [_], _ => rfl
  have F_tells := fun_mk (st := sTells) l_tells c_tells k_tells
  have b_tells := F_tells.binds (ps := ["made", "plan"]) fun _ _ _ _ _ _ us hl => match us, hl with | [_, _], _ => rfl
  have F_deriv := fun_mk (st := sDeriv) l_deriv c_deriv k_deriv
  have b_deriv := F_deriv.binds (ps := ["made", "way", "at"]) fun _ _ _ _ _ _ us hl => match us, hl with | [_, _, _], _ => rfl
  have F_right := fun_mk (st := sRight) l_right c_right k_right
  have b_right := F_right.binds (ps := ["purse"]) fun _ _ _ _ _ _ us hl => match us, hl with | [_], _ => rfl
  have F_law := fun_mk (st := sLaw) l_law c_law k_law
  have F_init := fun_mk (st := sInit) l_init c_init k_init
  have b_init := F_init.binds (ps := ["self", "steps", "order", "lacks"]) fun _ _ _ _ _ _ us hl => match us, hl with | [_, _, _, _], _ => rfl
  have F_gpart := fun_mk (st := sGPart) l_gpart c_gpart k_gpart
  have b_gpart := F_gpart.binds (ps := ["self"]) fun _ _ _ _ _ _ us hl => match us, hl with | [_], _ => rfl
  have F_gord := fun_mk (st := sGOrd) l_gord c_gord k_gord
  have b_gord := F_gord.binds (ps := ["self"]) fun _ _ _ _ _ _ us hl => match us, hl with | [_], _ => rfl
  have F_glck := fun_mk (st := sGLck) l_glck c_glck k_glck
  have b_glck := F_glck.binds (ps := ["self"]) fun _ _ _ _ _ _ us hl => match us, hl with | [_], _ => rfl
  have F_mnames := fun_mk (st := sMNames) l_mnames c_mnames k_mnames
  have b_mnames := F_mnames.binds (ps := ["self"]) fun _ _ _ _ _ _ us hl => match us, hl with | [_], _ => rfl
  have F_mwith := fun_mk (st := sMWith) l_mwith c_mwith k_mwith
  have b_mwith := F_mwith.binds (ps := ["self", "order"]) fun _ _ _ _ _ _ us hl => match us, hl with | [_, _], _ => rfl
  have F_mwout := fun_mk (st := sMWout) l_mwout c_mwout k_mwout
  have b_mwout := F_mwout.binds (ps := ["self", "index"]) fun _ _ _ _ _ _ us hl => match us, hl with | [_, _], _ => rfl
  have F_mexch := fun_mk (st := sMExch) l_mexch c_mexch k_mexch
  have b_mexch := F_mexch.binds (ps := ["self", "index"]) fun _ _ _ _ _ _ us hl => match us, hl with | [_, _], _ => rfl
  have F_mlen := fun_mk (st := sMLen) l_mlen c_mlen k_mlen
  have b_mlen := F_mlen.binds (ps := ["self"]) fun _ _ _ _ _ _ us hl => match us, hl with | [_], _ => rfl
  have F_tinit := fun_mk (st := sTInit) l_tinit c_tinit k_tinit
  have b_tinit := F_tinit.binds (ps := ["self", "value"]) fun _ _ _ _ _ _ us hl => match us, hl with | [_, _], _ => rfl
  have EC : ECls K mg (fun j => ([C0, C1, C2, C3, C4, C5, C6, C7, C8, C9, C10] : List Addr).getD j 0) f_tinit := by
    refine cls_of pk tI (fun j x e => ?_) (fun j hj => ?_)
    · have hx : x = cNames.getD j Str.empty ∧ j < 11 := by
        have hj : j < cNames.length := (List.getElem?_eq_some_iff.mp e).1
        rw [List.getD_eq_getElem?_getD, e]
        exact ⟨rfl, hj⟩
      obtain ⟨rfl, hj⟩ := hx
      have cs : j = 0 ∨ j = 1 ∨ j = 2 ∨ j = 3 ∨ j = 4 ∨ j = 5 ∨ j = 6 ∨ j = 7 ∨ j = 8 ∨ j = 9 ∨ j = 10 := by omega
      rcases cs with rfl | rfl | rfl | rfl | rfl | rfl | rfl | rfl | rfl | rfl | rfl
      · exact PySem.W.mg_of X G aC0
      · exact PySem.W.mg_of X G aC1
      · exact PySem.W.mg_of X G aC2
      · exact PySem.W.mg_of X G aC3
      · exact PySem.W.mg_of X G aC4
      · exact PySem.W.mg_of X G aC5
      · exact PySem.W.mg_of X G aC6
      · exact PySem.W.mg_of X G aC7
      · exact PySem.W.mg_of X G aC8
      · exact PySem.W.mg_of X G aC9
      · exact PySem.W.mg_of X G aC10
    · have cs : j = 0 ∨ j = 1 ∨ j = 2 ∨ j = 3 ∨ j = 4 ∨ j = 5 ∨ j = 6 ∨ j = 7 ∨ j = 8 ∨ j = 9 ∨ j = 10 := by omega
      rcases cs with rfl | rfl | rfl | rfl | rfl | rfl | rfl | rfl | rfl | rfl | rfl
      · exact ⟨_, _, _, _, _, _, _, _, _, _, _, _, _, _, _, xL0, rfl⟩
      · exact ⟨_, _, _, _, _, _, _, _, _, _, _, _, _, _, _, xL1, rfl⟩
      · exact ⟨_, _, _, _, _, _, _, _, _, _, _, _, _, _, _, xL2, rfl⟩
      · exact ⟨_, _, _, _, _, _, _, _, _, _, _, _, _, _, _, xL3, rfl⟩
      · exact ⟨_, _, _, _, _, _, _, _, _, _, _, _, _, _, _, xL4, rfl⟩
      · exact ⟨_, _, _, _, _, _, _, _, _, _, _, _, _, _, _, xL5, rfl⟩
      · exact ⟨_, _, _, _, _, _, _, _, _, _, _, _, _, _, _, xL6, rfl⟩
      · exact ⟨_, _, _, _, _, _, _, _, _, _, _, _, _, _, _, xL7, rfl⟩
      · exact ⟨_, _, _, _, _, _, _, _, _, _, _, _, _, _, _, xL8, rfl⟩
      · exact ⟨_, _, _, _, _, _, _, _, _, _, _, _, _, _, _, xL9, rfl⟩
      · exact ⟨_, _, _, _, _, _, _, _, _, _, _, _, _, _, _, xL10, rfl⟩
  have mC := PySem.W.mg_of X G aC
  have mT := PySem.W.mg_of X G aT
  have mP := PySem.W.mg_of X G aP
  have mS := PySem.W.mg_of X G aS
  have mN := PySem.W.mg_of X G aN
  have mL := PySem.W.mg_of X G aL
  have CC : PCls K C := ⟨⟨cPg, cHd, cPo, cSa⟩, nP, nO, nL⟩
  have M : Mk K C f_init := ⟨mkM, mkI, i_init, mkK⟩
  have TT : Tab K w dT szT := ⟨He.dicW_ok kT, fun q hq => by
    simp at hq
    rcases hq with rfl | rfl | rfl
    · exact ⟨_, eT0, _, rfl⟩
    · exact ⟨_, eT1, _, rfl⟩
    · exact ⟨_, eT2, _, rfl⟩⟩
  have TP : Tab K w dP szP := ⟨He.dicW_ok kP, fun q hq => by
    simp at hq
    rcases hq with rfl | rfl | rfl | rfl
    · exact ⟨_, eP0, _, rfl⟩
    · exact ⟨_, eP1, _, rfl⟩
    · exact ⟨_, eP2, _, rfl⟩
    · exact ⟨_, eP3, _, rfl⟩⟩
  have TS : Tab K w dS szS := ⟨He.dicW_ok kS, fun q hq => by
    simp at hq
    rcases hq with rfl | rfl | rfl
    · exact ⟨_, eS0, _, rfl⟩
    · exact ⟨_, eS1, _, rfl⟩
    · exact ⟨_, eS2, _, rfl⟩⟩
  have qP : PropOf K C "steps" pP f_gpart := ⟨p1_gpart, p2_gpart, p3_gpart, _, p4_gpart⟩
  have qO : PropOf K C "order" pO f_gord := ⟨p1_gord, p2_gord, p3_gord, _, p4_gord⟩
  have qL : PropOf K C "lacks" pL f_glck := ⟨p1_glck, p2_glck, p3_glck, _, p4_glck⟩
  have wN : Meth K C "names" f_mnames := ⟨w_mnames, i_mnames, k_mnames⟩
  have wW : Meth K C "with_order" f_mwith := ⟨w_mwith, i_mwith, k_mwith⟩
  have wU : Meth K C "without" f_mwout := ⟨w_mwout, i_mwout, k_mwout⟩
  have wX : Meth K C "exchanged" f_mexch := ⟨w_mexch, i_mexch, k_mexch⟩
  refine ⟨PySem.W.fnOf "law" "law" (defArgs sLaw) (defBody sLaw) (defScope sLaw) .none kV_law dc_law pm_law an_law cd_law ct_law, fun s v => .of_eq rfl, fun base _ _ => ?_⟩
  have GC := ok_coin (P := l.prog) (w := w) (base := base) F_coin T
  have GFr : ∀ n, FnOk l.prog w K mg base CX0 n f_fresh _ ["thing"] (spCopy n) := fun n => Nat.rec copy_none (fun n ih => ok_fresh F_fresh T ih b_fresh m_fresh y_dict) n
  have GCo : ∀ n, FnOk l.prog w K mg base CX0 n f_copied _ ["thing"] (spCopy n) := fun n => Nat.rec copy_none (fun n ih => ok_tcopy F_copied T ih b_copied m_copied y_dict) n
  have GMa : ∀ n, FnOk l.prog w K mg base CX0 n f_mark _ ["thing", "tally"] (spMark n) := fun n => Nat.rec mark_none (fun n ih => ok_mark F_mark T ih b_mark m_mark y_dict) n
  have GSa : ∀ n, FnOk l.prog w K mg base CX0 n f_same _ ["told", "owed"] (spSame n) := fun n => Nat.rec same_none (fun n ih => ok_same F_same T ih b_same m_same y_dict y_bool y_str) n
  have GTm : ∀ n, FnOk l.prog w K mg base CX0 n f_term _ ["purse", "labels", "left", "deep"] (spTerm n) := fun n => Nat.rec term_none (fun n ih => ok_term F_term T F_coin GC b_coin m_coin ih b_term m_term) n
  have GPt : ∀ n, FnOk l.prog w K mg base CX0 n f_part _ ["purse", "labels", "left", "deep"] (spPart n) := fun n => Nat.rec part_none (fun n ih => ok_part F_part T F_coin GC b_coin m_coin F_term (GTm 7) b_term m_term ih b_part m_part) n
  have GSt := ok_stems (P := l.prog) (w := w) (base := base) F_stems T F_coin GC b_coin m_coin
  have GPl := ok_plan (P := l.prog) (w := w) (base := base) F_plan T F_coin GC b_coin m_coin F_stems GSt b_stems m_stems F_term (GTm 7) b_term m_term F_part (GPt 15) b_part m_part
  have GFi := ok_filled (P := l.prog) (w := w) (base := base) F_fil T
  have GKn := ok_ckname (P := l.prog) (w := w) (base := base) F_ckn T y_str mN mL
  have GKo := ok_ckopt (P := l.prog) (w := w) (base := base) F_cko F_ckn GKn b_ckn m_ckn
  have GKt : ∀ n, FnOk l.prog w K mg base CX0 n f_ckt _ ["term"] (spCkTerm n) := fun n => Nat.rec ckterm_none (fun n ih => ok_ckterm F_ckt T F_fil GFi b_fil m_fil F_ckn GKn b_ckn m_ckn TT mT ih b_ckt m_ckt) n
  have GKd := ok_ckdef (P := l.prog) (w := w) (base := base) F_ckd F_ckt (GKt 7) b_ckt m_ckt
  have GKp : ∀ n, FnOk l.prog w K mg base CX0 n f_ckp _ ["part"] (spCkPart n) ∧ FnOk l.prog w K mg base CX0 n f_ckr _ ["part"] (spCkIn true n) ∧ FnOk l.prog w K mg base CX0 n f_cke _ ["part"] (spCkIn false n) := fun n => Nat.rec ⟨ckpart_none, ckin_none, ckin_none⟩
    (fun n ih => ⟨ok_ckpart F_ckp T F_fil GFi b_fil m_fil F_ckn GKn b_ckn m_ckn TP mP F_ckr ih.2.1 b_ckr m_ckr F_cke ih.2.2 b_cke m_cke,
      ok_ckrow F_ckr F_cko GKo b_cko m_cko F_ckd GKd b_ckd m_ckd F_ckp ih.1 b_ckp m_ckp, ok_ckrec F_cke F_cko GKo b_cko m_cko F_ckn GKn b_ckn m_ckn F_ckd GKd b_ckd m_ckd F_ckp ih.1 b_ckp m_ckp⟩) n
  have GKu := ok_ckrules (P := l.prog) (w := w) (mg := mg) (base := base) F_cku
  have GPo := ok_pos (P := l.prog) (w := w) (base := base) F_pos T
  have GKs := ok_ckstep (P := l.prog) (w := w) (base := base) F_cks T F_fil GFi b_fil m_fil TS mS F_ckn GKn b_ckn m_ckn F_ckt (GKt 7) b_ckt m_ckt F_cko GKo b_cko m_cko F_pos GPo b_pos m_pos F_ckp (GKp 24).1 b_ckp m_ckp
  have GEn := ok_ent (P := l.prog) (w := w) (base := base) F_ent T y_enumerate
  have GWi : ∀ n, FnOk l.prog w K mg base CX0 n f_with _ ["part"] (spWith n) := fun n => Nat.rec with_none (fun n ih => ok_with F_with F_ent GEn b_ent m_ent ih b_with m_with) n
  have GNo := ok_names (P := l.prog) (w := w) (base := base) F_names F_with (GWi 9) b_with m_with
  have GNs := ok_nos (P := l.prog) (w := w) (base := base) F_nos F_pos GPo b_pos m_pos F_names GNo b_names m_names
  have GIn := ok_init (P := l.prog) (w := w) (base := base) F_init CC F_cks GKs b_cks m_cks F_cku GKu b_cku m_cku F_fresh (GFr 40) b_fresh m_fresh
  have GGp := ok_gpart (P := l.prog) (w := w) (base := base) F_gpart CC F_fresh (GFr 40) b_fresh m_fresh
  have GGo := ok_gord (P := l.prog) (w := w) (mg := mg) (base := base) F_gord CC
  have GGl := ok_glck (P := l.prog) (w := w) (mg := mg) (base := base) F_glck CC
  have GMn := ok_mnames (P := l.prog) (w := w) (base := base) F_mnames CC T y_sorted F_nos GNs b_nos m_nos
  have GMl := ok_mlen (P := l.prog) (w := w) (mg := mg) (base := base) F_mlen CC T
  have GMw := ok_mwith (P := l.prog) (w := w) (base := base) F_mwith CC M mC GIn b_init
  have GMo := ok_mwout (P := l.prog) (w := w) (base := base) F_mwout CC T M mC GIn b_init
  have GMx := ok_mexch (P := l.prog) (w := w) (base := base) F_mexch CC T M mC GIn b_init
  have GMd := ok_made (P := l.prog) (w := w) (base := base) F_made T CC M mC F_coin GC b_coin m_coin F_copied (GCo 40) b_copied m_copied F_init GIn b_init wW GMw b_mwith wU GMo b_mwout wX GMx b_mexch qP GGp b_gpart qO GGo b_gord qL GGl b_glck F_mark (GMa 40) b_mark m_mark
  have GBo : ∀ n, FnOk l.prog w K mg base CX0 n f_bound _ ["piece"] (spBound n) := fun n => Nat.rec bound_none (fun n ih => ok_bound F_bound T ih b_bound m_bound) n
  have GTp := ok_tparts (P := l.prog) (w := w) (mg := mg) (base := base) F_tparts T
  have GTn := ok_tnames (P := l.prog) (w := w) (base := base) F_tnames T y_sorted F_tparts GTp b_tparts m_tparts F_bound (GBo 9) b_bound m_bound
  have GLo := ok_tells (P := l.prog) (w := w) (base := base) F_tells T CC F_same (GSa 40) b_same m_same F_tnames GTn b_tnames m_tnames qP GGp b_gpart qO GGo b_gord qL GGl b_glck wN GMn b_mnames w_mlen i_mlen GMl b_mlen
  have GKuX := ok_ckrulesX (P := l.prog) (w := w) (mg := mg) (base := base) F_cku EC F_tinit b_tinit
  have GInX := ok_initX (P := l.prog) (w := w) (base := base) F_init CC F_cks GKs b_cks m_cks F_cku GKuX b_cku m_cku F_fresh (GFr 40) b_fresh m_fresh
  have GMwX := ok_mwithX (P := l.prog) (w := w) (base := base) F_mwith CC M mC GInX b_init
  have GMoX := ok_mwoutX (P := l.prog) (w := w) (base := base) F_mwout CC T M mC EC F_tinit b_tinit GIn b_init
  have GMxX := ok_mexchX (P := l.prog) (w := w) (base := base) F_mexch CC T M mC EC F_tinit b_tinit GIn b_init
  have GDe := ok_deriv (P := l.prog) (w := w) (base := base) F_deriv T y_ValueError CC EC F_mwith wW GMwX b_mwith F_mwout wU GMoX b_mwout F_mexch wX GMxX b_mexch
  have GR := ok_right (P := l.prog) (w := w) (base := base) F_right T F_coin GC b_coin m_coin F_plan GPl b_plan m_plan F_made GMd b_made m_made F_tells GLo b_tells m_tells F_deriv GDe b_deriv m_deriv
  exact ok_law F_law T (ok_purse F_purse T) b_purse m_purse k_purse GR b_right m_right k_right
end K02
set_option Elab.async false
set_option maxRecDepth 100000
namespace K02
open PySem L2 PyProof.Rows
theorem walk {l : PySem.W.OpenLaw} {q : Program} {loose : List Str} {XP : (Str → Option Value) → Heap → Prop} {YP : World → Heap → Prop} {d : DefRec} {K : Params → PySem.W.Frag} (hn : l.most = some 63) (hdf : d.params.defaults = [])
    (hY : ∀ (w : World) (h : Heap), YP w h → (K w.params).In h)
    (F : ∀ (w : World) (mg : Str → Option Value) (fa : Addr) (h : Heap), (K w.params).In h → h.Ns mainGlobals mg → mg d.name = some (.ref fa) →
      ∃ fd : FuncData, (∀ (s : Shared) (u : Value), BindsTo s fd ⟨[u], []⟩ [("script", u)]) ∧ ∀ base : Heap, (K w.params).In base → base.Ns mainGlobals mg → FnOk l.prog w (K w.params) mg base CX0 46 fa fd ["script"] (spLaw (K w.params))) :
    PySem.W.WalkO q loose XP YP l.row.toRowW d [] (fun f vs => PySem.call f vs) :=
  L2.walk_of (n := 63) (k := 46) (x := "script") (CX := fun _ => CX0) (sp := fun w => spLaw (K w.params)) hn (by decide) hdf ⟨rfl, by decide, by decide⟩ hY F (fun _ _ a ns hl _ hS => ⟨a, ns, rfl, hS, hl, fun _ => rfl⟩) fun _ _ _ _ _ z => z
end K02
open PySem PySem.W PyProof.Rows
set_option maxRecDepth 100000 in
set_option maxHeartbeats 0 in
theorem PySem.Challenge.cw_partedvalues_k58_without_and_exchanged_holds : PySem.Challenge.rw_partedvalues_k58_without_and_exchanged.Holds := by
  w_on; o_law; k_head; (case hw => w_witness2)
  k_fill
  refine K02.walk (l := PySem.Challenge.rw_partedvalues_k58_without_and_exchanged) rfl rfl (fun w h Y => PySem.W.kIn_of Y) ?F
  case F =>
    intro w mg fa h KX G hmg
    refine' K02.all_mk KX G hmg ?aC0 ?aC1 ?aC2 ?aC3 ?aC4 ?aC5 ?aC6 ?aC7 ?aC8 ?aC9 ?aC10 ?xL0 ?xL1 ?xL2 ?xL3 ?xL4 ?xL5 ?xL6 ?xL7 ?xL8 ?xL9 ?xL10 ?aI ?tI ?a_fresh ?l_fresh ?c_fresh ?k_fresh ?a_ent ?l_ent ?c_ent ?k_ent ?a_with ?l_with ?c_with ?k_with ?a_names ?l_names ?c_names ?k_names ?a_pos ?l_pos ?c_pos ?k_pos ?a_nos ?l_nos ?c_nos ?k_nos ?a_fil ?l_fil ?c_fil ?k_fil ?a_ckn ?l_ckn ?c_ckn ?k_ckn ?a_cko ?l_cko ?c_cko ?k_cko ?a_ckt ?l_ckt ?c_ckt ?k_ckt ?a_ckd ?l_ckd ?c_ckd ?k_ckd ?a_ckp ?l_ckp ?c_ckp ?k_ckp ?a_ckr ?l_ckr ?c_ckr ?k_ckr ?a_cke ?l_cke ?c_cke ?k_cke ?a_cks ?l_cks ?c_cks ?k_cks ?a_cku ?l_cku ?c_cku ?k_cku ?a_purse ?l_purse ?c_purse ?k_purse ?a_coin ?l_coin ?c_coin ?k_coin ?a_mark ?l_mark ?c_mark ?k_mark ?a_copied ?l_copied ?c_copied ?k_copied ?a_same ?l_same ?c_same ?k_same ?a_bound ?l_bound ?c_bound ?k_bound ?a_term ?l_term ?c_term ?k_term ?a_part ?l_part ?c_part ?k_part ?a_stems ?l_stems ?c_stems ?k_stems ?a_plan ?l_plan ?c_plan ?k_plan ?a_tparts ?l_tparts ?c_tparts ?k_tparts ?a_made ?l_made ?c_made ?k_made ?a_tnames ?l_tnames ?c_tnames ?k_tnames ?a_tells ?l_tells ?c_tells ?k_tells ?a_deriv ?l_deriv ?c_deriv ?k_deriv ?a_right ?l_right ?c_right ?k_right ?a_law ?l_law ?c_law ?k_law ?aC ?cPg ?cHd ?cPo ?cSa ?nP ?nO ?nL ?mkM ?mkI ?mkK ?i_init ?w_mnames ?i_mnames ?w_mwith ?i_mwith ?w_mwout ?i_mwout ?w_mexch ?i_mexch ?w_mlen ?i_mlen ?p1_gpart ?p2_gpart ?p3_gpart ?p4_gpart ?p1_gord ?p2_gord ?p3_gord ?p4_gord ?p1_glck ?p2_glck ?p3_glck ?p4_glck ?l_init ?c_init ?k_init ?l_gpart ?c_gpart ?k_gpart ?l_gord ?c_gord ?k_gord ?l_glck ?c_glck ?k_glck ?l_mnames ?c_mnames ?k_mnames ?l_mwith ?c_mwith ?k_mwith ?l_mwout ?c_mwout ?k_mwout ?l_mexch ?c_mexch ?k_mexch ?l_mlen ?c_mlen ?k_mlen ?l_tinit ?c_tinit ?k_tinit ?aT ?aP ?aS ?aN ?aL ?kT ?kP ?kS ?eT0 ?eT1 ?eT2 ?eP0 ?eP1 ?eP2 ?eP3 ?eS0 ?eS1 ?eS2 ?z_len ?z_max ?z_min ?z_abs ?z_int ?z_range ?z_set ?z_list ?z_tuple ?z_all ?z_repr ?z_isinstance ?z_dict ?z_bool ?z_str ?z_enumerate ?z_sorted ?z_ValueError ?pk
    (case aC0 => k_is)
    (case aC1 => k_is)
    (case aC2 => k_is)
    (case aC3 => k_is)
    (case aC4 => k_is)
    (case aC5 => k_is)
    (case aC6 => k_is)
    (case aC7 => k_is)
    (case aC8 => k_is)
    (case aC9 => k_is)
    (case aC10 => k_is)
    (case xL0 => k_is)
    (case xL1 => k_is)
    (case xL2 => k_is)
    (case xL3 => k_is)
    (case xL4 => k_is)
    (case xL5 => k_is)
    (case xL6 => k_is)
    (case xL7 => k_is)
    (case xL8 => k_is)
    (case xL9 => k_is)
    (case xL10 => k_is)
    (case aI => k_is)
    (case tI => k_is)
    (case a_fresh => k_is)
    (case l_fresh => k_is)
    (case c_fresh => k_is)
    (case k_fresh => k_is)
    (case a_ent => k_is)
    (case l_ent => k_is)
    (case c_ent => k_is)
    (case k_ent => k_is)
    (case a_with => k_is)
    (case l_with => k_is)
    (case c_with => k_is)
    (case k_with => k_is)
    (case a_names => k_is)
    (case l_names => k_is)
    (case c_names => k_is)
    (case k_names => k_is)
    (case a_pos => k_is)
    (case l_pos => k_is)
    (case c_pos => k_is)
    (case k_pos => k_is)
    (case a_nos => k_is)
    (case l_nos => k_is)
    (case c_nos => k_is)
    (case k_nos => k_is)
    (case a_fil => k_is)
    (case l_fil => k_is)
    (case c_fil => k_is)
    (case k_fil => k_is)
    (case a_ckn => k_is)
    (case l_ckn => k_is)
    (case c_ckn => k_is)
    (case k_ckn => k_is)
    (case a_cko => k_is)
    (case l_cko => k_is)
    (case c_cko => k_is)
    (case k_cko => k_is)
    (case a_ckt => k_is)
    (case l_ckt => k_is)
    (case c_ckt => k_is)
    (case k_ckt => k_is)
    (case a_ckd => k_is)
    (case l_ckd => k_is)
    (case c_ckd => k_is)
    (case k_ckd => k_is)
    (case a_ckp => k_is)
    (case l_ckp => k_is)
    (case c_ckp => k_is)
    (case k_ckp => k_is)
    (case a_ckr => k_is)
    (case l_ckr => k_is)
    (case c_ckr => k_is)
    (case k_ckr => k_is)
    (case a_cke => k_is)
    (case l_cke => k_is)
    (case c_cke => k_is)
    (case k_cke => k_is)
    (case a_cks => k_is)
    (case l_cks => k_is)
    (case c_cks => k_is)
    (case k_cks => k_is)
    (case a_cku => k_is)
    (case l_cku => k_is)
    (case c_cku => k_is)
    (case k_cku => k_is)
    (case a_purse => k_is)
    (case l_purse => k_is)
    (case c_purse => k_is)
    (case k_purse => k_is)
    (case a_coin => k_is)
    (case l_coin => k_is)
    (case c_coin => k_is)
    (case k_coin => k_is)
    (case a_mark => k_is)
    (case l_mark => k_is)
    (case c_mark => k_is)
    (case k_mark => k_is)
    (case a_copied => k_is)
    (case l_copied => k_is)
    (case c_copied => k_is)
    (case k_copied => k_is)
    (case a_same => k_is)
    (case l_same => k_is)
    (case c_same => k_is)
    (case k_same => k_is)
    (case a_bound => k_is)
    (case l_bound => k_is)
    (case c_bound => k_is)
    (case k_bound => k_is)
    (case a_term => k_is)
    (case l_term => k_is)
    (case c_term => k_is)
    (case k_term => k_is)
    (case a_part => k_is)
    (case l_part => k_is)
    (case c_part => k_is)
    (case k_part => k_is)
    (case a_stems => k_is)
    (case l_stems => k_is)
    (case c_stems => k_is)
    (case k_stems => k_is)
    (case a_plan => k_is)
    (case l_plan => k_is)
    (case c_plan => k_is)
    (case k_plan => k_is)
    (case a_tparts => k_is)
    (case l_tparts => k_is)
    (case c_tparts => k_is)
    (case k_tparts => k_is)
    (case a_made => k_is)
    (case l_made => k_is)
    (case c_made => k_is)
    (case k_made => k_is)
    (case a_tnames => k_is)
    (case l_tnames => k_is)
    (case c_tnames => k_is)
    (case k_tnames => k_is)
    (case a_tells => k_is)
    (case l_tells => k_is)
    (case c_tells => k_is)
    (case k_tells => k_is)
    (case a_deriv => k_is)
    (case l_deriv => k_is)
    (case c_deriv => k_is)
    (case k_deriv => k_is)
    (case a_right => k_is)
    (case l_right => k_is)
    (case c_right => k_is)
    (case k_right => k_is)
    (case a_law => k_is)
    (case l_law => k_is)
    (case c_law => k_is)
    (case k_law => k_is)
    (case aC => k_is)
    (case cPg => k_is)
    (case cHd => k_is)
    (case cPo => k_is)
    (case cSa => k_is)
    (case nP => k_is)
    (case nO => k_is)
    (case nL => k_is)
    (case mkM => k_is)
    (case mkI => k_is)
    (case mkK => k_is)
    (case i_init => k_is)
    (case w_mnames => k_is)
    (case i_mnames => k_is)
    (case w_mwith => k_is)
    (case i_mwith => k_is)
    (case w_mwout => k_is)
    (case i_mwout => k_is)
    (case w_mexch => k_is)
    (case i_mexch => k_is)
    (case w_mlen => k_is)
    (case i_mlen => k_is)
    (case p1_gpart => k_is)
    (case p2_gpart => k_is)
    (case p3_gpart => k_is)
    (case p4_gpart => k_is)
    (case p1_gord => k_is)
    (case p2_gord => k_is)
    (case p3_gord => k_is)
    (case p4_gord => k_is)
    (case p1_glck => k_is)
    (case p2_glck => k_is)
    (case p3_glck => k_is)
    (case p4_glck => k_is)
    (case l_init => k_is)
    (case c_init => k_is)
    (case k_init => k_is)
    (case l_gpart => k_is)
    (case c_gpart => k_is)
    (case k_gpart => k_is)
    (case l_gord => k_is)
    (case c_gord => k_is)
    (case k_gord => k_is)
    (case l_glck => k_is)
    (case c_glck => k_is)
    (case k_glck => k_is)
    (case l_mnames => k_is)
    (case c_mnames => k_is)
    (case k_mnames => k_is)
    (case l_mwith => k_is)
    (case c_mwith => k_is)
    (case k_mwith => k_is)
    (case l_mwout => k_is)
    (case c_mwout => k_is)
    (case k_mwout => k_is)
    (case l_mexch => k_is)
    (case c_mexch => k_is)
    (case k_mexch => k_is)
    (case l_mlen => k_is)
    (case c_mlen => k_is)
    (case k_mlen => k_is)
    (case l_tinit => k_is)
    (case c_tinit => k_is)
    (case k_tinit => k_is)
    (case aT => k_is)
    (case aP => k_is)
    (case aS => k_is)
    (case aN => k_is)
    (case aL => k_is)
    (case kT => first | k_is | rfl | kernel_rfl)
    (case kP => first | k_is | rfl | kernel_rfl)
    (case kS => first | k_is | rfl | kernel_rfl)
    (case eT0 => k_is)
    (case eT1 => k_is)
    (case eT2 => k_is)
    (case eP0 => k_is)
    (case eP1 => k_is)
    (case eP2 => k_is)
    (case eP3 => k_is)
    (case eS0 => k_is)
    (case eS1 => k_is)
    (case eS2 => k_is)
    (case z_len => k_is)
    (case z_max => k_is)
    (case z_min => k_is)
    (case z_abs => k_is)
    (case z_int => k_is)
    (case z_range => k_is)
    (case z_set => k_is)
    (case z_list => k_is)
    (case z_tuple => k_is)
    (case z_all => k_is)
    (case z_repr => k_is)
    (case z_isinstance => k_is)
    (case z_dict => k_is)
    (case z_bool => k_is)
    (case z_str => k_is)
    (case z_enumerate => k_is)
    (case z_sorted => k_is)
    (case z_ValueError => k_is)
    (case pk => kernel_rfl)
#print axioms PySem.Challenge.cw_partedvalues_k58_without_and_exchanged_holds
