import PyProof.Rows.All
import Wide.All
import OpenK.AllK
import Wide.FinOn
import HandS.ExcInit
import HandS.IsInst
import HandS.Wide
import HandS.Defaults
import KE.KExcIs
import HandS.SetFor
import HandS.Strs
import HandS.More
import HandS.SetBool
import HandS.ForMost
import HandS.Evl
import HandS.Deep
import HandS.Walk
import HandS.Property
import HandS.MakeKwOnly
import PyProof.ReprRoads
import PyProof.ReprLen
import HandS.RaiseMore
import HandS.Style
import HandS.OwnEq
import PyProof.InstNe
import PyProof.EqKinds
import HandS.Ends
import HandS.HeadHook3
import PySem.Challenge.RW_partedvalues_k59_programs_equal
set_option Elab.async false
set_option linter.all false
set_option maxRecDepth 100000
set_option maxHeartbeats 2000000
/-! An own exception made as a value, with positional or keyword arguments. -/
namespace PySem
namespace KwX
open PySem.W PySem.Calls PyProof.Rows PySem.HandSPX
section
variable {M : Model} {A : Around} {E : Value → Shared → Prop} {hh : Heap} {gg : Array GenState} {dr : Drawn} {tt : Nat} {oss : OsState}
variable {nm q : Str} {C N : Addr} {bs bm mb : List Value} {hdct : Bool} {sn : List Str} {sub : List Value} {ab : Bool} {col : Option Bool} {dd : Option Addr} {k0 k1 k2 k3 k5 : Option Value} {B newId initId : String}
/-- the look at the arguments of the maker, whatever the keywords -/
theorem chk_new (F : ExcBaseFacts B newId initId mb) (hT : ∀ Y : String, bm.contains (.type Y) = mb.contains (.type Y)) {ps : List Value} {kws : List (Str × Value)} {Q : Unit → Shared → Prop}
    (hC : hh.get? C = some (excClassObj nm q C N bs bm hdct sn sub ab col dd k0 k1 k2 k3 k5 newId)) (hq : Q () ⟨hh, gg, dr, tt, oss⟩) :
    wpAny M A (checkBuiltinCall newId ⟨.ref C :: ps, kws⟩) Q E ⟨hh, gg, dr, tt, oss⟩ := by
  have w1 : (Value.ref C :: bm).contains (.type B) = true := by
    rw [List.contains_cons, hT, F.hasB, Bool.or_true]
  have w2 := F.noStar
  simp only [checkBuiltinCall, F.newKind, F.newSplit, F.newRow]
  repeat
    first
      | refine wpAny_loadPart_at hC ?_
      | (refine wpAny_isSubtype_exc hC ?_; rw [w1])
      | refine wpAny_staticBase_exc hC ?_
      | refine wpAny_madeBy_exc hC ?_
      | simp only [bne_self_eq_false, Bool.false_eq_true, if_false]
      | wp_step
  exact hq
end

section
variable {prog : Program} {w : World} {A : Around} {E : Value → Shared → Prop} {R : Result → Shared → Prop} {hh : Heap} {gg : Array GenState} {dr : Drawn} {tt : Nat} {oss : OsState}
variable {nm q : Str} {C N : Addr} {bs bm mb : List Value} {hdct : Bool} {sn : List Str} {sub : List Value} {ab : Bool} {col : Option Bool} {dd : Option Addr} {k0 k1 k2 k3 k5 : Option Value} {B newId initId : String}
/-- the maker's own run -/
theorem made_kw (F : ExcBaseFacts B newId initId mb) (hT : ∀ Y : String, bm.contains (.type Y) = mb.contains (.type Y)) {ps : List Value} {kws : List (Str × Value)}
    (hC : hh.get? C = some (excClassObj nm q C N bs bm hdct sn sub ab col dd k0 k1 k2 k3 k5 newId)) (hz : ps.length ≤ sizeLine)
    (hq : R (.ok (.ret (.ref (hh.objs.size + 1)))) ⟨(hh.push (W.kdv_tup ps)).push (excO C hh.objs.size), gg, dr, tt, oss⟩) :
    codeAny (model prog w) A (.builtin newId ⟨.ref C :: ps, kws⟩) R ⟨hh, gg, dr, tt, oss⟩ := by
  have w0 := F.ends
  have wB : (Value.ref C :: bm).contains (.type B) = true := by
    rw [List.contains_cons, hT, F.hasB, Bool.or_true]
  have wA : (Value.ref C :: bm).contains (.type "AttributeError") = false := by
    rw [List.contains_cons, hT, F.noAttr]
    rfl
  have wN : (Value.ref C :: bm).contains (.type "NameError") = false := by
    rw [List.contains_cons, hT, F.noName]
    rfl
  refine codeAny_builtinAt F.entry ?_
  unfold Builtin.«BaseException.__new__»
  refine wpAt_bind ?_
  show wpAt _ _ _ (stack >>= _) _ _ _
  refine wpAt_bind (wpAt_stack fun p below => wpAt_of_wpAny ?_)
  wp_walk
  refine wpAt_of_wpAny ?_
  rw [F.owner]
  repeat
    first
      | with_reducible refine wpAny_madeHere_exc F.canon hC ?_
      | with_reducible refine wpAny_loadPart_at hC ?_
      | (with_reducible refine wpAny_isSubtype_exc hC ?_; first | rw [wB] | rw [wA] | rw [wN])
      | wp_step
  show R _ _
  rw [Heap.size_push]
  exact hq
/-- type.__call__ of such a class: the maker, then its own __init__ -/
theorem called_kw (F : ExcBaseFacts B newId initId mb) (hT : ∀ Y : String, bm.contains (.type Y) = mb.contains (.type Y)) {ps : List Value} {kws : List (Str × Value)} {fI : Addr} {Q : Fin → Shared → Prop}
    (hC : hh.get? C = some (excClassObj nm q C N bs bm hdct sn sub ab col dd k0 k1 k2 k3 k5 newId))
    (hi : W.Looks (model prog w) hh (typeLookup (.ref C) "__init__") (some (.ref fI))) (hb : ∀ me, W.Looks (model prog w) hh (bindSpecial (.ref fI) me) (.ref fI, [me])) (hz : ps.length ≤ sizeLine)
    (hq : codeAny (model prog w) A (.call (.ref fI) ⟨.ref (hh.objs.size + 1) :: ps, kws⟩)
      (fun r z => match r with | .ok (.ret v) => v = .none ∧ Q (.done (.ret (.ref (hh.objs.size + 1)))) z | .ok _ => False | .error e => E e z)
      ⟨(hh.push (W.kdv_tup ps)).push (excO C hh.objs.size), gg, dr, tt, oss⟩) :
    wpAny (model prog w) A (Builtin.«type.__call__» ⟨.ref C :: ps, kws⟩) Q E ⟨hh, gg, dr, tt, oss⟩ := by
  repeat
    first
      | with_reducible refine wpAny_loadPart_at hC ?_
      | with_reducible refine wpAny_madeBy_exc hC ?_
      | wp_step
  refine codeAny_call_builtin_code (Code.quiet_builtin _ F.quiet) (chk_new F hT hC ?_)
  refine made_kw F hT hC hz ?_
  show wpAny _ _ _ _ _ _
  have kp : ∀ b o, hh.get? b = some o → ((hh.push (W.kdv_tup ps)).push (excO C hh.objs.size)).get? b = some o := fun b o e =>
    Heap.get?_push_of_some _ (Heap.get?_push_of_some _ e)
  have hC1 := kp _ _ hC
  have hx : ((hh.push (W.kdv_tup ps)).push (excO C hh.objs.size)).get? (hh.objs.size + 1) = some (excO C hh.objs.size) := by heap_get
  have wC : (Value.ref C :: bm).contains (.ref C) = true := by simp
  have i1 := hi.keeps kp
  have b1 := (hb (.ref (hh.objs.size + 1))).keeps kp
  unfold isInstance
  repeat
    first
      | with_reducible refine wpAny_loadPart_at hx ?_
      | (with_reducible refine wpAny_isSubtype_exc hC1 ?_; rw [wC])
      | wp_step
  show wpAny _ _ (typeLookup (.ref C) _) _ _ _
  refine i1.at ?_
  refine wpAny_holding (wpAny_bind (b1.at ?_))
  refine wpAny_bind (wpAny_call (codeAny_mono hq fun r z hz => ?_))
  rcases r with e | (v | _ | _ | _) <;> first | exact hz | exact hz.elim | skip
  obtain ⟨rfl, hz⟩ := hz
  first
    | exact wpAny_pure (wpAny_pure hz)
    | (wp_walk; exact hz)
theorem call_kw (F : ExcBaseFacts B newId initId mb) (hT : ∀ Y : String, bm.contains (.type Y) = mb.contains (.type Y)) {ps : List Value} {kws : List (Str × Value)} {fI : Addr}
    (hC : hh.get? C = some (excClassObj nm q C N bs bm hdct sn sub ab col dd k0 k1 k2 k3 k5 newId))
    (hi : W.Looks (model prog w) hh (typeLookup (.ref C) "__init__") (some (.ref fI))) (hb : ∀ me, W.Looks (model prog w) hh (bindSpecial (.ref fI) me) (.ref fI, [me])) (hz : ps.length ≤ sizeLine)
    (hq : codeAny (model prog w) (A.under (.builtin "type.__call__" ⟨.ref C :: ps, kws⟩)) (.call (.ref fI) ⟨.ref (hh.objs.size + 1) :: ps, kws⟩) (W.InitBack (hh.objs.size + 1) R)
      ⟨(hh.push (W.kdv_tup ps)).push (excO C hh.objs.size), gg, dr, tt, oss⟩) :
    codeAny (model prog w) A (.call (.ref C) ⟨ps, kws⟩) R ⟨hh, gg, dr, tt, oss⟩ := by
  have f1 := tc_lookup
  have f2 := tc_bind (.ref C)
  have hTy : (⟨hh, gg, dr, tt, oss⟩ : Shared).TypeIs (.ref C) "type" := ⟨_, hC, rfl⟩
  refine codeAny_of_tree ?_
  show wpAny _ _ (callAny (.ref C) _) _ _ _
  repeat
    any_goals
      first
        | assumption
        | with_reducible refine wpAny_loadPart_at hC ?_
        | wp_step
  refine ⟨rfl, ?_⟩
  refine codeAny_call_builtin_at (Code.quiet_builtin _ (by decide +kernel)) entry_typeCall (wpAny_check_type_call_sub hC (called_kw F hT hC hi hb hz ?_))
  refine codeAny_mono hq fun r z hz => ?_
  rcases r with e | (v | _ | _ | _) <;> exact hz
end
end KwX
end PySem

namespace L2
open PySem PySem.Spec PyProof.Rows
/-- at a: an exception of the class at C whose dict at d holds fs -/
def ExcAt (H : Hp) (a C : Addr) (fs : List (Str × V)) : Prop := ∃ d : Addr, H a = some (exo a C (some d)) ∧ H d = some (exd d fs)
/-- C(.., k = v, ..), C an own error class with an own (or inherited) __init__: a value -/
def tExcN (C : Addr) (n m : Nat) (sp : Sp) (gV : List V → List V → List V) (t tk : TA) : TE := fun σ H Q => t σ H fun vs H1 => tk σ H1 fun zs H2 => vs.length = n ∧ zs.length = m ∧ vs.length ≤ 1000 ∧
  ∀ x, H2 x = none → sp (gV (.ref x :: vs) zs) (upd H2 x (exo x C none)) (fun v H3 => v = .non ∧ Q (.ref x) H3) (fun _ _ _ => False)
section
variable {X : Cx} {CX : CXT} {k n : Nat} {fI C : Addr} {fd : FuncData} {ps ks : List Str} {sp : Sp} {x : Str} {p pos : Pos} {e : Expr} {es : List Expr} {kws : List Keyword} {t tk : TA}
variable {g : List Value → List Value → List Value} {gV : List V → List V → List V}
theorem run_excN {pins : List (Addr × Obj)} {σ : St} {H : Hp} {s : Shared} {Q : VK} {us ws : List Value} {vs zs : List V} (T : OexC X.K C) (iC : PySem.W.findIn X.K (.ref C) "__init__" = some (some (.ref fI)))
    (tI : PySem.W.typeIn X.K (.ref fI) = some (.type "function")) (F1 : FnOk X.prog X.w X.K X.mg X.base CX k fI fd ps sp) (hr : Room (k + 1) X.A) (hb : KBn X.K fd ps (n + 1) ks g gV)
    (hx : Passes CX X (fun _ _ _ => False)) (I : Inv X pins σ H s) (r : Vals vs us) (rz : Vals zs ws) (l1 : vs.length = n) (l2 : zs.length = ks.length) (l3 : vs.length ≤ 1000)
    (h : ∀ x, H x = none → sp (gV (.ref x :: vs) zs) (upd H x (exo x C none)) (fun v H3 => v = .non ∧ Q (.ref x) H3) (fun _ _ _ => False)) :
    wpAny (model X.prog X.w) X.A (call (.ref C) us (ks.zip ws)) (EP X pins σ Q) X.xe s := by
  obtain ⟨nm, q, N, bs, bm, sn, sub, ab, col, dd, k0, k1, k2, k3, k5, hC, hbm⟩ := T.cls
  obtain ⟨hp, gg, dr, tk', os⟩ := s
  have hsz : hp.objs.size ≤ hp.objs.size + 1 := Nat.le_succ _
  have hq := h (hp.objs.size + 1) (I.hok.fresh hsz)
  have kp : ∀ b o, hp.get? b = some o → ((hp.push (PySem.W.kdv_tup us)).push (PySem.HandSPX.excO C hp.objs.size)).get? b = some o := fun b o e =>
    Heap.get?_push_of_some _ (Heap.get?_push_of_some _ e)
  have hget : ((hp.push (PySem.W.kdv_tup us)).push (PySem.HandSPX.excO C hp.objs.size)).get? (hp.objs.size + 1) = some (PySem.HandSPX.excO C hp.objs.size) := by heap_get
  have I2 : Inv X pins σ (upd H (hp.objs.size + 1) (exo (hp.objs.size + 1) C none)) ⟨(hp.push (PySem.W.kdv_tup us)).push (PySem.HandSPX.excO C hp.objs.size), gg, dr, tk', os⟩ :=
    I.laid (t' := tk') kp hsz (exo_ok hget)
  have r1 : Vals (V.ref (hp.objs.size + 1) :: vs) (Value.ref (hp.objs.size + 1) :: us) := .cons rfl r
  have r2 := hb.rel r1 rz
  have e1 : (Value.ref (hp.objs.size + 1) :: us).length = n + 1 := by
    rw [List.length_cons, ← Paired.length r, l1]
  have e2 : ws.length = ks.length := (Paired.length rz).symm.trans l2
  have e3 : us.length ≤ sizeLine := by
    rw [← Paired.length r, sizeLine_eq]
    omega
  refine wpAny_call (PySem.KwX.call_kw F.excBase_ValueError (fun Y => PySem.HandSPX.refsVE_contains Y bm hbm) (I.kIn _ _ hC) (PySem.W.looks_findIn I.kIn iC) (fun me => PySem.W.bind_fn I.kIn me tI) e3
    (codeAny_mono (F1.run _ X.stack _ _ ⟨Value.ref (hp.objs.size + 1) :: us, ks.zip ws⟩ (g (Value.ref (hp.objs.size + 1) :: us) ws) _ _ (fun _ _ _ => False) (hr.make C us (ks.zip ws))
      (I2.env0.make C us (ks.zip ws)) (hb.to _ (Value.ref (hp.objs.size + 1) :: us) ws I2.kIn e1 e2) r2 hq) fun r z hz => ?_))
  cases r with
  | error er => exact hx pins σ _ _ er z I2 hz
  | ok fl =>
    cases fl with
    | ret u =>
      obtain ⟨v, H3, I3, rv, ev, q3⟩ := I2.after hz
      subst ev
      exact ⟨rv, ⟨V.ref (hp.objs.size + 1), H3, I3, rfl, q3⟩⟩
    | next => exact False.elim hz
    | brk => exact False.elim hz
    | cont => exact False.elim hz
/-- C(k = v, ..) -/
theorem pe_excK (T : OexC X.K C) (iC : PySem.W.findIn X.K (.ref C) "__init__" = some (some (.ref fI))) (tI : PySem.W.typeIn X.K (.ref fI) = some (.type "function"))
    (F1 : FnOk X.prog X.w X.K X.mg X.base CX k fI fd ps sp) (hr : Room (k + 1) X.A) (hg : Gl X x) (hm : X.mg x = some (.ref C)) (hb : KBn X.K fd ps 1 ks g gV) (hx : Passes CX X (fun _ _ _ => False)) (hkw : PK X kws tk)
    (hall : (backToKw pos (keywordEach kws X.env)).all (·.1.isSome) = true := by rfl) (hks : (backToKw pos (keywordEach kws X.env)).filterMap (·.1) = ks := by rfl)
    (hdb : (x == ("__debug__" : Str)) = false := by decide)
    (hpl : ((backTo pos (starEach [] X.env)).any (·.1) || (backToKw pos (keywordEach kws X.env)).any (·.1.isNone)) = false := by rfl) :
    PE X (.Call (.Name x p) [] kws pos) (tExcN C 0 ks.length sp gV tNil tk) := by
  refine ⟨fun pins s σ H Q I h => ?_⟩
  refine wpAny_Call_Name_kw (ld_glob I hg hm ?_ hdb)
  refine PySem.W.callWith_KW0 (h₀ := X.base) I.ok.mod.kin T.kC hall ?_ hpl
  refine thn (hkw.run pos pins s σ H _ I h) fun ws s2 ⟨zs, H2, I2, rz, l1, l2, l3, q2⟩ => ⟨I2.kIn, ?_⟩
  rw [hks]
  exact run_excN (us := []) (vs := []) T iC tI F1 hr hb hx I2 .nil rz rfl l2 l3 q2
/-- C(e, ..) -/
theorem pe_excP {ds : List Value} {dvs : List V} (T : OexC X.K C) (iC : PySem.W.findIn X.K (.ref C) "__init__" = some (some (.ref fI))) (tI : PySem.W.typeIn X.K (.ref fI) = some (.type "function"))
    (F1 : FnOk X.prog X.w X.K X.mg X.base CX k fI fd ps sp) (hr : Room (k + 1) X.A) (hg : Gl X x) (hm : X.mg x = some (.ref C)) (hb : KBn X.K fd ps (n + 1) [] g gV) (hx : Passes CX X (fun _ _ _ => False)) (ha : PA X (e :: es) t)
    (hdb : (x == ("__debug__" : Str)) = false := by decide) (he : starEach (e :: es) X.env = (false, eval e X.env) :: starEach es X.env := by rfl) (hpl : (backTo pos (starEach es X.env)).any (·.1) = false := by rfl) :
    PE X (.Call (.Name x p) (e :: es) [] pos) (tExcN C n 0 sp gV t tNil) := by
  refine ⟨fun pins s σ H Q I h => ?_⟩
  refine wpAny_Call_Name_kw (ld_glob I hg hm ?_ hdb)
  refine PySem.W.callWith_K (h₀ := X.base) I.ok.mod.kin T.kC (thn (ha.run pos pins s σ H _ I h) fun us s1 ⟨vs, H1, I1, r, l1, l2, l3, q⟩ => ⟨I1.kIn, ?_⟩) he hpl
  exact run_excN (ws := []) (zs := []) (ks := []) T iC tI F1 hr hb hx I1 r .nil l1 rfl l3 q
end

/-! ### a field of such an exception, its class -/
/-- what an own error class says, so that isinstance and the fields of its instances are told -/
structure ExcW (K : PySem.W.Frag) (C : Addr) : Prop where
  is1 : (PySem.W.clsIn K C).isSome = true
  ga : PySem.W.findIn K (.ref C) "__getattribute__" = some (some (.builtin "BaseException.__getattribute__"))
  gg : PySem.W.findIn K (.ref C) "__getattr__" = some none
  ex : PySem.W.subIn K (.ref C) (.type "BaseException") = some true
  hd : PySem.W.hasDictIn K C = true
  ca : PySem.W.findIn K (.ref C) "__class__" = some (some (.builtin "object.__class__"))
  sg : PySem.W.specialIn K (.builtin "object.__class__") "__get__" = some (some (.builtin "getset_descriptor.__get__"))
  tk : PySem.W.takesIn K (.builtin "object.__class__") = some true
  ob : PySem.W.mroIn K C (.type "object") = some true
def tExF (K : PySem.W.Frag) (f : Str) (to : TE) : TE := fun σ H Q => to σ H fun x H1 => ∃ (a C : Addr) (fs : List (Str × V)) (v : V), x = .ref a ∧ ExcAt H1 a C fs ∧ ExcW K C ∧ PySem.W.findIn K (.ref C) f = some none ∧ fs.lookup f = some v ∧ Q v H1
section
variable {X : Cx} {o : Expr} {to : TE} {f : Str} {pos : Pos}
theorem Inv.excAt {pins : List (Addr × Obj)} {σ : St} {H : Hp} {s : Shared} {a C : Addr} {fs : List (Str × V)} (I : Inv X pins σ H s) (h : ExcAt H a C fs) :
    ∃ (ox od : Obj), PySem.W.InstAt s.heap a ox C (some od) ∧ ∀ (f : Str) (v : V), fs.lookup f = some v → ∃ u, PySem.W.lookIn f od = some (some u) ∧ RelV v u := by
  obtain ⟨d, ha, hd⟩ := h
  obtain ⟨t1, e1⟩ := exo_at I.hok ha
  obtain ⟨mA, hns, rel⟩ := exd_at I.hok hd
  obtain ⟨od, ho, hl⟩ := lookIn_ns hns
  refine ⟨_, od, ⟨e1, rfl, rfl, ho⟩, fun f v e => ?_⟩
  obtain ⟨u, hu, ru⟩ := RelO.some_of (v := v) (o := mA f) (by rw [← e]; exact rel f)
  exact ⟨u, by rw [hl, hu], ru⟩
/-- error.f -/
theorem pe_exF (ho : PE X o to) (hb : attributeBase o f X.env (eval o X.env) = eval o X.env := by rfl) : PE X (.Attribute o f pos) (tExF X.K f to) := by
  refine ⟨fun pins s σ H Q I h => ?_⟩
  refine attr_of hb (thn (ho.run pins s σ H _ I h) fun u s1 ⟨x, H1, I1, rx, a, C, fs, v, ex, ha, T, hno, hl, q⟩ => ?_)
  subst ex
  obtain rfl : u = Value.ref a := rx
  obtain ⟨ox, od, J, hf⟩ := I1.excAt ha
  obtain ⟨w', hu, ru⟩ := hf f v hl
  exact HandSPX.exc_get I1.kIn J T.ga T.gg T.ex (PySem.W.findObj_own T.hd hno rfl hu) (handed_of ru) ⟨v, H1, I1.tok _, ru, q⟩
/-- isinstance(error, c) -/
def rIsX (K : PySem.W.Frag) : List V → Hp → VK → Prop := fun xs H Q => ∃ (a C : Addr) (fs : List (Str × V)) (c : V) (u : Value) (b : Bool), xs = [.ref a, c] ∧ ClsV c u ∧ ExcAt H a C fs ∧ ExcW K C ∧
  PySem.W.kitOne K (.ref C) u = some b ∧ Q (.bl b) H
theorem call_isX : CallR X (.builtin "isinstance") (rIsX X.K) := by
  intro pins s σ H xs us Q I r h
  obtain ⟨a, C, fs, c, u, b, rfl, k, ha, T, e, q⟩ := h
  obtain ⟨u1, u2, rfl, r1, r2⟩ := vals2 r
  have e2 := k.eq r2
  subst e2
  obtain rfl : u1 = Value.ref a := r1
  obtain ⟨ox, od, J, _⟩ := I.excAt ha
  exact PySem.W.kia_one (PySem.W.kitx_exc T.is1 T.ga T.gg T.ex T.ca T.sg T.tk T.ob) I.kIn J e (fun z => nomatch z) fun tk' => ⟨.bl b, H, I.tok tk', rfl, q⟩
end

/-! ### powers of great numbers, repr of None and of truths -/
def CPowW (i j : Int) : Prop := 0 ≤ j ∧ j ≤ 3 ∧ i.natAbs < 2 ^ 10000
theorem op_powW {X : Cx} : OpR X (binaryOp .Pow) (rI CPowW fun i j => .int (i ^ j.toNat)) := opI fun i j _ _ _ _ _ hc q => by
  obtain ⟨h0, h1, h2⟩ := hc
  refine pow_int h0 ?_ q
  have b1 : Builtin.Int.intBits i ≤ i.natAbs.log2 + 1 := by
    unfold Builtin.Int.intBits
    split <;> omega
  have b2 : i.natAbs.log2 < 10000 := PySem.Flt.log2_lt_of (by decide) h2
  have b3 : (Builtin.Int.intBits i : Int) ≤ 10000 := by omega
  have b4 : (Builtin.Int.intBits i : Int) * j ≤ 10000 * 3 := Int.mul_le_mul b3 h1 h0 (by decide)
  exact Int.le_trans b4 (by decide)
def rRepr : List V → Hp → VK → Prop := fun xs H Q => (xs = [.non] ∧ Q (.str "None") H) ∨ ∃ b, xs = [.bl b] ∧ Q (.str (if b then "True" else "False")) H
theorem call_reprNB {X : Cx} : CallR X (.builtin "repr") rRepr := by
  intro pins s σ H xs us Q I r h
  rcases h with ⟨rfl, q⟩ | ⟨b, rfl, q⟩
  · obtain ⟨u, rfl, r1⟩ := vals1 r
    obtain rfl : u = Value.none := r1
    exact PySem.P.repr_of_none ⟨.str _, H, I.tok _, ⟨_, rfl⟩, q⟩
  · obtain ⟨u, rfl, r1⟩ := vals1 r
    obtain rfl : u = Value.bool b := r1
    exact PySem.P.repr_of_bool ⟨.str _, H, I.tok _, ⟨_, rfl⟩, q⟩
end L2
set_option Elab.async false
set_option linter.all false
set_option maxRecDepth 100000
set_option maxHeartbeats 2000000
/-! Sets of texts: made of a list, measured, sorted. -/
namespace TxSet
open PySem PySem.Spec PyProof.Rows L2
/-- a member of the set's table: a text under its hash -/
def Mem1 (w : World) (e : Int × Value) : Prop := ∃ k tk, e.2 = Value.str k tk ∧ e.1 = hashStr w k
def txt (e : Int × Value) : Str := match e.2 with
  | .str k _ => k
  | _ => Str.empty
/-- the set at a holds just the texts L; its table can be walked -/
def SetT (w : World) (h : Heap) (a : Addr) (L : List Str) : Prop :=
  ∃ o es ep t, h.get? a = some o ∧ o.ExactSet ∧ o.data = .set es ep t ∧ (∀ e ∈ es.toList, Mem1 w e) ∧ (es.toList.map txt).Perm L ∧ L.Nodup ∧
    es.size < scanBound ∧ t.fits es.size = true ∧ Ris t.place.toList ∧ (w.params.followText "set-order" = true ∨ t.led = true)
section
variable {P : Program} {w : World} {h h' : Heap} {a : Addr} {L : List Str}
theorem SetT.at (R : SetT w h a L) (k : ∀ o, h.get? a = some o → h'.get? a = some o) : SetT w h' a L := by
  obtain ⟨o, es, ep, t, ho, r⟩ := R
  exact ⟨o, es, ep, t, k o ho, r⟩
theorem txt_is {e : Int × Value} (g : Mem1 w e) (k : Str) : (strKind P w).is k e.2 = true ↔ txt e = k := by
  obtain ⟨k', tk, h1, _⟩ := g
  unfold txt
  rw [h1]
  show Value.isStrOf k (.str k' tk) = true ↔ k' = k
  simp [Value.isStrOf]
theorem mem_elems {l : List (Int × Value)} (g : ∀ e ∈ l, Mem1 w e) : ElemsOf (strKind P w) l := fun e he => by
  obtain ⟨k, tk, h1, h2⟩ := g e he
  refine ⟨⟨k, ?_, h2⟩, ?_⟩
  · rw [h1]
    exact strKind_is P w k tk
  · rw [h1]
    rfl
theorem mem_txt {l : List (Int × Value)} (g : ∀ e ∈ l, Mem1 w e) (k : Str) : k ∈ l.map txt ↔ ∃ e ∈ l, (strKind P w).is k e.2 = true := by
  constructor
  · intro z
    obtain ⟨e, he, q⟩ := List.mem_map.mp z
    exact ⟨e, he, (txt_is (g e he) k).2 q⟩
  · rintro ⟨e, he, q⟩
    exact List.mem_map.mpr ⟨e, he, (txt_is (g e he) k).1 q⟩
end
/-- one text more -/
def ins (L : List Str) (k : Str) : List Str := if k ∈ L then L else k :: L
def dd (xs : List Str) : List Str := xs.foldl ins []
section
variable {P : Program} {w : World} {A : Around} {E : Value → Shared → Prop} {s : Shared} {a : Addr} {L : List Str}
theorem add_tail {g : Bool → Sem Unit} (hg : ∀ (b : Bool) (z : Shared) (Q' : Unit → Shared → Prop), Q' () z → wpAny (model P w) A (g b) Q' E z)
    {o : Obj} {es : Array (Int × Value)} {ep : Nat} {t : SetTable} (ho : s.heap.get? a = some o) (hex : o.ExactSet) (hd : o.data = .set es ep t)
    {fs : Array (Int × Value)} {t2 : SetTable} {M : List Str} (g1 : ∀ e ∈ fs.toList, Mem1 w e) (p1 : (fs.toList.map txt).Perm M) (nd : M.Nodup)
    (hb1 : fs.size < scanBound) (hf2 : t2.fits fs.size = true) (hr : Ris t2.place.toList) (hl : w.params.followText "set-order" = true ∨ t2.led = true) {dummy : Bool} {R : Option Bool → Shared → Prop}
    (hR : ∀ h', Heap.SameBut a s.heap h' → SetT w h' a M → R (some true) { s with heap := h' }) :
    wpAny (model P w) A (do
        storeSet a fs t2
        if (!dummy && t2.tooFull) = true then do
            g (relayAll t2 fs (SetTable.grown fs.size)).2.2
            storeSet a (relayAll t2 fs (SetTable.grown fs.size)).1 (relayAll t2 fs (SetTable.grown fs.size)).2.1
            pure (some true)
          else pure (some true)) R E s := by
  refine wpAny_bind (wpAny_storeSet_of ho hd ?_ (fits_of_scanBound hb1))
  have ho1 := store_at (es' := fs) (t' := t2) ho hd
  have sb1 := Heap.SameBut.update s.heap a (Obj.putSet fs t2)
  split
  · have pm := relayAll_perm t2 fs (SetTable.grown fs.size)
    have w1 := relayAll_fits t2 fs (SetTable.grown fs.size)
    have w2 := relayAll_ris t2 fs (SetTable.grown fs.size)
    have w3 := relayAll_led t2 fs (SetTable.grown fs.size)
    generalize relayAll t2 fs (SetTable.grown fs.size) = Z at pm w1 w2 w3 ⊢
    obtain ⟨gs, t3, gave⟩ := Z
    dsimp only at pm w1 w2 w3 ⊢
    have hsz : gs.size = fs.size := by
      rw [← Array.length_toList, pm.length_eq, Array.length_toList]
    have hb2 : gs.size < scanBound := hsz ▸ hb1
    refine wpAny_bind (hg _ _ _ ?_)
    refine wpAny_bind (wpAny_storeSet_of ho1 rfl ?_ (fits_of_scanBound hb2))
    have ho2 := store_at (es' := gs) (t' := t3) ho1 rfl
    refine wpAny_pure (hR _ (sb1.trans (Heap.SameBut.update _ a _)) ?_)
    refine ⟨_, gs, _, t3, ho2, hex, rfl, fun e he => g1 e (pm.mem_iff.mp he), (pm.map txt).trans p1, nd, hb2, w1, w2, ?_⟩
    exact hl.imp id fun z => w3.trans z
  · exact wpAny_pure (hR _ sb1 ⟨_, fs, _, t2, ho1, hex, rfl, g1, p1, nd, hb1, hf2, hr, hl⟩)
theorem add_hashed {k : Str} {tk : Tok} {Q : Bool → Shared → Prop} (R : SetT w s.heap a L) (room : L.length + 1 < scanBound)
    (hQ : ∀ b h', Heap.SameBut a s.heap h' → SetT w h' a (ins L k) → Q b { s with heap := h' }) : wpAny (model P w) A (setAddHashed a (.str k tk) ((strKind P w).hash k)) Q E s := by
  obtain ⟨o, es, ep, t, ho, hex, hd, g, pm0, nd, hb, hf, hr, hl⟩ := R
  have hkey : (strKind P w).is k (.str k tk) = true := strKind_is P w k tk
  have hsc : (Value.str k tk).scannable = true := rfl
  have hel : ElemsOf (strKind P w) es.toList := mem_elems g
  unfold setAddHashed setAddHashedIn
  refine wpAny_holding (wpAny_bind (wpAny_setState_of ho hd hf ?_))
  dsimp only
  rw [byScan_of hsc hb hel]
  simp only [↓reduceIte]
  unfold setAddByScan
  refine wpAny_bind ?_
  refine wpAny_bind (wpAny_rule ?_)
  refine wpAny_bind (wpAny_setScan_of hkey ho hd hf hel ?_)
  cases hfi : List.findIdx? (fun e => (strKind P w).is k e.2) es.toList with
  | some j =>
    dsimp only
    obtain ⟨hj, pj, _⟩ := List.findIdx?_eq_some_iff_getElem.mp hfi
    have hk : k ∈ L := pm0.mem_iff.mp ((mem_txt (P := P) g k).2 ⟨es.toList[j], List.getElem_mem hj, pj⟩)
    refine wpAny_pure (wpAny_pure ?_)
    refine hQ _ s.heap (Heap.SameBut.refl a s.heap) ?_
    rw [show ins L k = L from if_pos hk]
    exact ⟨o, es, ep, t, ho, hex, hd, g, pm0, nd, hb, hf, hr, hl⟩
  | none =>
    dsimp only
    have hk : k ∉ L := fun z => by
      obtain ⟨e, he, q⟩ := (mem_txt (P := P) g k).1 (pm0.mem_iff.mpr z)
      have c := List.findIdx?_eq_none_iff.mp hfi e he
      rw [q] at c
      cases c
    have hgw : ∀ (b : Bool) {z : Shared} {Q' : Unit → Shared → Prop}, Q' () z → wpAny (model P w) A (match b with | true => rule "set.scan.the-table-gave-way" | false => pure ()) Q' E z := fun b z Q' q => by
      cases b
      · exact wpAny_pure q
      · exact wpAny_rule q
    have pm := layNew_perm t es ((strKind P w).hash k) (.str k tk)
    have w1 := layNew_fits t es ((strKind P w).hash k) (.str k tk)
    have w2 := layNew_ris t es ((strKind P w).hash k) (.str k tk) hr
    have w3 := layNew_led t es ((strKind P w).hash k) (.str k tk)
    generalize layNew t es ((strKind P w).hash k) (.str k tk) = Z at pm w1 w2 w3 ⊢
    obtain ⟨fs, t1, dummy, gave⟩ := Z
    dsimp only at pm w1 w2 w3 ⊢
    rw [Array.toList_push] at pm
    have pc : fs.toList.Perm (((strKind P w).hash k, Value.str k tk) :: es.toList) := pm.trans (List.perm_append_singleton _ _)
    have pk : (fs.toList.map txt).Perm (k :: L) := (pc.map txt).trans (List.Perm.cons k pm0)
    have g1 : ∀ e ∈ fs.toList, Mem1 w e := fun e he => by
      rcases List.mem_cons.mp (pc.mem_iff.mp he) with z | z
      · rw [z]
        exact ⟨k, tk, rfl, rfl⟩
      · exact g e z
    have nd1 : (k :: L).Nodup := List.nodup_cons.mpr ⟨hk, nd⟩
    have hsz : fs.size = L.length + 1 := by
      have z := pk.length_eq
      rw [List.length_map, Array.length_toList, List.length_cons] at z
      exact z
    have hb1 : fs.size < scanBound := by
      rw [hsz]
      exact room
    have hled : w.params.followText "set-order" = true ∨ t1.led = true := hl.imp id fun z => w3.trans z
    have fin : ∀ h', Heap.SameBut a s.heap h' → SetT w h' a (k :: L) → Q true { s with heap := h' } := fun h' sb r => hQ true h' sb (by
      rw [show ins L k = k :: L from if_neg hk]
      exact r)
    refine wpAny_bind (hgw _ ?_)
    split
    · refine wpAny_bind ?_
      rw [hashByValue_scannable 8 hsc]
      refine wpAny_pure ?_
      refine add_tail ?_ ho hex hd g1 pk nd1 hb1 ?_ ?_ ?_ ?_
      · intro b z Q' q
        cases b <;> first | exact wpAny_pure q | exact wpAny_rule q
      · first
          | (split <;> first | exact w1 | exact SetTable.fits_plain_off w1)
          | exact w1
      · first
          | (split <;> exact w2)
          | exact w2
      · first
          | (split <;> exact hled)
          | exact hled
      · intro h' sb r
        dsimp only
        exact wpAny_pure (fin h' sb r)
    · refine wpAny_bind (wpAny_pure ?_)
      simp only [↓reduceIte]
      refine add_tail ?_ ho hex hd g1 pk nd1 hb1 w1 w2 hled ?_
      · intro b z Q' q
        cases b <;> first | exact wpAny_pure q | exact wpAny_rule q
      · intro h' sb r
        dsimp only
        exact wpAny_pure (fin h' sb r)
theorem dd_more (xs : List Str) (x : Str) : dd (xs ++ [x]) = ins (dd xs) x := by
  unfold dd
  rw [List.foldl_append]
  rfl
theorem ins_len (L : List Str) (k : Str) : (ins L k).length ≤ L.length + 1 := by
  unfold ins
  split
  · exact Nat.le_succ _
  · exact Nat.le_refl _
theorem dd_len : ∀ xs : List Str, (dd xs).length ≤ xs.length := by
  have go : ∀ (xs L : List Str), (xs.foldl ins L).length ≤ L.length + xs.length := by
    intro xs
    induction xs with
    | nil => intro L; exact Nat.le_refl _
    | cons x xs ih =>
      intro L
      have h1 := ih (ins L x)
      have h2 := ins_len L x
      rw [List.foldl_cons, List.length_cons]
      omega
  intro xs
  have h := go xs []
  rw [List.length_nil, Nat.zero_add] at h
  exact h
/-- texts, one by one, into the set -/
theorem into_set {I : Addr} {fp wr : List Addr} {G : Array GenState → Array GenState → Prop} {n : Nat} {Pv : Nat → Value → Prop} {St : Nat → Shared → Prop} {R : Result → Shared → Prop}
    (W : WalksS P w A.in1 I fp wr G n Pv St) (S : Addr) (hSf : S ∉ fp) (xs : List Str) (hn : n = xs.length) (hb : xs.length + 1 < scanBound) (hval : ∀ i v, Pv i v → ∃ k t, xs[i]? = some k ∧ v = .str k t) :
    ∀ (k i : Nat) (s : Shared), n - i = k → i ≤ n → St i s → SetT w s.heap S (dd (xs.take i)) → (∀ z, Moved (S :: wr) G s z → SetT w z.heap S (dd xs) → R (.ok (.ret .none)) z) →
      codeAny (model P w) A (.builtin "set.update.loop" ⟨[.ref S, .ref I], []⟩) R s := by
  have hSw : S ∉ wr := fun h => hSf (W.sub _ h)
  have hsub : ∀ b ∈ wr, b ∈ S :: wr := fun b hb => List.mem_cons_of_mem _ hb
  intro k
  induction k with
  | zero =>
    intro i s hk' hi hst hS hR
    obtain rfl : i = n := by omega
    refine codeAny_builtin F.entry_set_update_loop ?_
    rw [Around.under_plainId F.plain_set_update_loop _]
    show wpAny _ A.in1 (pyNext (.ref I) >>= _) _ _ s
    refine wpAny_bind (W.done s _ _ hst fun z hm => ?_)
    show wpAny _ A.in1 (ret Value.none) _ _ z
    rw [List.take_of_length_le (by omega)] at hS
    exact wpAny_pure (hR z (hm.mono hsub) (hS.at fun o e => hm.heap S o hSw e))
  | succ k ih =>
    intro i s hk' hi hst hS hR
    have hlt : i < n := by omega
    refine codeAny_builtin F.entry_set_update_loop ?_
    rw [Around.under_plainId F.plain_set_update_loop _]
    show wpAny _ A.in1 (pyNext (.ref I) >>= _) _ _ s
    refine wpAny_bind (W.item i s _ _ hlt hst fun v z hP hst' hm => ?_)
    obtain ⟨y, t, hy, rfl⟩ := hval i v hP
    have hS' : SetT w z.heap S (dd (xs.take i)) := hS.at fun o e => hm.heap S o hSw e
    have hl : (dd (xs.take i)).length + 1 < scanBound := by
      have h1 := dd_len (xs.take i)
      rw [List.length_take] at h1
      omega
    show wpAny _ A.in1 (holding [Value.str y t] (setAdd S (.str y t)) >>= _) _ _ z
    refine wpAny_bind (wpAny_holding ?_)
    unfold setAdd
    refine wpAny_holding ?_
    refine wpAny_bind ((strKind P w).pyHash (k := y) (strKind_is P w y t) ?_)
    refine add_hashed (s := { z with toks := z.toks + 1 }) hS' hl fun b h' hsb hS2 => ?_
    have hS3 : SetT w h' S (dd (xs.take (i + 1))) := by
      rw [List.take_add_one, hy]
      show SetT w h' S (dd (xs.take i ++ [y]))
      rw [dd_more]
      exact hS2
    refine wpAny_pure ⟨plainId_quiet F.plain_set_update_loop _, ih (i + 1) _ (by omega) hlt (W.frame _ z _ _ hst' (Nat.le_succ _) fun b hb o e => ?_) hS3 fun y' hm'' hS'' => ?_⟩
    · rw [hsb.2 b (fun h : b = S => hSf (by rw [← h]; exact hb))]
      exact e
    · refine hR y' (Moved.trans W.gtrans ((hm.mono hsub).then_heap (Nat.le_succ _) fun b o hb e => ?_) hm'') hS''
      rw [hsb.2 b (fun h : b = S => hb (by rw [h]; exact List.mem_cons_self))]
      exact e
theorem new_at {h : Heap} (ho : h.get? a = some { cls := .type "set", dict := none, data := .set #[] 0 (.fresh 0 0 (!w.params.followText "set-order")) }) : SetT w h a (dd ([] : List Str)) := by
  refine ⟨_, #[], 0, _, ho, ⟨rfl, rfl, rfl⟩, rfl, (fun e he => by simp at he), List.Perm.refl _, List.nodup_nil, (by decide), (by rfl), List.Pairwise.nil, ?_⟩
  show _ ∨ (!w.params.followText "set-order") = true
  cases w.params.followText "set-order"
  · exact .inr rfl
  · exact .inl rfl
abbrev emptyS (w : World) : Obj := { cls := .type "set", dict := none, data := .set #[] 0 (.fresh 0 0 (!w.params.followText "set-order")) }
set_option maxRecDepth 100000 in
set_option maxHeartbeats 3200000 in
/-- set(a list of texts) -/
theorem set_of_list {l : Addr} {items : Array Value} (xs : List Str) {Q : Value → Shared → Prop} (hh : A.handled = none) (hl : s.heap.IsList l items) (hit : StrsAre items.toList xs) (hb : xs.length + 1 < scanBound)
    (h : ∀ (h' : Heap) (tk : Nat), SetT w h' s.heap.objs.size (dd xs) → (∀ b o, s.heap.get? b = some o → h'.get? b = some o) → Q (.ref s.heap.objs.size) { s with heap := h', toks := tk }) :
    wpAny (model P w) A (call (.type "set") [.ref l]) Q E s := by
  have hisz : items.size = xs.length := by
    have q := hit.length
    rw [Array.length_toList] at q
    exact q
  obtain ⟨c, tl, hmro⟩ := F.called_set.mro
  have hmade := F.called_set.made
  have hsub := F.called_set.sub
  refine wpAny_call (codeAny_of_tree ?_)
  show wpAny _ _ (callAny (.type "set") _) _ _ _
  refine wpAny_pure ⟨Code.quiet_builtin _ (by decide +kernel), codeAny_builtin F.entry_type_call ?_⟩
  rw [Around.under_plain (weight_type_call_type "set" [.ref l] []) rfl]
  have h1 := F.called_set.notType
  have h2 := F.called_set.canCreate
  have hct := F.typeCall_set_1 (.ref l)
  repeat (any_goals (first | assumption | wp_step))
  refine codeAny_mono (code_set_led1 (.ref l) (E := E) (Q₁ := fun obj z => obj = .ref s.heap.objs.size ∧ z = { s with heap := s.heap.push (emptyS w) }) ⟨rfl, rfl⟩) fun r z hr => ?_
  cases r with
  | error e => exact hr
  | ok fl =>
    cases fl with
    | ret obj =>
      obtain ⟨rfl, rfl⟩ := hr
      have hS : (s.heap.push (emptyS w)).get? s.heap.objs.size = some (emptyS w) := Heap.get?_push_size _ rfl
      have hT : Shared.TypeIs { s with heap := s.heap.push (emptyS w) } (.ref s.heap.objs.size) "set" := ⟨_, hS, rfl⟩
      have hli := F.called_set.init.lookup
      have hbi := F.called_set.init.bind (.ref s.heap.objs.size)
      repeat (any_goals (first | assumption | wp_step))
      refine codeAny_mono (codeAny_call_builtin (R := wants (fun r z2 => r = .none ∧ ∃ h' tk, z2 = { s with heap := h', toks := tk } ∧ SetT w h' s.heap.objs.size (dd xs) ∧
          (∀ b o, s.heap.get? b = some o → h'.get? b = some o)) E) F.called_set.init.plain F.entry_set_init (check_set_init_1 hT ?_)) fun r2 z2 hr2 => ?_
      · obtain ⟨ol, hol, hcl, nl, hdl⟩ := hl
        obtain ⟨ocls, odict, odata, oslots⟩ := ol
        simp only at hcl hdl
        subst hcl; subst hdl
        have hol' : (s.heap.push (emptyS w)).get? l = some { cls := .type "list", dict := odict, data := .seq items nl, slots := oslots } := Heap.get?_push_of_some _ hol
        have hsls := F.sub_list_set
        have hslf := F.sub_list_frozenset
        have hne : (Value.type "list" == Value.type "dict") = false := by decide
        have hl1 : (s.heap.push (emptyS w)).IsList l items := ⟨_, hol', rfl, nl, rfl⟩
        unfold Builtin.«set.__init__» noKeywords Builtin.Frozenset.updateFrom
        generalize hPI : pyIter = PI
        wp_walk
        subst hPI
        refine wpAny_pyIter_list hl1 ?_
        refine wpAny_bind (wpAny_runValue ?_)
        have hlS : l < s.heap.objs.size := Heap.lt_size hol
        have hh3 : A.in1.in1.in1.handled = none := by simp [hh]
        have hneI : l ≠ (s.heap.push (emptyS w)).objs.size := by
          rw [Heap.size_push]
          exact Nat.ne_of_lt (Nat.lt_succ_of_lt hlS)
        have hSf : s.heap.objs.size ∉ [(s.heap.push (emptyS w)).objs.size, l] := by
          rw [Heap.size_push]
          simp only [List.mem_cons, List.mem_singleton, List.not_mem_nil, or_false, not_or]
          exact ⟨Nat.ne_of_lt (Nat.lt_succ_self _), Nat.ne_of_gt hlS⟩
        have hval : ∀ (i : Nat) (v : Value), items[i]? = some v → ∃ k t, xs[i]? = some k ∧ v = .str k t := fun i v hv => by
          have hi : i < xs.length := by
            rw [← hisz]
            exact (Array.getElem?_eq_some_iff.mp hv).1
          obtain ⟨t, e⟩ := SS.strs_at hit i v (by rw [Array.getElem?_toList]; exact hv)
          refine ⟨xs[i], t, List.getElem?_eq_getElem hi, ?_⟩
          rw [e, List.getD_eq_getElem?_getD, List.getElem?_eq_getElem hi]
          rfl
        refine into_set ((Walks.list hh3 _ l hneI items).toS) s.heap.objs.size hSf xs hisz hb hval (items.size - 0) 0 _ (by omega) (Nat.zero_le _)
          ⟨⟨_, Heap.get?_push_size _ rfl, rfl, rfl⟩, (hl1.push _)⟩ ?hS0 ?hR
        case hS0 => exact new_at (Heap.get?_push_of_some _ hS)
        case hR =>
          intro z3 hm hS'
          obtain ⟨h', g2, d', tk', os'⟩ := z3
          have eg : g2 = s.gens := hm.gens
          have ed : d' = s.drawn := hm.drawn
          have eo : os' = s.os := hm.os
          subst eg; subst ed; subst eo
          show wpAny _ _ _ _ _ _
          refine wpAny_pure ?_
          show wpAny _ _ (ret Value.none) _ _ _
          refine wpAny_pure ⟨rfl, h', tk', rfl, hS', fun b o e => ?_⟩
          have hb0 : b < s.heap.objs.size := Heap.lt_size e
          have hb1 : b ≠ s.heap.objs.size := Nat.ne_of_lt hb0
          have hb2 : b ≠ (s.heap.push (emptyS w)).objs.size := by
            rw [Heap.size_push]
            exact Nat.ne_of_lt (Nat.lt_succ_of_lt hb0)
          refine hm.heap b o ?_ (Heap.get?_push_of_some _ (Heap.get?_push_of_some _ e))
          simp only [List.mem_cons, List.mem_singleton, List.not_mem_nil, or_false, not_or]
          exact ⟨hb1, hb2⟩
      · cases r2 with
        | error e => exact hr2
        | ok fl2 =>
          cases fl2 with
          | ret r =>
            obtain ⟨rfl, h', tk, rfl, hS', hk'⟩ := hr2
            repeat (any_goals (first | assumption | wp_step))
            exact h _ _ hS' hk'
          | _ => exact hr2.elim
    | _ => exact hr.elim
end
end TxSet
set_option Elab.async false
set_option linter.all false
set_option maxRecDepth 100000
set_option maxHeartbeats 2000000
namespace TxSet
open PySem PySem.Spec PyProof.Rows L2
theorem strs_map : ∀ (l : List Value), (∀ v ∈ l, ∃ k tk, v = Value.str k tk) → ∃ ss : List Str, StrsAre l ss ∧ ss = l.map (fun v => txt (0, v))
  | [], _ => ⟨[], .nil, rfl⟩
  | v :: l, h => by
    obtain ⟨k, tk, rfl⟩ := h v List.mem_cons_self
    obtain ⟨ss, h1, h2⟩ := strs_map l fun u hu => h u (List.mem_cons_of_mem _ hu)
    exact ⟨k :: ss, .cons k tk h1, by rw [h2]; rfl⟩
section
variable {P : Program} {w : World} {A : Around} {E : Value → Shared → Prop} {s : Shared} {a : Addr} {L : List Str}
/-- sorted(a set of texts) -/
theorem sorted_txt {Q : Value → Shared → Prop} (R : SetT w s.heap a L) (hh : A.handled = none) (h64 : L.length < 64)
    (hQ : ∀ z p (out : Array Value) (c : Nat) (ys : List Str), (∀ b o, s.heap.get? b = some o → z.heap.get? b = some o) → z.gens = s.gens → z.os = s.os → s.heap.objs.size ≤ p →
      z.heap.get? p = some (seqObj "list" out c) → StrsAre out.toList ys → ys.Perm L → sortedS ys = true → Q (.ref p) z) :
    wpAny (model P w) A (call (.builtin "sorted") [.ref a]) Q E s := by
  obtain ⟨o, es, ep, t, ho, hex, hd, g, pm0, nd, hb, hf, hr, hl⟩ := R
  refine Calls.call_function_entry kind_sorted plain_sorted entry_sorted (args_sorted1 _) ?_
  unfold Builtin.«sorted»
  refine wpAny_bind (m := checkCount "sorted" 1 1 _) (wpAny_pure ?_)
  refine wpAny_bind (collect_set (A := A.in1) hh ⟨o, ho, hex.1, hd⟩ hf hb hr hl fun s1 vs k1 hz g1 o1 pm => ?_)
  obtain ⟨ss, hI, e1⟩ := strs_map vs fun v hv => by
    obtain ⟨e, he, q⟩ := List.mem_map.mp (pm.mem_iff.mp hv)
    obtain ⟨k, tk, h1, _⟩ := g e he
    exact ⟨k, tk, by rw [← q]; exact h1⟩
  have pk : ss.Perm L := by
    have q := pm.map (fun v => txt (0, v))
    rw [List.map_map, ← e1] at q
    exact q.trans pm0
  have hvl : vs.length < 64 := by
    have z := hI.length
    rw [z, pk.length_eq]
    exact h64
  refine wpAny_bind (wpAny_newList ?_ (by rw [sizeLine_eq]; omega))
  have hoL : (s1.heap.push (seqObj "list" vs.toArray 0)).get? s1.heap.objs.size = some (seqObj "list" vs.toArray 0) := Heap.get?_push_size _ rfl
  refine wpAny_bind (wpAny_holding (wpAny_call_entry slot_list_sort ⟨_, hoL, rfl⟩ entry_list_sort
    (list_sort_treeK strKind_oneLt hoL hI.keysOf (fun v1 v2 rest e => keyKind_strs (by rw [← e]; exact hI)) hvl fun st' hp hs => ?_) (args_list_sort _)))
  obtain ⟨ys, g1', g2', g3'⟩ := sorted_out_str hI hp hs
  refine ⟨_, rfl, ?_⟩
  obtain ⟨c, hc⟩ := sortedHeap_at (vs := vs) (out := _) hoL
  refine wpAny_pure ⟨_, rfl, hQ _ s1.heap.objs.size _ c ys (fun b u e => ?_) g1 o1 hz hc g1' (g2'.trans pk) g3'⟩
  have q := k1 b u e
  have hlt := Heap.lt_size q
  show (sortedHeap (s1.heap.push (seqObj "list" vs.toArray 0)) s1.heap.objs.size vs _).get? b = some u
  rw [sortedHeap_old (Nat.ne_of_lt hlt) (by rw [size_push']; exact Nat.lt_succ_of_lt hlt)]
  exact Heap.get?_push_of_some _ q
end
/-- of two risings of the same texts there is one -/
def tle (x y : Str) : Prop := x.cps.toList ≤ y.cps.toList
theorem rising_all : ∀ (r : List Str) (x : Str), risingS x r = true → (∀ y ∈ r, tle x y) ∧ r.Pairwise tle
  | [], _, _ => ⟨(fun _ h => nomatch h), List.Pairwise.nil⟩
  | y :: r, x, h => by
    have h' : (!Spec.ltCps y.cps.toList x.cps.toList && risingS y r) = true := h
    rw [Bool.and_eq_true, Bool.not_eq_true', ltCps_eq, decide_eq_false_iff_not] at h'
    obtain ⟨h1, h2⟩ := h'
    have hxy : tle x y := List.not_lt.mp h1
    obtain ⟨a1, a2⟩ := rising_all r y h2
    refine ⟨fun z hz => ?_, List.pairwise_cons.mpr ⟨a1, a2⟩⟩
    rcases List.mem_cons.mp hz with e | hz
    · rw [e]
      exact hxy
    · exact List.le_trans hxy (a1 z hz)
theorem sorted_pair : ∀ l : List Str, sortedS l = true → l.Pairwise tle
  | [], _ => List.Pairwise.nil
  | x :: r, h => by
    obtain ⟨a1, a2⟩ := rising_all r x h
    exact List.pairwise_cons.mpr ⟨a1, a2⟩
theorem one_rising {xs ys zs : List Str} (h1 : ys.Perm xs) (s1 : sortedS ys = true) (h2 : zs.Perm xs) (s2 : sortedS zs = true) : ys = zs := by
  refine List.Perm.eq_of_pairwise (le := tle) (fun a b _ _ p q => ?_) (sorted_pair ys s1) (sorted_pair zs s2) (h1.trans h2.symm)
  have e : a.cps.toList = b.cps.toList := List.le_antisymm p q
  obtain ⟨a⟩ := a
  obtain ⟨b⟩ := b
  have e' : a = b := Array.toList_inj.mp e
  rw [e']
/-- as many as there are: no two are one -/
theorem ins_mem (L : List Str) (k x : Str) : x ∈ ins L k ↔ x = k ∨ x ∈ L := by
  unfold ins
  split
  · rename_i h
    exact ⟨.inr, fun z => z.elim (fun e => e ▸ h) id⟩
  · rw [List.mem_cons]
theorem dd_go : ∀ (xs L : List Str), (xs.foldl ins L).length ≤ L.length + xs.length ∧ (∀ x, x ∈ xs.foldl ins L ↔ x ∈ L ∨ x ∈ xs) ∧ ((xs.foldl ins L).length = L.length + xs.length ↔ xs.Nodup ∧ ∀ x ∈ xs, x ∉ L)
  | [], L => ⟨Nat.le_refl _, fun x => by simp, by simp⟩
  | y :: xs, L => by
    obtain ⟨a1, a2, a3⟩ := dd_go xs (ins L y)
    have l1 := ins_len L y
    rw [List.foldl_cons]
    refine ⟨by rw [List.length_cons]; omega, fun x => ?_, ?_⟩
    · rw [a2 x, ins_mem, List.mem_cons]
      constructor
      · rintro ((e | h) | h)
        · exact .inr (.inl e)
        · exact .inl h
        · exact .inr (.inr h)
      · rintro (h | e | h)
        · exact .inl (.inr h)
        · exact .inl (.inl e)
        · exact .inr h
    · by_cases hy : y ∈ L
      · have e : ins L y = L := if_pos hy
        rw [e] at a1 ⊢
        constructor
        · intro z
          rw [List.length_cons] at z
          omega
        · rintro ⟨_, z⟩
          exact absurd hy (z y List.mem_cons_self)
      · have e : ins L y = y :: L := if_neg hy
        rw [e] at a3 ⊢
        rw [List.length_cons] at a3 ⊢
        rw [show L.length + (xs.length + 1) = L.length + 1 + xs.length by omega, a3, List.nodup_cons]
        constructor
        · rintro ⟨h1, h2⟩
          refine ⟨⟨fun z => h2 y z List.mem_cons_self, h1⟩, fun x hx => ?_⟩
          rcases List.mem_cons.mp hx with e | hx
          · rw [e]
            exact hy
          · exact fun z => h2 x hx (List.mem_cons_of_mem _ z)
        · rintro ⟨⟨h1, h2⟩, h3⟩
          refine ⟨h2, fun x hx z => ?_⟩
          rcases List.mem_cons.mp z with e | z
          · exact h1 (e ▸ hx)
          · exact h3 x (List.mem_cons_of_mem _ hx) z
theorem dd_full (xs : List Str) : (dd xs).length = xs.length ↔ xs.Nodup := by
  have h := (dd_go xs []).2.2
  rw [List.length_nil, Nat.zero_add] at h
  show (xs.foldl ins []).length = xs.length ↔ _
  rw [h]
  exact ⟨fun z => z.1, fun z => ⟨z, fun _ _ q => nomatch q⟩⟩
theorem dd_mem (xs : List Str) (x : Str) : x ∈ dd xs ↔ x ∈ xs := by
  have h := (dd_go xs []).2.1 x
  show x ∈ xs.foldl ins [] ↔ _
  rw [h]
  exact ⟨fun z => z.elim (fun q => nomatch q) id, .inr⟩
theorem ins_nodup {L : List Str} (h : L.Nodup) (k : Str) : (ins L k).Nodup := by
  unfold ins
  split
  · exact h
  · rename_i z
    exact List.nodup_cons.mpr ⟨z, h⟩
theorem dd_nodup (xs : List Str) : (dd xs).Nodup := by
  have go : ∀ (xs L : List Str), L.Nodup → (xs.foldl ins L).Nodup := by
    intro xs
    induction xs with
    | nil => intro L h; exact h
    | cons x xs ih => intro L h; exact ih _ (ins_nodup h x)
  exact go xs [] List.nodup_nil
end TxSet
namespace L2
open PySem PySem.Spec PyProof.Rows
/-- len(set(xs)) -/
def tLenSetT (K : PySem.W.Frag) (ta : TE) : TE := fun σ H Q => ta σ H fun x H1 => ∃ (l : Addr) (xs : List Str), x = .ref l ∧ SqL K H1 l (xs.map V.str) ∧ xs.length ≤ 4000 ∧ Q (.int ((TxSet.dd xs).length : Nat)) H1
theorem pe_lenSetT {X : Cx} {a : Expr} {ta : TE} {p p2 q pos : Pos} (hc : X.calm = true) (hg : Gl X "len") (hm : X.mg "len" = none) (hg2 : Gl X "set") (hm2 : X.mg "set" = none) (ha : PE X a ta)
    (na : starEach [a] X.env = (false, eval a X.env) :: starEach [] X.env := by rfl) : PE X (.Call (.Name "len" p) [.Call (.Name "set" p2) [a] [] q] [] pos) (tLenSetT X.K ta) := by
  refine ⟨fun pins s σ H Q I h => ?_⟩
  refine Call_ (ld_blt I hg hm boot_len ?_)
  refine PyProof.Rows.callWith_builtin1 (PyProof.Rows.args_cons ?_ rfl) rfl rfl
  refine Call_ (ld_blt I hg2 hm2 boot_set ?_)
  refine PyProof.Rows.callWith_type1 (PyProof.Rows.args_cons (thn (ha.run pins s σ H _ I h) fun v s1 ⟨x, H1, I1, r1, q1⟩ => PyProof.Rows.args_nil ?_) na) na rfl
  obtain ⟨l, xs, rfl, hq, hl, q1⟩ := q1
  cases r1
  obtain ⟨its, r, pl, hz⟩ := I1.list hq
  refine TxSet.set_of_list xs (I1.ok.hd hc) pl.isList (by simpa using strsAre_of r) (by unfold scanBound; omega) fun h' tk hS hk => ?_
  refine PyProof.Rows.args_nil ?_
  obtain ⟨o, es, ep, t, ho, hex, hd, _, pm, _, hb, hf, _⟩ := hS
  have hn : es.size = (TxSet.dd xs).length := by
    have z := pm.length_eq
    rw [List.length_map, Array.length_toList] at z
    exact z
  have I2 : Inv X pins σ H1 { s1 with heap := h', toks := tk } := I1.kept fun b o e => hk b o e
  refine call_len_set ho hex hd hf ?_ ⟨.int ((TxSet.dd xs).length : Nat), H1, I2.tok _, ⟨_, by rw [hn]⟩, q1⟩
  have hb' : es.size < 4096 := hb
  omega
/-- sorted(set(xs)) -/
def tSortSetT (K : PySem.W.Frag) (ta : TE) : TE := fun σ H Q => ta σ H fun x H1 => ∃ (l : Addr) (xs : List Str), x = .ref l ∧ SqL K H1 l (xs.map V.str) ∧ xs.length ≤ 4000 ∧ (TxSet.dd xs).length < 64 ∧
  ∀ (ys : List Str) (p : Addr), ys.Perm (TxSet.dd xs) → sortedS ys = true → H1 p = none → Q (.ref p) (upd H1 p (.lst (ys.map V.str)))
theorem pe_sortSetT {X : Cx} {a : Expr} {ta : TE} {p p2 q pos : Pos} (hc : X.calm = true) (hg : Gl X "sorted") (hm : X.mg "sorted" = none) (hg2 : Gl X "set") (hm2 : X.mg "set" = none) (ha : PE X a ta)
    (na : starEach [a] X.env = (false, eval a X.env) :: starEach [] X.env := by rfl) : PE X (.Call (.Name "sorted" p) [.Call (.Name "set" p2) [a] [] q] [] pos) (tSortSetT X.K ta) := by
  refine ⟨fun pins s σ H Q I h => ?_⟩
  refine Call_ (ld_blt I hg hm boot_sorted ?_)
  refine PyProof.Rows.callWith_builtin1 (PyProof.Rows.args_cons ?_ rfl) rfl rfl
  refine Call_ (ld_blt I hg2 hm2 boot_set ?_)
  refine PyProof.Rows.callWith_type1 (PyProof.Rows.args_cons (thn (ha.run pins s σ H _ I h) fun v s1 ⟨x, H1, I1, r1, q1⟩ => PyProof.Rows.args_nil ?_) na) na rfl
  obtain ⟨l, xs, rfl, hq, hl, h64, q1⟩ := q1
  cases r1
  obtain ⟨its, r, pl, hz⟩ := I1.list hq
  refine TxSet.set_of_list xs (I1.ok.hd hc) pl.isList (by simpa using strsAre_of r) (by unfold scanBound; omega) fun h' tk hS hk => ?_
  refine PyProof.Rows.args_nil ?_
  refine TxSet.sorted_txt (s := { s1 with heap := h', toks := tk }) hS (I1.ok.hd hc) h64 fun z p out c ys k2 g2 o2 hp hout hys hperm hsort => ?_
  have old : ∀ b o, s1.heap.get? b = some o → z.heap.get? b = some o := fun b o e => k2 b o (hk b o e)
  have hge : s1.heap.objs.size ≤ p := by
    have h1 : s1.heap.objs.size ≤ h'.objs.size := by
      obtain ⟨o, _, _, _, ho, _⟩ := hS
      exact Nat.le_of_lt (Heap.lt_size ho)
    exact Nat.le_trans h1 hp
  have hlen : (ys.map V.str).length ≤ sizeLine := by
    rw [List.length_map, hperm.length_eq]
    exact Nat.le_of_lt (Nat.lt_of_lt_of_le h64 (by decide))
  obtain ⟨zh, zg, zd, zt, zo⟩ := z
  obtain rfl : zg = s1.gens := g2
  obtain rfl : zo = s1.os := o2
  have hn : H1 p = none := I1.hok.fresh hge
  have J : Inv X pins σ (upd H1 p (.lst (ys.map V.str))) { s1 with heap := zh, gens := s1.gens, drawn := zd, toks := zt } :=
    I1.call (ch := []) (Un.laid old hge hn) (I1.hok.laid old hge ⟨hlen, out.toList, c, vals_of_strs hys, hout⟩) I1.bare (fun _ z => nomatch z)
  exact ⟨.ref p, _, J, rfl, q1 ys p hperm hsort hn⟩
end L2
set_option Elab.async false
set_option linter.all false
set_option maxRecDepth 100000
set_option maxHeartbeats 2000000
/-! Sets of texts, gathered by two clauses without tests; sorted. -/
namespace TxSet
open PySem PySem.Spec PyProof.Rows L2
/-- the set of texts at a, as a tracked thing -/
def SetTO (w : World) (a : Addr) (L : List Str) : HO := .ext fun h => SetT w h a L
theorem setTO_mk {w : World} {P : Program} {H : Hp} {h : Heap} {a : Addr} {L : List Str} (R : SetT w h a L) : ObjOk P w H h a (SetTO w a L) := by
  have ⟨o, _, _, _, ho, _⟩ := R
  exact ⟨R, ⟨o, ho⟩, fun h1 h2 p k => SetT.at p k⟩
section
variable {X : Cx}
theorem setTO_at {pins : List (Addr × Obj)} {σ : L2.St} {H : Hp} {z : Shared} {a : Addr} {L : List Str} (J : Inv X pins σ H z) (ha : H a = some (SetTO X.w a L)) : SetT X.w z.heap a L := (J.hok a _ ha).1
/-- one text into it -/
theorem txt_into {pins : List (Addr × Obj)} {σ : L2.St} {H : Hp} {z : Shared} {E : Value → Shared → Prop} {S : Addr} {L : List Str} {k : Str} {tk : Tok} {Q : Value → Shared → Prop} (J : Inv X pins σ H z) (hS : H S = some (SetTO X.w S L)) (room : L.length + 1 < scanBound)
    (q : ∀ y, Inv X pins σ (upd H S (SetTO X.w S (ins L k))) y → Q .none y) : wpAny (model X.prog X.w) X.A (call (.builtin "set.add") [.ref S, .str k tk]) Q E z := by
  have R := setTO_at J hS
  have hT : z.TypeIs (.ref S) "set" := by
    obtain ⟨o, _, _, _, ho, hex, _⟩ := R
    exact ⟨o, ho, hex.1⟩
  refine wpAny_call_entry F.slot_set_add hT F.entry_set_add ?_ (F.args_set_add_2 _ _)
  unfold Builtin.«set.add» Builtin.Frozenset.oneOther
  simp only [List.isEmpty_nil, bind_assoc]
  unfold Builtin.Frozenset.addrOf setAdd
  refine wpAny_bind (wpAny_pure ?_)
  try dsimp only
  refine wpAny_bind (wpAny_pure ?_)
  try dsimp only
  refine wpAny_bind (wpAny_holding ?_)
  refine wpAny_bind ((strKind X.prog X.w).pyHash (k := k) (strKind_is X.prog X.w k tk) ?_)
  refine add_hashed (s := { z with toks := z.toks + 1 }) R room fun b h1 sb R1 => ?_
  show wpAny _ _ (ret Value.none) _ _ _
  have he : ∃ u, h1.get? S = some u := by
    have ⟨o, _, _, _, ho, _⟩ := R1
    exact ⟨o, ho⟩
  exact wpAny_pure ⟨_, rfl, q _ (J.write (e := S) (t' := z.toks + 1) (by rw [hS]; trivial) (.inl rfl) (fun b u hb hu => (sb.2 b hb).trans hu) he (setTO_mk R1))⟩
/-- sorted(that set) -/
def rSortT (w : World) : List V → Hp → VK → Prop := fun xs H Q => ∃ (S : Addr) (L : List Str), xs = [.ref S] ∧ H S = some (SetTO w S L) ∧ L.length < 64 ∧
  ∀ (ys : List Str) (p : Addr), ys.Perm L → sortedS ys = true → H p = none → Q (.ref p) (upd H p (.lst (ys.map V.str)))
theorem call_sortT (hc : X.calm = true) : CallR X (.builtin "sorted") (rSortT X.w) := by
  intro pins z σ H xs us Q J r q
  obtain ⟨S, L, rfl, hS, h64, q⟩ := q
  obtain ⟨u, rfl, ru⟩ := r.one
  cases (show u = Value.ref S from ru)
  refine sorted_txt (setTO_at J hS) (J.ok.hd hc) h64 fun y p out c ys old g2 o2 hge hout hys hperm hsort => ?_
  have hlen : (ys.map V.str).length ≤ sizeLine := by
    rw [List.length_map, hperm.length_eq]
    exact Nat.le_of_lt (Nat.lt_of_lt_of_le h64 (by decide))
  obtain ⟨zh, zg, zd, zt, zo⟩ := y
  obtain rfl : zg = z.gens := g2
  obtain rfl : zo = z.os := o2
  have hn : H p = none := J.hok.fresh hge
  have J2 : Inv X pins σ (upd H p (.lst (ys.map V.str))) { z with heap := zh, gens := z.gens, drawn := zd, toks := zt } :=
    J.call (ch := []) (Un.laid old hge hn) (J.hok.laid old hge ⟨hlen, out.toList, c, vals_of_strs hys, hout⟩) J.bare (fun _ z => nomatch z)
  exact ⟨.ref p, _, J2, rfl, q ys p hperm hsort hn⟩
end
/-! ### two clauses -/
abbrev gen2 (t0 i0 t1 i1 : Expr) : List Comprehension := [⟨t0, i0, [], 0⟩, ⟨t1, i1, [], 0⟩]
section
variable {P : Program} {w : World} {A : Around} {R : Result → Shared → Prop} {z : Shared} {e t0 i0 t1 i1 : Expr} {sc : Scope} {at_ : Pos} {it S : Value} {env : Env}
theorem turn_outer : compTurn (.SetComp e (gen2 t0 i0 t1 i1) sc at_) 0 it S env = (do
      standAt i0.pos
      match ← pyNext it with
      | none => pure (.done .next)
      | some v =>
        letOwnedTupleGo t0 it v
        assign t0 env v
        let x ← eval i1 env
        standAt i1.pos
        let x ← foldedSetIterable i1 env x
        let _ ← runOwn (.compStart (.SetComp e (gen2 t0 i0 t1 i1) sc at_) 1 (← holding [x] (pyIter x)) S env) env
        again (.compLoop (.SetComp e (gen2 t0 i0 t1 i1) sc at_) 0 it S env)) := by rfl
theorem turn_inner : compTurn (.SetComp e (gen2 t0 i0 t1 i1) sc at_) 1 it S env = (do
      standAt i1.pos
      match ← pyNext it with
      | none => pure (.done .next)
      | some v =>
        letOwnedTupleGo t1 it v
        assign t1 env v
        (do let x ← eval e env; standAt e.pos; let _ ← call (.builtin "set.add") [S, x])
        again (.compLoop (.SetComp e (gen2 t0 i0 t1 i1) sc at_) 1 it S env)) := by rfl
abbrev NB (P : Program) (w : World) (A : Around) (env : Env) (R : Result → Shared → Prop) : Value → Shared → Prop := notedBy (model P w) A env fun x y => R (.error x) y
/-- the turns of the first clause -/
theorem loop_outer (hs : ∀ x, foldedSetIterable i1 env x = pure x) (J : Nat → Shared → Prop)
    (step : ∀ n y, J n y → wpAny (model P w) A (pyNext it) (fun r y1 => match r with
      | none => R (.ok .next) y1
      | some v => wpAny (model P w) A (letOwnedTupleGo t0 it v) (fun _ y2 => wpAny (model P w) A (assign t0 env v) (fun _ y3 => wpAny (model P w) A (eval i1 env) (fun x y4 => wpAny (model P w) A (pyIter x) (fun j y5 =>
            codeAny (model P w) A (.compStart (.SetComp e (gen2 t0 i0 t1 i1) sc at_) 1 j S env) (fun r y6 => match r with
              | .ok _ => ∃ m, m < n ∧ J m y6
              | .error _ => False) y5) (NB P w A env R) y4) (NB P w A env R) y3) (NB P w A env R) y2) (NB P w A env R) y1) (NB P w A env R) y)
    (n : Nat) (h : J n z) : codeAny (model P w) A (.compLoop (.SetComp e (gen2 t0 i0 t1 i1) sc at_) 0 it S env) R z := by
  refine codeAny_loop rfl J (fun n y hJ => ?_) n h
  show wpAny _ A ((compTurn (.SetComp e (gen2 t0 i0 t1 i1) sc at_) 0 it S env).onRaise (fun x => do noteFrame x env; theTreesLotGoes x)) _ _ y
  refine wpAny_noted ?_
  rw [turn_outer]
  refine wpAny_bind (wpAny_standAt (wpAny_bind (wpAny_mono (step n y hJ) (fun r y1 k1 => ?_) fun _ _ k => k)))
  cases r with
  | none => exact wpAny_pure k1
  | some v =>
    refine wpAny_bind (wpAny_mono k1 (fun _ y2 k2 => ?_) fun _ _ k => k)
    refine wpAny_bind (wpAny_mono k2 (fun _ y3 k3 => ?_) fun _ _ k => k)
    refine wpAny_bind (wpAny_mono k3 (fun x y4 k4 => ?_) fun _ _ k => k)
    refine wpAny_bind (wpAny_standAt (wpAny_bind (wpAny_of_eq (hs x) (wpAny_bind (wpAny_holding (wpAny_mono k4 (fun j y5 k5 => ?_) fun _ _ k => k))))))
    refine wpAny_bind (wpAny_runOwn ?_)
    rw [Around.mark_none]
    refine codeAny_mono k5 fun r y6 k6 => ?_
    cases r with
    | ok f =>
      first
        | exact wpAny_pure ⟨rfl, k6⟩
        | exact wpAny_bind (wpAny_pure (wpAny_pure ⟨rfl, k6⟩))
    | error x => exact k6.elim
/-- the turns of the second -/
theorem loop_inner (J : Nat → Shared → Prop)
    (step : ∀ n y, J n y → wpAny (model P w) A (pyNext it) (fun r y1 => match r with
      | none => R (.ok .next) y1
      | some v => wpAny (model P w) A (letOwnedTupleGo t1 it v) (fun _ y2 => wpAny (model P w) A (assign t1 env v) (fun _ y3 => wpAny (model P w) A (eval e env) (fun x y4 =>
            wpAny (model P w) A (call (.builtin "set.add") [S, x]) (fun _ y5 => ∃ m, m < n ∧ J m y5) (NB P w A env R) y4) (NB P w A env R) y3) (NB P w A env R) y2) (NB P w A env R) y1) (NB P w A env R) y)
    (n : Nat) (h : J n z) : codeAny (model P w) A (.compLoop (.SetComp e (gen2 t0 i0 t1 i1) sc at_) 1 it S env) R z := by
  refine codeAny_loop rfl J (fun n y hJ => ?_) n h
  show wpAny _ A ((compTurn (.SetComp e (gen2 t0 i0 t1 i1) sc at_) 1 it S env).onRaise (fun x => do noteFrame x env; theTreesLotGoes x)) _ _ y
  refine wpAny_noted ?_
  rw [turn_inner]
  refine wpAny_bind (wpAny_standAt (wpAny_bind (wpAny_mono (step n y hJ) (fun r y1 k1 => ?_) fun _ _ k => k)))
  cases r with
  | none => exact wpAny_pure k1
  | some v =>
    refine wpAny_bind (wpAny_mono k1 (fun _ y2 k2 => ?_) fun _ _ k => k)
    refine wpAny_bind (wpAny_mono k2 (fun _ y3 k3 => ?_) fun _ _ k => k)
    exact wpAny_bind (wpAny_bind (wpAny_mono k3 (fun x y4 k4 => wpAny_bind (wpAny_standAt (wpAny_bind (wpAny_mono k4 (fun _ y5 k5 => wpAny_pure (wpAny_pure ⟨rfl, k5⟩)) fun _ _ k => k)))) fun _ _ k => k))
/-- how the second begins -/
theorem start_inner (h0 : codeAny (model P w) A (.compLoop (.SetComp e (gen2 t0 i0 t1 i1) sc at_) 1 it S env) R z)
    (h : wpAny (model P w) A (pyIter it) (fun j y => codeAny (model P w) A (.compLoop (.SetComp e (gen2 t0 i0 t1 i1) sc at_) 1 j S env) R y) (NB P w A env R) z) :
    codeAny (model P w) A (.compStart (.SetComp e (gen2 t0 i0 t1 i1) sc at_) 1 it S env) R z := by
  refine codeAny_of_tree ?_
  show wpAny _ _ ((compStart (.SetComp e (gen2 t0 i0 t1 i1) sc at_) 1 it S env).onRaise (fun x => do noteFrame x env; standAt theWindowsPlace)) _ _ z
  refine wpAny_notedAt ?_
  unfold compStart
  show wpAny _ _ (ask >>= _) _ _ z
  refine wpAny_bind (wpAny_askSetting (wpAny_ite ?_))
  split
  · first
      | exact wpAny_bind (wpAny_pure (wpAny_pure (And.intro rfl h0)))
      | exact wpAny_pure (And.intro rfl h0)
  · first
      | exact wpAny_bind (wpAny_rule (wpAny_bind (wpAny_standAt (wpAny_bind (wpAny_mono h (fun j y k => wpAny_pure (And.intro rfl k)) fun _ _ x => x)))))
      | (refine wpAny_bind (wpAny_rule ?_); show wpAny _ _ (standAt i1.pos >>= _) _ _ z; exact wpAny_bind (wpAny_standAt (wpAny_bind (wpAny_mono h (fun j y k => wpAny_pure (And.intro rfl k)) fun _ _ x => x))))
end
section
variable {X : Cx}
/-- the set of what e is, for t1 in i1, for t0 in i0: S is new -/
def tSc2 (w : World) (wi : TI) (g : TG) (wi1 : TI) (g1 : TG) (te : TE) (vs vs1 : List Nat) : TE := fun σ H Q => wi σ H fun B H1 => ∀ S, H1 S = none → ∃ W : Nat → Nat → Hp → Prop, (∃ m, W 0 m (upd H1 S (SetTO w S []))) ∧ ∀ i m H, W i m H →
  (B.stop i H ∧ Q (.ref S) H) ∨ (B.go i H ∧ ∃ Nx : Hp → Prop, (∀ H', Nx H' → ∃ m', m' < m ∧ W (i + 1) m' H') ∧ ∀ x H', B.yld i H x H' → g x (wipe σ vs) H' fun σ2 H2 => wipe σ2 vs = wipe σ vs ∧
    wi1 σ2 H2 fun B1 H4 => ∃ V1 : Nat → Nat → Hp → Prop, (∃ m, V1 0 m H4) ∧ ∀ j k H, V1 j k H →
      (B1.stop j H ∧ Nx H) ∨ (B1.go j H ∧ ∃ Ny : Hp → Prop, (∀ H', Ny H' → ∃ k', k' < k ∧ V1 (j + 1) k' H') ∧ ∀ x H', B1.yld j H x H' → g1 x (wipe σ2 vs1) H' fun σ3 H5 => wipe σ3 vs1 = wipe σ2 vs1 ∧
        te σ3 H5 fun y H7 => ∃ (k : Str) (L : List Str), y = .str k ∧ H7 S = some (SetTO w S L) ∧ L.length + 1 < scanBound ∧ Ny (upd H7 S (SetTO w S (ins L k)))))
theorem sc2_core {pins : List (Addr × Obj)} {z : Shared} {σ : L2.St} {H : Hp} {Q : VK} {e t0 i0 t1 i1 : Expr} {sc : Scope} {mine : List (Str × Nat)} {vs1 : List Nat} {at_ at0 : Pos} {wi wi1 : TI} {g g1 : TG} {te : TE} {use : Option (Value → Sem Unit)} {Qf : Value → Shared → Prop}
    (hc : X.calm = true) (hN : X.N.Nodup) (J : Inv X pins σ H z) (hi : PI X t0 i0 wi) (ok : BlkOk X.N X.env.scope sc mine) (hv : ∀ i ∈ vs1, i ∈ mine.map (·.2))
    (hg : ∀ (s : Shared) (H : Hp) (C : Addr) (cl : List (Str × Addr)) (fp : List Addr), PG (X.blk s H sc (compEnvC sc cl C X.env) fp) t0 g)
    (he : ∀ (s : Shared) (H : Hp) (C : Addr) (cl : List (Str × Addr)) (fp : List Addr), PE (X.blk s H sc (compEnvC sc cl C X.env) fp) e te) (hs : ∀ x, foldedSetIterable i0 X.env x = pure x)
    (hi1 : ∀ (s : Shared) (H : Hp) (C : Addr) (cl : List (Str × Addr)) (fp : List Addr), PI (X.blk s H sc (compEnvC sc cl C X.env) fp) t1 i1 wi1)
    (hg1 : ∀ (s : Shared) (H : Hp) (C : Addr) (cl : List (Str × Addr)) (fp : List Addr), PG (X.blk s H sc (compEnvC sc cl C X.env) fp) t1 g1)
    (hs1 : ∀ env x, foldedSetIterable i1 env x = pure x)
    (h : tSc2 X.w wi g wi1 g1 te (mine.map (·.2)) vs1 σ H Q)
    (hRR : ∀ S C y m H', Inv X pins σ H' y → Q (.ref S) H' → y.heap.Ns C m → FpOk X pins H' C → compPost (model X.prog X.w) X.A X.xe use Qf (.ref S) C (.ok .next) y) :
    wpAny (model X.prog X.w) X.A (comprehension (.SetComp e (gen2 t0 i0 t1 i1) sc at_) sc X.env at0 (newSet (.type "set")) false (eval i0 X.env) use) Qf X.xe z := by
  have hfree : ∀ y ∈ sc.names, y.2 = .free → ∃ c, X.env.cells.lookup y.1 = some c := fun y hy e => by
    rcases ok.free y hy e with k | k
    · exact J.ok.has _ (.inl k)
    · exact J.ok.has _ (.inr k)
  refine wpAny_comprehension_free (use := use) rfl hs (closure_ok hfree) ok.kind (fun y hy e => by rw [ok.uniq y hy, e]) (thn (hi.run pins z σ H _ J h) fun xv z1 hx => thn hx fun itv z2 h2 => ?_)
  obtain ⟨it, fp, tn, B, H2, e0, J2, T, st2, f2, q⟩ := h2
  subst e0
  refine PpSet.newSet_ok (newEnv_comp ?_)
  generalize hS : z2.heap.objs.size = S
  have hSn : H2 S = none := J2.hok.fresh (Nat.le_of_eq hS)
  obtain ⟨W, ⟨m0, w0⟩, step⟩ := q S hSn
  generalize hz3 : ({ z2 with heap := z2.heap.push (emptyS X.w) } : Shared) = z3
  have J3 : Inv X pins σ (upd H2 S (SetTO X.w S [])) z3 := by
    rw [← hz3]
    refine J2.laid (t' := z2.toks) (fun b o e => Heap.get?_push_of_some _ e) (Nat.le_of_eq hS) ?_
    rw [← hS]
    exact setTO_mk (new_at (Heap.get?_push_size _ rfl))
  have k3 : z3.heap = z2.heap.push (emptyS X.w) := by rw [← hz3]
  generalize hH3 : upd H2 S (SetTO X.w S []) = H3 at J3 w0
  have f3 : ∀ b ∈ fp, FpOk X pins H3 b ∧ b < z3.heap.objs.size := fun b hb => by
    obtain ⟨o, eo, _⟩ := T.obj _ _ st2 b hb
    have hlt := Heap.lt_size eo
    refine ⟨⟨?_, (f2 b hb).2⟩, by rw [k3, Heap.size_push]; exact Nat.lt_succ_of_lt hlt⟩
    rw [← hH3, upd_ne (by rw [← hS]; exact Nat.ne_of_lt hlt)]
    exact (f2 b hb).1
  have st3 : tn 0 z3.heap := T.keep _ _ _ st2 fun b _ o e => by rw [k3]; exact Heap.get?_push_of_some _ e
  have J4 := block_start J3 ok hN f3
  generalize hcl : cellsFrom (z3.heap.objs.size + 1) sc.names (cloFrom X.env.cells sc.names []) = cl at J4
  have pg := hg z3 H3 z3.heap.objs.size cl fp
  have pe := he z3 H3 z3.heap.objs.size cl fp
  have pi1 := hi1 z3 H3 z3.heap.objs.size cl fp
  have pg1 := hg1 z3 H3 z3.heap.objs.size cl fp
  have goal : codeAny (model X.prog X.w) X.A (.compStart (.SetComp e (gen2 t0 i0 t1 i1) sc at_) 0 (.ref it) (.ref S) (compEnvC sc cl z3.heap.objs.size X.env)) (compPost (model X.prog X.w) X.A X.xe use Qf (.ref S) z3.heap.objs.size) { z3 with heap := pushCells (z3.heap.push { cls := .type "dict", data := .dict #[] }) sc.names } := by
    have nfp : ∀ b ∈ fp, H3 b = none := fun b hb => (f3 b hb).1.1
    generalize hce : compEnvC sc cl z3.heap.objs.size X.env = ce at J4 pg pe pi1 pg1 ⊢
    have cL : ce.locals = z3.heap.objs.size := by subst hce; rfl
    generalize hz4 : ({ z3 with heap := pushCells (z3.heap.push { cls := .type "dict", data := .dict #[] }) sc.names } : Shared) = z4 at J4 ⊢
    have st4 : tn 0 z4.heap := T.keep _ _ _ st3 fun b _ o e => by rw [← hz4]; exact pushCells_keeps _ _ _ _ (Heap.get?_push_of_some _ e)
    generalize hY : X.blk z3 H3 sc ce fp = Y at J4 pg pe pi1 pg1
    have yx : Y.prog = X.prog ∧ Y.w = X.w ∧ Y.A = X.A := by subst hY; exact ⟨rfl, rfl, rfl⟩
    have stat : ∀ {σ' : L2.St} {H' : Hp} {y : Shared}, Inv (X.blk z3 H3 sc ce fp) [] σ' H' y → (∀ b ∈ fp, H' b = none) → ∀ b ∈ fp, FpOk (X.blk z3 H3 sc ce fp) [] H' b := fun {σ' H' y} K hn b hb =>
      ⟨hn b hb, (K.ok.exf b hb).1, K.ok.exfs b hb, .inl hb, fun x c e => (K.ok.exf b hb).2 x c e, fun p hp => absurd (show p ∈ ([] : List (Addr × Obj)) ++ [] from hp) (by simp)⟩
    subst hY
    have loop : codeAny (model X.prog X.w) X.A (.compLoop (.SetComp e (gen2 t0 i0 t1 i1) sc at_) 0 (.ref it) (.ref S) ce) (compPost (model X.prog X.w) X.A X.xe use Qf (.ref S) z3.heap.objs.size) z4 := by
      refine loop_outer (hs1 ce) (fun n y => ∃ i H', Inv (X.blk z3 H3 sc ce fp) [] (wipe σ (mine.map (·.2))) H' y ∧ tn i y.heap ∧ (∀ b ∈ fp, H' b = none) ∧ W i n H') ?_ m0 ⟨0, H3, J4, st4, nfp, w0⟩
      rintro n z5 ⟨i, H5, J5, st5, n5, w5⟩
      rcases step i n H5 w5 with ⟨stop, qq⟩ | ⟨go, Nx, hNx, more⟩
      · have td := T.done (X.blk z3 H3 sc ce fp) rfl rfl rfl hc i [] z5 _ H5 (fun _ _ => False) J5 (stat J5 n5) st5 stop
        refine thnF td fun r z6 ⟨hr, J6⟩ => ?_
        subst hr
        have J7 : Inv X pins σ H5 z6 := J3.call' (ch := fp) J6.os J6.base J6.hok J6.bare fun b hb => ⟨(f3 b hb).1.2.2.2.1, (f3 b hb).1.2.1, (f3 b hb).1.2.2.2.2.1, (f3 b hb).1.2.2.2.2.2⟩
        have nC : H5 z3.heap.objs.size = none := by
          have y : H5 ce.locals = none := J6.free
          rw [cL] at y
          exact y
        obtain ⟨m, hn, _⟩ := J6.loc
        have hn : z6.heap.Ns ce.locals m := hn
        rw [cL] at hn
        exact hRR S z3.heap.objs.size z6 m H5 J7 qq hn (J3.fpOk (Nat.le_refl _) nC)
      · have ti := T.item (X.blk z3 H3 sc ce fp) rfl rfl rfl hc i [] z5 _ H5 (fun _ _ => False) J5 (stat J5 n5) st5 go
        refine thnF ti fun r z6 ⟨u, hr, h6⟩ => ?_
        subst hr
        refine thnF h6 fun _ z7 ⟨x, H7, J7, r7, y7, st7, n7⟩ => ?_
        have J7' := J7.pinned (stat J7 n7) (T.obj _ _ st7)
        refine thnF (pg.run _ z7 _ H7 x u _ J7' r7 (more x H7 y7)) fun _ z8 ⟨σ8, H8, J8, hw8, q8⟩ => ?_
        have hl8 : (wipe σ (mine.map (·.2))).length = σ8.length := by rw [← hw8, wipe_length]
        have hk9 : ∀ (j : Nat) v, (wipe σ (mine.map (·.2)))[j]? = some (some v) → (wipe σ8 vs1)[j]? = some (some v) := fun j v e => by
          rw [← hw8] at e
          obtain ⟨e1, e2⟩ := wipe_some e
          rw [wipe_out fun z => e2 (hv j z)]
          exact e1
        refine thnF (pi1.run _ z8 σ8 H8 _ J8 q8) fun xv z10 hx => thnF hx fun itv z11 h11 => ?_
        obtain ⟨it1, fp1, tn1, B1, H11, e1, J11, T1, st11, f11, V1, ⟨m1, w1⟩, step1⟩ := h11
        subst e1
        have stat1 : ∀ {H' : Hp}, (∀ b ∈ fp1, H' b = none) → ∀ b ∈ fp1, FpOk (X.blk z3 H3 sc ce fp) ([] ++ pinsAt fp z7.heap) H' b := fun hn b hb => ⟨hn b hb, (f11 b hb).2⟩
        have loop1 : codeAny (model X.prog X.w) X.A (.compLoop (.SetComp e (gen2 t0 i0 t1 i1) sc at_) 1 (.ref it1) (.ref S) ce)
            (fun r y => match r with
              | .ok _ => ∃ m, m < n ∧ ∃ i H', Inv (X.blk z3 H3 sc ce fp) [] (wipe σ (mine.map (·.2))) H' y ∧ tn i y.heap ∧ (∀ b ∈ fp, H' b = none) ∧ W i m H'
              | .error _ => False) z11 := by
          refine loop_inner (fun k y => ∃ j H', Inv (X.blk z3 H3 sc ce fp) ([] ++ pinsAt fp z7.heap) (wipe σ8 vs1) H' y ∧ tn1 j y.heap ∧ (∀ b ∈ fp1, H' b = none) ∧ V1 j k H') ?_ m1 ⟨0, H11, J11.weak (wipe_length _ _) (fun j v e => (wipe_some e).1), st11, fun b hb => (f11 b hb).1, w1⟩
          rintro k z12 ⟨j, H12, J12, st12, n12, w12⟩
          rcases step1 j k H12 w12 with ⟨stop1, nx1⟩ | ⟨go1, Ny, hNy, more1⟩
          · refine thnF (T1.done (X.blk z3 H3 sc ce fp) rfl rfl rfl hc j _ z12 (wipe σ8 vs1) H12 (fun _ _ => False) J12 (stat1 n12) st12 stop1) fun r z13 ⟨hr, J13⟩ => ?_
            subst hr
            obtain ⟨m', hm, w'⟩ := hNx H12 nx1
            have pin' : ∀ b ∈ fp, ∀ o, z7.heap.get? b = some o → z13.heap.get? b = some o ∧ H12 b = none := fun b hb o e =>
              let y := J13.pin (b, o) (List.mem_append_right _ (List.mem_append_right _ (mem_pinsAt hb e)))
              ⟨y.1, y.2.1⟩
            refine ⟨m', hm, i + 1, H12, (J13.unpinned (pins := [])).weak (hl8.trans (wipe_length σ8 vs1).symm) hk9, T.keep _ _ _ st7 fun b hb o e => (pin' b hb o e).1, fun b hb => ?_, w'⟩
            obtain ⟨o, eo, _⟩ := T.obj _ _ st7 b hb
            exact (pin' b hb o eo).2
          · refine thnF (T1.item (X.blk z3 H3 sc ce fp) rfl rfl rfl hc j _ z12 (wipe σ8 vs1) H12 (fun _ _ => False) J12 (stat1 n12) st12 go1) fun r z13 ⟨u1, hr, h13⟩ => ?_
            subst hr
            refine thnF h13 fun _ z14 ⟨x1, H14, J14, r14, y14, st14, n14⟩ => ?_
            have J14' := J14.pinned (stat1 n14) (T1.obj _ _ st14)
            refine thnF (pg1.run _ z14 (wipe σ8 vs1) H14 x1 u1 _ J14' r14 (more1 x1 H14 y14)) fun _ z15 ⟨σ15, H15, J15, hw15, q15⟩ => ?_
            refine thnF (pe.run _ z15 σ15 H15 _ J15 q15) fun vv z17 ⟨yv, H17, J17, r17, key, L, ey, hS17, hroom, ny⟩ => ?_
            subst ey
            obtain ⟨tk, rfl⟩ := (show ∃ t, vv = Value.str key t from r17)
            refine txt_into (X := X.blk z3 H3 sc ce fp) J17 hS17 hroom fun z18 J18 => ?_
            obtain ⟨m', hm, w'⟩ := hNy _ ny
            have pin' : ∀ b ∈ fp1, ∀ o, z14.heap.get? b = some o → z18.heap.get? b = some o ∧ (upd H17 S (SetTO X.w S (ins L key))) b = none := fun b hb o e =>
              let y := J18.pin (b, o) (List.mem_append_right _ (List.mem_append_right _ (mem_pinsAt hb e)))
              ⟨y.1, y.2.1⟩
            refine ⟨m', hm, j + 1, _, J18.unpinned.weak (by rw [← hw15, wipe_length]) (fun j v e => by rw [← hw15] at e; exact (wipe_some e).1), T1.keep _ _ _ st14 fun b hb o e => (pin' b hb o e).1, fun b hb => ?_, w'⟩
            obtain ⟨o, eo, _⟩ := T1.obj _ _ st14 b hb
            exact (pin' b hb o eo).2
        exact start_inner loop1 (T1.self X.A 0 _ _ _ st11 loop1)
    exact PpSet.codeAny_compStart_set loop (T.self X.A 0 _ _ _ st4 loop)
  exact goal
theorem pe_sc2 {e t0 i0 t1 i1 : Expr} {sc : Scope} {mine : List (Str × Nat)} {vs1 : List Nat} {at_ : Pos} {wi wi1 : TI} {g g1 : TG} {te : TE} (hc : X.calm = true) (hN : X.N.Nodup) (hi : PI X t0 i0 wi) (ok : BlkOk X.N X.env.scope sc mine) (hv : ∀ i ∈ vs1, i ∈ mine.map (·.2))
    (hg : ∀ (s : Shared) (H : Hp) (C : Addr) (cl : List (Str × Addr)) (fp : List Addr), PG (X.blk s H sc (compEnvC sc cl C X.env) fp) t0 g)
    (hi1 : ∀ (s : Shared) (H : Hp) (C : Addr) (cl : List (Str × Addr)) (fp : List Addr), PI (X.blk s H sc (compEnvC sc cl C X.env) fp) t1 i1 wi1)
    (hg1 : ∀ (s : Shared) (H : Hp) (C : Addr) (cl : List (Str × Addr)) (fp : List Addr), PG (X.blk s H sc (compEnvC sc cl C X.env) fp) t1 g1)
    (he : ∀ (s : Shared) (H : Hp) (C : Addr) (cl : List (Str × Addr)) (fp : List Addr), PE (X.blk s H sc (compEnvC sc cl C X.env) fp) e te) (hs : ∀ x, foldedSetIterable i0 X.env x = pure x := by intro _; rfl) (hs1 : ∀ env x, foldedSetIterable i1 env x = pure x := by intro _ _; rfl) :
    PE X (.SetComp e [⟨t0, i0, [], 0⟩, ⟨t1, i1, [], 0⟩] sc at_) (tSc2 X.w wi g wi1 g1 te (mine.map (·.2)) vs1) := by
  refine ⟨fun pins z σ H Q J h => ?_⟩
  rw [PpSet.eval_SetComp]
  refine sc2_core hc hN J hi ok hv hg he hs hi1 hg1 hs1 h fun S C y m H' J' q hn f => ⟨m, hn, fun h'' sb => ?_⟩
  obtain ⟨f0, f1, f2, f3, f4, f5⟩ := f
  exact ⟨.ref S, H', J'.turned (t' := y.toks) (fun b o hb e => (sb.2 b hb).trans e) f0 f1 f3 f4 f5, rfl, q⟩
end
end TxSet
set_option Elab.async false
set_option linter.all false
set_option maxRecDepth 100000
set_option maxHeartbeats 2000000
namespace K02
open PySem L2 PyProof.Rows
def top (i : Nat) : Stmt := PySem.Challenge.pw_partedvalues_k59_programs_equal.main.body.getD i (.Pass ⟨0, 0, 0, 0⟩)
abbrev sFresh : Stmt := top 1
abbrev sEntries : Stmt := top 11
abbrev sWithin : Stmt := top 12
abbrev sNamesOf : Stmt := top 13
abbrev sPoS : Stmt := top 14
abbrev sNoS : Stmt := top 15
abbrev sFilled : Stmt := top 22
abbrev sCkName : Stmt := top 23
abbrev sCkOpt : Stmt := top 24
abbrev sCkTerm : Stmt := top 25
abbrev sCkDef : Stmt := top 26
abbrev sCkPart : Stmt := top 27
abbrev sCkRow : Stmt := top 28
abbrev sCkRec : Stmt := top 29
abbrev sCkStep : Stmt := top 30
abbrev sCkRules : Stmt := top 31
abbrev sPat2 : Stmt := top 33
abbrev sPattern : Stmt := top 34
abbrev sPurse : Stmt := top 36
abbrev sCoin : Stmt := top 37
abbrev sMark : Stmt := top 38
abbrev sCopied : Stmt := top 39
abbrev sSame : Stmt := top 40
abbrev sSize : Stmt := top 41
abbrev sNrName : Stmt := top 42
abbrev sNrTerm : Stmt := top 43
abbrev sNrTak : Stmt := top 44
abbrev sNear : Stmt := top 45
abbrev sTerm : Stmt := top 46
abbrev sPart : Stmt := top 47
abbrev sStems : Stmt := top 48
abbrev sPlan : Stmt := top 49
abbrev sTpParts : Stmt := top 50
abbrev sMade : Stmt := top 51
abbrev sNrStep : Stmt := top 52
abbrev sRival : Stmt := top 53
abbrev sRight : Stmt := top 54
abbrev sLaw : Stmt := top 55
/-! ### heaps -/
/-- what was tracked stands, but at p -/
def But (p : Addr) (H H' : Hp) : Prop := ∀ b o, b ≠ p → H b = some o → H' b = some o
theorem But.refl (p : Addr) (H : Hp) : But p H H := fun _ _ _ h => h
theorem But.trans {p : Addr} {H H1 H2 : Hp} (a : But p H H1) (b : But p H1 H2) : But p H H2 := fun c o n h => b c o n (a c o n h)
theorem But.of {p : Addr} {H H' : Hp} (s : Same H H') : But p H H' := fun c o _ h => s c o h
theorem But.upd {p : Addr} {H : Hp} {o : HO} : But p H (upd H p o) := fun c o n h => by
  rw [upd_ne n]
  exact h
theorem But.new {p q : Addr} {H : Hp} {o : HO} (h : H q = none) : But p H (L2.upd H q o) := fun c u _ e => by
  rw [upd_ne (ne_of_none e h)]
  exact e
theorem same_new {H : Hp} {p : Addr} (h : H p = none) (o : HO) : Same H (upd H p o) := fun b u q => by
  rw [upd_ne (ne_of_none q h)]
  exact q
/-- a purse: three numbers, the last one the number of draws -/
def Purse (H : Hp) (p : Addr) (n : Nat) : Prop := ∃ a b c : Int, H p = some (.lst [.int a, .int b, .int c]) ∧ 0 ≤ b ∧ b < 10 ^ 25 ∧ 0 ≤ c ∧ c ≤ (n : Int)
theorem Purse.mono {H : Hp} {p : Addr} {m n : Nat} (h : Purse H p m) (hm : m ≤ n) : Purse H p n := by
  obtain ⟨a, b, c, e, h1, h2, h3, h4⟩ := h
  exact ⟨a, b, c, e, h1, h2, h3, by omega⟩
theorem Purse.same {H H' : Hp} {p : Addr} {n : Nat} (h : Purse H p n) (s : Same H H') : Purse H' p n := by
  obtain ⟨a, b, c, e, r⟩ := h
  exact ⟨a, b, c, s _ _ e, r⟩
theorem Purse.some {H : Hp} {p : Addr} {n : Nat} (h : Purse H p n) : ∃ o, H p = some o := by
  obtain ⟨a, b, c, e, r⟩ := h
  exact ⟨_, e⟩
/-- free behind But is free before (away from p) -/
theorem But.free {p q : Addr} {H H' : Hp} {o : HO} (s : But p H H') (hp : H p = some o) (hp' : ∃ o', H' p = some o') (h : H' q = none) : H q = none := by
  cases e : H q with
  | none => rfl
  | some u =>
    by_cases hq : q = p
    · obtain ⟨o', ho'⟩ := hp'
      rw [hq, ho'] at h
      cases h
    · rw [s q u hq e] at h
      cases h

theorem at3_0 {x y z : V} : atI [x, y, z] 0 = some x := atI_nat (j := 0) rfl
theorem at3_1 {x y z : V} : atI [x, y, z] 1 = some y := atI_nat (j := 1) rfl
theorem at3_2 {x y z : V} : atI [x, y, z] 2 = some z := atI_nat (j := 2) rfl
theorem pos_nat {a b : Int} {n : Nat} (h0 : 0 ≤ a) (h : a < b) (hb : b.toNat ≤ n) : a.natAbs < n := by omega
/-! ### the promises -/
def spPurse (K : PySem.W.Frag) : Sp := fun vs H Q _ => ∃ (a : Addr) (ns : List Int) (i : Nat), vs = [.ref a, .int (i : Int)] ∧ SqL K H a (ns.map V.int) ∧ ns.length ≤ 63 ∧ i ≤ 100 ∧
  ∀ p H', H p = none → Same H H' → Purse H' p 0 → Q (.ref p) H'
def spCoin : Sp := fun vs H Q _ => ∃ (p : Addr) (m : Int) (n : Nat), vs = [.ref p, .int m] ∧ Purse H p n ∧ n < 10 ^ 60 ∧ 0 < m ∧ m ≤ 10 ^ 12 ∧
  ∀ d H', 0 ≤ d → d < m → But p H H' → Purse H' p (n + 1) → Q (.int d) H'
structure Txt (K : PySem.W.Frag) (mg : Str → Option Value) : Prop where
  len : mg "len" = none
  max : mg "max" = none
  min : mg "min" = none
  abs : mg "abs" = none
  int : mg "int" = none
  range : mg "range" = none
  set : mg "set" = none
  list : mg "list" = none
  tuple : mg "tuple" = none
  all : mg "all" = none
  repr : mg "repr" = none
  isi : mg "isinstance" = none
section
variable {P : Program} {w : World} {K : PySem.W.Frag} {mg : Str → Option Value} {base : Heap}
theorem scP : FnScope ["script", "place", "cell"] ["script", "place"] (defScope sPurse) := ⟨rfl, rfl, rfl, by decide +kernel, rfl, by decide +kernel, by decide +kernel⟩
theorem ok_purse {f : Addr} {fd : FuncData} (F : Fun K "_law_purse" "_law_purse" sPurse f fd) (T : Txt K mg) : FnOk P w K mg base CX0 1 f fd ["script", "place"] (spPurse K) := by
  refine F.ok scP (fun vs H Q E h => ?_) (fun cdv A outer s H vs Q E hr h => ?_)
  · obtain ⟨a, ns, i, rfl, _⟩ := h
    rfl
  obtain ⟨a, ns, i, rfl, hS, hl, hi, k⟩ := h
  refine ⟨_, Evl.pss_cut (ps_set (i := 2) scP.nd rfl (Or.inl rfl) (pe_ifExp (pt_cmpR op_lt (pv 1) (pe_callB call_len_seq (by rfl) T.len PySem.boot_len (pa_cons (pv 0) pa_nil)) (nomark _)) (pe_ix ix_list (pv 0) (pv 1) (fun _ _ => rfl)) pe_int))
    (pss_one (ps_ret (pe_lst (pa_cons (pe_callB (call_max2 rfl) (by rfl) T.max boot_max (pa_cons pe_int (pa_cons (pe_op op_sub (pe_callB call_abs (by rfl) T.abs boot_abs (pa_cons (pv 2) pa_nil)) (pe_op op_pow pe_int pe_int)) pa_nil)))
      (pa_cons (pe_op op_mod (pe_callTy call_int1 (by rfl) T.int boot_int (pa_cons (pe_op op_add (pe_op op_add (pe_op op_mul (pv 2) pe_int) (pe_op op_mul (pv 1) pe_int)) pe_int) pa_nil)) (pe_op op_add (pe_op op_pow pe_int pe_int) pe_int))
      (pa_cons pe_int pa_nil)))))), ?_⟩
  refine ⟨fun σ' H' => H' = H ∧ ∃ c : Int, σ' = [some (.ref a), some (.int (i : Int)), some (.int c)], ?_, ?_⟩
  · refine ⟨_, rfl, _, rfl, a, _, rfl, .inl hS, _, _, rfl, rfl, _, rfl, ?_⟩
    refine ite2 (fun c => ?_) (fun c => ⟨rfl, 0, rfl⟩)
    have c' : (i : Int) < (((ns.map V.int).length : Nat) : Int) := of_decide_eq_true c
    rw [List.length_map] at c'
    have hi' : i < ns.length := by omega
    refine ⟨_, rfl, _, rfl, a, _, _, _, rfl, rfl, hS, atI_nat (v := .int ns[i]) (by rw [List.getElem?_map, List.getElem?_eq_getElem hi']; rfl), ?_⟩
    exact ⟨rfl, _, rfl⟩
  · rintro σ' H' ⟨rfl, c, rfl⟩
    refine ⟨_, rfl, _, rfl, _, _, rfl, rfl, ⟨by decide, by decide, by decide⟩, _, _, rfl, rfl, _, _, rfl, ?_⟩
    refine ⟨_, rfl, _, _, rfl, rfl, .inr ⟨by decide, by decide⟩, _, rfl, _, _, rfl, rfl, .inr ⟨by decide, by decide⟩, _, _, rfl, rfl, _, _, rfl, rfl, .inl ⟨_, rfl, ?_⟩⟩
    refine ⟨_, _, rfl, rfl, ⟨by decide, by decide, by decide⟩, _, _, rfl, rfl, _, _, rfl, rfl, (by show (0 : Int) < 10 ^ (24 : Nat) + 7; decide), ?_⟩
    refine ⟨(by show 3 ≤ sizeLine; decide), fun p hp => ?_⟩
    refine k p _ hp (same_new hp _) ⟨_, _, _, upd_same, ?_, ?_, Int.le_refl 0, Int.le_refl 0⟩
    · exact Int.emod_nonneg _ (by show (10 ^ (24 : Nat) + 7 : Int) ≠ 0; decide)
    · refine Int.lt_trans (Int.emod_lt_of_pos _ (by show (0 : Int) < 10 ^ (24 : Nat) + 7; decide)) ?_
      show (10 ^ (24 : Nat) + 7 : Int) < 10 ^ 25
      decide
theorem scC : FnScope ["purse", "many", "drawn", "stirred"] ["purse", "many"] (defScope sCoin) := ⟨rfl, rfl, rfl, by decide +kernel, rfl, by decide +kernel, by decide +kernel⟩
theorem ok_coin {f : Addr} {fd : FuncData} (F : Fun K "_law_coin" "_law_coin" sCoin f fd) (T : Txt K mg) : FnOk P w K mg base CX0 1 f fd ["purse", "many"] spCoin := by
  refine F.ok scC (fun vs H Q E h => ?_) (fun cdv A outer s H vs Q E hr h => ?_)
  · obtain ⟨p, m, n, rfl, _⟩ := h
    rfl
  obtain ⟨p, m, n, rfl, ⟨a, b, c, hp, hb0, hb1, hc0, hc1⟩, hn, hm0, hm1, k⟩ := h
  refine ⟨_, pss_cons (ps_if (pt_cmpR op_gt (pe_ix ix_list (pv 0) pe_int (fun _ _ => rfl)) pe_int (nomark _))
      (pss_cons (ps_set (i := 2) scC.nd rfl (Or.inl rfl) (pe_op op_mod (pe_callTy call_int1 (by rfl) T.int boot_int (pa_cons (pe_ix ix_list (pv 0) pe_int (fun _ _ => rfl)) pa_nil)) (pv 1)))
      (pss_cons (ps_asg (pe_op op_fdivW (pe_ix ix_list (pv 0) pe_int (fun _ _ => rfl)) (pv 1)) (pg_sub (pv 0) pe_int set_list))
      (pss_one (ps_ret (pv 2))))) pss_nil)
    (pss_cons (ps_asg (pe_op op_add (pe_ix ix_list (pv 0) pe_int (fun _ _ => rfl)) pe_int) (pg_sub (pv 0) pe_int set_list))
    (pss_cons (ps_set (i := 3) scC.nd rfl (Or.inl rfl) (pe_op op_mod (pe_op op_powW (pe_callTy call_int1 (by rfl) T.int boot_int (pa_cons (pe_op op_add (pe_ix ix_list (pv 0) pe_int (fun _ _ => rfl)) (pe_op op_mul pe_int (pe_ix ix_list (pv 0) pe_int (fun _ _ => rfl)))) pa_nil)) pe_int) (pe_op op_add (pe_op op_pow pe_int pe_int) pe_int)))
    (pss_cons (ps_set (i := 3) scC.nd rfl (Or.inl rfl) (pe_op op_mod (pe_op op_powW (pe_callTy call_int1 (by rfl) T.int boot_int (pa_cons (pe_op op_add (pv 3) (pe_op op_mul pe_int (pe_ix ix_list (pv 0) pe_int (fun _ _ => rfl)))) pa_nil)) pe_int) (pe_op op_add (pe_op op_pow pe_int pe_int) pe_int)))
    (pss_one (ps_ret (pe_op op_mod (pe_callTy call_int1 (by rfl) T.int boot_int (pa_cons (pe_op op_fdivW (pv 3) pe_int) pa_nil)) (pv 1))))))), ?_⟩
  refine ⟨_, rfl, p, _, _, _, rfl, rfl, SqL.of hp, at3_0, _, _, rfl, rfl, _, rfl, ?_⟩
  have m2 : m.natAbs < 2 ^ 50 := Nat.lt_of_le_of_lt (show m.natAbs ≤ 10 ^ 12 by omega) (by decide)
  refine ite2 (fun h1 => ?_) (fun h1 => ?_)
  · refine ⟨_, rfl, p, _, _, _, rfl, rfl, SqL.of hp, at3_0, .inl ⟨_, rfl, _, rfl, _, _, rfl, rfl, hm0, ?_⟩⟩
    refine ⟨_, rfl, p, _, _, _, rfl, rfl, SqL.of hp, at3_0, _, rfl, _, _, rfl, rfl, wide_div hm0 m2 (by decide) (by decide), ?_⟩
    refine ⟨_, rfl, p, _, _, 0, rfl, rfl, hp, rfl, ?_⟩
    refine ⟨_, rfl, k _ _ (Int.emod_nonneg _ (by omega)) (Int.emod_lt_of_pos _ hm0) But.upd ⟨_, _, _, upd_same, hb0, hb1, hc0, by omega⟩⟩
  · have c1 : c + 1 ≤ 10 ^ 60 := by omega
    refine ⟨_, rfl, p, _, _, _, rfl, rfl, SqL.of hp, at3_2, _, _, rfl, rfl, ?_⟩
    refine ⟨_, rfl, p, _, _, 2, rfl, rfl, hp, rfl, ?_⟩
    have hp1 : (upd H p (.lst [.int a, .int b, .int (c + 1)])) p = some (.lst [.int a, .int b, .int (c + 1)]) := upd_same
    refine ⟨_, rfl, p, _, _, _, rfl, rfl, SqL.of hp1, at3_1, _, rfl, p, _, _, _, rfl, rfl, SqL.of hp1, at3_2, ?_⟩
    refine ⟨_, _, rfl, rfl, .inl ⟨by decide, by decide⟩, _, _, rfl, rfl, .inl ⟨_, rfl, _, _, rfl, rfl, ⟨by decide, by decide, ?_⟩, ?_⟩⟩
    · exact Nat.lt_of_lt_of_le (pos_nat (b := 10 ^ 25 + 2038074743 * 10 ^ 60 + 1) (n := 2 ^ 300) (by omega) (by omega) (by decide)) (Nat.pow_le_pow_right (by decide) (by decide))
    refine ⟨_, _, rfl, rfl, ⟨by decide, by decide, by decide⟩, _, _, rfl, rfl, _, _, rfl, rfl, (by show (0 : Int) < 10 ^ (25 : Nat) + 13; decide), ?_⟩
    generalize hd : (b + 2038074743 * (c + 1)) ^ (3 : Int).toNat % (10 ^ (25 : Int).toNat + 13) = d
    have d0 : 0 ≤ d := by
      rw [← hd]
      exact Int.emod_nonneg _ (by decide)
    have d1 : d < 10 ^ 26 := by
      rw [← hd]
      exact Int.lt_trans (Int.emod_lt_of_pos _ (by decide)) (by decide)
    refine ⟨_, rfl, _, rfl, p, _, _, _, rfl, rfl, SqL.of hp1, at3_2, ?_⟩
    refine ⟨_, _, rfl, rfl, .inl ⟨by decide, by decide⟩, _, _, rfl, rfl, .inl ⟨_, rfl, _, _, rfl, rfl, ⟨by decide, by decide, ?_⟩, ?_⟩⟩
    · exact Nat.lt_of_lt_of_le (pos_nat (b := 10 ^ 26 + 982451653 * 10 ^ 60 + 1) (n := 2 ^ 300) (by omega) (by omega) (by decide)) (Nat.pow_le_pow_right (by decide) (by decide))
    refine ⟨_, _, rfl, rfl, ⟨by decide, by decide, by decide⟩, _, _, rfl, rfl, _, _, rfl, rfl, (by show (0 : Int) < 10 ^ (24 : Nat) + 7; decide), ?_⟩
    refine ⟨_, rfl, _, _, rfl, rfl, wide_div (b := 11) (by decide) (by decide) (by decide) (by decide), .inl ⟨_, rfl, _, rfl, _, _, rfl, rfl, hm0, ?_⟩⟩
    exact k _ _ (Int.emod_nonneg _ (by omega)) (Int.emod_lt_of_pos _ hm0) But.upd ⟨_, _, _, upd_same, hb0, hb1, by omega, by omega⟩
end
end K02
set_option Elab.async false
set_option linter.all false
set_option maxRecDepth 100000
set_option maxHeartbeats 4000000
namespace K02
open PySem L2 PyProof.Rows
abbrev nW : List Str := ["purse", "many", "letters", "sort_here", "menu", "stem", "start", "rank", "found", "size", "base", "word", "tail", "at", "turn"]
/-- what stands around: the purse drawn from c times at most, all else kept, a list of texts apart -/
def Around1 (H : Hp) (p : Addr) (c : Nat) (H' : Hp) : Prop := But p H H' ∧ Purse H' p c
theorem Around1.same {H H1 H2 : Hp} {p : Addr} {c : Nat} (h : Around1 H p c H1) (s : Same H1 H2) : Around1 H p c H2 := ⟨h.1.trans (.of s), h.2.same s⟩
theorem Around1.mono {H H1 : Hp} {p : Addr} {c d : Nat} (h : Around1 H p c H1) (hd : c ≤ d) : Around1 H p d H1 := ⟨h.1, h.2.mono hd⟩
theorem Around1.draw {H H1 H2 : Hp} {p : Addr} {c : Nat} (h : Around1 H p c H1) (b : But p H1 H2) (q : Purse H2 p (c + 1)) : Around1 H p (c + 1) H2 := ⟨h.1.trans b, q⟩
theorem Around1.new {H H1 : Hp} {p a : Addr} {c : Nat} {o : HO} (h : Around1 H p c H1) (ha : H1 a = none) : Around1 H p c (upd H1 a o) := h.same (same_new ha o)
theorem Around1.trans {H H1 H2 : Hp} {p : Addr} {c d : Nat} (h : Around1 H p c H1) (k : Around1 H1 p d H2) : Around1 H p d H2 := ⟨h.1.trans k.1, k.2⟩
/-- an object that is not the purse may change -/
theorem Around1.put {H H1 : Hp} {p a : Addr} {c : Nat} {o : HO} (h : Around1 H p c H1) (ha : H a = none) (hp : a ≠ p) : Around1 H p c (upd H1 a o) := by
  refine ⟨fun b u n e => ?_, ?_⟩
  · rw [upd_ne (ne_of_none e ha)]
    exact h.1 b u n e
  · obtain ⟨x, y, z, e, r⟩ := h.2
    exact ⟨x, y, z, by rw [upd_ne hp.symm]; exact e, r⟩
theorem Around1.free {H H1 : Hp} {p a : Addr} {c n : Nat} (h : Around1 H p c H1) (h0 : Purse H p n) (ha : H1 a = none) : H a = none := by
  obtain ⟨o, e⟩ := h0.some
  exact h.1.free e h.2.some ha
theorem Purse.ne {H : Hp} {p a : Addr} {n : Nat} (h : Purse H p n) (ha : H a = none) : a ≠ p := fun e => by
  obtain ⟨o, q⟩ := h.some
  rw [e, q] at ha
  cases ha
/-- small letters alone -/
def ls (z : Str) : Prop := ∀ c ∈ z.cps.toList, 97 ≤ c ∧ c ≤ 122
/-- a name: one to eight small letters -/
def okName (z : Str) : Prop := 1 ≤ z.length ∧ z.length ≤ 8 ∧ ls z
def spWords : Sp := fun vs H Q _ => ∃ (p : Addr) (m n : Nat), vs = [.ref p, .int (m : Int)] ∧ 1 ≤ m ∧ m ≤ 26 ∧ Purse H p n ∧ n + 400 < 10 ^ 60 ∧
  ∀ (r : Addr) (zs : List Str) H', Around1 H p (n + 400) H' → H r = none → H' r = some (.lst (zs.map V.str)) → zs.length = m → zs.Nodup → (∀ z ∈ zs, okName z) → Q (.ref r) H'
abbrev LT : Str := Str.ofString "abcdefghijklmnopqrstuvwxyz"
def menuT : List Str := ["soon", "late", "absent", "nothing", "name", "any", "row", "record", "a", "b", "f", "read", "call", "known"].map Str.ofString
theorem menu_small : ∀ z ∈ menuT, z.length ≤ 8 := by decide +kernel
theorem at_ofN {α : Type} {xs : List α} {z : Int} {j : Nat} {v : α} (e : z = (j : Int)) (h : xs[j]? = some v) : atI xs z = some v := by
  rw [e]
  exact atI_nat h
theorem sum_ones : ∀ {ys : List Str}, (∀ y ∈ ys, y.length = 1) → (ys.map (·.length)).sum = ys.length
  | [], _ => rfl
  | y :: ys, h => by
    rw [List.map_cons, List.sum_cons, sum_ones fun z hz => h z (List.mem_cons_of_mem _ hz), h y List.mem_cons_self, List.length_cons]
    exact Nat.add_comm _ _
theorem join_room {ys : List Str} (h : ∀ y ∈ ys, y.length = 1) (hl : ys.length ≤ 1000) : (ys.map (·.length)).sum + ys.length * (Str.ofString "").length ≤ 16777216 := by
  rw [sum_ones h, show (Str.ofString "").length = 0 by decide]
  omega
theorem lt_all : ∀ r, r < 26 → LT.cps.toList[r]? = some (97 + r) := by decide +kernel
theorem lt_at {d : Int} (h0 : 0 ≤ d) (h1 : d < 26) : atI LT.cps.toList d = some (97 + d.toNat) := at_ofN (show d = ((d.toNat : Nat) : Int) by omega) (lt_all d.toNat (by omega))
theorem ls_one {r : Nat} (h : r < 26) : ls ⟨#[97 + r]⟩ := fun c hc => by
  have e : c = 97 + r := by simpa using hc
  omega
theorem ls_app {x y : Str} (hx : ls x) (hy : ls y) : ls (x ++ y) := fun c hc => by
  have e : (x ++ y).cps.toList = x.cps.toList ++ y.cps.toList := Array.toList_append
  rw [e] at hc
  rcases List.mem_append.mp hc with h | h
  · exact hx c h
  · exact hy c h
theorem ls_cut {z : Str} (h : ls z) (lo hi : Option Int) : ls (cutS z lo hi) := fun c hc => by
  have hc' : c ∈ ((z.cps.toList.drop (HT.sIx z.length 0 lo)).take (HT.sIx z.length z.length hi - HT.sIx z.length 0 lo)).toArray.toList := hc
  rw [List.toList_toArray] at hc'
  exact h c (List.mem_of_mem_drop (List.mem_of_mem_take hc'))
theorem ls_join : ∀ {ys : List Str}, (∀ y ∈ ys, ls y) → ls (Str.join (Str.ofString "") ys)
  | [], _ => fun c hc => by
    have e : (Str.join (Str.ofString "") []).cps.toList = [] := rfl
    rw [e] at hc
    cases hc
  | [x], h => h x List.mem_cons_self
  | x :: y :: r, h => by
    have e0 : ls (Str.ofString "") := fun c hc => by
      have e : (Str.ofString "").cps.toList = [] := by decide +kernel
      rw [e] at hc
      cases hc
    show ls (x ++ Str.ofString "" ++ Str.join (Str.ofString "") (y :: r))
    exact ls_app (ls_app (h x List.mem_cons_self) e0) (ls_join fun z hz => h z (List.mem_cons_of_mem _ hz))
theorem ls_joinT {ys : List Str} (h : ∀ y ∈ ys, ls y) : ls (Txt.join (Str.ofString "") ys) := by
  have e : Txt.join (Str.ofString "") ys = Str.join (Str.ofString "") ys := StrLaws.glued_eq_join _ _
  rw [e]
  exact ls_join h
theorem cut_pre {z : Str} {k : Int} {n : Nat} (e : k = (n : Int)) : (cutS z none (some k)).length = min n z.length ∧ (cutS z none (some k)).cps.toList = z.cps.toList.take n := by
  subst e
  have e1 : (cutS z none (some (n : Int))).cps.toList = z.cps.toList.take n := by
    show ((z.cps.toList.drop (HT.sIx z.length 0 none)).take (HT.sIx z.length z.length (some (n : Int)) - HT.sIx z.length 0 none)).toArray.toList = _
    rw [HT.sIx_none, HT.sIx_nat, List.drop_zero, Nat.sub_zero, List.toList_toArray]
    rcases Nat.le_total n z.length with h | h
    · rw [Nat.min_eq_left h]
    · rw [Nat.min_eq_right h]
      have hz : z.length = z.cps.toList.length := rfl
      rw [List.take_of_length_le (by rw [hz]; exact Nat.le_refl _), List.take_of_length_le (by rw [← hz]; exact h)]
  refine ⟨?_, e1⟩
  show (cutS z none (some (n : Int))).cps.toList.length = _
  rw [e1, List.length_take]
  rfl
theorem cut_post {z : Str} {k : Int} {n : Nat} (e : k = (n : Int)) (hn : n ≤ z.length) : (cutS z (some k) none).cps.toList = z.cps.toList.drop n := by
  subst e
  show ((z.cps.toList.drop (HT.sIx z.length 0 (some (n : Int)))).take (HT.sIx z.length z.length none - HT.sIx z.length 0 (some (n : Int)))).toArray.toList = _
  rw [HT.sIx_none, HT.sIx_nat, List.toList_toArray, Nat.min_eq_left hn]
  refine List.take_of_length_le ?_
  rw [List.length_drop]
  exact Nat.le_refl _
theorem nodup_map {f : Nat → Str} {m : Nat} (h : ∀ i j, i < m → j < m → f i = f j → i = j) : ((List.range m).map f).Nodup := by
  rw [List.nodup_iff_pairwise_ne, List.pairwise_map]
  refine List.Pairwise.imp_of_mem (fun {a b} ha hb hab e => ?_) (List.nodup_iff_pairwise_ne.mp (List.nodup_range (n := m)))
  exact hab (h a b (List.mem_range.mp ha) (List.mem_range.mp hb) e)
theorem more_map {H : Hp} {D : Addr} {f : Nat → Str} {i : Nat} {y : V} (e : y = .str (f i)) : (upd H D (.lst (((List.range i).map f).map V.str ++ [y]))) D = some (.lst (((List.range (i + 1)).map f).map V.str)) := by
  rw [upd_same, e, List.range_succ, List.map_append, List.map_append]
  rfl
theorem room_map {f : Nat → Str} {i : Nat} (h : i ≤ 1000) : (((List.range i).map f).map V.str).length < sizeLine := by
  rw [List.length_map, List.length_map, List.length_range]
  exact Nat.lt_of_le_of_lt h (by decide)
theorem menu_ok : ∀ z ∈ menuT, 1 ≤ z.length ∧ z.length ≤ 8 ∧ z.cps.toList.all (fun c => decide (97 ≤ c ∧ c ≤ 122)) = true := by decide +kernel
theorem menu_name {z : Str} (h : z ∈ menuT) : okName z := by
  obtain ⟨h1, h2, h3⟩ := menu_ok z h
  exact ⟨h1, h2, fun c hc => of_decide_eq_true (List.all_eq_true.mp h3 c hc)⟩
theorem menu_inj : ∀ i, i < 14 → ∀ j, j < 14 → menuT.getD i Str.empty = menuT.getD j Str.empty → i = j := by decide +kernel
theorem menu_at {d : Int} (h0 : 0 ≤ d) (h1 : d < 14) : atI (menuT.map V.str) d = some (.str (menuT.getD d.toNat Str.empty)) ∧ menuT.getD d.toNat Str.empty ∈ menuT := by
  have hl : menuT.length = 14 := rfl
  have hd : d.toNat < menuT.length := by omega
  have e : menuT.getD d.toNat Str.empty = menuT[d.toNat] := by
    rw [List.getD_eq_getElem?_getD, List.getElem?_eq_getElem hd]
    rfl
  refine ⟨at_ofN (show d = ((d.toNat : Nat) : Int) by omega) ?_, by rw [e]; exact List.getElem_mem hd⟩
  rw [List.getElem?_map, List.getElem?_eq_getElem hd, e]
  rfl
theorem same_put {H H' : Hp} {a : Addr} {o : HO} (s : Same H H') (ha : H a = none) : Same H (upd H' a o) := fun b u e => by
  rw [upd_ne (ne_of_none e ha)]
  exact s b u e
/-- one more text behind a list of texts -/
theorem more_str {H : Hp} {D : Addr} {ys : List Str} {z : Str} : (upd H D (.lst (ys.map V.str ++ [.str z]))) D = some (.lst ((ys ++ [z]).map V.str)) := by
  rw [upd_same, List.map_append]
  rfl
theorem all_more {ys : List Str} {z : Str} {n : Nat} (h : ∀ y ∈ ys, y.length ≤ n) (hz : z.length ≤ n) : ∀ y ∈ ys ++ [z], y.length ≤ n := fun y hy => by
  rcases List.mem_append.mp hy with hy | hy
  · exact h y hy
  · rw [List.mem_singleton.mp hy]
    exact hz
theorem len_more {ys : List Str} {z : Str} {i : Nat} (h : ys.length = i) : (ys ++ [z]).length = i + 1 := by
  rw [List.length_append, h]
  rfl
theorem room_more {ys : List Str} {n : Nat} (h : ys.length ≤ n) (hn : n ≤ 1000) : (ys.map V.str).length < sizeLine := by
  rw [List.length_map]
  exact Nat.lt_of_lt_of_le (show ys.length < 1001 by omega) (by decide)
theorem only_one {ys : List Str} (h : ys.length = 1) : ∃ z, ys = [z] := by
  match ys, h with
  | [z], _ => exact ⟨z, rfl⟩
theorem two_at {x y : Str} {d : Int} {n : Nat} (h0 : 0 ≤ d) (h1 : d < 2) (hx : x.length ≤ n) (hy : y.length ≤ n) : ∃ z : Str, atI [V.str x, V.str y] d = some (.str z) ∧ z.length ≤ n := by
  have e : d = ((0 : Nat) : Int) ∨ d = ((1 : Nat) : Int) := by omega
  rcases e with e | e
  · exact ⟨x, at_ofN e rfl, hx⟩
  · exact ⟨y, at_ofN e rfl, hy⟩
theorem cut_one (ys : List Str) : cutV (ys.map V.str) none (some 1) = (ys.take 1).map V.str := by
  have e : cutV (ys.map V.str) none (some ((1 : Nat) : Int)) = (ys.take 1).map V.str := by
    unfold cutV
    rw [HT.sIx_none, HT.sIx_nat, List.drop_zero, Nat.sub_zero, List.map_take]
    cases ys with
    | nil => rfl
    | cons y r => rfl
  exact e
theorem cut_many (ys : List Str) (m : Nat) : cutV (ys.map V.str) none (some (m : Int)) = (ys.take m).map V.str := by
  unfold cutV
  rw [HT.sIx_none, HT.sIx_nat, List.drop_zero, Nat.sub_zero, List.map_take]
  rcases Nat.le_total m (ys.map V.str).length with h | h
  · rw [Nat.min_eq_left h]
  · rw [Nat.min_eq_right h, List.take_of_length_le (Nat.le_refl _), List.take_of_length_le h]
theorem small100 {n : Nat} (h : n ≤ 1000) : n ≤ sizeLine := Nat.le_trans h (by decide)
theorem lst_ne {xs ys : List V} (h : xs ≠ ys) : HO.lst xs ≠ HO.lst ys := fun e => h (HO.lst.inj e)
/-- [letters[_law_coin(purse, 26)] for turn in range(m)], the loop alone -/
theorem letters_go {σ : L2.St} {H0 H : Hp} {p D : Addr} {c m : Nat} {Qd : Hp → Prop} (h0 : ∀ v, ((wipe σ [14]).set 14 (some v))[0]? = some (some (.ref p))) (h2 : ∀ v, ((wipe σ [14]).set 14 (some v))[2]? = some (some (.str LT)))
    (hw : ∀ v, wipe ((wipe σ [14]).set 14 (some v)) [14] = wipe σ [14]) (hA : Around1 H0 p c H) (hc : c + m < 10 ^ 60) (hm : m ≤ 1000) (hD : H D = none)
    (hd : ∀ (ys : List Str) H', Around1 H p (c + m) H' → H' D = some (.lst (ys.map V.str)) → ys.length = m → (∀ y ∈ ys, y.length = 1) → (∀ y ∈ ys, ls y) → Qd H') :
    ∃ W : Nat → Nat → Hp → Prop, (∃ m, W 0 m (upd H D (.lst []))) ∧ ∀ i k H1, W i k H1 →
      ((Itr 0 m).stop i H1 ∧ Qd H1) ∨ ((Itr 0 m).go i H1 ∧ ∃ Nx : Hp → Prop, (∀ H', Nx H' → ∃ m', m' < k ∧ W (i + 1) m' H') ∧ ∀ x H', (Itr 0 m).yld i H1 x H' → gName 14 x (wipe σ [14]) H' fun σ2 H2 => wipe σ2 [14] = wipe σ [14] ∧ tYes σ2 H2 fun b H3 =>
        if b = true then tOp rIxS (tVar 2) (tCall spCoin [] E0 (tCons (tVar 0) (tCons (tC (.int 26)) tNil))) σ2 H3 fun y H4 => ∃ acc, H4 D = some (.lst acc) ∧ acc.length < sizeLine ∧ Nx (upd H4 D (.lst (acc ++ [y]))) else Nx H3) := by
  have hDp : D ≠ p := hA.2.ne hD
  refine lc_range (lo := 0) (n := m) (fun i H' => ∃ ys : List Str, Around1 H p (c + i) H' ∧ H' D = some (.lst (ys.map V.str)) ∧ ys.length = i ∧ (∀ y ∈ ys, y.length = 1) ∧ ∀ y ∈ ys, ls y)
    ⟨[], ⟨.of (same_new hD _), hA.2.same (same_new hD _)⟩, upd_same, rfl, (fun _ h => nomatch h), fun _ h => nomatch h⟩ ?_ ?_
  · rintro i H1 hi ⟨ys, hA1, hD1, hl, h1, hs1⟩
    refine ⟨hw _, ?_⟩
    show tOp rIxS (tVar 2) (tCall spCoin [] E0 (tCons (tVar 0) (tCons (tC (.int 26)) tNil))) _ H1 _
    refine ⟨_, h2 _, _, h0 _, p, 26, c + i, rfl, hA1.2, by omega, by decide, by decide, fun d H2 d0 d1 hb hp2 => ?_⟩
    refine ⟨LT, d, _, rfl, rfl, by decide +kernel, lt_at d0 d1, ?_⟩
    have hD2 : H2 D = some (.lst (ys.map V.str)) := hb _ _ hDp hD1
    refine ⟨_, hD2, by rw [List.length_map]; exact Nat.lt_of_lt_of_le (show ys.length < 1000 by omega) (by decide), ys ++ [⟨#[97 + d.toNat]⟩], ?_, ?_, ?_, ?_, ?_⟩
    · exact (hA1.draw hb hp2).put hD hDp
    · rw [upd_same, List.map_append]
      rfl
    · rw [List.length_append, hl]
      rfl
    · intro y hy
      rcases List.mem_append.mp hy with hy | hy
      · exact h1 y hy
      · rw [List.mem_singleton.mp hy]
        rfl
    · intro y hy
      rcases List.mem_append.mp hy with hy | hy
      · exact hs1 y hy
      · rw [List.mem_singleton.mp hy]
        exact ls_one (by omega)
  · rintro H1 ⟨ys, hA1, hD1, hl, h1, hs1⟩
    exact hd ys H1 hA1 hD1 hl h1 hs1
end K02
set_option Elab.async false
set_option linter.all false
set_option maxRecDepth 100000
set_option maxHeartbeats 4000000
namespace K02
open PySem L2 PyProof.Rows
/-! ### data, apart from where it lies -/
inductive D where
  | leaf (v : V)
  | lst (ds : List D)
  | tup (ds : List D)
def Leaf (v : V) : Prop := v = .non ∨ (∃ b, v = .bl b) ∨ (∃ i, v = .int i) ∨ ∃ z, v = .str z
/-- depth and width -/
def Fits (c : Nat) : Nat → D → Prop
  | 0, d => ∃ v, d = .leaf v
  | _ + 1, .leaf _ => True
  | n + 1, .lst ds => ds.length ≤ c ∧ ∀ d ∈ ds, Fits c n d
  | n + 1, .tup ds => ds.length ≤ c ∧ ∀ d ∈ ds, Fits c n d
theorem Fits.leaf {c n : Nat} {v : V} : Fits c n (.leaf v) := by
  cases n with
  | zero => exact ⟨v, rfl⟩
  | succ n => trivial
mutual
/-- v is d in the heap; the lists of it stand at F, each in one place -/
def Rep (H : Hp) : D → V → List Addr → Prop
  | .leaf w, u, F => u = w ∧ Leaf w ∧ F = []
  | .lst ds, u, F => ∃ a xs G, u = .ref a ∧ H a = some (.lst xs) ∧ Reps H ds xs G ∧ a ∉ G ∧ F = a :: G
  | .tup ds, u, F => ∃ a xs, u = .ref a ∧ H a = some (.tup xs) ∧ Reps H ds xs F
def Reps (H : Hp) : List D → List V → List Addr → Prop
  | [], xs, F => xs = [] ∧ F = []
  | d :: ds, xs, F => ∃ x ys F1 F2, xs = x :: ys ∧ Rep H d x F1 ∧ Reps H ds ys F2 ∧ (∀ a ∈ F1, a ∉ F2) ∧ F = F1 ++ F2
end
/-- lists of S may change; all else that was tracked stands -/
def Kp (S : Addr → Prop) (H H' : Hp) : Prop := ∀ b o, H b = some o → (¬ S b ∨ ∀ xs, o ≠ HO.lst xs) → H' b = some o
section
variable {S T : Addr → Prop} {H H1 H2 : Hp}
theorem Kp.same (s : Same H H1) : Kp S H H1 := fun b o e _ => s b o e
theorem Kp.trans (h : Kp S H H1) (k : Kp S H1 H2) : Kp S H H2 := fun b o e n => k b o (h b o e n) n
theorem Kp.wide (h : Kp S H H1) (hs : ∀ a, S a → T a) : Kp T H H1 := fun b o e n => h b o e (n.imp (fun z y => z (hs b y)) id)
theorem Kp.toSame (h : Kp S H H1) (hs : ∀ a, S a → H a = none) : Same H H1 := fun b o e => h b o e (.inl fun z => by
  rw [hs b z] at e
  cases e)
theorem Kp.set {a : Addr} {xs ys : List V} (ha : H a = some (.lst xs)) (hs : S a) : Kp S H (upd H a (.lst ys)) := fun b o e n => by
  by_cases hb : b = a
  · subst hb
    rw [ha] at e
    rcases n with n | n
    · exact absurd hs n
    · exact absurd (Option.some.inj e).symm (n xs)
  · rw [upd_ne hb]
    exact e
theorem Kp.new {a : Addr} {o : HO} (ha : H a = none) : Kp S H (upd H a o) := .same (same_new ha o)
/-- a new object may change behind -/
theorem Kp.put {a : Addr} {o : HO} (h : Kp S H H1) (ha : H a = none) : Kp S H (upd H1 a o) := fun b u e n => by
  rw [upd_ne (ne_of_none e ha)]
  exact h b u e n
theorem Kp.there (h : Kp S H H1) {b : Addr} {o : HO} (e : H b = some o) (n : ∀ xs, o ≠ HO.lst xs) : H1 b = some o := h b o e (.inr n)
end
mutual
theorem Rep.kp {S : Addr → Prop} {H H1 : Hp} (k : Kp S H H1) : ∀ {d : D} {v : V} {F : List Addr}, Rep H d v F → (∀ a ∈ F, ¬ S a) → Rep H1 d v F
  | .leaf w, u, F, h, _ => h
  | .lst ds, u, F, h, n => by
    obtain ⟨a, xs, G, e, ha, hr, hn, rfl⟩ := h
    exact ⟨a, xs, G, e, k _ _ ha (.inl (n a List.mem_cons_self)), Reps.kp k hr fun b hb => n b (List.mem_cons_of_mem _ hb), hn, rfl⟩
  | .tup ds, u, F, h, n => by
    obtain ⟨a, xs, e, ha, hr⟩ := h
    exact ⟨a, xs, e, k _ _ ha (.inr fun _ z => nomatch z), Reps.kp k hr n⟩
theorem Reps.kp {S : Addr → Prop} {H H1 : Hp} (k : Kp S H H1) : ∀ {ds : List D} {xs : List V} {F : List Addr}, Reps H ds xs F → (∀ a ∈ F, ¬ S a) → Reps H1 ds xs F
  | [], xs, F, h, _ => h
  | d :: ds, xs, F, h, n => by
    obtain ⟨x, ys, F1, F2, e, h1, h2, hd, rfl⟩ := h
    exact ⟨x, ys, F1, F2, e, Rep.kp k h1 fun a ha => n a (List.mem_append_left _ ha), Reps.kp k h2 fun a ha => n a (List.mem_append_right _ ha), hd, rfl⟩
end
theorem Rep.same {H H1 : Hp} {d : D} {v : V} {F : List Addr} (h : Rep H d v F) (s : Same H H1) : Rep H1 d v F := h.kp (S := fun _ => False) (.same s) fun _ _ z => z
theorem Reps.same {H H1 : Hp} {ds : List D} {xs : List V} {F : List Addr} (h : Reps H ds xs F) (s : Same H H1) : Reps H1 ds xs F := Reps.kp (S := fun _ => False) (.same s) h fun _ _ z => z
mutual
/-- where its lists stand something stands -/
theorem Rep.at_ {H : Hp} : ∀ {d : D} {v : V} {F : List Addr}, Rep H d v F → ∀ a ∈ F, ∃ xs, H a = some (.lst xs)
  | .leaf w, u, F, h, a, ha => by
    obtain ⟨_, _, rfl⟩ := h
    cases ha
  | .lst ds, u, F, h, a, ha => by
    obtain ⟨b, xs, G, e, hb, hr, hn, rfl⟩ := h
    rcases List.mem_cons.mp ha with z | z
    · exact ⟨xs, z ▸ hb⟩
    · exact Reps.at_ hr a z
  | .tup ds, u, F, h, a, ha => by
    obtain ⟨b, xs, e, hb, hr⟩ := h
    exact Reps.at_ hr a ha
theorem Reps.at_ {H : Hp} : ∀ {ds : List D} {xs : List V} {F : List Addr}, Reps H ds xs F → ∀ a ∈ F, ∃ xs, H a = some (.lst xs)
  | [], xs, F, h, a, ha => by
    obtain ⟨_, rfl⟩ := h
    cases ha
  | d :: ds, xs, F, h, a, ha => by
    obtain ⟨x, ys, F1, F2, e, h1, h2, hd, rfl⟩ := h
    rcases List.mem_append.mp ha with z | z
    · exact Rep.at_ h1 a z
    · exact Reps.at_ h2 a z
end
theorem Reps.len {H : Hp} : ∀ {ds : List D} {xs : List V} {F : List Addr}, Reps H ds xs F → xs.length = ds.length
  | [], xs, F, h => by
    obtain ⟨rfl, _⟩ := h
    rfl
  | d :: ds, xs, F, h => by
    obtain ⟨x, ys, F1, F2, rfl, h1, h2, hd, rfl⟩ := h
    rw [List.length_cons, List.length_cons, h2.len]
/-- the item at a place, and what a change of it makes of the whole -/
theorem Reps.item {H : Hp} : ∀ {ds : List D} {xs : List V} {F : List Addr} {i : Nat} {x : V}, Reps H ds xs F → xs[i]? = some x →
    ∃ d G, ds[i]? = some d ∧ Rep H d x G ∧ (∀ a ∈ G, a ∈ F) ∧ ∀ (t : Addr) (H1 : Hp) (d' : D), t ∉ F → Kp (fun a => a ∈ G ∨ a = t) H H1 → Rep H1 d' x G → Reps H1 (ds.set i d') xs F
  | [], xs, F, i, x, h, e => by
    obtain ⟨rfl, _⟩ := h
    simp at e
  | d :: ds, xs, F, 0, x, h, e => by
    obtain ⟨y, ys, F1, F2, rfl, h1, h2, hd, rfl⟩ := h
    have ey : y = x := Option.some.inj e
    subst ey
    refine ⟨d, F1, rfl, h1, fun a ha => List.mem_append_left _ ha, fun t H1 d' ht k hr => ⟨y, ys, F1, F2, rfl, hr, h2.kp k (fun a ha z => ?_), hd, rfl⟩⟩
    rcases z with z | z
    · exact hd a z ha
    · exact ht (z ▸ List.mem_append_right _ ha)
  | d :: ds, xs, F, i + 1, x, h, e => by
    obtain ⟨y, ys, F1, F2, rfl, h1, h2, hd, rfl⟩ := h
    have e' : ys[i]? = some x := e
    obtain ⟨d0, G, e1, hr, hG, hset⟩ := Reps.item h2 e'
    refine ⟨d0, G, e1, hr, fun a ha => List.mem_append_right _ (hG a ha), fun t H1 d' ht k hr' => ⟨y, ys, F1, F2, rfl, h1.kp k (fun a ha z => ?_), hset t H1 d' (fun z => ht (List.mem_append_right _ z)) k hr', hd, rfl⟩⟩
    rcases z with z | z
    · exact hd a ha (hG a z)
    · exact ht (z ▸ List.mem_append_left _ ha)
/-- one more behind -/
theorem Reps.snoc {H : Hp} : ∀ {ds : List D} {xs : List V} {F G : List Addr} {d : D} {x : V}, Reps H ds xs F → Rep H d x G → (∀ a ∈ F, a ∉ G) → Reps H (ds ++ [d]) (xs ++ [x]) (F ++ G)
  | [], xs, F, G, d, x, h, hr, hn => by
    obtain ⟨rfl, rfl⟩ := h
    exact ⟨x, [], G, [], rfl, hr, ⟨rfl, rfl⟩, (fun _ _ z => nomatch z), by rw [List.append_nil]; rfl⟩
  | d0 :: ds, xs, F, G, d, x, h, hr, hn => by
    obtain ⟨y, ys, F1, F2, rfl, h1, h2, hd, rfl⟩ := h
    refine ⟨y, ys ++ [x], F1, F2 ++ G, rfl, h1, Reps.snoc h2 hr (fun a ha => hn a (List.mem_append_right _ ha)), fun a ha z => ?_, by rw [List.append_assoc]⟩
    rcases List.mem_append.mp z with z | z
    · exact hd a ha z
    · exact hn a (List.mem_append_left _ ha) z
/-! ### the marks -/
mutual
def mark : D → Int → D × Int
  | .leaf v, k => (.leaf v, k + 1)
  | .lst ds, k => (.lst ((marks ds k).1 ++ [.leaf (.int ((marks ds k).2 + 1))]), (marks ds k).2 + 1)
  | .tup ds, k => (.tup (marks ds k).1, (marks ds k).2 + 1)
def marks : List D → Int → List D × Int
  | [], k => ([], k)
  | d :: ds, k => ((mark d k).1 :: (marks ds (mark d k).2).1, (marks ds (mark d k).2).2)
end
theorem marks_len : ∀ (ds : List D) (k : Int), (marks ds k).1.length = ds.length
  | [], _ => rfl
  | d :: ds, k => by
    show (marks ds (mark d k).2).1.length + 1 = ds.length + 1
    rw [marks_len ds]
theorem marks_snoc : ∀ (ds : List D) (d : D) (k : Int), marks (ds ++ [d]) k = ((marks ds k).1 ++ [(mark d (marks ds k).2).1], (mark d (marks ds k).2).2)
  | [], d, k => rfl
  | c :: ds, d, k => by
    have h := marks_snoc ds d (mark c k).2
    show ((mark c k).1 :: (marks (ds ++ [d]) (mark c k).2).1, (marks (ds ++ [d]) (mark c k).2).2) = _
    rw [h]
    rfl
/-- behind i marks: the first i marked, the others as they were -/
theorem marks_step {ds : List D} {i : Nat} {d : D} (h : ds[i]? = some d) (k : Int) :
    ((marks (ds.take i) k).1 ++ ds.drop i)[i]? = some d ∧ ((marks (ds.take i) k).1 ++ ds.drop i).set i (mark d (marks (ds.take i) k).2).1 = (marks (ds.take (i + 1)) k).1 ++ ds.drop (i + 1) ∧ (marks (ds.take (i + 1)) k).2 = (mark d (marks (ds.take i) k).2).2 := by
  have hi := (List.getElem?_eq_some_iff.mp h).1
  have hl : (marks (ds.take i) k).1.length = i := by
    rw [marks_len, List.length_take]
    omega
  have e1 : ds.take (i + 1) = ds.take i ++ [d] := by
    rw [List.take_add_one, h]
    rfl
  have e2 : ds.drop i = d :: ds.drop (i + 1) := by
    have z := List.drop_eq_getElem_cons hi
    have y := (List.getElem?_eq_some_iff.mp h).2
    rw [y] at z
    exact z
  rw [e1, marks_snoc, e2]
  refine ⟨?_, ?_, rfl⟩
  · rw [List.getElem?_append_right (by omega), hl, Nat.sub_self]
    rfl
  · rw [List.set_append_right _ _ (by omega), hl, Nat.sub_self, List.append_assoc]
    rfl
/-! ### what isinstance tells of them -/
theorem leaf_ty {K : PySem.W.Frag} {H : Hp} {v : V} (h : Leaf v) : ∃ s : String, TyX K H v (.type s) ∧ (s = "NoneType" ∧ v = .non ∨ s = "bool" ∧ (∃ b, v = .bl b) ∨ s = "int" ∧ (∃ i, v = .int i) ∨ s = "str" ∧ ∃ z, v = .str z) := by
  rcases h with rfl | ⟨b, rfl⟩ | ⟨i, rfl⟩ | ⟨z, rfl⟩
  · exact ⟨_, .base .non, .inl ⟨rfl, rfl⟩⟩
  · exact ⟨_, .base (.bl b), .inr (.inl ⟨rfl, b, rfl⟩)⟩
  · exact ⟨_, .base (.int i), .inr (.inr (.inl ⟨rfl, i, rfl⟩))⟩
  · exact ⟨_, .base (.str z), .inr (.inr (.inr ⟨rfl, z, rfl⟩))⟩
/-- the kind of a datum: its type's name, whether it is a list, a tuple -/
def D.isL : D → Bool
  | .lst _ => true
  | _ => false
def D.isT : D → Bool
  | .tup _ => true
  | _ => false
def D.its : D → List D
  | .lst ds => ds
  | .tup ds => ds
  | .leaf _ => []
theorem Rep.ty {K : PySem.W.Frag} {H : Hp} {d : D} {v : V} {F : List Addr} (h : Rep H d v F) : ∃ s : String, TyX K H v (.type s) ∧ kitB s "list" = some d.isL ∧ kitB s "tuple" = some d.isT ∧ kitB s "dict" = some false := by
  cases d with
  | leaf w =>
    obtain ⟨rfl, hl, _⟩ := h
    obtain ⟨s, ht, hs⟩ := leaf_ty (K := K) (H := H) hl
    refine ⟨s, ht, ?_⟩
    rcases hs with ⟨rfl, _⟩ | ⟨rfl, _⟩ | ⟨rfl, _⟩ | ⟨rfl, _⟩ <;> exact ⟨(by show kitB _ _ = some false; decide +kernel), (by show kitB _ _ = some false; decide +kernel), by decide +kernel⟩
  | lst ds =>
    obtain ⟨a, xs, G, rfl, ha, _⟩ := h
    exact ⟨"list", .base (.lst ha), (by show kitB _ _ = some true; decide +kernel), (by show kitB _ _ = some false; decide +kernel), by decide +kernel⟩
  | tup ds =>
    obtain ⟨a, xs, rfl, ha, _⟩ := h
    exact ⟨"tuple", .base (.tup ha), (by show kitB _ _ = some false; decide +kernel), (by show kitB _ _ = some true; decide +kernel), by decide +kernel⟩
theorem kit_two {K : PySem.W.Frag} {s : String} {x y : Bool} (h1 : kitB s "list" = some x) (h2 : kitB s "tuple" = some y) : PySem.W.kitAny K (.type s) [.type "list", .type "tuple"] = some (x || y) := by
  refine kitAny_cons (kit_ty h1) (fun e => ?_) (fun e => by rw [e]; rfl)
  refine kitAny_cons (kit_ty h2) (fun e2 => ?_) (fun e2 => by rw [e2, Bool.or_true])
  rw [e, e2]
  exact kitAny_nil
theorem ifT {c : Bool} {A B : Prop} (hc : c = true) (h : A) : if c = true then A else B := by
  rw [hc]
  exact iteT h
theorem ifF {c : Bool} {A B : Prop} (hc : c = false) (h : B) : if c = true then A else B := by
  rw [hc]
  exact iteF h
theorem one_at {x : V} : atI [x] 0 = some x := atI_nat (j := 0) rfl
end K02
set_option Elab.async false
set_option linter.all false
set_option maxRecDepth 100000
set_option maxHeartbeats 4000000
namespace K02
open PySem L2 PyProof.Rows
mutual
/-- v is d in the heap, wherever its lists stand -/
def RW (H : Hp) : D → V → Prop
  | .leaf w, u => u = w ∧ Leaf w
  | .lst ds, u => ∃ a xs, u = .ref a ∧ H a = some (.lst xs) ∧ RWs H ds xs
  | .tup ds, u => ∃ a xs, u = .ref a ∧ H a = some (.tup xs) ∧ RWs H ds xs
def RWs (H : Hp) : List D → List V → Prop
  | [], xs => xs = []
  | d :: ds, xs => ∃ x ys, xs = x :: ys ∧ RW H d x ∧ RWs H ds ys
end
mutual
theorem RW.same {H H1 : Hp} (s : Same H H1) : ∀ {d : D} {v : V}, RW H d v → RW H1 d v
  | .leaf w, u, h => h
  | .lst ds, u, h => by
    obtain ⟨a, xs, e, ha, hr⟩ := h
    exact ⟨a, xs, e, s _ _ ha, RWs.same s hr⟩
  | .tup ds, u, h => by
    obtain ⟨a, xs, e, ha, hr⟩ := h
    exact ⟨a, xs, e, s _ _ ha, RWs.same s hr⟩
theorem RWs.same {H H1 : Hp} (s : Same H H1) : ∀ {ds : List D} {xs : List V}, RWs H ds xs → RWs H1 ds xs
  | [], xs, h => h
  | d :: ds, xs, h => by
    obtain ⟨x, ys, e, h1, h2⟩ := h
    exact ⟨x, ys, e, RW.same s h1, RWs.same s h2⟩
end
mutual
theorem Rep.rw {H : Hp} : ∀ {d : D} {v : V} {F : List Addr}, Rep H d v F → RW H d v
  | .leaf w, u, F, h => ⟨h.1, h.2.1⟩
  | .lst ds, u, F, h => by
    obtain ⟨a, xs, G, e, ha, hr, _⟩ := h
    exact ⟨a, xs, e, ha, Reps.rw hr⟩
  | .tup ds, u, F, h => by
    obtain ⟨a, xs, e, ha, hr⟩ := h
    exact ⟨a, xs, e, ha, Reps.rw hr⟩
theorem Reps.rw {H : Hp} : ∀ {ds : List D} {xs : List V} {F : List Addr}, Reps H ds xs F → RWs H ds xs
  | [], xs, F, h => h.1
  | d :: ds, xs, F, h => by
    obtain ⟨x, ys, F1, F2, e, h1, h2, _⟩ := h
    exact ⟨x, ys, e, Rep.rw h1, Reps.rw h2⟩
end
theorem RWs.len {H : Hp} : ∀ {ds : List D} {xs : List V}, RWs H ds xs → xs.length = ds.length
  | [], xs, h => by
    have e : xs = [] := h
    rw [e]
    rfl
  | d :: ds, xs, h => by
    obtain ⟨x, ys, rfl, h1, h2⟩ := h
    rw [List.length_cons, List.length_cons, h2.len]
theorem RWs.item {H : Hp} : ∀ {ds : List D} {xs : List V} {i : Nat} {x : V}, RWs H ds xs → xs[i]? = some x → ∃ d, ds[i]? = some d ∧ RW H d x
  | [], xs, i, x, h, e => by
    have z : xs = [] := h
    rw [z] at e
    simp at e
  | d :: ds, xs, 0, x, h, e => by
    obtain ⟨y, ys, rfl, h1, h2⟩ := h
    have ey : y = x := Option.some.inj e
    exact ⟨d, rfl, ey ▸ h1⟩
  | d :: ds, xs, i + 1, x, h, e => by
    obtain ⟨y, ys, rfl, h1, h2⟩ := h
    exact RWs.item h2 (i := i) e
theorem RW.ty {K : PySem.W.Frag} {H : Hp} {d : D} {v : V} (h : RW H d v) : ∃ s : String, TyX K H v (.type s) ∧ kitB s "list" = some d.isL ∧ kitB s "tuple" = some d.isT ∧ kitB s "dict" = some false := by
  cases d with
  | leaf w =>
    obtain ⟨rfl, hl⟩ := h
    obtain ⟨s, ht, hs⟩ := leaf_ty (K := K) (H := H) hl
    refine ⟨s, ht, ?_⟩
    rcases hs with ⟨rfl, _⟩ | ⟨rfl, _⟩ | ⟨rfl, _⟩ | ⟨rfl, _⟩ <;> exact ⟨(by show kitB _ _ = some false; decide +kernel), (by show kitB _ _ = some false; decide +kernel), by decide +kernel⟩
  | lst ds =>
    obtain ⟨a, xs, rfl, ha, _⟩ := h
    exact ⟨"list", .base (.lst ha), (by show kitB _ _ = some true; decide +kernel), (by show kitB _ _ = some false; decide +kernel), by decide +kernel⟩
  | tup ds =>
    obtain ⟨a, xs, rfl, ha, _⟩ := h
    exact ⟨"tuple", .base (.tup ha), (by show kitB _ _ = some false; decide +kernel), (by show kitB _ _ = some true; decide +kernel), by decide +kernel⟩
/-- a copy: the same datum, all its lists new -/
def spCopy (n : Nat) : Sp := fun vs H Q _ => ∃ (v : V) (d : D) (m : Nat), vs = [v] ∧ m + 1 ≤ n ∧ RW H d v ∧ Fits 1000 m d ∧
  ∀ u H' G, Same H H' → Rep H' d u G → (∀ a ∈ G, H a = none) → Q u H'
def spMark (n : Nat) : Sp := fun vs H Q _ => ∃ (v : V) (t : Addr) (d : D) (F : List Addr) (m : Nat) (k : Int), vs = [v, .ref t] ∧ m + 1 ≤ n ∧ Rep H d v F ∧ Fits 1000 m d ∧ H t = some (.lst [.int k]) ∧ t ∉ F ∧
  ∀ H', Kp (fun a => a ∈ F ∨ a = t) H H' → Rep H' (mark d k).1 v F → H' t = some (.lst [.int (mark d k).2]) → Q .non H'
def spSame (n : Nat) : Sp := fun vs H Q _ => ∃ (v u : V) (d : D) (m : Nat), vs = [v, u] ∧ m + 1 ≤ n ∧ RW H d v ∧ RW H d u ∧ Fits 1000 m d ∧ ∀ H', Same H H' → Q (.bl true) H'
theorem Fits.its {c m : Nat} {d : D} (h : Fits c m d) (hd : d.isL = true ∨ d.isT = true) : ∃ m', m = m' + 1 ∧ d.its.length ≤ c ∧ ∀ e ∈ d.its, Fits c m' e := by
  cases m with
  | zero =>
    obtain ⟨v, rfl⟩ := h
    rcases hd with z | z <;> cases z
  | succ m =>
    cases d with
    | leaf v => rcases hd with z | z <;> cases z
    | lst ds => exact ⟨m, rfl, h.1, h.2⟩
    | tup ds => exact ⟨m, rfl, h.1, h.2⟩
/-- a list or a tuple, with its items -/
theorem Rep.seq {H : Hp} {d : D} {v : V} {F : List Addr} (h : Rep H d v F) (hd : d.isL = true ∨ d.isT = true) : ∃ a xs G, v = .ref a ∧ (d.isL = true ∧ H a = some (.lst xs) ∧ a ∉ G ∧ F = a :: G ∨ d.isT = true ∧ H a = some (.tup xs) ∧ F = G) ∧ Reps H d.its xs G := by
  cases d with
  | leaf w => rcases hd with z | z <;> cases z
  | lst ds =>
    obtain ⟨a, xs, G, e, ha, hr, hn, eF⟩ := h
    exact ⟨a, xs, G, e, .inl ⟨rfl, ha, hn, eF⟩, hr⟩
  | tup ds =>
    obtain ⟨a, xs, e, ha, hr⟩ := h
    exact ⟨a, xs, F, e, .inr ⟨rfl, ha, rfl⟩, hr⟩
section
variable {P : Program} {w : World} {K : PySem.W.Frag} {mg : Str → Option Value} {base : Heap}
theorem none_of {f : Addr} {fd : FuncData} {ps : List Str} {sp : Sp} (h : ∀ vs H Q E, ¬ sp vs H Q E) : FnOk P w K mg base CX0 0 f fd ps sp :=
  ⟨fun vs H Q E x => absurd x (h vs H Q E), fun A outer s H args us vs Q E _ _ _ _ x => absurd x (h vs H Q E)⟩
theorem copy_none {f : Addr} {fd : FuncData} {ps : List Str} : FnOk P w K mg base CX0 0 f fd ps (spCopy 0) := none_of fun vs H Q E h => by
  obtain ⟨v, d, m, _, h1, _⟩ := h
  omega
theorem mark_none {f : Addr} {fd : FuncData} {ps : List Str} : FnOk P w K mg base CX0 0 f fd ps (spMark 0) := none_of fun vs H Q E h => by
  obtain ⟨v, t, d, F, m, k, _, h1, _⟩ := h
  omega
theorem same_none {f : Addr} {fd : FuncData} {ps : List Str} : FnOk P w K mg base CX0 0 f fd ps (spSame 0) := none_of fun vs H Q E h => by
  obtain ⟨v, u, d, m, _, h1, _⟩ := h
  omega
/-- the turns of [copy(one) for one in thing], D the new list -/
theorem copies_go {te : TE} {σ2 : V → L2.St} {n : Nat} {H1 : Hp} {D0 : Addr} {ds : List D} {xs : List V} {m : Nat} (hte : ∀ x H Q, spCopy n [x] H Q E0 → te (σ2 x) H Q) (hR : RWs H1 ds xs) (hf : ∀ e ∈ ds, Fits 1000 m e) (hm : m + 1 ≤ n) (hD : H1 D0 = none) (hl : ds.length ≤ 1000) :
    (∃ ys G, Same H1 (upd H1 D0 (.lst [])) ∧ (upd H1 D0 (.lst [])) D0 = some (.lst ys) ∧ Reps (upd H1 D0 (.lst [])) (ds.take 0) ys G ∧ (∀ a ∈ G, H1 a = none ∧ a ≠ D0)) ∧
    ∀ i x H2, xs[i]? = some x → (∃ ys G, Same H1 H2 ∧ H2 D0 = some (.lst ys) ∧ Reps H2 (ds.take i) ys G ∧ (∀ a ∈ G, H1 a = none ∧ a ≠ D0)) →
      te (σ2 x) H2 fun y H4 => ∃ acc, H4 D0 = some (.lst acc) ∧ acc.length < sizeLine ∧ ∃ ys G, Same H1 (upd H4 D0 (.lst (acc ++ [y]))) ∧ (upd H4 D0 (.lst (acc ++ [y]))) D0 = some (.lst ys) ∧ Reps (upd H4 D0 (.lst (acc ++ [y]))) (ds.take (i + 1)) ys G ∧ (∀ a ∈ G, H1 a = none ∧ a ≠ D0) := by
  refine ⟨⟨[], [], same_new hD _, upd_same, ⟨rfl, rfl⟩, fun _ z => nomatch z⟩, ?_⟩
  rintro i x H2 hi ⟨ys, G, hs2, hD2, hr, hG⟩
  obtain ⟨e, he, hrep⟩ := RWs.item (hR.same hs2) hi
  have hil := (List.getElem?_eq_some_iff.mp he).1
  refine hte x H2 _ ⟨x, e, m, rfl, hm, hrep, hf e (List.mem_of_getElem? he), fun u H3 G3 hs3 hr3 hG3 => ?_⟩
  have hD3 := hs3 _ _ hD2
  have hyl : ys.length = i := by
    rw [hr.len, List.length_take]
    omega
  have nD : ∀ a ∈ G3, a ≠ D0 := fun a ha z => by
    rw [← z, hG3 a ha] at hD2
    cases hD2
  have n1 : ∀ a ∈ G3, H1 a = none := fun a ha => hs2.free (hG3 a ha)
  have kp : Kp (fun a => a = D0) H3 (upd H3 D0 (.lst (ys ++ [u]))) := Kp.set hD3 rfl
  refine ⟨ys, hD3, Nat.lt_of_le_of_lt (show ys.length ≤ 1000 by omega) (by decide), ys ++ [u], G ++ G3, same_put (hs2.trans hs3) hD, upd_same, ?_, fun a ha => ?_⟩
  · have et : ds.take (i + 1) = ds.take i ++ [e] := by
      rw [List.take_add_one, he]
      rfl
    rw [et]
    refine Reps.snoc ((hr.same hs3).kp kp fun a ha => (hG a ha).2) (hr3.kp kp nD) fun a ha z => ?_
    obtain ⟨zs, hz⟩ := hr.at_ a ha
    rw [hG3 a z] at hz
    cases hz
  · rcases List.mem_append.mp ha with z | z
    · exact hG a z
    · exact ⟨n1 a z, nD a z⟩
end
end K02
set_option Elab.async false
set_option linter.all false
set_option maxRecDepth 100000
set_option maxHeartbeats 4000000
namespace K02
open PySem L2 PyProof.Rows
/-- a datum, its items, where their lists stand -/
inductive Shp (H : Hp) : D → V → List Addr → List V → List Addr → Prop where
  | leaf {v : V} (h : Leaf v) : Shp H (.leaf v) v [] [] []
  | lst {ds : List D} {a : Addr} {xs : List V} {G : List Addr} (h : H a = some (.lst xs)) (r : Reps H ds xs G) (n : a ∉ G) : Shp H (.lst ds) (.ref a) (a :: G) xs G
  | tup {ds : List D} {a : Addr} {xs : List V} {G : List Addr} (h : H a = some (.tup xs)) (r : Reps H ds xs G) : Shp H (.tup ds) (.ref a) G xs G
theorem Rep.shp {H : Hp} {d : D} {v : V} {F : List Addr} (h : Rep H d v F) : ∃ xs G, Shp H d v F xs G := by
  cases d with
  | leaf w =>
    obtain ⟨rfl, hl, rfl⟩ := h
    exact ⟨_, _, .leaf hl⟩
  | lst ds =>
    obtain ⟨a, xs, G, rfl, ha, hr, hn, rfl⟩ := h
    exact ⟨_, _, .lst ha hr hn⟩
  | tup ds =>
    obtain ⟨a, xs, rfl, ha, hr⟩ := h
    exact ⟨_, _, .tup ha hr⟩
theorem Shp.reps {H : Hp} {d : D} {v : V} {F G : List Addr} {xs : List V} (h : Shp H d v F xs G) : Reps H d.its xs G ∧ ∀ a ∈ G, a ∈ F := by
  cases h with
  | leaf h => exact ⟨⟨rfl, rfl⟩, fun _ z => z⟩
  | lst h r n => exact ⟨r, fun _ z => List.mem_cons_of_mem _ z⟩
  | tup h r => exact ⟨r, fun _ z => z⟩
theorem Fits.its0 {c m : Nat} {d : D} (h : Fits c m d) : d.its.length ≤ c ∧ ∀ e ∈ d.its, ∃ m', m = m' + 1 ∧ Fits c m' e := by
  cases d with
  | leaf v => exact ⟨Nat.zero_le _, fun _ z => nomatch z⟩
  | lst ds =>
    obtain ⟨m', rfl, a, b⟩ := h.its (.inl rfl)
    exact ⟨a, fun e he => ⟨m', rfl, b e he⟩⟩
  | tup ds =>
    obtain ⟨m', rfl, a, b⟩ := h.its (.inr rfl)
    exact ⟨a, fun e he => ⟨m', rfl, b e he⟩⟩
section
variable {P : Program} {w : World} {K : PySem.W.Frag} {mg : Str → Option Value} {base : Heap}
theorem scFr : FnScope ["thing", "each", "key"] ["thing"] (defScope sFresh) := ⟨rfl, rfl, rfl, by decide +kernel, rfl, by decide +kernel, by decide +kernel⟩
theorem ok_fresh {f : Addr} {fd : FuncData} {n : Nat} (F : Fun K "fresh" "fresh" sFresh f fd) (T : Txt K mg) (G : FnOk P w K mg base CX0 n f fd ["thing"] (spCopy n)) (b : Binds K fd ["thing"] []) (m : mg "fresh" = some (.ref f)) (zD : mg "dict" = none) :
    FnOk P w K mg base CX0 (n + 1) f fd ["thing"] (spCopy (n + 1)) := by
  refine F.ok scFr (fun vs H Q E h => ?_) (fun cdv A outer s H vs Q E hr h => ?_)
  · obtain ⟨v, d, m0, rfl, _⟩ := h
    rfl
  obtain ⟨v, d, m0, rfl, hm, hR, hF, kk⟩ := h
  refine ⟨_, pss_cons (ps_if (pt_val (pe_callB call_isi (by rfl) T.isi boot_isinstance (pa_cons (pv 0) (pa_cons (pe_bltn (v := .ty "list") (by rfl) T.list boot_list rfl) pa_nil))))
      (pss_one (ps_ret (pe_lc (own := [("each", 1)]) (g := gName 1) (tt := tYes) rfl scFr.nd (pi_list (pv 0)) (blkOk_by (N := ["thing", "each", "key"]) (sc := defScope sFresh) (by decide +kernel)) (fun _ _ _ _ _ => pg_name (i := 1) scFr.nd rfl (Or.inl rfl)) (fun _ _ _ _ _ => pts_nil)
        (fun _ _ _ _ _ => pe_call G hr rfl m F.kp b .nil pass0 (pa_cons (pv 1) pa_nil))))) pss_nil)
    (pss_cons (ps_if (pt_val (pe_callB call_isi (by rfl) T.isi boot_isinstance (pa_cons (pv 0) (pa_cons (pe_bltn (v := .ty "tuple") (by rfl) T.tuple boot_tuple rfl) pa_nil))))
      (pss_one (ps_ret (pe_callTy call_tuple_of (by rfl) T.tuple boot_tuple (pa_cons (pe_lc (own := [("each", 1)]) (g := gName 1) (tt := tYes) rfl scFr.nd (pi_tup (pv 0)) (blkOk_by (N := ["thing", "each", "key"]) (sc := defScope sFresh) (by decide +kernel)) (fun _ _ _ _ _ => pg_name (i := 1) scFr.nd rfl (Or.inl rfl)) (fun _ _ _ _ _ => pts_nil)
        (fun _ _ _ _ _ => pe_call G hr rfl m F.kp b .nil pass0 (pa_cons (pv 1) pa_nil))) pa_nil)))) pss_nil)
    (pss_cons (ps_if (pt_val (pe_callB call_isi (by rfl) T.isi boot_isinstance (pa_cons (pv 0) (pa_cons (pe_bltn (v := .ty "dict") (by rfl) zD boot_dict rfl) pa_nil)))) pss_never pss_nil)
    (pss_one (ps_ret (pv 0))))), ?_⟩
  obtain ⟨sT, hty, k1, k2, k3⟩ := hR.ty (K := K)
  refine ⟨_, rfl, v, _, _, _, _, rfl, .ty _, hty, kit_ty k1, _, rfl, ?_⟩
  cases d with
  | leaf w0 =>
    refine iteF ⟨_, rfl, v, _, _, _, _, rfl, .ty _, hty, kit_ty k2, _, rfl, iteF ⟨_, rfl, v, _, _, _, _, rfl, .ty _, hty, kit_ty k3, _, rfl, iteF ⟨_, rfl, ?_⟩⟩⟩
    obtain ⟨rfl, hl⟩ := hR
    exact kk _ H [] (Same.refl H) ⟨rfl, hl, rfl⟩ fun _ z => nomatch z
  | lst ds =>
    refine iteT ?_
    obtain ⟨a, xs, rfl, ha, hr0⟩ := hR
    obtain ⟨m', rfl, hl, hf⟩ := hF.its (.inl rfl)
    refine ⟨_, rfl, a, rfl, ⟨_, SqL.of ha⟩, fun D0 hD => ?_⟩
    obtain ⟨g0, g1⟩ := copies_go (te := tCall (spCopy n) [] E0 (tCons (tVar 1) tNil)) (σ2 := fun x => [some (.ref a), some x, none]) (m := m') (fun x H Q h => ⟨x, rfl, h⟩) hr0 hf (by omega) hD hl
    refine lc_list (K := K) (a := a) (xs := xs) (fun i H2 => ∃ ys G, Same H H2 ∧ H2 D0 = some (.lst ys) ∧ Reps H2 (ds.take i) ys G ∧ (∀ a ∈ G, H a = none ∧ a ≠ D0)) g0 (fun i H2 _ ⟨_, _, h, _⟩ => SqL.of (h _ _ ha)) ?_ ?_
    · rintro i x H2 hi h
      exact ⟨rfl, g1 i x H2 hi h⟩
    · rintro H2 ⟨ys, G, hs, hD2, hr2, hG⟩
      rw [hr0.len, List.take_length] at hr2
      exact kk _ H2 (D0 :: G) hs ⟨D0, ys, G, rfl, hD2, hr2, fun z => (hG _ z).2 rfl, rfl⟩ fun b hb => by
        rcases List.mem_cons.mp hb with z | z
        · exact z ▸ hD
        · exact (hG b z).1
  | tup ds =>
    refine iteF ⟨_, rfl, v, _, _, _, _, rfl, .ty _, hty, kit_ty k2, _, rfl, iteT ?_⟩
    obtain ⟨a, xs, rfl, ha, hr0⟩ := hR
    obtain ⟨m', rfl, hl, hf⟩ := hF.its (.inr rfl)
    refine ⟨_, rfl, a, rfl, ⟨_, SqT.of ha⟩, fun D0 hD => ?_⟩
    obtain ⟨g0, g1⟩ := copies_go (te := tCall (spCopy n) [] E0 (tCons (tVar 1) tNil)) (σ2 := fun x => [some (.ref a), some x, none]) (m := m') (fun x H Q h => ⟨x, rfl, h⟩) hr0 hf (by omega) hD hl
    refine lc_tup (K := K) (a := a) (xs := xs) (fun i H2 => ∃ ys G, Same H H2 ∧ H2 D0 = some (.lst ys) ∧ Reps H2 (ds.take i) ys G ∧ (∀ a ∈ G, H a = none ∧ a ≠ D0)) g0 (fun i H2 _ ⟨_, _, h, _⟩ => SqT.of (h _ _ ha)) ?_ ?_
    · rintro i x H2 hi h
      exact ⟨rfl, g1 i x H2 hi h⟩
    · rintro H2 ⟨ys, G, hs, hD2, hr2, hG⟩
      rw [hr0.len, List.take_length] at hr2
      refine ⟨D0, ys, rfl, .inl ⟨SqL.of hD2, fun l hl2 => ?_⟩⟩
      have s3 := same_new hl2 (.tup ys)
      exact kk _ _ G (hs.trans s3) ⟨l, ys, rfl, upd_same, hr2.same s3⟩ fun b hb => (hG b hb).1
theorem scCo2 : FnScope ["thing", "one", "name"] ["thing"] (defScope sCopied) := ⟨rfl, rfl, rfl, by decide +kernel, rfl, by decide +kernel, by decide +kernel⟩
theorem ok_tcopy {f : Addr} {fd : FuncData} {n : Nat} (F : Fun K "_law_ta_copy" "_law_ta_copy" sCopied f fd) (T : Txt K mg) (G : FnOk P w K mg base CX0 n f fd ["thing"] (spCopy n)) (b : Binds K fd ["thing"] []) (m : mg "_law_ta_copy" = some (.ref f)) (zD : mg "dict" = none) :
    FnOk P w K mg base CX0 (n + 1) f fd ["thing"] (spCopy (n + 1)) := by
  refine F.ok scCo2 (fun vs H Q E h => ?_) (fun cdv A outer s H vs Q E hr h => ?_)
  · obtain ⟨v, d, m0, rfl, _⟩ := h
    rfl
  obtain ⟨v, d, m0, rfl, hm, hR, hF, kk⟩ := h
  refine ⟨_, pss_cons (ps_if (pt_val (pe_callB call_isi (by rfl) T.isi boot_isinstance (pa_cons (pv 0) (pa_cons (pe_bltn (v := .ty "list") (by rfl) T.list boot_list rfl) pa_nil))))
      (pss_one (ps_ret (pe_lc (own := [("one", 1)]) (g := gName 1) (tt := tYes) rfl scCo2.nd (pi_list (pv 0)) (blkOk_by (N := ["thing", "one", "name"]) (sc := defScope sCopied) (by decide +kernel)) (fun _ _ _ _ _ => pg_name (i := 1) scCo2.nd rfl (Or.inl rfl)) (fun _ _ _ _ _ => pts_nil)
        (fun _ _ _ _ _ => pe_call G hr rfl m F.kp b .nil pass0 (pa_cons (pv 1) pa_nil))))) pss_nil)
    (pss_cons (ps_if (pt_val (pe_callB call_isi (by rfl) T.isi boot_isinstance (pa_cons (pv 0) (pa_cons (pe_bltn (v := .ty "tuple") (by rfl) T.tuple boot_tuple rfl) pa_nil))))
      (pss_one (ps_ret (pe_callTy call_tuple_of (by rfl) T.tuple boot_tuple (pa_cons (pe_lc (own := [("one", 1)]) (g := gName 1) (tt := tYes) rfl scCo2.nd (pi_tup (pv 0)) (blkOk_by (N := ["thing", "one", "name"]) (sc := defScope sCopied) (by decide +kernel)) (fun _ _ _ _ _ => pg_name (i := 1) scCo2.nd rfl (Or.inl rfl)) (fun _ _ _ _ _ => pts_nil)
        (fun _ _ _ _ _ => pe_call G hr rfl m F.kp b .nil pass0 (pa_cons (pv 1) pa_nil))) pa_nil)))) pss_nil)
    (pss_cons (ps_if (pt_val (pe_callB call_isi (by rfl) T.isi boot_isinstance (pa_cons (pv 0) (pa_cons (pe_bltn (v := .ty "dict") (by rfl) zD boot_dict rfl) pa_nil)))) pss_never pss_nil)
    (pss_one (ps_ret (pv 0))))), ?_⟩
  obtain ⟨sT, hty, k1, k2, k3⟩ := hR.ty (K := K)
  refine ⟨_, rfl, v, _, _, _, _, rfl, .ty _, hty, kit_ty k1, _, rfl, ?_⟩
  cases d with
  | leaf w0 =>
    refine iteF ⟨_, rfl, v, _, _, _, _, rfl, .ty _, hty, kit_ty k2, _, rfl, iteF ⟨_, rfl, v, _, _, _, _, rfl, .ty _, hty, kit_ty k3, _, rfl, iteF ⟨_, rfl, ?_⟩⟩⟩
    obtain ⟨rfl, hl⟩ := hR
    exact kk _ H [] (Same.refl H) ⟨rfl, hl, rfl⟩ fun _ z => nomatch z
  | lst ds =>
    refine iteT ?_
    obtain ⟨a, xs, rfl, ha, hr0⟩ := hR
    obtain ⟨m', rfl, hl, hf⟩ := hF.its (.inl rfl)
    refine ⟨_, rfl, a, rfl, ⟨_, SqL.of ha⟩, fun D0 hD => ?_⟩
    obtain ⟨g0, g1⟩ := copies_go (te := tCall (spCopy n) [] E0 (tCons (tVar 1) tNil)) (σ2 := fun x => [some (.ref a), some x, none]) (m := m') (fun x H Q h => ⟨x, rfl, h⟩) hr0 hf (by omega) hD hl
    refine lc_list (K := K) (a := a) (xs := xs) (fun i H2 => ∃ ys G, Same H H2 ∧ H2 D0 = some (.lst ys) ∧ Reps H2 (ds.take i) ys G ∧ (∀ a ∈ G, H a = none ∧ a ≠ D0)) g0 (fun i H2 _ ⟨_, _, h, _⟩ => SqL.of (h _ _ ha)) ?_ ?_
    · rintro i x H2 hi h
      exact ⟨rfl, g1 i x H2 hi h⟩
    · rintro H2 ⟨ys, G, hs, hD2, hr2, hG⟩
      rw [hr0.len, List.take_length] at hr2
      exact kk _ H2 (D0 :: G) hs ⟨D0, ys, G, rfl, hD2, hr2, fun z => (hG _ z).2 rfl, rfl⟩ fun b hb => by
        rcases List.mem_cons.mp hb with z | z
        · exact z ▸ hD
        · exact (hG b z).1
  | tup ds =>
    refine iteF ⟨_, rfl, v, _, _, _, _, rfl, .ty _, hty, kit_ty k2, _, rfl, iteT ?_⟩
    obtain ⟨a, xs, rfl, ha, hr0⟩ := hR
    obtain ⟨m', rfl, hl, hf⟩ := hF.its (.inr rfl)
    refine ⟨_, rfl, a, rfl, ⟨_, SqT.of ha⟩, fun D0 hD => ?_⟩
    obtain ⟨g0, g1⟩ := copies_go (te := tCall (spCopy n) [] E0 (tCons (tVar 1) tNil)) (σ2 := fun x => [some (.ref a), some x, none]) (m := m') (fun x H Q h => ⟨x, rfl, h⟩) hr0 hf (by omega) hD hl
    refine lc_tup (K := K) (a := a) (xs := xs) (fun i H2 => ∃ ys G, Same H H2 ∧ H2 D0 = some (.lst ys) ∧ Reps H2 (ds.take i) ys G ∧ (∀ a ∈ G, H a = none ∧ a ≠ D0)) g0 (fun i H2 _ ⟨_, _, h, _⟩ => SqT.of (h _ _ ha)) ?_ ?_
    · rintro i x H2 hi h
      exact ⟨rfl, g1 i x H2 hi h⟩
    · rintro H2 ⟨ys, G, hs, hD2, hr2, hG⟩
      rw [hr0.len, List.take_length] at hr2
      refine ⟨D0, ys, rfl, .inl ⟨SqL.of hD2, fun l hl2 => ?_⟩⟩
      have s3 := same_new hl2 (.tup ys)
      exact kk _ _ G (hs.trans s3) ⟨l, ys, rfl, upd_same, hr2.same s3⟩ fun b hb => (hG b hb).1
/-! ### marks -/
theorem scM : FnScope ["thing", "tally", "inner", "name", "one"] ["thing", "tally"] (defScope sMark) := ⟨rfl, rfl, rfl, by decide +kernel, rfl, by decide +kernel, by decide +kernel⟩
theorem ok_mark {f : Addr} {fd : FuncData} {n : Nat} (F : Fun K "_law_ta_mark" "_law_ta_mark" sMark f fd) (T : Txt K mg) (G : FnOk P w K mg base CX0 n f fd ["thing", "tally"] (spMark n)) (b : Binds K fd ["thing", "tally"] []) (m : mg "_law_ta_mark" = some (.ref f)) (zD : mg "dict" = none) :
    FnOk P w K mg base CX0 (n + 1) f fd ["thing", "tally"] (spMark (n + 1)) := by
  refine F.ok scM (fun vs H Q E h => ?_) (fun cdv A outer s H vs Q E hr h => ?_)
  · obtain ⟨v, t, d, F0, m0, k, rfl, _⟩ := h
    rfl
  obtain ⟨v, t, d, F0, m0, k, rfl, hm, hR, hF, ht, htF, kk⟩ := h
  refine ⟨_, Evl.pss_cut (ps_set (i := 2) scM.nd rfl (Or.inl rfl) (pe_ifExp (pt_val (pe_callB call_isiT (by rfl) T.isi boot_isinstance (pa_cons (pv 0) (pa_cons (pe_tup (pa_cons (pe_bltn (v := .ty "list") (by rfl) T.list boot_list rfl) (pa_cons (pe_bltn (v := .ty "tuple") (by rfl) T.tuple boot_tuple rfl) pa_nil))) pa_nil))))
      (pe_callTy call_list_of (by rfl) T.list boot_list (pa_cons (pv 0) pa_nil)) (pe_lst pa_nil)))
    (pss_cons (ps_if (pt_val (pe_callB call_isi (by rfl) T.isi boot_isinstance (pa_cons (pv 0) (pa_cons (pe_bltn (v := .ty "dict") (by rfl) zD boot_dict rfl) pa_nil)))) pss_never pss_nil)
    (Evl.pss_cut (ps_for PassesOwn.never rfl (pi_list (pv 2)) (pg_name (i := 4) scM.nd rfl (Or.inl rfl)) (pss_one (ps_expr (pe_call G hr rfl m F.kp b .nil pass0 (pa_cons (pv 4) (pa_cons (pv 1) pa_nil))))))
    (pss_cons (ps_asg (pe_op op_add (pe_ix ix_list (pv 1) pe_int (fun _ _ => rfl)) pe_int) (pg_sub (pv 1) pe_int set_list))
    (pss_cons (ps_if (pt_val (pe_callB call_isi (by rfl) T.isi boot_isinstance (pa_cons (pv 0) (pa_cons (pe_bltn (v := .ty "list") (by rfl) T.list boot_list rfl) pa_nil))))
      (pss_one (ps_expr (pe_bm PySem.F.plainAttrs_list PySem.F.slot_list_append PySem.F.type_list_append mt_append (pv 0) (pa_cons (pe_ix ix_list (pv 1) pe_int (fun _ _ => rfl)) pa_nil)))) pss_nil)
    (pss_one (ps_if (pt_val (pe_callB call_isi (by rfl) T.isi boot_isinstance (pa_cons (pv 0) (pa_cons (pe_bltn (v := .ty "dict") (by rfl) zD boot_dict rfl) pa_nil)))) pss_never pss_nil)))))), ?_⟩
  obtain ⟨xs, G0, hS⟩ := hR.shp
  obtain ⟨hr0, hGF⟩ := hS.reps
  obtain ⟨hlen, hits⟩ := hF.its0
  have htG : t ∉ G0 := fun z => htF (hGF t z)
  have hxl : xs.length = d.its.length := hr0.len
  -- inner
  refine ⟨fun σ' H' => Same H H' ∧ ∃ l, H l = none ∧ H' l = some (.lst xs) ∧ σ' = [some v, some (.ref t), some (.ref l), none, none], ?_, ?_⟩
  · refine ⟨_, rfl, by show 2 ≤ sizeLine; decide, fun tp htp => ?_⟩
    have hs1 := same_new htp (.tup [V.ty "list", V.ty "tuple"])
    obtain ⟨sT, hty, k1, k2, k3⟩ := (hR.same hs1).ty (K := K)
    refine ⟨v, tp, _, _, _, _, rfl, upd_same, .cons (.ty _) (.cons (.ty _) .nil), hty, kit_two k1 k2, _, rfl, ?_⟩
    cases hS with
    | leaf h =>
      refine iteF ⟨by show 0 ≤ sizeLine; decide, fun l hl => ?_⟩
      exact ⟨hs1.trans (same_new hl _), l, hs1.free hl, upd_same, rfl⟩
    | @lst ds a xs G0 h r n =>
      refine iteT ⟨_, rfl, a, xs, rfl, .inl (SqL.of (hs1 _ _ h)), fun l hl => ?_⟩
      exact ⟨hs1.trans (same_new hl _), l, hs1.free hl, upd_same, rfl⟩
    | @tup ds a xs G0 h r =>
      refine iteT ⟨_, rfl, a, xs, rfl, .inr (SqT.of (hs1 _ _ h)), fun l hl => ?_⟩
      exact ⟨hs1.trans (same_new hl _), l, hs1.free hl, upd_same, rfl⟩
  rintro _ H1 ⟨hs1, l, hl0, hl1, rfl⟩
  obtain ⟨sT, hty, k1, k2, k3⟩ := (hR.same hs1).ty (K := K)
  refine ⟨_, rfl, v, _, _, _, _, rfl, .ty _, hty, kit_ty k3, _, rfl, iteF ?_⟩
  clear hty k1 k2 k3 sT
  have hlt : l ≠ t := (ne_of_none ht hl0).symm
  have hlG : l ∉ G0 := fun z => by
    obtain ⟨ys, e⟩ := hr0.at_ l z
    rw [hl0] at e
    cases e
  -- the things within
  refine ⟨fun σ' H' => Kp (fun a => a ∈ G0 ∨ a = t) H H' ∧ Reps H' (marks d.its k).1 xs G0 ∧ H' t = some (.lst [.int (marks d.its k).2]) ∧ ∃ v4, σ' = [some v, some (.ref t), some (.ref l), none, v4], ?_, ?_⟩
  · refine ⟨_, rfl, l, rfl, ⟨_, SqL.of hl1⟩, ?_⟩
    refine for_list (K := K) (a := l) (xs := xs) (fun i σ' H' => Kp (fun a => a ∈ G0 ∨ a = t) H H' ∧ Kp (fun a => a ∈ G0 ∨ a = t) H1 H' ∧ Reps H' ((marks (d.its.take i) k).1 ++ d.its.drop i) xs G0 ∧ H' t = some (.lst [.int (marks (d.its.take i) k).2]) ∧ ∃ v4, σ' = [some v, some (.ref t), some (.ref l), none, v4])
      ⟨.same hs1, .same (Same.refl _), hr0.same hs1, hs1 _ _ ht, none, rfl⟩ (fun i σ' H' _ ⟨_, h, _⟩ => SqL.of (h _ _ hl1 (.inl fun z => ?_))) ?_ ?_
    · rcases z with z | z
      · exact hlG z
      · exact hlt z
    · rintro i y σ' H2 hi ⟨hg2, hg1, hr2, ht2, v4, rfl⟩
      obtain ⟨e0, G1, he0, hrep, hG1, hset⟩ := hr2.item hi
      have hil : i < d.its.length := by
        have := (List.getElem?_eq_some_iff.mp hi).1
        omega
      obtain ⟨s1, s2, s3⟩ := marks_step (List.getElem?_eq_getElem hil) k
      rw [s1] at he0
      cases he0
      obtain ⟨m', rfl, hf⟩ := hits _ (List.getElem_mem hil)
      refine ⟨_, rfl, _, rfl, y, t, _, G1, m', _, rfl, by omega, hrep, hf, ht2, fun z => htG (hG1 t z), fun H3 hk hr3 ht3 => ?_⟩
      have hw : Kp (fun a => a ∈ G0 ∨ a = t) H2 H3 := hk.wide fun a z => z.imp (hG1 a) id
      rw [← s2]
      rw [← s3] at ht3
      exact ⟨hg2.trans hw, hg1.trans hw, hset t H3 _ htG hk hr3, ht3, _, rfl⟩
    · rintro σ' H2 ⟨hg2, _, hr2, ht2, r⟩
      rw [hxl, List.take_length, List.drop_length, List.append_nil] at hr2
      rw [hxl, List.take_length] at ht2
      exact ⟨hg2, hr2, ht2, r⟩
  rintro _ H2 ⟨hg2, hr2, ht2, v4, rfl⟩
  generalize hk' : (marks d.its k).2 = k' at ht2
  generalize hds' : (marks d.its k).1 = ds' at hr2
  -- the number
  refine ⟨_, rfl, t, _, _, _, rfl, rfl, SqL.of ht2, one_at, _, _, rfl, rfl, _, rfl, t, _, _, 0, rfl, rfl, ht2, rfl, ?_⟩
  have kp3 : Kp (fun a => a = t) H2 (upd H2 t (.lst [.int (k' + 1)])) := Kp.set ht2 rfl
  generalize hH3 : upd H2 t (.lst [.int (k' + 1)]) = H3 at kp3
  have hg3 : Kp (fun a => a ∈ G0 ∨ a = t) H H3 := hg2.trans (kp3.wide fun a z => .inr z)
  have hr3 : Reps H3 ds' xs G0 := hr2.kp kp3 fun a ha z => htG (z ▸ ha)
  have ht3 : H3 t = some (.lst [.int (k' + 1)]) := by
    rw [← hH3]
    exact upd_same
  have e3 : upd H2 t (.lst (([V.int k'] : List V).set 0 (.int (k' + 1)))) = H3 := hH3
  show tSeq _ _ _ _ (upd H2 t (.lst (([V.int k'] : List V).set 0 (.int (k' + 1)))))
  rw [e3]
  cases hS with
  | leaf h =>
    obtain ⟨sT, hty, k1, k2, k3⟩ := (show Rep H3 (.leaf v) v [] from ⟨rfl, h, rfl⟩).ty (K := K)
    refine ⟨_, rfl, v, _, _, _, _, rfl, .ty _, hty, kit_ty k1, _, rfl, iteF ?_⟩
    refine ⟨_, rfl, v, _, _, _, _, rfl, .ty _, hty, kit_ty k3, _, rfl, iteF ?_⟩
    refine kk H3 hg3 ⟨rfl, h, rfl⟩ ?_
    rw [ht3, ← hk']
    rfl
  | @lst ds a xs G0 h r n =>
    have hat : a ≠ t := fun z => htF (z ▸ List.mem_cons_self)
    have ha3 : H3 a = some (.lst xs) := hg3 _ _ h (.inl fun z => z.elim n hat)
    obtain ⟨sT, hty, k1, k2, k3⟩ := (show Rep H3 (.lst ds') (.ref a) (a :: G0) from ⟨a, xs, G0, rfl, ha3, hr3, n, rfl⟩).ty (K := K)
    refine ⟨_, rfl, _, _, _, _, _, rfl, .ty _, hty, kit_ty k1, _, rfl, iteT ?_⟩
    refine ⟨_, rfl, .inl ⟨rfl, _, SqL.of ha3⟩, _, rfl, t, _, _, _, rfl, rfl, SqL.of ht3, one_at, a, _, _, rfl, rfl, ha3, Nat.lt_of_le_of_lt (show xs.length ≤ 1000 by rw [hxl]; exact hlen) (by decide), ?_⟩
    have kp4 : Kp (fun b => b = a) H3 (upd H3 a (.lst (xs ++ [.int (k' + 1)]))) := Kp.set ha3 rfl
    generalize hH4 : upd H3 a (.lst (xs ++ [.int (k' + 1)])) = H4 at kp4
    have ha4 : H4 a = some (.lst (xs ++ [.int (k' + 1)])) := by
      rw [← hH4]
      exact upd_same
    have hr4 : Reps H4 ds' xs G0 := hr3.kp kp4 fun b hb z => n (z ▸ hb)
    have hs4 := hr4.snoc (d := .leaf (.int (k' + 1))) (x := .int (k' + 1)) (G := []) ⟨rfl, .inr (.inr (.inl ⟨_, rfl⟩)), rfl⟩ (fun _ _ z => nomatch z)
    rw [List.append_nil] at hs4
    have R4 : Rep H4 (.lst (ds' ++ [.leaf (.int (k' + 1))])) (.ref a) (a :: G0) := ⟨a, _, G0, rfl, ha4, hs4, n, rfl⟩
    obtain ⟨s4, hty4, q1, q2, q3⟩ := R4.ty (K := K)
    refine ⟨_, rfl, _, _, _, _, _, rfl, .ty _, hty4, kit_ty q3, _, rfl, iteF ?_⟩
    refine kk H4 ((hg3.wide fun b z => z.imp (fun y => List.mem_cons_of_mem _ y) id).trans (kp4.wide fun b z => .inl (z ▸ List.mem_cons_self))) ?_ ?_
    · rw [← hds', ← hk'] at R4
      exact R4
    · rw [← hH4, upd_ne (Ne.symm hat), ht3, ← hk']
      rfl
  | @tup ds a xs G0 h r =>
    have ha3 : H3 a = some (.tup xs) := hg3 _ _ h (.inr fun _ z => nomatch z)
    have R3 : Rep H3 (.tup ds') (.ref a) F0 := ⟨a, xs, rfl, ha3, hr3⟩
    obtain ⟨sT, hty, k1, k2, k3⟩ := R3.ty (K := K)
    refine ⟨_, rfl, _, _, _, _, _, rfl, .ty _, hty, kit_ty k1, _, rfl, iteF ?_⟩
    refine ⟨_, rfl, _, _, _, _, _, rfl, .ty _, hty, kit_ty k3, _, rfl, iteF ?_⟩
    refine kk H3 hg3 ?_ ?_
    · rw [← hds'] at R3
      exact R3
    · rw [ht3, ← hk']
      rfl
end
end K02
set_option Elab.async false
set_option linter.all false
set_option maxRecDepth 100000
set_option maxHeartbeats 4000000
namespace K02
open PySem L2 PyProof.Rows
section
variable {P : Program} {w : World} {K : PySem.W.Frag} {mg : Str → Option Value} {base : Heap}
theorem scS : FnScope ["told", "owed", "name", "at"] ["told", "owed"] (defScope sSame) := ⟨rfl, rfl, rfl, by decide +kernel, rfl, by decide +kernel, by decide +kernel⟩
theorem RW.seq {H : Hp} {d : D} {v : V} (h : RW H d v) (hd : (d.isL || d.isT) = true) : ∃ a xs, v = .ref a ∧ (H a = some (.lst xs) ∨ H a = some (.tup xs)) ∧ RWs H d.its xs := by
  cases d with
  | leaf w => cases hd
  | lst ds =>
    obtain ⟨a, xs, e, ha, hr⟩ := h
    exact ⟨a, xs, e, .inl ha, hr⟩
  | tup ds =>
    obtain ⟨a, xs, e, ha, hr⟩ := h
    exact ⟨a, xs, e, .inr ha, hr⟩
theorem RW.leafs {H : Hp} {d : D} {v : V} (h : RW H d v) (hd : (d.isL || d.isT) = false) : d = .leaf v ∧ Leaf v := by
  cases d with
  | leaf w =>
    obtain ⟨rfl, hl⟩ := h
    exact ⟨rfl, hl⟩
  | lst ds => cases hd
  | tup ds => cases hd
theorem ok_same {f : Addr} {fd : FuncData} {n : Nat} (F : Fun K "_law_ta_same" "_law_ta_same" sSame f fd) (T : Txt K mg) (G : FnOk P w K mg base CX0 n f fd ["told", "owed"] (spSame n)) (b : Binds K fd ["told", "owed"] []) (m : mg "_law_ta_same" = some (.ref f)) (zD : mg "dict" = none) (zB : mg "bool" = none) (zS : mg "str" = none) :
    FnOk P w K mg base CX0 (n + 1) f fd ["told", "owed"] (spSame (n + 1)) := by
  refine F.ok scS (fun vs H Q E h => ?_) (fun cdv A outer s H vs Q E hr h => ?_)
  · obtain ⟨v, u, d, m0, rfl, _⟩ := h
    rfl
  obtain ⟨v, u, d, m0, rfl, hm, hv, hu, hF, kk⟩ := h
  refine ⟨_, pss_cons (ps_if (pt_val (pe_callB call_isi (by rfl) T.isi boot_isinstance (pa_cons (pv 1) (pa_cons (pe_bltn (v := .ty "dict") (by rfl) zD boot_dict rfl) pa_nil)))) pss_never pss_nil)
    (pss_cons (ps_if (pt_val (pe_callB call_isiT (by rfl) T.isi boot_isinstance (pa_cons (pv 1) (pa_cons (pe_tup (pa_cons (pe_bltn (v := .ty "list") (by rfl) T.list boot_list rfl) (pa_cons (pe_bltn (v := .ty "tuple") (by rfl) T.tuple boot_tuple rfl) pa_nil))) pa_nil))))
      (pss_cons (ps_if (pw_or (pt_cmpR op_ne (pe_callB call_isi (by rfl) T.isi boot_isinstance (pa_cons (pv 0) (pa_cons (pe_bltn (v := .ty "list") (by rfl) T.list boot_list rfl) pa_nil))) (pe_callB call_isi (by rfl) T.isi boot_isinstance (pa_cons (pv 1) (pa_cons (pe_bltn (v := .ty "list") (by rfl) T.list boot_list rfl) pa_nil))) (nomark _))
          (pw_or1 (pt_cmpR op_ne (pe_callB call_isi (by rfl) T.isi boot_isinstance (pa_cons (pv 0) (pa_cons (pe_bltn (v := .ty "tuple") (by rfl) T.tuple boot_tuple rfl) pa_nil))) (pe_callB call_isi (by rfl) T.isi boot_isinstance (pa_cons (pv 1) (pa_cons (pe_bltn (v := .ty "tuple") (by rfl) T.tuple boot_tuple rfl) pa_nil))) (nomark _)))).pt pss_never pss_nil)
      (pss_one (ps_ret (pe_and (pe_cmpR op_eq (pe_callB call_len_seq (by rfl) T.len PySem.boot_len (pa_cons (pv 0) pa_nil)) (pe_callB call_len_seq (by rfl) T.len PySem.boot_len (pa_cons (pv 1) pa_nil)) (nomark _))
        (pe_one (pe_callB (cr_all rfl) (by rfl) T.all (by decide +kernel) (pa_cons (pe_lc (own := [("at", 3)]) (g := gName 3) (tt := tYes) rfl scS.nd (pi_range1 rfl T.range (pa_cons (pe_callB call_len_seq (by rfl) T.len PySem.boot_len (pa_cons (pv 1) pa_nil)) pa_nil)) (blkOk_by (N := ["told", "owed", "name", "at"]) (sc := defScope sSame) (by decide +kernel)) (fun _ _ _ _ _ => pg_name (i := 3) scS.nd rfl (Or.inl rfl)) (fun _ _ _ _ _ => pts_nil)
          (fun _ _ _ _ _ => pe_call G hr rfl m F.kp b .nil pass0 (pa_cons (pe_ix (show IxR _ (rIx K) from ix_seq) (pv 0) (pv 3) (fun _ _ => rfl)) (pa_cons (pe_ix (show IxR _ (rIx K) from ix_seq) (pv 1) (pv 3) (fun _ _ => rfl)) pa_nil)))) pa_nil))))))) pss_nil)
    (pss_cons (ps_if (pw_or (pt_cmpR op_isN (pv 1) pe_non (nomark _)) (pw_or1 (pt_val (pe_callB call_isi (by rfl) T.isi boot_isinstance (pa_cons (pv 1) (pa_cons (pe_bltn (v := .ty "bool") (by rfl) zB boot_bool rfl) pa_nil)))))).pt
      (pss_one (ps_ret (pe_cmpR op_eq (pe_callB call_reprNB (by rfl) T.repr boot_repr (pa_cons (pv 0) pa_nil)) (pe_callB call_reprNB (by rfl) T.repr boot_repr (pa_cons (pv 1) pa_nil)) (nomark _)))) pss_nil)
    (pss_cons (ps_if (pt_val (pe_callB call_isi (by rfl) T.isi boot_isinstance (pa_cons (pv 1) (pa_cons (pe_bltn (v := .ty "int") (by rfl) T.int boot_int rfl) pa_nil))))
      (pss_one (ps_ret (pe_and (pe_callB call_isi (by rfl) T.isi boot_isinstance (pa_cons (pv 0) (pa_cons (pe_bltn (v := .ty "int") (by rfl) T.int boot_int rfl) pa_nil)))
        (pe_and (pe_not (pe_callB call_isi (by rfl) T.isi boot_isinstance (pa_cons (pv 0) (pa_cons (pe_bltn (v := .ty "bool") (by rfl) zB boot_bool rfl) pa_nil)))) (pe_one (pe_cmpR op_eq (pv 0) (pv 1) (nomark _))))))) pss_nil)
    (pss_one (ps_ret (pe_and (pe_callB call_isi (by rfl) T.isi boot_isinstance (pa_cons (pv 0) (pa_cons (pe_bltn (v := .ty "str") (by rfl) zS boot_str rfl) pa_nil))) (pe_one (pe_cmpR op_eq (pv 0) (pv 1) (nomark _))))))))), ?_⟩
  obtain ⟨sT, hty, k1, k2, k3⟩ := hu.ty (K := K)
  refine ⟨_, rfl, u, _, _, _, _, rfl, .ty _, hty, kit_ty k3, _, rfl, iteF ?_⟩
  refine ⟨_, rfl, by show 2 ≤ sizeLine; decide, fun tp htp => ?_⟩
  have hs1 := same_new htp (.tup [V.ty "list", V.ty "tuple"])
  have hv1 := hv.same hs1
  have hu1 := hu.same hs1
  obtain ⟨s1, hty1, q1, q2, q3⟩ := hu1.ty (K := K)
  refine ⟨u, tp, _, _, _, _, rfl, upd_same, .cons (.ty _) (.cons (.ty _) .nil), hty1, kit_two q1 q2, _, rfl, ?_⟩
  clear hty hty1
  generalize hH1 : upd H tp (.tup [V.ty "list", V.ty "tuple"]) = H1 at hs1 hv1 hu1
  refine ite2 (fun e => ?_) (fun e => ?_)
  · -- a list or a tuple
    obtain ⟨sa, hta, a1, a2, a3⟩ := hv1.ty (K := K)
    obtain ⟨sb, htb, b1, b2, b3⟩ := hu1.ty (K := K)
    refine ⟨_, rfl, v, _, _, _, _, rfl, .ty _, hta, kit_ty a1, _, rfl, u, _, _, _, _, rfl, .ty _, htb, kit_ty b1, rfl, _, rfl, ?_⟩
    have nx : (!decide (V.bl d.isL = V.bl d.isL)) = false := by simp
    have ny : (!decide (V.bl d.isT = V.bl d.isT)) = false := by simp
    show if (!decide (V.bl d.isL = V.bl d.isL)) = true then _ else _
    rw [nx]
    refine iteF ?_
    refine ⟨_, rfl, v, _, _, _, _, rfl, .ty _, hta, kit_ty a2, _, rfl, u, _, _, _, _, rfl, .ty _, htb, kit_ty b2, rfl, _, rfl, ?_⟩
    show if (!decide (V.bl d.isT = V.bl d.isT)) = true then _ else _
    rw [ny]
    refine iteF ?_
    clear hta htb
    obtain ⟨m', rfl, hlen, hf⟩ := hF.its (show d.isL = true ∨ d.isT = true by simpa using e)
    obtain ⟨a, xs, rfl, ha, ra⟩ := hv1.seq e
    obtain ⟨c, ys, rfl, hc, rc⟩ := hu1.seq e
    have hlx := ra.len
    have hly := rc.len
    have sq : ∀ {a : Addr} {xs : List V} {H : Hp}, (H a = some (.lst xs) ∨ H a = some (.tup xs)) → SqL K H a xs ∨ SqT K H a xs := fun h => by
      rcases h with h | h
      · exact .inl (SqL.of h)
      · exact .inr (SqT.of h)
    refine ⟨_, rfl, a, xs, rfl, sq ha, _, rfl, c, ys, rfl, sq hc, rfl, _, rfl, ?_⟩
    rw [hlx, hly, decide_eq_true rfl]
    refine iteT ?_
    refine ⟨_, rfl, c, ys, rfl, sq hc, _, rfl, by omega, by omega, fun D hD => ?_⟩
    have hat : ∀ (a : Addr) (xs : List V), (H1 a = some (.lst xs) ∨ H1 a = some (.tup xs)) → ∀ (i : Nat) (y : V), xs[i]? = some y → ∀ H' : Hp, Same H1 H' → ∀ Q : VK, Q y H' → rIx K (.ref a) (.int (0 + (i : Int))) H' Q := fun a xs ha i y hy H' hs Q q => by
      have e0 : atI xs (0 + (i : Int)) = some y := by
        rw [Int.zero_add]
        exact atI_nat hy
      rcases ha with ha | ha
      · exact .inl ⟨a, xs, _, y, rfl, rfl, SqL.of (hs _ _ ha), e0, q⟩
      · exact .inr (.inl ⟨a, xs, _, y, rfl, rfl, SqT.of (hs _ _ ha), e0, q⟩)
    refine lc_range (lo := 0) (fun i H' => Same H1 H' ∧ H' D = some (.lst ((List.replicate i true).map V.bl))) ⟨same_new hD _, upd_same⟩ ?_ ?_
    · rintro i H2 hi ⟨hs2, hD2⟩
      have hi2 : i < d.its.length := by omega
      refine ⟨rfl, ?_⟩
      show tCall (spSame n) [] E0 (tCons (tOp (rIx K) (tVar 0) (tVar 3)) (tCons (tOp (rIx K) (tVar 1) (tVar 3)) tNil)) _ H2 _
      have hx := List.getElem?_eq_getElem (show i < xs.length by omega)
      have hy := List.getElem?_eq_getElem (show i < ys.length by omega)
      generalize xs[i] = x at hx
      generalize ys[i] = y at hy
      obtain ⟨e1, he1, hr1⟩ := ra.item hx
      obtain ⟨e2, he2, hr2⟩ := rc.item hy
      have ee : e1 = e2 := Option.some.inj (he1.symm.trans he2)
      subst ee
      refine ⟨_, rfl, _, rfl, hat a xs ha i x hx H2 hs2 _ ⟨_, rfl, _, rfl, hat c ys hc i y hy H2 hs2 _ ?_⟩⟩
      refine ⟨x, y, e1, m', rfl, by omega, hr1.same hs2, hr2.same hs2, hf e1 (List.mem_of_getElem? he1), fun H3 hs3 => ?_⟩
      refine ⟨_, hs3 _ _ hD2, ?_, same_put (hs2.trans hs3) hD, ?_⟩
      · rw [List.length_map, List.length_replicate]
        exact Nat.lt_of_lt_of_le (show i < 1000 by omega) (by decide)
      · rw [upd_same, List.replicate_succ', List.map_append]
        rfl
    · rintro H2 ⟨hs2, hD2⟩
      refine ⟨D, _, rfl, SqL.of hD2, ?_⟩
      have ea : (List.replicate (((ys.length : Nat) : Int).toNat) true).all id = true := by simp
      rw [ea]
      exact kk H2 (hs1.trans hs2)
  · -- a leaf
    obtain ⟨rfl, hl⟩ := hu.leafs (by simpa using e)
    obtain ⟨rfl, _⟩ := hv
    rcases hl with rfl | ⟨b0, rfl⟩ | ⟨i0, rfl⟩ | ⟨z0, rfl⟩
    · refine ⟨_, rfl, rfl, _, rfl, ifT (decide_eq_true rfl) (iteT ?_)⟩
      refine ⟨_, rfl, .inl ⟨rfl, _, rfl, .inl ⟨rfl, rfl, ?_⟩⟩⟩
      rw [decide_eq_true rfl]
      exact kk _ hs1
    · refine ⟨_, rfl, rfl, _, rfl, ifF (decide_eq_false (fun z => nomatch z)) ?_⟩
      refine ⟨_, rfl, .bl b0, _, _, _, _, rfl, .ty _, .base (.bl b0), kit_ty (a := "bool") (b := "bool") (r := true) (by decide +kernel), _, rfl, iteT ?_⟩
      refine ⟨_, rfl, .inr ⟨b0, rfl, _, rfl, .inr ⟨b0, rfl, rfl, ?_⟩⟩⟩
      rw [decide_eq_true rfl]
      exact kk _ hs1
    · refine ⟨_, rfl, rfl, _, rfl, ifF (decide_eq_false (fun z => nomatch z)) ?_⟩
      refine ⟨_, rfl, .int i0, _, _, _, _, rfl, .ty _, .base (.int i0), kit_ty (a := "int") (b := "bool") (r := false) (by decide +kernel), _, rfl, iteF ?_⟩
      refine ⟨_, rfl, .int i0, _, _, _, _, rfl, .ty _, .base (.int i0), kit_ty (a := "int") (b := "int") (r := true) (by decide +kernel), _, rfl, iteT ?_⟩
      refine ⟨_, rfl, .int i0, _, _, _, _, rfl, .ty _, .base (.int i0), kit_ty (a := "int") (b := "int") (r := true) (by decide +kernel), _, rfl, iteT ?_⟩
      refine ⟨_, rfl, .int i0, _, _, _, _, rfl, .ty _, .base (.int i0), kit_ty (a := "int") (b := "bool") (r := false) (by decide +kernel), _, rfl, _, rfl, iteT ?_⟩
      refine ⟨_, rfl, _, rfl, rfl, ?_⟩
      rw [decide_eq_true rfl]
      exact kk _ hs1
    · refine ⟨_, rfl, rfl, _, rfl, ifF (decide_eq_false (fun z => nomatch z)) ?_⟩
      refine ⟨_, rfl, .str z0, _, _, _, _, rfl, .ty _, .base (.str z0), kit_ty (a := "str") (b := "bool") (r := false) (by decide +kernel), _, rfl, iteF ?_⟩
      refine ⟨_, rfl, .str z0, _, _, _, _, rfl, .ty _, .base (.str z0), kit_ty (a := "str") (b := "int") (r := false) (by decide +kernel), _, rfl, iteF ?_⟩
      refine ⟨_, rfl, .str z0, _, _, _, _, rfl, .ty _, .base (.str z0), kit_ty (a := "str") (b := "str") (r := true) (by decide +kernel), _, rfl, iteT ?_⟩
      refine ⟨_, rfl, _, rfl, rfl, ?_⟩
      rw [decide_eq_true rfl]
      exact kk _ hs1
end
end K02
set_option Elab.async false
set_option linter.all false
set_option maxRecDepth 100000
set_option maxHeartbeats 4000000
namespace K02
open PySem L2 PyProof.Rows
/-! ### what the drawing of steps stands on -/
theorem pt_never {X : Cx} {e : Expr} : PT X e (fun _ _ _ => False) := ⟨fun _ _ _ _ _ _ h => h.elim⟩
theorem pw_never {X : Cx} {e : Expr} : PW X e (fun _ _ _ => False) := ⟨fun _ _ _ _ _ _ _ h => h.elim⟩
theorem But.kp {p : Addr} {H H' : Hp} {n : Nat} (h : But p H H') (q : Purse H p n) : Kp (fun a => a = p) H H' := fun b o e z => by
  rcases z with z | z
  · exact h b o z e
  · refine h b o (fun y => ?_) e
    obtain ⟨a1, a2, a3, e2, _⟩ := q
    rw [y, e2] at e
    exact z _ (Option.some.inj e).symm
/-- what may still be drawn: parts, defaults, items, calls, how deep -/
def lf5 (a d i c l : Int) : HO := .lst [.int a, .int d, .int i, .int c, .int l]
def Left (H : Hp) (L : Addr) (a : Int) : Prop := ∃ (d i c l : Int), H L = some (lf5 a d i c l) ∧ 0 ≤ i ∧ i ≤ 20 ∧ 1 ≤ l ∧ l ≤ 5
def Nam (H : Hp) (n : Addr) (z : List Str) : Prop := H n = some (.lst (z.map V.str)) ∧ 1 ≤ z.length ∧ z.length ≤ 26 ∧ ∀ y ∈ z, okName y
/-- the labels: N the names that are bound or read -/
def Lbl (H : Hp) (B p L : Addr) (N : List Str) : Prop := ∃ n0 n1 n2 z1 z2, H B = some (.lst [.ref n0, .ref n1, .ref n2]) ∧ Nam H n0 N ∧ Nam H n1 z1 ∧ Nam H n2 z2 ∧ z2.Nodup ∧ B ≠ p ∧ B ≠ L ∧ n0 ≠ p ∧ n0 ≠ L ∧ n1 ≠ p ∧ n1 ≠ L ∧ n2 ≠ p ∧ n2 ≠ L
theorem Nam.kp {S : Addr → Prop} {H H1 : Hp} {n : Addr} {z : List Str} (h : Nam H n z) (k : Kp S H H1) (hn : ¬ S n) : Nam H1 n z := ⟨k _ _ h.1 (.inl hn), h.2⟩
theorem Lbl.kp {H H1 : Hp} {B p L : Addr} {N : List Str} (h : Lbl H B p L N) (k : Kp (fun a => a = p ∨ a = L) H H1) : Lbl H1 B p L N := by
  obtain ⟨n0, n1, n2, z1, z2, hB, h0, h1, h2, nd, b1, b2, b3, b4, b5, b6, b7, b8⟩ := h
  have no : ∀ {a : Addr}, a ≠ p → a ≠ L → ¬ (a = p ∨ a = L) := fun x y z => z.elim x y
  exact ⟨n0, n1, n2, z1, z2, k _ _ hB (.inl (no b1 b2)), h0.kp k (no b3 b4), h1.kp k (no b5 b6), h2.kp k (no b7 b8), nd, b1, b2, b3, b4, b5, b6, b7, b8⟩
/-- a generator's surroundings -/
structure Gn (H : Hp) (p L B : Addr) (N : List Str) (n : Nat) (a : Int) : Prop where
  pu : Purse H p n
  lf : Left H L a
  ne : L ≠ p
  lb : Lbl H B p L N
section
variable {H H1 : Hp} {p L B : Addr} {N : List Str} {n m : Nat} {a : Int}
theorem Gn.mono (h : Gn H p L B N n a) (hm : n ≤ m) : Gn H p L B N m a := ⟨h.pu.mono hm, h.lf, h.ne, h.lb⟩
theorem Gn.same (h : Gn H p L B N n a) (s : Same H H1) : Gn H1 p L B N n a := by
  refine ⟨h.pu.same s, ?_, h.ne, h.lb.kp (.same s)⟩
  obtain ⟨d, i, c, l, e, r⟩ := h.lf
  exact ⟨d, i, c, l, s _ _ e, r⟩
theorem Gn.draw (h : Gn H p L B N n a) (b : But p H H1) (q : Purse H1 p m) : Gn H1 p L B N m a := by
  refine ⟨q, ?_, h.ne, h.lb.kp ((b.kp h.pu).wide fun _ z => .inl z)⟩
  obtain ⟨d, i, c, l, e, r⟩ := h.lf
  exact ⟨d, i, c, l, b _ _ h.ne e, r⟩
theorem Gn.left (h : Gn H p L B N n a) {a' d i c l : Int} (hi : 0 ≤ i ∧ i ≤ 20 ∧ 1 ≤ l ∧ l ≤ 5) : Gn (upd H L (lf5 a' d i c l)) p L B N n a' ∧ Kp (fun a => a = p ∨ a = L) H (upd H L (lf5 a' d i c l)) := by
  obtain ⟨d0, i0, c0, l0, e, _⟩ := h.lf
  have k : Kp (fun a => a = p ∨ a = L) H (upd H L (lf5 a' d i c l)) := Kp.set e (.inr rfl)
  refine ⟨⟨?_, ⟨d, i, c, l, upd_same, hi⟩, h.ne, h.lb.kp k⟩, k⟩
  obtain ⟨x, y, z, e2, r⟩ := h.pu
  exact ⟨x, y, z, by rw [upd_ne h.ne.symm]; exact e2, r⟩
theorem Gn.kd (h : Gn H p L B N n a) (b : But p H H1) : Kp (fun a => a = p ∨ a = L) H H1 := (b.kp h.pu).wide fun _ z => .inl z
end
theorem at5_0 {a b c d e : V} : atI [a, b, c, d, e] 0 = some a := atI_nat (j := 0) rfl
theorem at5_1 {a b c d e : V} : atI [a, b, c, d, e] 1 = some b := atI_nat (j := 1) rfl
theorem at5_2 {a b c d e : V} : atI [a, b, c, d, e] 2 = some c := atI_nat (j := 2) rfl
theorem at5_3 {a b c d e : V} : atI [a, b, c, d, e] 3 = some d := atI_nat (j := 3) rfl
theorem at5_4 {a b c d e : V} : atI [a, b, c, d, e] 4 = some e := atI_nat (j := 4) rfl
def S (s : String) : D := .leaf (.str (Str.ofString s))
/-- a term of at most so many levels -/
def TmOk : Nat → D → Prop
  | 0, _ => False
  | n + 1, d => (∃ i : Int, i.natAbs ≤ 1000 ∧ d = .tup [S "number", .leaf (.int i)]) ∨ (∃ z, okName z ∧ d = .tup [S "read", .leaf (.str z)]) ∨ ∃ z ts, okName z ∧ d = .tup [S "call", .leaf (.str z), .lst ts] ∧ ts.length ≤ 3 ∧ ∀ t ∈ ts, TmOk n t
theorem TmOk.succ : ∀ {n : Nat} {d : D}, TmOk n d → TmOk (n + 1) d
  | 0, _, h => h.elim
  | n + 1, d, h => by
    rcases h with h | h | ⟨z, ts, hz, e, hl, ht⟩
    · exact .inl h
    · exact .inr (.inl h)
    · exact .inr (.inr ⟨z, ts, hz, e, hl, fun t m => (ht t m).succ⟩)
theorem TmOk.le {n m : Nat} {d : D} (h : TmOk n d) (hm : n ≤ m) : TmOk m d := by
  induction hm with
  | refl => exact h
  | step _ ih => exact ih.succ
def cT : Nat → Nat
  | 0 => 0
  | k + 1 => 6 + 3 * cT k
/-- a new datum behind a drawing -/
def New (H : Hp) (p L B : Addr) (N : List Str) (n : Nat) (a : Int) (ok : D → Prop) (u : V) (H' : Hp) : Prop := ∃ d G, Gn H' p L B N n a ∧ Kp (fun a => a = p ∨ a = L) H H' ∧ Rep H' d u G ∧ (∀ x ∈ G, H x = none) ∧ ok d
def spTerm (k : Nat) : Sp := fun vs H Q _ => ∃ (p B L : Addr) (N : List Str) (n m : Nat) (a : Int), vs = [.ref p, .ref B, .ref L, .int (m : Int)] ∧ 1 ≤ m ∧ m ≤ 5 ∧ m + 2 ≤ k ∧ Gn H p L B N n a ∧ n + cT m < 10 ^ 60 ∧
  ∀ u H', New H p L B N (n + cT m) a (TmOk m) u H' → Q u H'
theorem leaf_str {z : Str} : Leaf (.str z) := .inr (.inr (.inr ⟨z, rfl⟩))
theorem leaf_int {i : Int} : Leaf (.int i) := .inr (.inr (.inl ⟨i, rfl⟩))
theorem leaf_non : Leaf .non := .inl rfl
theorem rep_leaf {H : Hp} {v : V} (h : Leaf v) : Rep H (.leaf v) v [] := ⟨rfl, h, rfl⟩
theorem reps_nil {H : Hp} : Reps H [] [] [] := ⟨rfl, rfl⟩
theorem reps_leaf {H : Hp} {v : V} {ds : List D} {xs : List V} {F : List Addr} (h : Leaf v) (r : Reps H ds xs F) : Reps H (.leaf v :: ds) (v :: xs) F := ⟨v, xs, [], F, rfl, rep_leaf h, r, (fun _ z => nomatch z), rfl⟩
theorem rep_tup {H : Hp} {a : Addr} {ds : List D} {xs : List V} {F : List Addr} (h : H a = some (.tup xs)) (r : Reps H ds xs F) : Rep H (.tup ds) (.ref a) F := ⟨a, xs, rfl, h, r⟩
theorem rep_lst {H : Hp} {a : Addr} {ds : List D} {xs : List V} {F : List Addr} (h : H a = some (.lst xs)) (r : Reps H ds xs F) (n : a ∉ F) : Rep H (.lst ds) (.ref a) (a :: F) := ⟨a, xs, F, rfl, h, r, n, rfl⟩
theorem reps_one {H : Hp} {d : D} {v : V} {F : List Addr} (h : Rep H d v F) : Reps H [d] [v] F := ⟨v, [], F, [], rfl, h, reps_nil, (fun _ _ z => nomatch z), (List.append_nil F).symm⟩
theorem reps_cons {H : Hp} {d : D} {v : V} {ds : List D} {xs : List V} {F G : List Addr} (h : Rep H d v F) (r : Reps H ds xs G) (n : ∀ a ∈ F, a ∉ G) : Reps H (d :: ds) (v :: xs) (F ++ G) := ⟨v, xs, F, G, rfl, h, r, n, rfl⟩
section
variable {H H1 : Hp} {p L B : Addr} {N : List Str} {n m : Nat} {a b : Int}
theorem Gn.free (h : Gn H p L B N n a) (k : Kp (fun a => a = p ∨ a = L) H H1) (h1 : Gn H1 p L B N m b) {x : Addr} (hx : H1 x = none) : H x = none := by
  cases e : H x with
  | none => rfl
  | some o =>
    by_cases hp : x = p
    · obtain ⟨o2, e2⟩ := h1.pu.some
      rw [← hp, hx] at e2
      cases e2
    · by_cases hL : x = L
      · obtain ⟨d, i, c, l, e2, _⟩ := h1.lf
        rw [← hL, hx] at e2
        cases e2
      · rw [k x o e (.inl fun z => z.elim hp hL)] at hx
        cases hx
theorem Gn.neP (h : Gn H p L B N n a) {x : Addr} (hx : H x = none) : x ≠ p ∧ x ≠ L := by
  refine ⟨h.pu.ne hx, fun z => ?_⟩
  obtain ⟨d, i, c, l, e2, _⟩ := h.lf
  rw [← z, hx] at e2
  cases e2
theorem Gn.noS (h : Gn H p L B N n a) {x : Addr} (hx : H x = none) : ¬ (x = p ∨ x = L) := fun z => z.elim (h.neP hx).1 (h.neP hx).2
theorem Gn.put (h : Gn H p L B N n a) (k : Kp (fun a => a = p ∨ a = L) H H1) (h1 : Gn H1 p L B N m b) {x : Addr} {o : HO} (hx : H x = none) : Gn (upd H1 x o) p L B N m b := by
  obtain ⟨np, nL⟩ := h.neP hx
  refine ⟨?_, ?_, h.ne, h.lb.kp (k.put hx)⟩
  · obtain ⟨y, z, w, e2, r⟩ := h1.pu
    exact ⟨y, z, w, by rw [upd_ne np.symm]; exact e2, r⟩
  · obtain ⟨d, i, c, l, e2, r⟩ := h1.lf
    exact ⟨d, i, c, l, by rw [upd_ne nL.symm]; exact e2, r⟩
end
/-! ### one of some names -/
def tPick (K : PySem.W.Frag) (j : Int) : TE := tOp (rIxL K) (tOp (rIxL K) (tVar 1) (tC (.int j))) (tCall spCoin [] E0 (tCons (tVar 0) (tCons (tCB (fun xs H Q => ∃ p ys, xs = [V.ref p] ∧ (SqL K H p ys ∨ SqT K H p ys) ∧ Q (.int ys.length) H) (tCons (tOp (rIxL K) (tVar 1) (tC (.int j))) tNil)) tNil)))
theorem pick_ok {K : PySem.W.Frag} {σ : L2.St} {H : Hp} {p B A : Addr} {xs : List V} {j : Int} {z : List Str} {n : Nat} {Q : VK} (h0 : σ[0]? = some (some (.ref p))) (h1 : σ[1]? = some (some (.ref B))) (hB : H B = some (.lst xs)) (hj : atI xs j = some (.ref A)) (hA : Nam H A z) (hAp : A ≠ p) (hp : Purse H p n) (hn : n < 10 ^ 60)
    (k : ∀ y H', y ∈ z → But p H H' → Purse H' p (n + 1) → Q (.str y) H') : tPick K j σ H Q := by
  obtain ⟨hz, hz1, hz26, hzo⟩ := hA
  refine ⟨_, h1, B, _, _, _, rfl, rfl, SqL.of hB, hj, _, h0, _, h1, B, _, _, _, rfl, rfl, SqL.of hB, hj, A, _, rfl, .inl (SqL.of hz), p, _, n, rfl, hp, hn, (by rw [List.length_map]; omega), (by rw [List.length_map]; omega), fun dr H1 d0 d1 hb hp1 => ?_⟩
  rw [List.length_map] at d1
  obtain ⟨i, rfl⟩ : ∃ i : Nat, dr = (i : Int) := ⟨dr.toNat, by omega⟩
  have hi : i < z.length := by omega
  exact ⟨A, _, _, .str z[i], rfl, rfl, SqL.of (hb _ _ hAp hz), atI_nat (by rw [List.getElem?_map, List.getElem?_eq_getElem hi]; rfl), k _ _ (List.getElem_mem hi) hb hp1⟩
section
variable {P : Program} {w : World} {K : PySem.W.Frag} {mg : Str → Option Value} {base : Heap}
theorem scTm : FnScope ["purse", "labels", "left", "deep", "way", "terms", "turn"] ["purse", "labels", "left", "deep"] (defScope sTerm) := ⟨rfl, rfl, rfl, by decide +kernel, rfl, by decide +kernel, by decide +kernel⟩
theorem term_none {f : Addr} {fd : FuncData} {ps : List Str} : FnOk P w K mg base CX0 0 f fd ps (spTerm 0) := none_of fun vs H Q E h => by
  obtain ⟨p, B, L, N, n, m, a, _, _, _, h1, _⟩ := h
  omega
theorem ok_term {f fC : Addr} {fd fdC : FuncData} {k : Nat} (F : Fun K "_law_tk_term" "_law_tk_term" sTerm f fd) (T : Txt K mg)
    (FC : Fun K "_law_coin" "_law_coin" sCoin fC fdC) (GC : FnOk P w K mg base CX0 1 fC fdC ["purse", "many"] spCoin) (bC : Binds K fdC ["purse", "many"] []) (mC : mg "_law_coin" = some (.ref fC))
    (G : FnOk P w K mg base CX0 k f fd ["purse", "labels", "left", "deep"] (spTerm k)) (b : Binds K fd ["purse", "labels", "left", "deep"] []) (m : mg "_law_tk_term" = some (.ref f)) :
    FnOk P w K mg base CX0 (k + 1) f fd ["purse", "labels", "left", "deep"] (spTerm (k + 1)) := by
  refine F.ok scTm (fun vs H Q E h => ?_) (fun cdv A outer s H vs Q E hr h => ?_)
  · obtain ⟨p, B, L, N, n, m, a, rfl, _⟩ := h
    rfl
  obtain ⟨p, B, L, N, n, mm, a, rfl, hm1, hm5, hmk, hG, hn, kk⟩ := h
  have hr1 : Room 1 (A.deeper (envOfC "_law_tk_term" (defScope sTerm) s.heap.objs.size f cdv)) := hr.mono (by omega)
  refine ⟨_, Evl.pss_cut (ps_par (i := 4) (j := 5) rfl scTm.nd rfl rfl (by decide) rfl rfl (pa_cons (pe_call GC hr1 rfl mC FC.kp bC .nil pass0 (pa_cons (pv 0) (pa_cons pe_int pa_nil))) (pa_cons (pe_lst pa_nil) pa_nil)) (by rfl))
    (pss_cons (ps_if (pt_cmpR op_eq (pv 4) pe_int (nomark _)) (pss_one (ps_ret (pe_tup (pa_cons pe_str (pa_cons (pe_ix ix_list (pe_lst (pa_cons (pe_op op_sub (pe_call GC hr1 rfl mC FC.kp bC .nil pass0 (pa_cons (pv 0) (pa_cons pe_int pa_nil))) pe_int) (pa_cons (pe_op op_sub (pe_call GC hr1 rfl mC FC.kp bC .nil pass0 (pa_cons (pv 0) (pa_cons pe_int pa_nil))) pe_int) pa_nil)))
        (pe_call GC hr1 rfl mC FC.kp bC .nil pass0 (pa_cons (pv 0) (pa_cons pe_int pa_nil))) (fun _ _ => rfl)) pa_nil))))) pss_nil)
    (pss_cons (ps_if (PW.pt (pw_or (pt_cmpR op_lt (pv 4) pe_int (nomark _)) (pw_or1 (pt_cmpR op_lt (pe_ix ix_list (pv 2) pe_int (fun _ _ => rfl)) pe_int (nomark _)))))
      (pss_one (ps_ret (pe_tup (pa_cons pe_str (pa_cons (pe_ix ix_list (pe_ix ix_list (pv 1) pe_int (fun _ _ => rfl)) (pe_call GC hr1 rfl mC FC.kp bC .nil pass0 (pa_cons (pv 0) (pa_cons (pe_callB call_len_seq (by rfl) T.len PySem.boot_len (pa_cons (pe_ix ix_list (pv 1) pe_int (fun _ _ => rfl)) pa_nil)) pa_nil))) (fun _ _ => rfl)) pa_nil))))) pss_nil)
    (pss_cons (ps_asg (pe_op op_sub (pe_ix ix_list (pv 2) pe_int (fun _ _ => rfl)) pe_int) (pg_sub (pv 2) pe_int set_list))
    (Evl.pss_cut (ps_for PassesOwn.never rfl (pi_range1 rfl T.range (pa_cons (pe_call GC hr1 rfl mC FC.kp bC .nil pass0 (pa_cons (pv 0) (pa_cons pe_int pa_nil))) pa_nil)) (pg_name (i := 6) scTm.nd rfl (Or.inl rfl))
      (pss_one (ps_if (pt_cmpR op_gt (pv 3) pe_int (nomark _)) (pss_one (ps_expr (pe_bm PySem.F.plainAttrs_list PySem.F.slot_list_append PySem.F.type_list_append mt_append (pv 5)
        (pa_cons (pe_call G hr rfl m F.kp b .nil pass0 (pa_cons (pv 0) (pa_cons (pv 1) (pa_cons (pv 2) (pa_cons (pe_op op_sub (pv 3) pe_int) pa_nil))))) pa_nil)))) pss_nil)))
    (pss_one (ps_ret (pe_tup (pa_cons pe_str (pa_cons (pe_ix ix_list (pe_ix ix_list (pv 1) pe_int (fun _ _ => rfl)) (pe_call GC hr1 rfl mC FC.kp bC .nil pass0 (pa_cons (pv 0) (pa_cons (pe_callB call_len_seq (by rfl) T.len PySem.boot_len (pa_cons (pe_ix ix_list (pv 1) pe_int (fun _ _ => rfl)) pa_nil)) pa_nil))) (fun _ _ => rfl)) (pa_cons (pv 5) pa_nil)))))))))), ?_⟩
  obtain ⟨mm, rfl⟩ : ∃ k', mm = k' + 1 := ⟨mm - 1, by omega⟩
  have hcT : cT (mm + 1) = 6 + 3 * cT mm := rfl
  -- the way, no terms yet
  refine ⟨fun σ' H' => Gn H' p L B N (n + 1) a ∧ Kp (fun a => a = p ∨ a = L) H H' ∧ ∃ (wy : Int) (l : Addr), H l = none ∧ H' l = some (.lst []) ∧ σ' = [some (.ref p), some (.ref B), some (.ref L), some (.int ((mm + 1 : Nat) : Int)), some (.int wy), some (.ref l), none], ?_, ?_⟩
  · refine ⟨_, rfl, p, 5, n, rfl, hG.pu, by omega, by decide, by decide, fun wy H1 w0 w1 hb1 hp1 => ⟨by show 0 ≤ sizeLine; decide, fun l hl => ?_⟩⟩
    have hG1 := hG.draw hb1 hp1
    have st := same_new hl (.lst [])
    exact ⟨_, _, rfl, hG1.same st, (hG.kd hb1).trans (.same st), wy, l, hG.free (hG.kd hb1) hG1 hl, upd_same, rfl⟩
  rintro _ H1 ⟨hG1, hk1, wy, l, hl0, hl1, rfl⟩
  refine ⟨_, rfl, rfl, _, rfl, ?_⟩
  refine ite2 (fun _ => ?_) (fun _ => ?_)
  · -- a number
    refine ⟨_, rfl, p, 9, n + 1, rfl, hG1.pu, by omega, by decide, by decide, fun d1 H2 d10 d11 hb2 hp2 => ⟨_, _, rfl, rfl, _, rfl, p, 1999, n + 2, rfl, hp2, by omega, by decide, by decide, fun d2 H3 d20 d21 hb3 hp3 => ⟨_, _, rfl, rfl, by show 2 ≤ sizeLine; decide, fun q hq => ?_⟩⟩⟩
    have hG3 : Gn H3 p L B N (n + 3) a := (hG1.draw hb2 hp2).draw hb3 hp3
    have hk3 := (hk1.trans (hG1.kd hb2)).trans ((hG1.draw hb2 hp2).kd hb3)
    have sq := same_new hq (.lst [.int (d1 - 4), .int (d2 - 999)])
    have hqp := (hG3.neP hq).1
    refine ⟨_, rfl, p, 2, n + 3, rfl, (hG3.same sq).pu, by omega, by decide, by decide, fun d3 H4 d30 d31 hb4 hp4 => ?_⟩
    obtain ⟨t, ht, tb⟩ : ∃ t : Int, atI [V.int (d1 - 4), V.int (d2 - 999)] d3 = some (.int t) ∧ t.natAbs ≤ 1000 := by
      have e : d3 = ((0 : Nat) : Int) ∨ d3 = ((1 : Nat) : Int) := by omega
      rcases e with e | e
      · exact ⟨_, at_ofN e rfl, by omega⟩
      · exact ⟨_, at_ofN e rfl, by omega⟩
    refine ⟨q, _, _, _, rfl, rfl, SqL.of (hb4 q _ hqp upd_same), ht, by show 2 ≤ sizeLine; decide, fun tp htp => ?_⟩
    have hG4 := (hG3.same sq).draw hb4 hp4
    have hk4 := (hk3.trans (.same sq)).trans ((hG3.same sq).kd hb4)
    have st := same_new htp (.tup [.str (Str.ofString "number"), .int t])
    refine kk _ _ ⟨_, [], (hG4.same st).mono (by omega), hk4.trans (.same st), rep_tup upd_same (reps_leaf leaf_str (reps_leaf leaf_int reps_nil)), (fun _ z => nomatch z), .inl ⟨t, tb, rfl⟩⟩
  obtain ⟨d1, i1, c1, l1, hL1, hl71⟩ := hG1.lf
  -- a name that is read
  have rd : ∀ (Q2 : V → Hp → Prop), (∀ u H', New H p L B N (n + cT (mm + 1)) a (TmOk (mm + 1)) u H' → Q2 u H') → (tTup (tCons (tC (.str (Str.ofString "read"))) (tCons (tPick K 0) tNil))) [some (.ref p), some (.ref B), some (.ref L), some (.int ((mm + 1 : Nat) : Int)), some (.int wy), some (.ref l), none] H1 Q2 := fun Q2 q => by
    obtain ⟨n0, n1, n2, z1, z2, hB, h0, h1, h2, nd, b1, b2, b3, b4, b5, b6, b7, b8⟩ := hG1.lb
    refine pick_ok (j := 0) rfl rfl hB at3_0 h0 b3 hG1.pu (by omega) fun y H2 hy hb2 hp2 => ⟨by show 2 ≤ sizeLine; decide, fun tp htp => ?_⟩
    have st := same_new htp (.tup [.str (Str.ofString "read"), .str y])
    have hG2 := hG1.draw hb2 hp2
    exact q _ _ ⟨_, [], (hG2.same st).mono (by omega), (hk1.trans (hG1.kd hb2)).trans (.same st), rep_tup upd_same (reps_leaf leaf_str (reps_leaf leaf_str reps_nil)), (fun _ z => nomatch z), .inr (.inl ⟨y, h0.2.2.2 y hy, rfl⟩)⟩
  refine ⟨_, rfl, _, _, rfl, rfl, _, rfl, ?_⟩
  refine ite2 (fun _ => iteT (rd _ kk)) (fun _ => ?_)
  refine ⟨_, rfl, L, _, _, _, rfl, rfl, SqL.of hL1, at5_3, _, _, rfl, rfl, _, rfl, ?_⟩
  refine ite2 (fun _ => rd _ kk) (fun _ => ?_)
  clear rd
  -- one call less
  refine ⟨_, rfl, L, _, _, _, rfl, rfl, SqL.of hL1, at5_3, _, _, rfl, rfl, _, rfl, L, _, _, 3, rfl, rfl, hL1, rfl, ?_⟩
  obtain ⟨hG2, hk2⟩ := hG1.left (a' := a) (d := d1) (c := c1 - 1) hl71
  show Evl.tCut _ _ _ _ (upd H1 L (lf5 a d1 i1 (c1 - 1) l1))
  have hl2 : (upd H1 L (lf5 a d1 i1 (c1 - 1) l1)) l = some (.lst []) := by
    rw [upd_ne (hG.neP hl0).2]
    exact hl1
  generalize upd H1 L (lf5 a d1 i1 (c1 - 1) l1) = H2 at hG2 hk2 hl2
  replace hk2 := hk1.trans hk2
  clear hG1 hk1 hl1 hL1
  -- the terms
  refine ⟨fun σ' H' => Gn H' p L B N (n + 3 + 3 * cT mm) a ∧ Kp (fun a => a = p ∨ a = L) H H' ∧ ∃ (ts : List D) (ys : List V) (G0 : List Addr) (v8 : Option V), H' l = some (.lst ys) ∧ Reps H' ts ys G0 ∧ (∀ x ∈ G0, H x = none ∧ x ≠ l) ∧ ts.length ≤ 3 ∧ (∀ t ∈ ts, TmOk mm t) ∧ σ' = [some (.ref p), some (.ref B), some (.ref L), some (.int ((mm + 1 : Nat) : Int)), some (.int wy), some (.ref l), v8], ?_, ?_⟩
  · refine ⟨_, rfl, p, 4, n + 1, rfl, hG2.pu, by omega, by decide, by decide, fun dr H3 d0 d1 hb3 hp3 => ?_⟩
    have hG3 := hG2.draw hb3 hp3
    have hk3 := hk2.trans (hG2.kd hb3)
    refine ⟨dr, rfl, by omega, by omega, ?_⟩
    refine for_range (lo := 0) (fun i σ' H' => Gn H' p L B N (n + 3 + i * cT mm) a ∧ Kp (fun a => a = p ∨ a = L) H H' ∧ ∃ (ts : List D) (ys : List V) (G0 : List Addr) (v8 : Option V), H' l = some (.lst ys) ∧ Reps H' ts ys G0 ∧ (∀ x ∈ G0, H x = none ∧ x ≠ l) ∧ ts.length ≤ i ∧ (∀ t ∈ ts, TmOk mm t) ∧ σ' = [some (.ref p), some (.ref B), some (.ref L), some (.int ((mm + 1 : Nat) : Int)), some (.int wy), some (.ref l), v8])
      ⟨by rw [Nat.zero_mul]; exact hG3.mono (by omega), hk3, [], [], [], none, hb3 _ _ (hG.neP hl0).1 hl2, reps_nil, (fun _ z => nomatch z), Nat.le_refl _, (fun _ z => nomatch z), rfl⟩ ?_ ?_
    · rintro i σ' H5 hi ⟨hG5, hk5, ts, ys, G0, v8, hl5, hr5, hf5, hlen, hts, rfl⟩
      have hi3 : i + 1 ≤ 3 := by omega
      have hcost : (i + 1) * cT mm ≤ 3 * cT mm := Nat.mul_le_mul_right _ hi3
      have hsm : (i + 1) * cT mm = i * cT mm + cT mm := Nat.succ_mul _ _
      refine ⟨_, rfl, _, _, rfl, rfl, _, rfl, ?_⟩
      refine ite2 (fun c => ?_) (fun _ => ⟨hG5.mono (by omega), hk5, ts, ys, G0, _, hl5, hr5, hf5, by omega, hts, rfl⟩)
      have c' : (((mm + 1 : Nat) : Int)) > 1 := of_decide_eq_true c
      refine ⟨_, rfl, .inl ⟨rfl, _, SqL.of hl5⟩, _, rfl, _, rfl, _, rfl, _, rfl, _, _, rfl, rfl, p, B, L, N, n + 3 + i * cT mm, mm, a, ?_, by omega, by omega, by omega, hG5, by omega, ?_⟩
      · show [V.ref p, V.ref B, V.ref L, V.int (((mm + 1 : Nat) : Int) - 1)] = _
        rw [show (((mm + 1 : Nat) : Int) - 1) = (mm : Int) by omega]
      rintro u H6 ⟨d, G6, hG6, hk6, hr6, hf6, ht6⟩
      have hl6 : H6 l = some (.lst ys) := hk6 _ _ hl5 (.inl (hG.noS hl0))
      have hyl : ys.length = ts.length := hr5.len
      have kp7 : Kp (fun a => a = l) H6 (upd H6 l (.lst (ys ++ [u]))) := Kp.set hl6 rfl
      have n6 : ∀ x ∈ G6, x ≠ l := fun x hx z => by
        have e := hf6 x hx
        rw [z, hl5] at e
        cases e
      refine ⟨l, _, _, rfl, rfl, hl6, Nat.lt_of_le_of_lt (show ys.length ≤ 1000 by omega) (by decide), ?_, (hk5.trans hk6).put hl0, ts ++ [d], ys ++ [u], G0 ++ G6, _, upd_same, Reps.snoc ((hr5.kp hk6 fun x hx => hG.noS (hf5 x hx).1).kp kp7 fun x hx => (hf5 x hx).2) (hr6.kp kp7 n6) (fun x hx z => ?_), fun x hx => ?_, ?_, fun t ht => ?_, rfl⟩
      · exact (hG.put (hk5.trans hk6) hG6 hl0).mono (by omega)
      · obtain ⟨zs, e⟩ := hr5.at_ x hx
        rw [hf6 x z] at e
        cases e
      · rcases List.mem_append.mp hx with z | z
        · exact hf5 x z
        · exact ⟨hG.free hk5 hG5 (hf6 x z), n6 x z⟩
      · rw [List.length_append]
        show ts.length + 1 ≤ i + 1
        omega
      · rcases List.mem_append.mp ht with z | z
        · exact hts t z
        · rw [List.mem_singleton.mp z]
          exact ht6
    · rintro σ' H5 ⟨hG5, hk5, ts, ys, G0, v8, hl5, hr5, hf5, hlen, hts, rfl⟩
      have hi3 : dr.toNat ≤ 3 := by omega
      have hcost : dr.toNat * cT mm ≤ 3 * cT mm := Nat.mul_le_mul_right _ hi3
      exact ⟨hG5.mono (by omega), hk5, ts, ys, G0, v8, hl5, hr5, hf5, by omega, hts, rfl⟩
  clear hG2 hk2 hl2
  rintro _ H2 ⟨hG2, hk2, ts, ys, G0, v8, hl2, hr2, hf2, hlen, hts, rfl⟩
  obtain ⟨n0, n1, n2, z1, z2, hB, h0, h1, h2, nd, b1, b2, b3, b4, b5, b6, b7, b8⟩ := hG2.lb
  refine pick_ok (j := 1) rfl rfl hB at3_1 h1 b5 hG2.pu (by omega) fun y H3 hy hb3 hp3 => ⟨_, rfl, by show 3 ≤ sizeLine; decide, fun tp htp => ?_⟩
  have hG3 := hG2.draw hb3 hp3
  have hk3 := hk2.trans (hG2.kd hb3)
  have hl3 := hb3 _ _ (hG.neP hl0).1 hl2
  have hr3 := hr2.kp (hG2.kd hb3) fun x hx => hG.noS (hf2 x hx).1
  have st := same_new htp (.tup [.str (Str.ofString "call"), .str y, .ref l])
  refine kk _ _ ⟨_, l :: G0, (hG3.same st).mono (by omega), hk3.trans (.same st), rep_tup upd_same (reps_leaf leaf_str (reps_leaf leaf_str (reps_one (rep_lst (st _ _ hl3) (hr3.same st) fun z => (hf2 l z).2 rfl)))), fun x hx => ?_, .inr (.inr ⟨y, ts, h1.2.2.2 y hy, rfl, hlen, hts⟩)⟩
  rcases List.mem_cons.mp hx with z | z
  · exact z ▸ hl0
  · exact (hf2 x z).1
end
end K02
set_option Elab.async false
set_option linter.all false
set_option maxRecDepth 100000
set_option maxHeartbeats 4000000
namespace K02
open PySem L2 PyProof.Rows
/-! ### parts, apart from the heap -/
def kid (e : D) : D := e.its.getD (e.its.length - 2) (.leaf .non)
def kids : D → List D
  | .tup [_, .lst es, _] => es.map kid
  | _ => []
def own : D → List Str
  | .tup [_, .leaf (.str z)] => [z]
  | .tup [_, .lst _, .leaf (.str z)] => [z]
  | _ => []
/-- the parts within, ahead of each other as in the text -/
def pre : Nat → D → List D
  | 0, _ => []
  | n + 1, d => d :: (kids d).flatMap (pre n)
def Opt (r : D) : Prop := r = .leaf .non ∨ ∃ z, okName z ∧ r = .leaf (.str z)
def Df (d : D) : Prop := d = .leaf .non ∨ TmOk 5 d
/-- an item, or a field, with what it takes and what it takes else -/
def ent (row : Bool) (q : Str × D × D) : D := if row = true then .tup [q.2.1, q.2.2] else .tup [.leaf (.str q.1), q.2.1, q.2.2]
theorem kid_ent {row : Bool} {q : Str × D × D} : kid (ent row q) = q.2.1 := by cases row <;> rfl
def PtOk : Nat → D → Prop
  | 0, _ => False
  | n + 1, d => d = .tup [S "any"] ∨ (∃ z, okName z ∧ d = .tup [S "name", .leaf (.str z)]) ∨
    ∃ (row : Bool) (qs : List (Str × D × D)) (r : D), d = .tup [S (if row = true then "row" else "record"), .lst (qs.map (ent row)), r] ∧ Opt r ∧ qs.length ≤ 25 ∧ (∀ q ∈ qs, PtOk n q.2.1 ∧ Df q.2.2) ∧ (row = false → (qs.map (·.1)).Nodup ∧ ∀ q ∈ qs, okName q.1)
theorem PtOk.succ : ∀ {n : Nat} {d : D}, PtOk n d → PtOk (n + 1) d
  | 0, _, h => h.elim
  | n + 1, d, h => by
    rcases h with h | h | ⟨row, qs, r, e, hr, hl, hq, hf⟩
    · exact .inl h
    · exact .inr (.inl h)
    · exact .inr (.inr ⟨row, qs, r, e, hr, hl, fun q m => ⟨(hq q m).1.succ, (hq q m).2⟩, hf⟩)
theorem kids_ent {s r : D} {row : Bool} {qs : List (Str × D × D)} : kids (.tup [s, .lst (qs.map (ent row)), r]) = qs.map fun q => q.2.1 := by
  show (qs.map (ent row)).map kid = _
  rw [List.map_map]
  exact List.map_congr_left fun q _ => kid_ent
theorem cT_le : ∀ m, m < 6 → cT m ≤ 726 * 3 := by decide
def okOrd (z : Str) : Prop := z = Str.ofString "soon" ∨ z = Str.ofString "late"
def okLck (z : Str) : Prop := z = Str.ofString "absent" ∨ z = Str.ofString "nothing"
/-! ### is a list of texts empty? -/
section
variable {K : PySem.W.Frag} {H : Hp}
theorem dp_texts : ∀ {zs : List Str}, DpAll K H (zs.map V.str) (zs.map PyData.str)
  | [] => .nil
  | z :: zs => .cons (.str z) dp_texts
theorem ls_ok {z : Str} (h : ls z) : PyData.strOk z = true := by
  show z.cps.all _ = true
  rw [← Array.all_toList]
  exact List.all_eq_true.mpr fun c hc => decide_eq_true (Nat.lt_of_le_of_lt (h c hc).2 (by decide))
theorem can_texts : ∀ zs : List Str, (∀ z ∈ zs, ls z) → PyData.canLayAll0 (zs.map PyData.str) = true
  | [], _ => by simp [PyData.canLayAll0]
  | z :: zs, h => by simp [PyData.canLayAll0, PyData.canLay0, can_texts zs fun y hy => h y (List.mem_cons_of_mem _ hy), ls_ok (h z List.mem_cons_self)]
theorem depth_texts : ∀ zs : List Str, PyData.depthAll (zs.map PyData.str) ≤ 1
  | [] => by simp [PyData.depthAll]
  | z :: zs => by
    have h := depth_texts zs
    simp [PyData.depthAll, PyData.depth]
    omega
theorem shaped_texts (zs : List Str) (h0 : ∀ z ∈ zs, ls z) : SeqAt.shaped (.list (zs.map PyData.str)) = true := by
  have h := depth_texts zs
  simp [SeqAt.shaped, PyData.canLay0, PyData.depth, can_texts zs h0]
  omega
theorem ne_empty {a b : Addr} {zs : List Str} {Q : VK} (h0 : ∀ z ∈ zs, ls z) (ha : SqL K H a (zs.map V.str)) (hb : SqL K H b []) (q : Q (.bl (!zs.isEmpty)) H) : rNeD K (.ref a) (.ref b) H Q := by
  refine ⟨.list (zs.map PyData.str), .list [], .lst ha dp_texts, .lst hb .nil, shaped_texts zs h0, shaped_texts [] (fun _ z => nomatch z), ?_⟩
  have e : PyData.eqv (.list (zs.map PyData.str)) (.list []) = zs.isEmpty := by cases zs <;> simp [PyData.eqv, PyData.eqvAll]
  rw [e]
  exact q
end
theorem erase_split {α : Type} {xs : List α} {j : Nat} (h : j < xs.length) (nd : xs.Nodup) : (xs.eraseIdx j).Nodup ∧ xs[j] ∉ xs.eraseIdx j ∧ ∀ z ∈ xs.eraseIdx j, z ∈ xs := by
  have e1 : xs = xs.take j ++ xs[j] :: xs.drop (j + 1) := by
    rw [← List.drop_eq_getElem_cons h, List.take_append_drop]
  have e2 : xs.eraseIdx j = xs.take j ++ xs.drop (j + 1) := List.eraseIdx_eq_take_drop_succ xs j
  have n2 : (xs.take j ++ xs[j] :: xs.drop (j + 1)).Nodup := by
    rw [← e1]
    exact nd
  rw [e2]
  obtain ⟨a1, a2, a3⟩ := List.nodup_append.mp n2
  obtain ⟨b1, b2⟩ := List.nodup_cons.mp a2
  refine ⟨List.nodup_append.mpr ⟨a1, b2, fun x hx y hy => a3 x hx y (List.mem_cons_of_mem _ hy)⟩, fun z => ?_, fun z hz => ?_⟩
  · rcases List.mem_append.mp z with z | z
    · exact a3 _ z _ List.mem_cons_self rfl
    · exact b1 z
  · rcases List.mem_append.mp hz with z | z
    · exact List.mem_of_mem_take z
    · exact List.mem_of_mem_drop z
theorem erase_map {α β : Type} (f : α → β) (xs : List α) (j : Nat) : (xs.map f).eraseIdx j = (xs.eraseIdx j).map f := by
  rw [List.eraseIdx_eq_take_drop_succ, List.eraseIdx_eq_take_drop_succ, List.map_append, List.map_take, List.map_drop]
theorem erase_len {α : Type} (xs : List α) (j : Nat) : (xs.eraseIdx j).length ≤ xs.length := by
  rw [List.eraseIdx_eq_take_drop_succ, List.length_append, List.length_take, List.length_drop]
  omega
theorem ent_rep {H : Hp} {row : Bool} {z : Str} {d e : D} {t : Addr} {u v : V} {F G : List Addr} (ht : H t = some (.tup ((if row = true then [] else [V.str z]) ++ [u] ++ [v]))) (h1 : Rep H d u F) (h2 : Rep H e v G) (n : ∀ x ∈ F, x ∉ G) : Rep H (ent row (z, d, e)) (.ref t) (F ++ G) := by
  cases row with
  | true => exact rep_tup ht (reps_cons h1 (reps_one h2) n)
  | false => exact rep_tup ht (reps_leaf leaf_str (reps_cons h1 (reps_one h2) n))
/-- a test, and what is known behind it -/
def tCutT (t : TT) : TT := fun σ H Q => ∃ R : Bool → Hp → Prop, t σ H R ∧ ∀ b H', R b H' → Q b H'
theorem pt_cut {X : Cx} {e : Expr} {t : TT} (h : PT X e t) : PT X e (tCutT t) := ⟨fun pins s σ H Q I ⟨R, h1, h2⟩ => thn (h.run pins s σ H R I h1) fun b s1 ⟨H', I', q⟩ => ⟨H', I', h2 b H' q⟩⟩
theorem flat_eq {α β : Type} {f g : α → List β} : ∀ {xs : List α}, (∀ x ∈ xs, f x = g x) → xs.flatMap f = xs.flatMap g
  | [], _ => rfl
  | x :: xs, h => by
    rw [List.flatMap_cons, List.flatMap_cons, h x List.mem_cons_self, flat_eq fun y hy => h y (List.mem_cons_of_mem _ hy)]
theorem pre_succ : ∀ {n : Nat} {d : D}, PtOk n d → pre (n + 1) d = pre n d
  | 0, _, h => h.elim
  | n + 1, d, h => by
    show d :: (kids d).flatMap (pre (n + 1)) = d :: (kids d).flatMap (pre n)
    rcases h with rfl | ⟨z, _, rfl⟩ | ⟨row, qs, r, rfl, hr, hl, hq, hf⟩
    · rfl
    · rfl
    · rw [kids_ent, flat_eq fun x hx => ?_]
      obtain ⟨q, hm, rfl⟩ := List.mem_map.mp hx
      exact pre_succ (hq q hm).1
theorem PtOk.le {n m : Nat} {d : D} (h : PtOk n d) (hm : n ≤ m) : PtOk m d := by
  induction hm with
  | refl => exact h
  | step _ ih => exact ih.succ
theorem pre_le {n m : Nat} {d : D} (h : PtOk n d) (hm : n ≤ m) : pre m d = pre n d := by
  induction hm with
  | refl => rfl
  | @step m hm ih => rw [pre_succ (h.le hm), ih]
theorem Kp.but {p L : Addr} {H H1 H2 : Hp} (k : Kp (fun a => a = p ∨ a = L) H1 H2) (b : But p H H1) (hL : H L = none) : But p H H2 := fun c o nc e => k c o (b c o nc e) (.inl fun z => by
  rcases z with z | z
  · exact nc z
  · rw [z, hL] at e
    cases e)
def bnd (m : Nat) (d : D) : List Str := (pre m d).flatMap own
end K02
set_option Elab.async false
set_option linter.all false
set_option maxRecDepth 100000
set_option maxHeartbeats 4000000
namespace K02
open PySem L2 PyProof.Rows
def cP : Nat → Nat
  | 0 => 4
  | k + 1 => 10 + 20 * (cP k + 2300)
/-- a part of which the names are among some -/
def PtN (N : List Str) (m : Nat) (d : D) : Prop := PtOk m d ∧ ∀ z ∈ bnd m d, z ∈ N
def spPart (k : Nat) : Sp := fun vs H Q _ => ∃ (p B L : Addr) (N : List Str) (n dp : Nat) (a : Int), vs = [.ref p, .ref B, .ref L, .int (dp : Int)] ∧ dp + 9 ≤ k ∧ Gn H p L B N n a ∧ 1 ≤ a ∧ a ≤ 60 ∧ n + cP dp < 10 ^ 60 ∧
  ∀ u H' a', 0 ≤ a' → a' < a → New H p L B N (n + cP dp) a' (fun d => PtN N (dp + 1) d ∧ ((pre (dp + 1) d).length : Int) = a - a') u H' → Q u H'
/-- so many items drawn -/
def PartI (H : Hp) (p L B : Addr) (N : List Str) (tk fr : Addr) (row : Bool) (dp n : Nat) (a : Int) (i : Nat) (H' : Hp) : Prop := ∃ (a' : Int) (qs : List (Str × D × D)) (ys : List V) (G0 : List Addr) (zf : List Str), Gn H' p L B N n a' ∧ Kp (fun a => a = p ∨ a = L) H H' ∧ 0 ≤ a' ∧ a' ≤ a ∧ H' tk = some (.lst ys) ∧ H' fr = some (.lst (zf.map V.str)) ∧ Reps H' (qs.map (ent row)) ys G0 ∧ (∀ x ∈ G0, H x = none ∧ x ≠ tk ∧ x ≠ fr) ∧ qs.length ≤ i ∧
  (∀ q ∈ qs, PtN N (dp + 1) q.2.1 ∧ Df q.2.2) ∧ ((((qs.map fun q => q.2.1).flatMap (pre (dp + 1))).length : Nat) : Int) = a - a' ∧ zf.length ≤ 26 ∧ zf.Nodup ∧ (∀ z ∈ zf, okName z) ∧ (row = false → (qs.map (·.1)).Nodup ∧ (∀ q ∈ qs, okName q.1) ∧ ∀ z ∈ zf, z ∉ qs.map (·.1))
theorem bnd_row {N : List Str} {dp : Nat} {s : String} {row : Bool} {qs : List (Str × D × D)} {r : D} (h : ∀ q ∈ qs, PtN N dp q.2.1) (hr : ∀ z, r = .leaf (.str z) → z ∈ N) : ∀ z ∈ bnd (dp + 1) (.tup [S s, .lst (qs.map (ent row)), r]), z ∈ N := fun z hz => by
  obtain ⟨e, he, hz⟩ := List.mem_flatMap.mp hz
  have he' : e ∈ (.tup [S s, .lst (qs.map (ent row)), r] : D) :: (kids (.tup [S s, .lst (qs.map (ent row)), r])).flatMap (pre dp) := he
  rcases List.mem_cons.mp he' with rfl | he'
  · cases r with
    | leaf v =>
      cases v with
      | str y =>
        have e2 : z ∈ [y] := hz
        rw [List.mem_singleton.mp e2]
        exact hr y rfl
      | _ => cases hz
    | _ => cases hz
  · rw [kids_ent] at he'
    obtain ⟨k, hk, hek⟩ := List.mem_flatMap.mp he'
    obtain ⟨q, hm, rfl⟩ := List.mem_map.mp hk
    exact (h q hm).2 z (List.mem_flatMap.mpr ⟨e, hek, hz⟩)
/-- one of the names at a place -/
def tPick1 (K : PySem.W.Frag) (i : Nat) : TE := tOp (rIxL K) (tVar i) (tCall spCoin [] E0 (tCons (tVar 0) (tCons (tCB (fun xs H Q => ∃ p ys, xs = [V.ref p] ∧ (SqL K H p ys ∨ SqT K H p ys) ∧ Q (.int ys.length) H) (tCons (tVar i) tNil)) tNil)))
theorem pick1_ok {K : PySem.W.Frag} {σ : L2.St} {H : Hp} {p A : Addr} {i : Nat} {z : List Str} {n : Nat} {Q : VK} (h0 : σ[0]? = some (some (.ref p))) (h1 : σ[i]? = some (some (.ref A))) (hA : Nam H A z) (hAp : A ≠ p) (hp : Purse H p n) (hn : n < 10 ^ 60)
    (k : ∀ y H', y ∈ z → But p H H' → Purse H' p (n + 1) → Q (.str y) H') : tPick1 K i σ H Q := by
  obtain ⟨hz, hz1, hz26, hzo⟩ := hA
  refine ⟨_, h1, _, h0, _, h1, A, _, rfl, .inl (SqL.of hz), p, _, n, rfl, hp, hn, (by rw [List.length_map]; omega), (by rw [List.length_map]; omega), fun dr H1 d0 d1 hb hp1 => ?_⟩
  rw [List.length_map] at d1
  obtain ⟨i, rfl⟩ : ∃ i : Nat, dr = (i : Int) := ⟨dr.toNat, by omega⟩
  have hi : i < z.length := by omega
  exact ⟨A, _, _, .str z[i], rfl, rfl, SqL.of (hb _ _ hAp hz), atI_nat (by rw [List.getElem?_map, List.getElem?_eq_getElem hi]; rfl), k _ _ (List.getElem_mem hi) hb hp1⟩
section
variable {P : Program} {w : World} {K : PySem.W.Frag} {mg : Str → Option Value} {base : Heap}
theorem scPt : FnScope ["purse", "labels", "left", "deep", "way", "names", "name", "rest", "takings", "free", "turn", "found"] ["purse", "labels", "left", "deep"] (defScope sPart) := ⟨rfl, rfl, rfl, by decide +kernel, rfl, by decide +kernel, by decide +kernel⟩
theorem part_none {f : Addr} {fd : FuncData} {ps : List Str} : FnOk P w K mg base CX0 0 f fd ps (spPart 0) := none_of fun vs H Q E h => by
  obtain ⟨p, B, L, N, n, dp, a, _, h1, _⟩ := h
  omega
theorem ok_part {f fC fT : Addr} {fd fdC fdT : FuncData} {k : Nat} (F : Fun K "_law_tk_part" "_law_tk_part" sPart f fd) (T : Txt K mg)
    (FC : Fun K "_law_coin" "_law_coin" sCoin fC fdC) (GC : FnOk P w K mg base CX0 1 fC fdC ["purse", "many"] spCoin) (bC : Binds K fdC ["purse", "many"] []) (mC : mg "_law_coin" = some (.ref fC))
    (FT : Fun K "_law_tk_term" "_law_tk_term" sTerm fT fdT) (GT : FnOk P w K mg base CX0 7 fT fdT ["purse", "labels", "left", "deep"] (spTerm 7)) (bT : Binds K fdT ["purse", "labels", "left", "deep"] []) (mT : mg "_law_tk_term" = some (.ref fT))
    (G : FnOk P w K mg base CX0 k f fd ["purse", "labels", "left", "deep"] (spPart k)) (b : Binds K fd ["purse", "labels", "left", "deep"] []) (m : mg "_law_tk_part" = some (.ref f)) :
    FnOk P w K mg base CX0 (k + 1) f fd ["purse", "labels", "left", "deep"] (spPart (k + 1)) := by
  refine F.ok scPt (fun vs H Q E h => ?_) (fun cdv A outer s H vs Q E hr h => ?_)
  · obtain ⟨p, B, L, N, n, dp, a, rfl, _⟩ := h
    rfl
  obtain ⟨p, B, L, N, n, dp, a, rfl, hk, hG, ha1, ha60, hn, kk⟩ := h
  have hr1 : Room 1 (A.deeper (envOfC "_law_tk_part" (defScope sPart) s.heap.objs.size f cdv)) := hr.mono (by omega)
  have hr7 : Room 7 (A.deeper (envOfC "_law_tk_part" (defScope sPart) s.heap.objs.size f cdv)) := hr.mono (by omega)
  refine ⟨_, pss_cons (ps_asg (pe_op op_sub (pe_ix ix_list (pv 2) pe_int (fun _ _ => rfl)) pe_int) (pg_sub (pv 2) pe_int set_list))
    (Evl.pss_cut (ps_par (i := 4) (j := 5) rfl scPt.nd rfl rfl (by decide) rfl rfl (pa_cons (pe_call GC hr1 rfl mC FC.kp bC .nil pass0 (pa_cons (pv 0) (pa_cons pe_int pa_nil))) (pa_cons (pe_ix ix_list (pv 1) pe_int (fun _ _ => rfl)) pa_nil)) (by rfl))
    (Evl.pss_cut (ps_if (PW.pt (pw_or (pt_cmpR op_lt (pv 3) pe_int (nomark _)) (pw_or (pt_cmpR op_lt (pe_ix ix_list (pv 2) pe_int (fun _ _ => rfl)) pe_int (nomark _)) (pw_or1 (pt_cmpR op_eq (pv 4) pe_int (nomark _))))))
      (pss_cons (ps_set (i := 6) scPt.nd rfl (Or.inl rfl) (pe_ix ix_list (pv 5) (pe_call GC hr1 rfl mC FC.kp bC .nil pass0 (pa_cons (pv 0) (pa_cons (pe_callB call_len_seq (by rfl) T.len PySem.boot_len (pa_cons (pv 5) pa_nil)) pa_nil))) (fun _ _ => rfl)))
      (pss_one (ps_ret (pe_ifExp (pt_cmpR op_eq (pe_call GC hr1 rfl mC FC.kp bC .nil pass0 (pa_cons (pv 0) (pa_cons pe_int pa_nil))) pe_int (nomark _)) (pe_tup (pa_cons pe_str pa_nil)) (pe_tup (pa_cons pe_str (pa_cons (pv 6) pa_nil))))))) pss_nil)
    (Evl.pss_cut (ps_set (i := 7) scPt.nd rfl (Or.inl rfl) (pe_ifExp (pt_cmpR op_eq (pe_call GC hr1 rfl mC FC.kp bC .nil pass0 (pa_cons (pv 0) (pa_cons pe_int pa_nil))) pe_int (nomark _)) pe_non
      (pe_ix ix_list (pv 5) (pe_call GC hr1 rfl mC FC.kp bC .nil pass0 (pa_cons (pv 0) (pa_cons (pe_callB call_len_seq (by rfl) T.len PySem.boot_len (pa_cons (pv 5) pa_nil)) pa_nil))) (fun _ _ => rfl))))
    (Evl.pss_cut (ps_par (i := 8) (j := 9) rfl scPt.nd rfl rfl (by decide) rfl rfl (pa_cons (pe_lst pa_nil) (pa_cons (pe_callTy call_list_of (by rfl) T.list boot_list (pa_cons (pe_ix ix_list (pv 1) pe_int (fun _ _ => rfl)) pa_nil)) pa_nil)) (by rfl))
    (Evl.pss_cut (ps_for PassesOwn.never rfl (pi_range1 rfl T.range (pa_cons (pe_call GC hr1 rfl mC FC.kp bC .nil pass0 (pa_cons (pv 0) (pa_cons (pe_op op_add (pe_ix ix_list (pv 2) pe_int (fun _ _ => rfl)) pe_int) pa_nil))) pa_nil)) (pg_name (i := 10) scPt.nd rfl (Or.inl rfl))
      (pss_one (ps_if (pt_cut (PW.pt (pw_and (pt_cmpR op_gt (pe_ix ix_list (pv 2) pe_int (fun _ _ => rfl)) pe_int (nomark _)) (pw_and1 (PW.pt (pw_or (pt_cmpR op_lt (pv 4) pe_int (nomark _)) (pw_or1 (pt_cmpR (op_neD hr.units) (pv 9) (pe_lst pa_nil) (nomark _)))))))))
        (Evl.pss_cut (ps_set (i := 11) scPt.nd rfl (Or.inl rfl) (pe_ifExp (pt_cmpR op_lt (pv 4) pe_int (nomark _)) (pe_lst pa_nil) (pe_lst (pa_cons (pe_bm PySem.F.plainAttrs_list PySem.F.slot_list_pop PySem.F.type_list_pop mt_popAt (pv 9)
            (pa_cons (pe_call GC hr1 rfl mC FC.kp bC .nil pass0 (pa_cons (pv 0) (pa_cons (pe_callB call_len_seq (by rfl) T.len PySem.boot_len (pa_cons (pv 9) pa_nil)) pa_nil))) pa_nil)) pa_nil))))
        (Evl.pss_cut (ps_set (i := 11) scPt.nd rfl (Or.inl rfl) (pe_op op_cat (pv 11) (pe_lst (pa_cons (pe_call G hr rfl m F.kp b .nil pass0 (pa_cons (pv 0) (pa_cons (pv 1) (pa_cons (pv 2) (pa_cons (pe_op op_sub (pv 3) pe_int) pa_nil))))) (pa_cons pe_non pa_nil)))))
        (Evl.pss_cut (ps_if (pt_cut (PW.pt (pw_and (pt_cmpR op_gt (pe_ix ix_list (pv 2) pe_int (fun _ _ => rfl)) pe_int (nomark _)) (pw_and1 (pt_cmpR op_eq (pe_call GC hr1 rfl mC FC.kp bC .nil pass0 (pa_cons (pv 0) (pa_cons pe_int pa_nil))) pe_int (nomark _))))))
          (Evl.pss_cut (ps_asg (pe_op op_sub (pe_ix ix_list (pv 2) pe_int (fun _ _ => rfl)) pe_int) (pg_sub (pv 2) pe_int set_list))
          (pss_one (ps_asg (pe_call GT hr7 rfl mT FT.kp bT .nil pass0 (pa_cons (pv 0) (pa_cons (pv 1) (pa_cons (pv 2) (pa_cons (pe_ix ix_list (pv 2) pe_int (fun _ _ => rfl)) pa_nil))))) (pg_sub (pv 11) (pe_un un_neg pe_int) set_list)))) pss_nil)
        (pss_one (ps_expr (pe_bm PySem.F.plainAttrs_list PySem.F.slot_list_append PySem.F.type_list_append mt_append (pv 8) (pa_cons (pe_callTy call_tuple_of (by rfl) T.tuple boot_tuple (pa_cons (pv 11) pa_nil)) pa_nil))))))) pss_nil)))
    (pss_one (ps_ret (pe_tup (pa_cons (pe_ifExp (pt_cmpR op_lt (pv 4) pe_int (nomark _)) pe_str pe_str) (pa_cons (pv 8) (pa_cons (pv 7) pa_nil))))))))))), ?_⟩
  -- one part less
  obtain ⟨d0, i0, c0, l0, hL, hl7⟩ := hG.lf
  refine ⟨_, rfl, L, _, _, _, rfl, rfl, SqL.of hL, at5_0, _, _, rfl, rfl, _, rfl, L, _, _, 0, rfl, rfl, hL, rfl, ?_⟩
  obtain ⟨hG1, hk1⟩ := hG.left (a' := a - 1) (d := d0) (i := i0) (c := c0) (l := l0) hl7
  show Evl.tCut _ _ _ _ (upd H L (lf5 (a - 1) d0 i0 c0 l0))
  have hL1 : (upd H L (lf5 (a - 1) d0 i0 c0 l0)) L = some (lf5 (a - 1) d0 i0 c0 l0) := upd_same
  generalize upd H L (lf5 (a - 1) d0 i0 c0 l0) = H1 at hG1 hk1 hL1
  have hcp : 4 ≤ cP dp := by cases dp with
    | zero => exact Nat.le_refl _
    | succ j => show 4 ≤ 10 + 20 * (cP j + 2300); omega
  -- the way, the names
  refine ⟨fun σ' H' => Gn H' p L B N (n + 1) (a - 1) ∧ Kp (fun a => a = p ∨ a = L) H H' ∧ H' L = some (lf5 (a - 1) d0 i0 c0 l0) ∧ ∃ (wy : Int) (n0 : Addr), n0 ≠ p ∧ n0 ≠ L ∧ Nam H1 n0 N ∧ Nam H' n0 N ∧ σ' = [some (.ref p), some (.ref B), some (.ref L), some (.int (dp : Int)), some (.int wy), some (.ref n0), none, none, none, none, none, none], ?_, ?_⟩
  · refine ⟨_, rfl, p, 7, n, rfl, hG1.pu, by omega, by decide, by decide, fun wy H2 w0 w1 hb2 hp2 => ?_⟩
    have hG2 := hG1.draw hb2 hp2
    obtain ⟨n0, n1, n2, z1, z2, hB, h0, h1, h2, nd, b1, b2, b3, b4, b5, b6, b7, b8⟩ := hG1.lb
    refine ⟨_, rfl, B, _, _, _, rfl, rfl, SqL.of (hb2 _ _ b1 hB), at3_0, _, _, rfl, hG2, hk1.trans (hG1.kd hb2), hb2 L _ hG.ne hL1, wy, n0, b3, b4, h0, ⟨hb2 _ _ b3 h0.1, h0.2⟩, rfl⟩
  clear hG1
  rintro _ H2 ⟨hG2, hk2, hL2, wy, n0, n0p, n0L, hN1, hN2, rfl⟩
  clear hL1 hk1 hN1
  -- a name or any
  refine ⟨fun σ' H' => Gn H' p L B N (n + 1) (a - 1) ∧ Kp (fun a => a = p ∨ a = L) H H' ∧ (∃ j, dp = j + 1) ∧ H' L = some (lf5 (a - 1) d0 i0 c0 l0) ∧ Nam H' n0 N ∧ σ' = [some (.ref p), some (.ref B), some (.ref L), some (.int (dp : Int)), some (.int wy), some (.ref n0), none, none, none, none, none, none], ?_, ?_⟩
  · have leafs : ∀ Dn : L2.St → Hp → Prop, tSeq (tAsg (tPick1 K 5) (gName 6)) (tRet (tIf (tTest (tOp rEq (tCall spCoin [] E0 (tCons (tVar 0) (tCons (tC (.int 6)) tNil))) (tC (.int 0)))) (tTup (tCons (tC (.str (Str.ofString "any"))) tNil)) (tTup (tCons (tC (.str (Str.ofString "name"))) (tCons (tVar 6) tNil)))))
        { nx := Dn, rt := Q } [some (.ref p), some (.ref B), some (.ref L), some (.int (dp : Int)), some (.int wy), some (.ref n0), none, none, none, none, none, none] H2 := fun Dn => by
      refine pick1_ok rfl rfl hN2 n0p hG2.pu (by omega) fun y H3 hy hb3 hp3 => ?_
      have hG3 := hG2.draw hb3 hp3
      have hk3 := hk2.trans (hG2.kd hb3)
      refine ⟨_, rfl, p, 6, n + 2, rfl, hG3.pu, by omega, by decide, by decide, fun d H4 d1 d2 hb4 hp4 => ⟨rfl, _, rfl, ?_⟩⟩
      have hG4 := hG3.draw hb4 hp4
      have hk4 := hk3.trans (hG3.kd hb4)
      refine ite2 (fun _ => ?_) (fun _ => ?_)
      · refine ⟨by show 1 ≤ sizeLine; decide, fun tp htp => ?_⟩
        have st := same_new htp (.tup [.str (Str.ofString "any")])
        refine kk _ _ (a - 1) (by omega) (by omega) ⟨.tup [S "any"], [], (hG4.same st).mono (by omega), hk4.trans (.same st), rep_tup upd_same (reps_leaf leaf_str reps_nil), (fun _ z => nomatch z), ⟨.inl rfl, fun _ z => nomatch z⟩, ?_⟩
        show (1 : Int) = a - (a - 1)
        omega
      · refine ⟨_, rfl, by show 2 ≤ sizeLine; decide, fun tp htp => ?_⟩
        have st := same_new htp (.tup [.str (Str.ofString "name"), .str y])
        refine kk _ _ (a - 1) (by omega) (by omega) ⟨.tup [S "name", .leaf (.str y)], [], (hG4.same st).mono (by omega), hk4.trans (.same st), rep_tup upd_same (reps_leaf leaf_str (reps_leaf leaf_str reps_nil)), (fun _ z => nomatch z), ⟨.inr (.inl ⟨y, hN2.2.2.2 y hy, rfl⟩), fun z hz => ?_⟩, ?_⟩
        · have e : z ∈ [y] := hz
          rw [List.mem_singleton.mp e]
          exact hy
        · show (1 : Int) = a - (a - 1)
          omega
    refine ⟨_, rfl, _, _, rfl, rfl, _, rfl, ?_⟩
    refine ite2 (fun _ => iteT (leafs _)) (fun c => ?_)
    refine ⟨_, rfl, L, _, _, _, rfl, rfl, SqL.of hL2, at5_0, _, _, rfl, rfl, _, rfl, ?_⟩
    refine ite2 (fun _ => iteT (leafs _)) (fun _ => ?_)
    refine ⟨_, rfl, rfl, _, rfl, ?_⟩
    refine ite2 (fun _ => leafs _) (fun _ => ⟨hG2, hk2, ⟨dp - 1, ?_⟩, hL2, hN2, rfl⟩)
    have c' : ¬ ((dp : Int) < 1) := fun z => c (decide_eq_true z)
    omega
  clear hG2 hk2 hL2 hN2
  rintro _ H2 ⟨hG2, hk2, ⟨dp, rfl⟩, hL2, hN2, rfl⟩
  have hcP : cP (dp + 1) = 10 + 20 * (cP dp + 2300) := rfl
  -- the rest
  refine ⟨fun σ' H' => Gn H' p L B N (n + 3) (a - 1) ∧ Kp (fun a => a = p ∨ a = L) H H' ∧ H' L = some (lf5 (a - 1) d0 i0 c0 l0) ∧ ∃ rv, Opt (.leaf rv) ∧ (∀ z, rv = .str z → z ∈ N) ∧ Leaf rv ∧ σ' = [some (.ref p), some (.ref B), some (.ref L), some (.int ((dp + 1 : Nat) : Int)), some (.int wy), some (.ref n0), none, some rv, none, none, none, none], ?_, ?_⟩
  · refine ⟨_, rfl, p, 2, n + 1, rfl, hG2.pu, by omega, by decide, by decide, fun d H3 d1 d2 hb3 hp3 => ⟨rfl, _, rfl, ?_⟩⟩
    have hG3 := hG2.draw hb3 hp3
    have hk3 := hk2.trans (hG2.kd hb3)
    have hL3 := hb3 L _ hG.ne hL2
    refine ite2 (fun _ => ?_) (fun _ => ?_)
    · exact ⟨hG3.mono (by omega), hk3, hL3, .non, .inl rfl, (fun _ z => nomatch z), leaf_non, rfl⟩
    · refine pick1_ok (i := 5) rfl rfl (z := N) ⟨hb3 _ _ n0p hN2.1, hN2.2⟩ n0p hG3.pu (by omega) fun y H4 hy hb4 hp4 => ?_
      exact ⟨hG3.draw hb4 hp4, hk3.trans (hG3.kd hb4), hb4 L _ hG.ne hL3, .str y, .inr ⟨y, hN2.2.2.2 y hy, rfl⟩, (fun z e => by cases e; exact hy), leaf_str, rfl⟩
  clear hG2 hk2 hL2
  rintro _ H2 ⟨hG2, hk2, hL2, rv, hrv, hrN, hrl, rfl⟩
  -- takings, free
  refine ⟨fun σ' H' => Gn H' p L B N (n + 3) (a - 1) ∧ Kp (fun a => a = p ∨ a = L) H H' ∧ H' L = some (lf5 (a - 1) d0 i0 c0 l0) ∧ ∃ (tk fr : Addr) (zf : List Str), H tk = none ∧ H fr = none ∧ tk ≠ fr ∧ H' tk = some (.lst []) ∧ H' fr = some (.lst (zf.map V.str)) ∧ zf.length ≤ 26 ∧ zf.Nodup ∧ (∀ z ∈ zf, okName z) ∧ σ' = [some (.ref p), some (.ref B), some (.ref L), some (.int ((dp + 1 : Nat) : Int)), some (.int wy), some (.ref n0), none, some rv, some (.ref tk), some (.ref fr), none, none], ?_, ?_⟩
  · refine ⟨by show 0 ≤ sizeLine; decide, fun tk htk => ?_⟩
    have s1 := same_new htk (.lst [])
    obtain ⟨m0, n1, n2, z1, z2, hB, h0, h1, h2, nd, b1, b2, b3, b4, b5, b6, b7, b8⟩ := (hG2.same s1).lb
    refine ⟨_, rfl, B, _, _, _, rfl, rfl, SqL.of hB, at_ofN (j := 2) rfl rfl, n2, _, rfl, .inl (SqL.of h2.1), fun fr hfr => ⟨_, _, rfl, ?_⟩⟩
    have s2 := same_new hfr (.lst (z2.map V.str))
    have htf : tk ≠ fr := fun z => by
      rw [← z, upd_same] at hfr
      cases hfr
    exact ⟨(hG2.same s1).same s2, (hk2.trans (.same s1)).trans (.same s2), s2 _ _ (s1 _ _ hL2), tk, fr, z2, hG.free hk2 hG2 htk, hG.free hk2 hG2 (s1.free hfr), htf, s2 _ _ upd_same, upd_same, h2.2.2.1, nd, h2.2.2.2, rfl⟩
  clear hG2 hk2 hL2
  rintro _ H2 ⟨hG2, hk2, hL2, tk, fr, zf0, htk0, hfr0, htf, htk2, hfr2, hz26, hznd, hzok, rfl⟩
  -- the items
  refine ⟨fun σ' H' => PartI H p L B N tk fr (decide (wy < 4)) dp (n + 4 + 20 * (cP dp + 2300)) (a - 1) 20 H' ∧ ∃ v10 v11, σ' = [some (.ref p), some (.ref B), some (.ref L), some (.int ((dp + 1 : Nat) : Int)), some (.int wy), some (.ref n0), none, some rv, some (.ref tk), some (.ref fr), v10, v11], ?_, ?_⟩
  · refine ⟨_, rfl, _, rfl, L, _, _, _, rfl, rfl, SqL.of hL2, at5_2, _, _, rfl, rfl, p, i0 + 1, n + 3, rfl, hG2.pu, by omega, by omega, by omega, fun dr H3 d1 d2 hb3 hp3 => ?_⟩
    have hG3 := hG2.draw hb3 hp3
    have hk3 := hk2.trans (hG2.kd hb3)
    obtain ⟨ntp, ntL⟩ := hG.neP htk0
    obtain ⟨nfp, nfL⟩ := hG.neP hfr0
    refine ⟨dr, rfl, by omega, by omega, ?_⟩
    refine for_range (lo := 0) (fun i σ' H' => PartI H p L B N tk fr (decide (wy < 4)) dp (n + 4 + i * (cP dp + 2300)) (a - 1) i H' ∧ ∃ v10 v11, σ' = [some (.ref p), some (.ref B), some (.ref L), some (.int ((dp + 1 : Nat) : Int)), some (.int wy), some (.ref n0), none, some rv, some (.ref tk), some (.ref fr), v10, v11])
      ⟨⟨a - 1, [], [], [], zf0, by rw [Nat.zero_mul]; exact hG3, hk3, by omega, by omega, hb3 _ _ ntp htk2, hb3 _ _ nfp hfr2, reps_nil, (fun _ z => nomatch z), Nat.le_refl _, (fun _ z => nomatch z), by rw [Int.sub_self]; rfl, hz26, hznd, hzok, fun _ => ⟨List.nodup_nil, (fun _ z => nomatch z), fun _ _ z => nomatch z⟩⟩, none, none, rfl⟩ ?_ ?_
    · rintro i σ' H5 hi ⟨⟨a', qs, ys, G0, zf, hG5, hk5, ha0, haa, htk5, hfr5, hr5, hf5, hlen, hqs, hsz, hzl, hzn, hzo, hrec⟩, v10, v11, rfl⟩
      have hi3 : i + 1 ≤ 20 := by omega
      have hcost : (i + 1) * (cP dp + 2300) ≤ 20 * (cP dp + 2300) := Nat.mul_le_mul_right _ hi3
      have hsm : (i + 1) * (cP dp + 2300) = i * (cP dp + 2300) + (cP dp + 2300) := Nat.succ_mul _ _
      obtain ⟨e1, e2, e3, e4, hL5, hl75⟩ := hG5.lf
      -- the test
      refine ⟨fun b H6 => Same H5 H6 ∧ (b = true → 1 ≤ a' ∧ (wy < 4 ∨ zf ≠ [])), ?_, ?_⟩
      · refine ⟨_, rfl, L, _, _, _, rfl, rfl, SqL.of hL5, at5_0, _, _, rfl, rfl, _, rfl, ?_⟩
        refine ite2 (fun c1 => ?_) (fun _ => ⟨Same.refl _, fun z => nomatch z⟩)
        have c1' : a' > 0 := of_decide_eq_true c1
        refine ⟨_, rfl, _, _, rfl, rfl, _, rfl, ?_⟩
        refine ite2 (fun c2 => ⟨Same.refl _, fun _ => ⟨by omega, .inl (of_decide_eq_true c2)⟩⟩) (fun _ => ?_)
        refine ⟨_, rfl, by show 0 ≤ sizeLine; decide, fun q hq => ?_⟩
        have sq := same_new hq (.lst [])
        refine ne_empty (fun z hz => (hzo z hz).2.2) (SqL.of (sq _ _ hfr5)) (SqL.of upd_same) ⟨_, rfl, sq, fun z => ⟨by omega, .inr fun z2 => ?_⟩⟩
        rw [z2] at z
        cases z
      rintro b5 H6 ⟨hs6, hc6⟩
      have hG6 := hG5.same hs6
      have hk6 := hk5.trans (.same hs6)
      refine ite2 (fun c => ?_) (fun _ => ?_)
      rotate_left
      · exact ⟨⟨a', qs, ys, G0, zf, hG6.mono (by omega), hk6, ha0, haa, hs6 _ _ htk5, hs6 _ _ hfr5, hr5.same hs6, hf5, by omega, hqs, hsz, hzl, hzn, hzo, hrec⟩, _, _, rfl⟩
      obtain ⟨ha1', hway⟩ := hc6 c
      replace htk5 := hs6 _ _ htk5
      replace hfr5 := hs6 _ _ hfr5
      replace hr5 := hr5.same hs6
      clear hG5 hk5 hL5
      -- the field's name
      refine ⟨fun σ' H' => ∃ (z : Str) (zf' : List Str) (fo : Addr), Gn H' p L B N (n + 4 + i * (cP dp + 2300) + 2) a' ∧ Kp (fun a => a = p ∨ a = L) H H' ∧ H fo = none ∧ (∀ x ∈ G0, x ≠ fo) ∧ fo ≠ tk ∧ fo ≠ fr ∧ H' fo = some (.lst (if decide (wy < 4) = true then [] else [.str z])) ∧ H' tk = some (.lst ys) ∧ H' fr = some (.lst (zf'.map V.str)) ∧ Reps H' (qs.map (ent (decide (wy < 4)))) ys G0 ∧ zf'.length ≤ 26 ∧ zf'.Nodup ∧ (∀ y ∈ zf', okName y) ∧
        (decide (wy < 4) = false → okName z ∧ z ∉ qs.map (·.1) ∧ (∀ y ∈ zf', y ∉ qs.map (·.1)) ∧ z ∉ zf') ∧ σ' = [some (.ref p), some (.ref B), some (.ref L), some (.int ((dp + 1 : Nat) : Int)), some (.int wy), some (.ref n0), none, some rv, some (.ref tk), some (.ref fr), some (.int (0 + (i : Int))), some (.ref fo)], ?_, ?_⟩
      · refine ⟨_, rfl, _, _, rfl, rfl, _, rfl, ?_⟩
        refine ite2 (fun c3 => ?_) (fun c3 => ?_)
        · refine ⟨by show 0 ≤ sizeLine; decide, fun fo hfo => ?_⟩
          have sfo := same_new hfo (.lst [])
          have sp : ∀ {x : Addr} {o : HO}, H6 x = some o → x ≠ fo := fun h => ne_of_none h hfo
          refine ⟨Str.ofString "", zf, fo, (hG6.same sfo).mono (by omega), hk6.trans (.same sfo), hG.free hk6 hG6 hfo, fun x hx => ?_, (sp htk5).symm, (sp hfr5).symm, ?_, sfo _ _ htk5, sfo _ _ hfr5, hr5.same sfo, hzl, hzn, hzo, fun e => ?_, rfl⟩
          · obtain ⟨zs, e⟩ := hr5.at_ x hx
            exact sp e
          · rw [c3]
            exact upd_same
          · rw [c3] at e
            cases e
        have c3' : ¬ wy < 4 := fun z => c3 (decide_eq_true z)
        have w4 : decide (wy < 4) = false := decide_eq_false c3'
        have hz0 : zf ≠ [] := hway.resolve_left c3'
        have hz1 : 0 < zf.length := List.length_pos_iff.mpr hz0
        obtain ⟨hr1, hr2, hr3⟩ := hrec w4
        refine ⟨_, rfl, .inl ⟨rfl, _, SqL.of hfr5⟩, _, rfl, _, rfl, fr, _, rfl, .inl (SqL.of hfr5), p, _, _, rfl, hG6.pu, by omega, (by rw [List.length_map]; omega), (by rw [List.length_map]; omega), fun dj H8 j0 j1 hb8 hp8 => ?_⟩
        rw [List.length_map] at j1
        obtain ⟨j, rfl⟩ : ∃ j : Nat, dj = (j : Int) := ⟨dj.toNat, by omega⟩
        have hj : j < zf.length := by omega
        have hG8 := hG6.draw hb8 hp8
        have hk8 := hk6.trans (hG6.kd hb8)
        have hfr8 := hb8 _ _ nfp hfr5
        have htk8 := hb8 _ _ ntp htk5
        have hr8 := hr5.kp (hG6.kd hb8) fun x hx => hG.noS (hf5 x hx).1
        obtain ⟨ok0, ok1, ok2⟩ := erase_split hj hzn
        refine ⟨fr, _, (j : Int), j, .str zf[j], rfl, rfl, hfr8, by omega, by omega, (ixN_seq (Evl.ixN_nat (by rw [List.length_map]; exact hj))).1, (by rw [List.getElem?_map, List.getElem?_eq_getElem hj]; rfl), ?_⟩
        rw [erase_map]
        have kp12 : Kp (fun a => a = fr) H8 (upd H8 fr (.lst ((zf.eraseIdx j).map V.str))) := Kp.set hfr8 rfl
        have hG9 := hG.put hk8 hG8 hfr0 (o := .lst ((zf.eraseIdx j).map V.str))
        have hk9 := hk8.put hfr0 (o := .lst ((zf.eraseIdx j).map V.str))
        have htk9 : (upd H8 fr (.lst ((zf.eraseIdx j).map V.str))) tk = some (.lst ys) := by rw [upd_ne htf]; exact htk8
        have hfr9 : (upd H8 fr (.lst ((zf.eraseIdx j).map V.str))) fr = some (.lst ((zf.eraseIdx j).map V.str)) := upd_same
        have hr9 := hr8.kp kp12 fun x hx => (hf5 x hx).2.2
        generalize upd H8 fr (.lst ((zf.eraseIdx j).map V.str)) = H9 at hG9 hk9 htk9 hfr9 hr9
        refine ⟨by show 1 ≤ sizeLine; decide, fun fo hfo => ?_⟩
        have sfo := same_new hfo (.lst [V.str zf[j]])
        have sp : ∀ {x : Addr} {o : HO}, H9 x = some o → x ≠ fo := fun h => ne_of_none h hfo
        refine ⟨zf[j], zf.eraseIdx j, fo, (hG9.same sfo).mono (by omega), hk9.trans (.same sfo), hG.free hk9 hG9 hfo, fun x hx => ?_, (sp htk9).symm, (sp hfr9).symm, ?_, sfo _ _ htk9, sfo _ _ hfr9, hr9.same sfo, Nat.le_trans (erase_len _ _) hzl, ok0, fun y hy => hzo y (ok2 y hy), fun _ => ⟨hzo _ (List.getElem_mem hj), hr3 _ (List.getElem_mem hj), fun y hy => hr3 y (ok2 y hy), ok1⟩, rfl⟩
        · obtain ⟨zs, e⟩ := hr9.at_ x hx
          exact sp e
        · rw [w4]
          exact upd_same
      rintro _ H7 ⟨z, zf', fo, hG7, hk7, hfo0, gfo, nft, nff, hfo7, htk7, hfr7, hr7, hzl', hzn', hzo', hrec', rfl⟩
      have noSf : ∀ {x : Addr}, H x = none → ¬ (x = p ∨ x = L) := fun h => hG.noS h
      generalize hws : (if decide (wy < 4) = true then ([] : List V) else [V.str z]) = ws at hfo7
      have hw1 : ws.length ≤ 1 := by
        rw [← hws]
        split <;> simp
      -- the part
      refine ⟨fun σ' H' => ∃ (u : V) (d : D) (a2 : Int) (G8 : List Addr) (fo : Addr), Gn H' p L B N (n + 4 + i * (cP dp + 2300) + 2 + cP dp) a2 ∧ Kp (fun a => a = p ∨ a = L) H H' ∧ H fo = none ∧ (∀ x ∈ G0, x ≠ fo) ∧ fo ≠ tk ∧ fo ≠ fr ∧ H' fo = some (.lst (ws ++ [u, .non])) ∧ H' tk = some (.lst ys) ∧ H' fr = some (.lst (zf'.map V.str)) ∧ Reps H' (qs.map (ent (decide (wy < 4)))) ys G0 ∧ Rep H' d u G8 ∧ (∀ x ∈ G8, H x = none ∧ x ≠ tk ∧ x ≠ fr ∧ x ≠ fo ∧ x ∉ G0) ∧
        0 ≤ a2 ∧ a2 < a' ∧ PtN N (dp + 1) d ∧ ((pre (dp + 1) d).length : Int) = a' - a2 ∧ σ' = [some (.ref p), some (.ref B), some (.ref L), some (.int ((dp + 1 : Nat) : Int)), some (.int wy), some (.ref n0), none, some rv, some (.ref tk), some (.ref fr), some (.int (0 + (i : Int))), some (.ref fo)], ?_, ?_⟩
      · refine ⟨_, rfl, _, rfl, _, rfl, _, rfl, _, rfl, _, _, rfl, rfl, p, B, L, N, n + 4 + i * (cP dp + 2300) + 2, dp, a', ?_, by omega, hG7, ha1', by omega, by omega, ?_⟩
        · show [V.ref p, V.ref B, V.ref L, V.int (((dp + 1 : Nat) : Int) - 1)] = _
          rw [show (((dp + 1 : Nat) : Int) - 1) = (dp : Int) by omega]
        rintro u H8 a2 ha20 ha21 ⟨d, G8, hG8, hk8, r8, f8, okd, szd⟩
        have hk8' := hk7.trans hk8
        have hfo8 := hk8 _ _ hfo7 (.inl (noSf hfo0))
        have htk8 := hk8 _ _ htk7 (.inl (noSf htk0))
        have hfr8 := hk8 _ _ hfr7 (.inl (noSf hfr0))
        have hr8 := hr7.kp hk8 fun x hx => noSf (hf5 x hx).1
        refine ⟨by show 2 ≤ sizeLine; decide, fun q hq => ?_⟩
        have sq := same_new hq (.lst [u, .non])
        refine ⟨fo, q, ws, [u, .non], rfl, rfl, sq _ _ hfo8, upd_same, Nat.le_trans (show ws.length + 2 ≤ 3 by omega) (by decide), fun fo2 hfo2 => ?_⟩
        have s2 := same_new hfo2 (.lst (ws ++ [u, .non]))
        have sp : ∀ {x : Addr} {o : HO}, (upd H8 q (.lst [u, .non])) x = some o → x ≠ fo2 := fun h => ne_of_none h hfo2
        refine ⟨u, d, a2, G8, fo2, (hG8.same sq).same s2, (hk8'.trans (.same sq)).trans (.same s2), hG.free hk8' hG8 (sq.free hfo2), fun x hx => ?_, (sp (sq _ _ htk8)).symm, (sp (sq _ _ hfr8)).symm, upd_same, s2 _ _ (sq _ _ htk8), s2 _ _ (sq _ _ hfr8), (hr8.same sq).same s2, (r8.same sq).same s2, fun x hx => ⟨hG.free hk7 hG7 (f8 x hx), (ne_of_none htk7 (f8 x hx)).symm, (ne_of_none hfr7 (f8 x hx)).symm, ?_, fun hy => ?_⟩, ha20, ha21, okd, szd, rfl⟩
        · obtain ⟨zs, e⟩ := hr8.at_ x hx
          exact sp (sq _ _ e)
        · obtain ⟨zs, e⟩ := r8.at_ x hx
          exact sp (sq _ _ e)
        · obtain ⟨zs, e⟩ := hr7.at_ x hy
          rw [f8 x hx] at e
          cases e
      clear hG7 hk7 hfo0 gfo nft nff hfo7 htk7 hfr7 hr7
      rintro _ H7 ⟨u, d, a2, G8, fo, hG7, hk7, hfo0, gfo, nft, nff, hfo7, htk7, hfr7, hr7, r7, n7, ha20, ha21, okd, szd, rfl⟩
      -- what it takes else
      refine ⟨fun σ' H' => ∃ (u2 : V) (d2 : D) (G10 : List Addr), Gn H' p L B N (n + 4 + (i + 1) * (cP dp + 2300)) a2 ∧ Kp (fun a => a = p ∨ a = L) H H' ∧ H' fo = some (.lst (ws ++ [u, u2])) ∧ H' tk = some (.lst ys) ∧ H' fr = some (.lst (zf'.map V.str)) ∧ Reps H' (qs.map (ent (decide (wy < 4)))) ys G0 ∧ Rep H' d u G8 ∧ Rep H' d2 u2 G10 ∧ (∀ x ∈ G10, H x = none ∧ x ≠ tk ∧ x ≠ fr ∧ x ≠ fo ∧ x ∉ G0 ∧ x ∉ G8) ∧ Df d2 ∧
        σ' = [some (.ref p), some (.ref B), some (.ref L), some (.int ((dp + 1 : Nat) : Int)), some (.int wy), some (.ref n0), none, some rv, some (.ref tk), some (.ref fr), some (.int (0 + (i : Int))), some (.ref fo)], ?_, ?_⟩
      · obtain ⟨e1, e2, e3, e4, hL7, hl77⟩ := hG7.lf
        refine ⟨fun b H8 => Gn H8 p L B N (n + 4 + i * (cP dp + 2300) + 2 + cP dp + 1) a2 ∧ Kp (fun a => a = p) H7 H8 ∧ H8 L = some (lf5 a2 e1 e2 e3 e4), ?_, ?_⟩
        · refine ⟨_, rfl, L, _, _, _, rfl, rfl, SqL.of hL7, at5_1, _, _, rfl, rfl, _, rfl, ?_⟩
          refine ite2 (fun _ => ?_) (fun _ => ⟨hG7.mono (by omega), .same (Same.refl _), hL7⟩)
          exact ⟨_, rfl, p, 2, _, rfl, hG7.pu, by omega, by decide, by decide, fun d3 H8 d30 d31 hb8 hp8 => ⟨rfl, _, rfl, hG7.draw hb8 hp8, hb8.kp hG7.pu, hb8 L _ hG.ne hL7⟩⟩
        rintro bb H8 ⟨hG8, kp8, hL8⟩
        have npx : ∀ {x : Addr}, H x = none → ¬ x = p := fun h => (hG.neP h).1
        have kp8' : Kp (fun a => a = p ∨ a = L) H7 H8 := kp8.wide fun _ z => .inl z
        have hk8 := hk7.trans kp8'
        have hfo8 := kp8 _ _ hfo7 (.inl (npx hfo0))
        have htk8 := kp8 _ _ htk7 (.inl (npx htk0))
        have hfr8 := kp8 _ _ hfr7 (.inl (npx hfr0))
        have hr8 := hr7.kp kp8 fun x hx => npx (hf5 x hx).1
        have r8 := r7.kp kp8 fun x hx => npx (n7 x hx).1
        refine ite2 (fun _ => ?_) (fun _ => ?_)
        rotate_left
        · exact ⟨.non, .leaf .non, [], hG8.mono (by omega), hk8, hfo8, htk8, hfr8, hr8, r8, rep_leaf leaf_non, (fun _ z => nomatch z), .inl rfl, rfl⟩
        obtain ⟨hG9, kp9⟩ := hG8.left (a' := a2) (d := e1 - 1) (i := e2) (c := e3) (l := e4) hl77
        refine ⟨fun σ' H' => H' = upd H8 L (lf5 a2 (e1 - 1) e2 e3 e4) ∧ σ' = [some (.ref p), some (.ref B), some (.ref L), some (.int ((dp + 1 : Nat) : Int)), some (.int wy), some (.ref n0), none, some rv, some (.ref tk), some (.ref fr), some (.int (0 + (i : Int))), some (.ref fo)], ⟨_, rfl, L, _, _, _, rfl, rfl, SqL.of hL8, at5_1, _, _, rfl, rfl, _, rfl, L, _, _, 1, rfl, rfl, hL8, rfl, rfl, rfl⟩, ?_⟩
        rintro _ _ ⟨rfl, rfl⟩
        have hL9 : (upd H8 L (lf5 a2 (e1 - 1) e2 e3 e4)) L = some (lf5 a2 (e1 - 1) e2 e3 e4) := upd_same
        generalize upd H8 L (lf5 a2 (e1 - 1) e2 e3 e4) = H9 at hG9 kp9 hL9
        have hk9 := hk8.trans kp9
        have ce := cT_le e4.toNat (by omega)
        have ee : e4 = ((e4.toNat : Nat) : Int) := by omega
        refine ⟨_, rfl, _, rfl, _, rfl, _, rfl, L, _, _, _, rfl, rfl, SqL.of hL9, at5_4, p, B, L, N, n + 4 + i * (cP dp + 2300) + 2 + cP dp + 1, e4.toNat, a2, ?_, by omega, by omega, by omega, hG9, by omega, ?_⟩
        · show [V.ref p, V.ref B, V.ref L, V.int e4] = _
          rw [← ee]
        rintro u2 H10 ⟨d2, G10, hG10, hk10, r10, f10, okd2⟩
        have mv : ∀ {x : Addr} {o : HO}, H x = none → H8 x = some o → H10 x = some o := fun hx e => hk10 _ _ (kp9 _ _ e (.inl (noSf hx))) (.inl (noSf hx))
        have hfo10 := mv hfo0 hfo8
        have hk10' := hk9.trans hk10
        have n10 : ∀ x ∈ G10, H x = none ∧ x ≠ tk ∧ x ≠ fr ∧ x ≠ fo ∧ x ∉ G0 ∧ x ∉ G8 := fun x hx => by
          have fx := f10 x hx
          have k9 : ∀ {y : Addr} {o : HO}, H y = none → H8 y = some o → x ≠ y := fun hy e z => by
            have e2 := kp9 _ _ e (.inl (noSf hy))
            rw [← z, fx] at e2
            cases e2
          refine ⟨hG.free hk9 hG9 fx, k9 htk0 htk8, k9 hfr0 hfr8, k9 hfo0 hfo8, fun hy => ?_, fun hy => ?_⟩
          · obtain ⟨zs, e⟩ := hr8.at_ x hy
            exact k9 (hf5 x hy).1 e rfl
          · obtain ⟨zs, e⟩ := r8.at_ x hy
            exact k9 (n7 x hy).1 e rfl
        have hix : ∀ ws : List V, ws.length ≤ 1 → ixN (ws ++ [u, V.non]).length (-1) = some (ws.length + 1) ∧ (ws ++ [u, V.non]).set (ws.length + 1) u2 = ws ++ [u, u2] := fun ws h => by
          match ws, h with
          | [], _ => exact ⟨rfl, rfl⟩
          | [_], _ => exact ⟨rfl, rfl⟩
        obtain ⟨x1, x2⟩ := hix ws hw1
        refine ⟨_, rfl, _, rfl, fo, _, _, _, rfl, rfl, hfo10, x1, ?_⟩
        rw [x2]
        have kp11 : Kp (fun a => a = fo) H10 (upd H10 fo (.lst (ws ++ [u, u2]))) := Kp.set hfo10 rfl
        have all11 : ∀ {x : Addr} {o : HO}, x ≠ fo → H10 x = some o → (upd H10 fo (.lst (ws ++ [u, u2]))) x = some o := fun hx e => by
          rw [upd_ne hx]
          exact e
        refine ⟨u2, d2, G10, (hG.put hk10' hG10 hfo0).mono (by omega), hk10'.put hfo0, upd_same, all11 nft.symm (mv htk0 htk8), all11 nff.symm (mv hfr0 hfr8), ((hr8.kp kp9 fun x hx => noSf (hf5 x hx).1).kp hk10 fun x hx => noSf (hf5 x hx).1).kp kp11 fun x hx => gfo x hx, ((r8.kp kp9 fun x hx => noSf (n7 x hx).1).kp hk10 fun x hx => noSf (n7 x hx).1).kp kp11 fun x hx => (n7 x hx).2.2.2.1, r10.kp kp11 fun x hx => (n10 x hx).2.2.2.1, n10, .inr (okd2.le (by omega)), rfl⟩
      clear hG7 hk7 hfo7 htk7 hfr7 hr7 r7
      rintro _ H11 ⟨u2, d2, G10, hG11, hk11, hfo11, htk11, hfr11, hr11, ra, rb, n10, okd2, rfl⟩
      -- both, as a tuple
      refine ⟨_, rfl, .inl ⟨rfl, _, SqL.of htk11⟩, _, rfl, fo, _, rfl, .inl ⟨SqL.of hfo11, fun t ht => ?_⟩⟩
      have st := same_new ht (.tup (ws ++ [u, u2]))
      have htk12 := st _ _ htk11
      have ht12 : (upd H11 t (.tup (ws ++ [u, u2]))) t = some (.tup (ws ++ [u, u2])) := upd_same
      have hG12 := hG11.same st
      have hk12 := hk11.trans (.same st)
      have hyl : ys.length = qs.length := by
        rw [hr11.len, List.length_map]
      refine ⟨tk, _, _, rfl, rfl, htk12, Nat.lt_of_le_of_lt (show ys.length ≤ 1000 by omega) (by decide), ?_⟩
      have kp13 : Kp (fun a => a = tk) (upd H11 t (.tup (ws ++ [u, u2]))) (upd (upd H11 t (.tup (ws ++ [u, u2]))) tk (.lst (ys ++ [.ref t]))) := Kp.set htk12 rfl
      have RE : Rep (upd H11 t (.tup (ws ++ [u, u2]))) (ent (decide (wy < 4)) (z, d, d2)) (.ref t) (G8 ++ G10) := by
        refine ent_rep ?_ (ra.same st) (rb.same st) fun x hx hy => (n10 x hy).2.2.2.2.2 hx
        rw [hws, List.append_assoc]
        exact ht12
      refine ⟨⟨a2, qs ++ [(z, d, d2)], ys ++ [.ref t], G0 ++ (G8 ++ G10), zf', (hG.put hk12 hG12 htk0).mono (by omega), hk12.put htk0, ha20, by omega, upd_same, (by rw [upd_ne (Ne.symm htf)]; exact st _ _ hfr11), ?_, fun x hx => ?_, ?_, fun q hq => ?_, ?_, hzl', hzn', hzo', fun e => ?_⟩, _, _, rfl⟩
      · rw [List.map_append]
        refine Reps.snoc ((hr11.same st).kp kp13 fun x hx => (hf5 x hx).2.1) (RE.kp kp13 fun x hx => ?_) fun x hx hy => ?_
        · rcases List.mem_append.mp hx with y | y
          · exact (n7 x y).2.1
          · exact (n10 x y).2.1
        · rcases List.mem_append.mp hy with y | y
          · exact (n7 x y).2.2.2.2 hx
          · exact (n10 x y).2.2.2.2.1 hx
      · rcases List.mem_append.mp hx with y | y
        · exact hf5 x y
        · rcases List.mem_append.mp y with y | y
          · exact ⟨(n7 x y).1, (n7 x y).2.1, (n7 x y).2.2.1⟩
          · exact ⟨(n10 x y).1, (n10 x y).2.1, (n10 x y).2.2.1⟩
      · rw [List.length_append]
        show qs.length + 1 ≤ i + 1
        omega
      · rcases List.mem_append.mp hq with y | y
        · exact hqs q y
        · rw [List.mem_singleton.mp y]
          exact ⟨okd, okd2⟩
      · rw [List.map_append, List.flatMap_append, List.length_append]
        have e : ((([(z, d, d2)] : List (Str × D × D)).map fun q => q.2.1).flatMap (pre (dp + 1))).length = (pre (dp + 1) d).length := by
          show (pre (dp + 1) d ++ []).length = _
          rw [List.append_nil]
        omega
      · obtain ⟨q1, q2, q3, q4⟩ := hrec' e
        obtain ⟨g1, g2, g3⟩ := hrec e
        rw [List.map_append]
        refine ⟨List.nodup_append.mpr ⟨g1, (List.nodup_cons.mpr ⟨List.not_mem_nil, List.nodup_nil⟩), fun x hx y hy => ?_⟩, fun q hq => ?_, fun y hy hm => ?_⟩
        · rintro rfl
          rw [List.mem_singleton.mp hy] at hx
          exact q2 hx
        · rcases List.mem_append.mp hq with y | y
          · exact g2 q y
          · rw [List.mem_singleton.mp y]
            exact q1
        · rcases List.mem_append.mp hm with w | w
          · exact q3 y hy w
          · rw [List.mem_singleton.mp w] at hy
            exact q4 hy
    · rintro σ' H5 ⟨⟨a', qs, ys, G0, zf, hG5, hk5, ha0, haa, htk5, hfr5, hr5, hf5, hlen, hqs, hsz, hzl, hzn, hzo, hrec⟩, v10, v11, rfl⟩
      have hi3 : dr.toNat ≤ 20 := by omega
      have hcost : dr.toNat * (cP dp + 2300) ≤ 20 * (cP dp + 2300) := Nat.mul_le_mul_right _ hi3
      exact ⟨⟨a', qs, ys, G0, zf, hG5.mono (by omega), hk5, ha0, haa, htk5, hfr5, hr5, hf5, by omega, hqs, hsz, hzl, hzn, hzo, hrec⟩, _, _, rfl⟩
  clear hG2 hk2 hL2 htk2 hfr2
  rintro _ H2 ⟨⟨a', qs, ys, G0, zf, hG5, hk5, ha0, haa, htk5, hfr5, hr5, hf5, hlen, hqs, hsz, hzl, hzn, hzo, hrec⟩, v10, v11, rfl⟩
  -- the part
  refine ⟨_, rfl, _, _, rfl, rfl, _, rfl, ?_⟩
  have fin : ∀ s : String, (s = if decide (wy < 4) = true then "row" else "record") → tTup (tCons (tC (.str (Str.ofString s))) (tCons (tVar 8) (tCons (tVar 7) tNil))) [some (.ref p), some (.ref B), some (.ref L), some (.int ((dp + 1 : Nat) : Int)), some (.int wy), some (.ref n0), none, some rv, some (.ref tk), some (.ref fr), v10, v11] H2 Q := fun s hs => by
    refine ⟨_, rfl, _, rfl, by show 3 ≤ sizeLine; decide, fun tp htp => ?_⟩
    have st := same_new htp (.tup [.str (Str.ofString s), .ref tk, rv])
    refine kk _ _ a' ha0 (by omega) ⟨.tup [S s, .lst (qs.map (ent (decide (wy < 4)))), .leaf rv], tk :: G0, (hG5.same st).mono (by omega), hk5.trans (.same st), ?_, fun x hx => ?_, ⟨?_, ?_⟩, ?_⟩
    · have z := reps_cons (rep_lst (st _ _ htk5) (hr5.same st) fun z => (hf5 tk z).2.1 rfl) (reps_leaf hrl reps_nil) (fun _ _ z => nomatch z)
      rw [List.append_nil] at z
      exact rep_tup upd_same (reps_leaf leaf_str z)
    · rcases List.mem_cons.mp hx with z | z
      · exact z ▸ htk0
      · exact (hf5 x z).1
    · exact .inr (.inr ⟨_, qs, _, by rw [hs], hrv, by omega, fun q hq => ⟨(hqs q hq).1.1, (hqs q hq).2⟩, fun e => ⟨(hrec e).1, (hrec e).2.1⟩⟩)
    · exact bnd_row (fun q hq => (hqs q hq).1) fun z e => hrN z (D.leaf.inj e)
    · show (((List.length (_ :: (kids _).flatMap (pre (dp + 1)))) : Nat) : Int) = a - a'
      rw [kids_ent, List.length_cons]
      omega
  exact ite2 (fun c => fin "row" (by rw [if_pos c])) (fun c => fin "record" (by rw [if_neg c]))
end
end K02
set_option Elab.async false
set_option linter.all false
set_option maxRecDepth 100000
set_option maxHeartbeats 4000000
namespace K02
open PySem L2 PyProof.Rows
/-! ### names of a kind -/
/-- letters one by one, the loop alone; t: the turn's place -/
theorem signs_go {σ : L2.St} {H0 H : Hp} {p D : Addr} {c m t : Nat} {Qd : Hp → Prop} (h0 : ∀ v, ((wipe σ [t]).set t (some v))[0]? = some (some (.ref p))) (h2 : ∀ v, ((wipe σ [t]).set t (some v))[2]? = some (some (.str LT)))
    (hw : ∀ v, wipe ((wipe σ [t]).set t (some v)) [t] = wipe σ [t]) (hA : Around1 H0 p c H) (hc : c + m < 10 ^ 60) (hm : m ≤ 1000) (hD : H D = none)
    (hd : ∀ (ys : List Str) H', Around1 H p (c + m) H' → H' D = some (.lst (ys.map V.str)) → ys.length = m → (∀ y ∈ ys, y.length = 1) → (∀ y ∈ ys, ls y) → Qd H') :
    ∃ W : Nat → Nat → Hp → Prop, (∃ m, W 0 m (upd H D (.lst []))) ∧ ∀ i k H1, W i k H1 →
      ((Itr 0 m).stop i H1 ∧ Qd H1) ∨ ((Itr 0 m).go i H1 ∧ ∃ Nx : Hp → Prop, (∀ H', Nx H' → ∃ m', m' < k ∧ W (i + 1) m' H') ∧ ∀ x H', (Itr 0 m).yld i H1 x H' → gName t x (wipe σ [t]) H' fun σ2 H2 => wipe σ2 [t] = wipe σ [t] ∧ tYes σ2 H2 fun b H3 =>
        if b = true then tOp rIxS (tVar 2) (tCall spCoin [] E0 (tCons (tVar 0) (tCons (tC (.int 26)) tNil))) σ2 H3 fun y H4 => ∃ acc, H4 D = some (.lst acc) ∧ acc.length < sizeLine ∧ Nx (upd H4 D (.lst (acc ++ [y]))) else Nx H3) := by
  have hDp : D ≠ p := hA.2.ne hD
  refine lc_range (lo := 0) (n := m) (fun i H' => ∃ ys : List Str, Around1 H p (c + i) H' ∧ H' D = some (.lst (ys.map V.str)) ∧ ys.length = i ∧ (∀ y ∈ ys, y.length = 1) ∧ ∀ y ∈ ys, ls y)
    ⟨[], ⟨.of (same_new hD _), hA.2.same (same_new hD _)⟩, upd_same, rfl, (fun _ h => nomatch h), fun _ h => nomatch h⟩ ?_ ?_
  · rintro i H1 hi ⟨ys, hA1, hD1, hl, h1, hs1⟩
    refine ⟨hw _, ?_⟩
    show tOp rIxS (tVar 2) (tCall spCoin [] E0 (tCons (tVar 0) (tCons (tC (.int 26)) tNil))) _ H1 _
    refine ⟨_, h2 _, _, h0 _, p, 26, c + i, rfl, hA1.2, by omega, by decide, by decide, fun d H2 d0 d1 hb hp2 => ?_⟩
    refine ⟨LT, d, _, rfl, rfl, by decide +kernel, lt_at d0 d1, ?_⟩
    have hD2 : H2 D = some (.lst (ys.map V.str)) := hb _ _ hDp hD1
    refine ⟨_, hD2, by rw [List.length_map]; exact Nat.lt_of_lt_of_le (show ys.length < 1000 by omega) (by decide), ys ++ [⟨#[97 + d.toNat]⟩], ?_, ?_, ?_, ?_, ?_⟩
    · exact (hA1.draw hb hp2).put hD hDp
    · rw [upd_same, List.map_append]
      rfl
    · rw [List.length_append, hl]
      rfl
    · intro y hy
      rcases List.mem_append.mp hy with hy | hy
      · exact h1 y hy
      · rw [List.mem_singleton.mp hy]
        rfl
    · intro y hy
      rcases List.mem_append.mp hy with hy | hy
      · exact hs1 y hy
      · rw [List.mem_singleton.mp hy]
        exact ls_one (by omega)
  · rintro H1 ⟨ys, hA1, hD1, hl, h1, hs1⟩
    exact hd ys H1 hA1 hD1 hl h1 hs1
def spStems : Sp := fun vs H Q _ => ∃ (p : Addr) (m n : Nat), vs = [.ref p, .int (m : Int)] ∧ 1 ≤ m ∧ m ≤ 26 ∧ Purse H p n ∧ n + 10 < 10 ^ 60 ∧
  ∀ (r : Addr) (zs : List Str) H', Around1 H p (n + 10) H' → H r = none → H' r = some (.lst (zs.map V.str)) → zs.length = m → zs.Nodup → (∀ z ∈ zs, okName z) → Q (.ref r) H'
abbrev nSt : List Str := ["purse", "many", "letters", "start", "at", "stem", "rank", "turn"]
section
variable {P : Program} {w : World} {K : PySem.W.Frag} {mg : Str → Option Value} {base : Heap}
theorem scSt : FnScope nSt ["purse", "many"] (defScope sStems) := ⟨rfl, rfl, rfl, by decide +kernel, rfl, by decide +kernel, by decide +kernel⟩
theorem ok_stems {f fC : Addr} {fd fdC : FuncData} (F : Fun K "_law_tk_stems" "_law_tk_stems" sStems f fd) (T : Txt K mg) (FC : Fun K "_law_coin" "_law_coin" sCoin fC fdC) (GC : FnOk P w K mg base CX0 1 fC fdC ["purse", "many"] spCoin) (bC : Binds K fdC ["purse", "many"] []) (mC : mg "_law_coin" = some (.ref fC)) :
    FnOk P w K mg base CX0 2 f fd ["purse", "many"] spStems := by
  refine F.ok scSt (fun vs H Q E h => ?_) (fun cdv A outer s H vs Q E hr h => ?_)
  · obtain ⟨p, m, n, rfl, _⟩ := h
    rfl
  obtain ⟨p, m, n, rfl, hm1, hm26, hp, hn, k⟩ := h
  refine ⟨_, Evl.pss_cut (ps_asg (pe_tup (pa_cons pe_str (pa_cons (pe_call GC hr rfl mC FC.kp bC .nil pass0 (pa_cons (pv 0) (pa_cons pe_int pa_nil))) (pa_cons (pe_call GC hr rfl mC FC.kp bC .nil pass0 (pa_cons (pv 0) (pa_cons pe_int pa_nil))) pa_nil)))) (pg_tup rfl (pgs_cons (pg_name (i := 2) scSt.nd rfl (.inr rfl)) (pgs_cons (pg_name (i := 3) scSt.nd rfl (.inr rfl)) (pgs_cons (pg_name (i := 4) scSt.nd rfl (.inr rfl)) pgs_nil)))))
    (Evl.pss_cut (ps_set (i := 5) scSt.nd rfl (Or.inr rfl) (pe_bm PySem.F.plainAttrs_str PySem.F.slot_str_join PySem.F.type_str_join mt_join pe_str (pa_cons (pe_lc (own := [("turn", 7)]) (g := gName 7) (tt := tYes) rfl scSt.nd (pi_range1 rfl T.range (pa_cons pe_int pa_nil)) (blkOk_by (N := nSt) (sc := defScope sStems) (by decide +kernel)) (fun _ _ _ _ _ => pg_name (i := 7) scSt.nd rfl (Or.inl rfl)) (fun _ _ _ _ _ => pts_nil)
        (fun _ _ _ _ _ => pe_ix ix_str (pv 2) (pe_call GC hr rfl mC FC.kp bC .nil pass0 (pa_cons (pv 0) (pa_cons pe_int pa_nil))) (fun _ _ => rfl))) pa_nil)))
    (Evl.pss_cut (ps_if (pw_and (pt_cmpR op_lt (pv 3) pe_int (nomark _)) (pw_and1 (pt_cmpR op_lt (pv 1) pe_int (nomark _)))).pt
        (pss_one (ps_ret (pe_lc (own := [("rank", 6)]) (g := gName 6) (tt := tYes) rfl scSt.nd (pi_range1 rfl T.range (pa_cons (pv 1) pa_nil)) (blkOk_by (N := nSt) (sc := defScope sStems) (by decide +kernel)) (fun _ _ _ _ _ => pg_name (i := 6) scSt.nd rfl (Or.inl rfl)) (fun _ _ _ _ _ => pts_nil)
          (fun _ _ _ _ _ => pe_slice sl_str (pv 5) po_none (po_some (pe_op op_add (pv 6) pe_int)))))) pss_nil)
    (pss_one (ps_ret (pe_lc (own := [("rank", 6)]) (g := gName 6) (tt := tYes) rfl scSt.nd (pi_range1 rfl T.range (pa_cons (pv 1) pa_nil)) (blkOk_by (N := nSt) (sc := defScope sStems) (by decide +kernel)) (fun _ _ _ _ _ => pg_name (i := 6) scSt.nd rfl (Or.inl rfl)) (fun _ _ _ _ _ => pts_nil)
      (fun _ _ _ _ _ => pe_op op_add_str (pe_op op_add_str (pe_slice sl_str (pv 5) po_none (po_some (pv 4))) (pe_ix ix_str (pv 2) (pe_op op_mod (pe_callTy call_int1 (by rfl) T.int boot_int (pa_cons (pe_op op_add (pv 3) (pv 6)) pa_nil)) pe_int) (fun _ _ => rfl))) (pe_slice sl_str (pv 5) (po_some (pe_op op_add (pv 4) pe_int)) po_none))))))), ?_⟩
  -- letters, start, at
  refine ⟨fun σ' H' => Around1 H p (n + 2) H' ∧ ∃ (i0 : Int) (at' : Nat), 0 ≤ i0 ∧ i0 < 26 ∧ at' < 8 ∧ σ' = [some (.ref p), some (.int (m : Int)), some (.str LT), some (.int i0), some (.int (at' : Int)), none, none, none], ?_, ?_⟩
  · refine ⟨_, rfl, p, 26, n, rfl, hp, by omega, by decide, by decide, fun d H1 d0 d1 hb hp1 => ⟨_, rfl, p, 8, n + 1, rfl, hp1, by omega, by decide, by decide, fun d2 H2 d20 d21 hb2 hp2 => ⟨by show 3 ≤ sizeLine; decide, fun t ht => ?_⟩⟩⟩
    refine ⟨t, _, rfl, SqT.of upd_same, rfl, _, _, rfl, _, _, rfl, _, _, rfl, rfl, ?_⟩
    exact ⟨Around1.same ⟨hb.trans hb2, hp2⟩ (same_new ht _), d, d2.toNat, d0, d1, by omega, by rw [show ((d2.toNat : Nat) : Int) = d2 by omega]; rfl⟩
  rintro _ H1 ⟨hA1, i0, at', hi0, hi1, hat, rfl⟩
  -- stem
  refine ⟨fun σ' H' => Around1 H p (n + 10) H' ∧ ∃ st : Str, st.length = 8 ∧ ls st ∧ σ' = [some (.ref p), some (.int (m : Int)), some (.str LT), some (.int i0), some (.int (at' : Int)), some (.str st), none, none], ?_, ?_⟩
  · refine ⟨rfl, 8, rfl, by decide, by decide, fun D hD => ?_⟩
    refine signs_go (m := 8) (fun _ => rfl) (fun _ => rfl) (fun _ => rfl) hA1 (by omega) (by decide) hD fun ys H' hA hys hl h1 hs => ?_
    have hj : (Txt.join (Str.ofString "") ys).length = 8 := (PySem.W.KT.join_ones ys h1).trans hl
    refine ⟨_, D, ys, rfl, rfl, .inl (SqL.of hys), join_room h1 (by omega), ?_⟩
    exact ⟨hA1.trans hA, _, hj, ls_joinT hs, rfl⟩
  clear hA1
  rintro _ H4 ⟨hA4, st, hst, hls, rfl⟩
  -- the stem's beginnings
  refine ⟨fun σ' H' => Around1 H p (n + 10) H' ∧ σ' = [some (.ref p), some (.int (m : Int)), some (.str LT), some (.int i0), some (.int (at' : Int)), some (.str st), none, none], ?_, ?_⟩
  · refine ⟨_, rfl, _, _, rfl, rfl, _, rfl, ?_⟩
    refine ite2 (fun c0 => ?_) (fun _ => ⟨hA4, rfl⟩)
    refine ⟨_, rfl, _, _, rfl, rfl, _, rfl, ?_⟩
    refine ite2 (fun c1 => ?_) (fun _ => ⟨hA4, rfl⟩)
    have hm9 : (m : Int) < 9 := of_decide_eq_true c1
    have pre : ∀ r : Nat, (cutS st none (some ((0 + (r : Int)) + 1))).length = min (r + 1) 8 := fun r => by
      rw [(cut_pre (n := r + 1) (by omega)).1, hst]
    refine ⟨_, rfl, (m : Int), rfl, by omega, by omega, fun D hD => ?_⟩
    refine lc_range (lo := 0) (fun i H' => Same H4 H' ∧ H' D = some (.lst (((List.range i).map fun (r : Nat) => cutS st none (some ((0 + (r : Int)) + 1))).map V.str))) ⟨same_new hD _, upd_same⟩ ?_ ?_
    · rintro i H6 hi ⟨hs6, hD6⟩
      refine ⟨rfl, ?_⟩
      show tSl rSlS (tVar 5) _ _ _ H6 _
      refine ⟨_, rfl, _, rfl, _, _, rfl, rfl, _, rfl, _, rfl, small100 (by omega), _, hD6, room_map (by omega), same_put hs6 hD, more_map rfl⟩
    · rintro H6 ⟨hs6, hD6⟩
      have hA6 := hA4.same hs6
      rw [Int.toNat_natCast] at hD6
      refine k D _ H6 hA6 (hA4.free hp hD) hD6 (by rw [List.length_map, List.length_range]) (nodup_map fun i j hi hj e => ?_) (fun z hz => ?_)
      · have z := congrArg Str.length e
        rw [pre, pre] at z
        omega
      · obtain ⟨r, hr', rfl⟩ := List.mem_map.mp hz
        have hr2 := List.mem_range.mp hr'
        have z := pre r
        exact ⟨by omega, by omega, ls_cut hls _ _⟩
  clear hA4
  rintro _ H4 ⟨hA4, rfl⟩
  have wd : ∀ r : Nat, ((cutS st none (some (at' : Int)) ++ (⟨#[97 + ((i0 + (0 + (r : Int))) % 26).toNat]⟩ : Str)) ++ cutS st (some ((at' : Int) + 1)) none).cps.toList = (st.cps.toList.take at' ++ [97 + ((i0 + (0 + (r : Int))) % 26).toNat]) ++ st.cps.toList.drop (at' + 1) := fun r => by
    have e1 := (cut_pre (z := st) (k := (at' : Int)) (n := at') rfl).2
    have e2 := cut_post (z := st) (k := (at' : Int) + 1) (n := at' + 1) (by omega) (by omega)
    rw [show ∀ x y : Str, (x ++ y).cps.toList = x.cps.toList ++ y.cps.toList from fun x y => Array.toList_append, show ∀ x y : Str, (x ++ y).cps.toList = x.cps.toList ++ y.cps.toList from fun x y => Array.toList_append, e1, e2]
  refine ⟨_, rfl, (m : Int), rfl, by omega, by omega, fun D hD => ?_⟩
  refine lc_range (lo := 0) (fun i H' => Same H4 H' ∧ H' D = some (.lst (((List.range i).map fun (r : Nat) => (cutS st none (some (at' : Int)) ++ (⟨#[97 + ((i0 + (0 + (r : Int))) % 26).toNat]⟩ : Str)) ++ cutS st (some ((at' : Int) + 1)) none).map V.str))) ⟨same_new hD _, upd_same⟩ ?_ ?_
  · rintro i H6 hi ⟨hs6, hD6⟩
    refine ⟨rfl, ?_⟩
    have hi26 : i < 26 := by
      rw [Int.toNat_natCast] at hi
      omega
    unfold tYes
    refine iteT ?_
    have b1 : (cutS st none (some (at' : Int))).length ≤ 8 := Nat.le_trans (cutS_length _ _ _) (Nat.le_of_eq hst)
    have b2 : (cutS st (some ((at' : Int) + 1)) none).length ≤ 8 := Nat.le_trans (cutS_length _ _ _) (Nat.le_of_eq hst)
    refine ⟨_, rfl, _, rfl, _, rfl, st, rfl, small100 (by omega), _, rfl, _, rfl, _, rfl, _, _, rfl, rfl, .inl ⟨_, rfl, _, _, rfl, rfl, (by show (0 : Int) < 26; decide), ?_⟩⟩
    refine ⟨LT, _, _, rfl, rfl, by decide +kernel, lt_at (d := (i0 + (0 + (i : Int))) % 26) (Int.emod_nonneg _ (by decide)) (Int.emod_lt_of_pos _ (by decide)), _, _, rfl, rfl, small100 (show _ + 1 ≤ 1000 by omega), _, rfl, _, rfl, _, _, rfl, rfl, _, rfl, st, rfl, small100 (by omega), _, _, rfl, rfl, ?_, ?_⟩
    · rw [Str.length_append]
      exact small100 (show _ + 1 + _ ≤ 1000 by omega)
    · exact ⟨_, hD6, room_map (by omega), same_put hs6 hD, more_map rfl⟩
  · rintro H6 ⟨hs6, hD6⟩
    have hA6 := hA4.same hs6
    rw [Int.toNat_natCast] at hD6
    refine k D _ H6 hA6 (hA4.free hp hD) hD6 (by rw [List.length_map, List.length_range]) (nodup_map fun i j hi hj e => ?_) (fun z hz => ?_)
    · have e2 := congrArg (fun z : Str => z.cps.toList) e
      rw [wd, wd] at e2
      have e3 := List.append_cancel_right e2
      have e4 := List.append_cancel_left e3
      have e5 := (List.cons.inj e4).1
      omega
    · obtain ⟨r, _, rfl⟩ := List.mem_map.mp hz
      have b0 : ((i0 + (0 + (r : Int))) % 26).toNat < 26 := by omega
      refine ⟨?_, ?_, ls_app (ls_app (ls_cut hls _ _) (ls_one b0)) (ls_cut hls _ _)⟩
      · rw [Str.length_append, Str.length_append]
        show 1 ≤ _ + 1 + _
        omega
      · show (List.length _) ≤ 8
        have z := congrArg List.length (wd r)
        rw [List.length_append, List.length_append, List.length_take, List.length_drop] at z
        have hz' : st.length = st.cps.toList.length := rfl
        have hz2 : ([97 + ((i0 + (0 + (r : Int))) % 26).toNat] : List Nat).length = 1 := rfl
        omega
end
end K02
set_option Elab.async false
set_option linter.all false
set_option maxRecDepth 100000
set_option maxHeartbeats 4000000
namespace K02
open PySem L2 PyProof.Rows
/-! ### steps, apart from the heap -/
def stParts : D → List D
  | .tup [.leaf (.str w), _, x] => if w = Str.ofString "take" then [x] else if w = Str.ofString "cases" then x.its else []
  | _ => []
def stSet : D → List Str
  | .tup [.leaf (.str w), .leaf (.str z), _] => if w = Str.ofString "set" then [z] else []
  | _ => []
def StOk (d : D) : Prop := (∃ z t, okName z ∧ TmOk 5 t ∧ d = .tup [S "set", .leaf (.str z), t]) ∨ (∃ r q, Opt r ∧ PtOk 7 q ∧ d = .tup [S "take", r, q]) ∨ ∃ r qs, Opt r ∧ qs.length ≤ 20 ∧ (∀ q ∈ qs, PtOk 7 q) ∧ d = .tup [S "cases", r, .lst qs]
def stNames (d : D) : List Str := stSet d ++ (stParts d).flatMap (bnd 7)
def stTot (ds : List D) : Nat := ((ds.flatMap stParts).flatMap (pre 7)).length
theorem parts_set {z : Str} {t : D} : stParts (.tup [S "set", .leaf (.str z), t]) = [] := by
  show (if Str.ofString "set" = Str.ofString "take" then [t] else if Str.ofString "set" = Str.ofString "cases" then t.its else []) = []
  rw [if_neg (by decide), if_neg (by decide)]
theorem parts_take {r q : D} : stParts (.tup [S "take", r, q]) = [q] := by
  show (if Str.ofString "take" = Str.ofString "take" then [q] else if Str.ofString "take" = Str.ofString "cases" then q.its else []) = [q]
  rw [if_pos rfl]
theorem parts_cases {r : D} {qs : List D} : stParts (.tup [S "cases", r, .lst qs]) = qs := by
  show (if Str.ofString "cases" = Str.ofString "take" then [D.lst qs] else if Str.ofString "cases" = Str.ofString "cases" then qs else []) = qs
  rw [if_neg (by decide), if_pos rfl]
theorem set_set {z : Str} {t : D} : stSet (.tup [S "set", .leaf (.str z), t]) = [z] := by
  show (if Str.ofString "set" = Str.ofString "set" then [z] else []) = [z]
  rw [if_pos rfl]
theorem set_take {r q : D} : stSet (.tup [S "take", r, q]) = [] := by
  unfold stSet
  split
  · rename_i w z t e
    have e1 : Str.ofString "take" = w := V.str.inj (D.leaf.inj (List.cons.inj (D.tup.inj e)).1)
    rw [← e1, if_neg (by decide)]
  · rfl
theorem set_cases {r q : D} : stSet (.tup [S "cases", r, q]) = [] := by
  unfold stSet
  split
  · rename_i w z t e
    have e1 : Str.ofString "cases" = w := V.str.inj (D.leaf.inj (List.cons.inj (D.tup.inj e)).1)
    rw [← e1, if_neg (by decide)]
  · rfl
/-- the steps of a program; its names among some -/
structure PgN (N : List Str) (ds : List D) : Prop where
  len : ds.length ≤ 20
  st : ∀ d ∈ ds, StOk d
  nm : ∀ d ∈ ds, ∀ z ∈ stNames d, z ∈ N
  nl : N.length ≤ 26
  tot : stTot ds ≤ 60
theorem PtN.le {N : List Str} {n m : Nat} {d : D} (h : PtN N n d) (hm : n ≤ m) : PtN N m d := ⟨h.1.le hm, fun z hz => h.2 z (by
  unfold bnd at hz ⊢
  rw [pre_le h.1 hm] at hz
  exact hz)⟩
theorem stTot_more (ds : List D) (d : D) : stTot (ds ++ [d]) = stTot ds + ((stParts d).flatMap (pre 7)).length := by
  unfold stTot
  rw [List.flatMap_append, List.flatMap_append, List.length_append]
  show _ + ((stParts d ++ []).flatMap (pre 7)).length = _
  rw [List.append_nil]
/-- one of the labels, B in slot i -/
def tPickB (K : PySem.W.Frag) (i : Nat) (j : Int) : TE := tOp (rIxL K) (tOp (rIxL K) (tVar i) (tC (.int j))) (tCall spCoin [] E0 (tCons (tVar 0) (tCons (tCB (fun xs H Q => ∃ p ys, xs = [V.ref p] ∧ (SqL K H p ys ∨ SqT K H p ys) ∧ Q (.int ys.length) H) (tCons (tOp (rIxL K) (tVar i) (tC (.int j))) tNil)) tNil)))
theorem pickB_ok {K : PySem.W.Frag} {σ : L2.St} {H : Hp} {p B A : Addr} {xs : List V} {i : Nat} {j : Int} {z : List Str} {n : Nat} {Q : VK} (h0 : σ[0]? = some (some (.ref p))) (h1 : σ[i]? = some (some (.ref B))) (hB : H B = some (.lst xs)) (hj : atI xs j = some (.ref A)) (hA : Nam H A z) (hAp : A ≠ p) (hp : Purse H p n) (hn : n < 10 ^ 60)
    (k : ∀ y H', y ∈ z → But p H H' → Purse H' p (n + 1) → Q (.str y) H') : tPickB K i j σ H Q := by
  obtain ⟨hz, hz1, hz26, hzo⟩ := hA
  refine ⟨_, h1, B, _, _, _, rfl, rfl, SqL.of hB, hj, _, h0, _, h1, B, _, _, _, rfl, rfl, SqL.of hB, hj, A, _, rfl, .inl (SqL.of hz), p, _, n, rfl, hp, hn, (by rw [List.length_map]; omega), (by rw [List.length_map]; omega), fun dr H1 d0 d1 hb hp1 => ?_⟩
  rw [List.length_map] at d1
  obtain ⟨i, rfl⟩ : ∃ i : Nat, dr = (i : Int) := ⟨dr.toNat, by omega⟩
  have hi : i < z.length := by omega
  exact ⟨A, _, _, .str z[i], rfl, rfl, SqL.of (hb _ _ hAp hz), atI_nat (by rw [List.getElem?_map, List.getElem?_eq_getElem hi]; rfl), k _ _ (List.getElem_mem hi) hb hp1⟩
/-- so much drawn into a list -/
def ItG (W : List D → Int → Prop) (H1 : Hp) (p L B : Addr) (N : List Str) (fo : Addr) (n : Nat) (H' : Hp) : Prop := ∃ (a' : Int) (ds : List D) (ys : List V) (G0 : List Addr), Gn H' p L B N n a' ∧ Kp (fun a => a = p ∨ a = L) H1 H' ∧ H' fo = some (.lst ys) ∧ Reps H' ds ys G0 ∧ (∀ x ∈ G0, H1 x = none ∧ x ≠ fo) ∧ W ds a'
theorem it_push {H1 H5 H6 : Hp} {p L B fo : Addr} {N : List Str} {m0 n5 n6 : Nat} {a0 a5 a6 : Int} {ds : List D} {ys : List V} {G0 G6 : List Addr} {d : D} {u : V} (hG : Gn H1 p L B N m0 a0) (hfo : H1 fo = none)
    (hG5 : Gn H5 p L B N n5 a5) (hk5 : Kp (fun a => a = p ∨ a = L) H1 H5) (hl5 : H5 fo = some (.lst ys)) (hr5 : Reps H5 ds ys G0) (hf5 : ∀ x ∈ G0, H1 x = none ∧ x ≠ fo)
    (hG6 : Gn H6 p L B N n6 a6) (hk6 : Kp (fun a => a = p ∨ a = L) H5 H6) (hr6 : Rep H6 d u G6) (hf6 : ∀ x ∈ G6, H5 x = none) :
    H6 fo = some (.lst ys) ∧ ys.length = ds.length ∧ Gn (upd H6 fo (.lst (ys ++ [u]))) p L B N n6 a6 ∧ Kp (fun a => a = p ∨ a = L) H1 (upd H6 fo (.lst (ys ++ [u]))) ∧ (upd H6 fo (.lst (ys ++ [u]))) fo = some (.lst (ys ++ [u])) ∧ Reps (upd H6 fo (.lst (ys ++ [u]))) (ds ++ [d]) (ys ++ [u]) (G0 ++ G6) ∧ ∀ x ∈ G0 ++ G6, H1 x = none ∧ x ≠ fo := by
  have hl6 : H6 fo = some (.lst ys) := hk6 _ _ hl5 (.inl (hG.noS hfo))
  have kp7 : Kp (fun a => a = fo) H6 (upd H6 fo (.lst (ys ++ [u]))) := Kp.set hl6 rfl
  have n6 : ∀ x ∈ G6, x ≠ fo := fun x hx z => by
    have e := hf6 x hx
    rw [z, hl5] at e
    cases e
  refine ⟨hl6, hr5.len, hG.put (hk5.trans hk6) hG6 hfo, (hk5.trans hk6).put hfo, upd_same, Reps.snoc ((hr5.kp hk6 fun x hx => hG.noS (hf5 x hx).1).kp kp7 fun x hx => (hf5 x hx).2) (hr6.kp kp7 n6) (fun x hx z => ?_), fun x hx => ?_⟩
  · obtain ⟨zs, e⟩ := hr5.at_ x hx
    rw [hf6 x z] at e
    cases e
  · rcases List.mem_append.mp hx with z | z
    · exact hf5 x z
    · exact ⟨hG.free hk5 hG5 (hf6 x z), n6 x z⟩
/-- without what stands at one place -/
def hide (H : Hp) (c : Addr) : Hp := fun x => if x = c then none else H x
theorem hide_self {H : Hp} {c : Addr} : hide H c c = none := if_pos rfl
theorem hide_ne {H : Hp} {c x : Addr} (h : x ≠ c) : hide H c x = H x := if_neg h
theorem hide_same {H : Hp} {c : Addr} : Same (hide H c) H := fun b u e => by
  by_cases h : b = c
  · rw [h, hide_self] at e
    cases e
  · rwa [hide_ne h] at e
theorem hide_in {H : Hp} {c x : Addr} {o : HO} (h : x ≠ c) (e : H x = some o) : hide H c x = some o := by
  rw [hide_ne h]
  exact e
theorem six_three {g : Bool} {σ : L2.St} {H : Hp} {Q : VK} (h : ∀ dp : Nat, dp = 6 ∨ dp = 3 → Q (.int (dp : Int)) H) : if g = true then tC (.int 6) σ H Q else tC (.int 3) σ H Q := by
  cases g with
  | true => exact iteT (h 6 (.inl rfl))
  | false => exact iteF (h 3 (.inr rfl))
def PlanAt (H : Hp) (t : Addr) (ds : List D) (r s : Str) (G : List Addr) : Prop := ∃ u, H t = some (.tup [u, .str r, .str s]) ∧ Rep H (.lst ds) u G ∧ okOrd r ∧ okLck s
/-- draws: for a case, for a step, for a plan -/
def cCs : Nat := cP 6
def cSt : Nat := 2300 + 10 + 20 * cCs
def cPl : Nat := 100 + 20 * cSt
def spPlan : Sp := fun vs H Q _ => ∃ (p : Addr) (g : Bool) (n : Nat), vs = [.ref p, .bl g] ∧ Purse H p n ∧ n + cPl < 10 ^ 60 ∧
  ∀ (t : Addr) (ds : List D) (r s : Str) (G : List Addr) (N : List Str) H', But p H H' → Purse H' p (n + cPl) → H t = none → PlanAt H' t ds r s G → (∀ x ∈ G, H x = none) → PgN N ds → Q (.ref t) H'
def StN (N : List Str) (d : D) : Prop := StOk d ∧ ∀ z ∈ stNames d, z ∈ N
theorem stn_set {N : List Str} {z : Str} {t : D} (hz : okName z) (hN : z ∈ N) (ht : TmOk 5 t) : StN N (.tup [S "set", .leaf (.str z), t]) := by
  refine ⟨.inl ⟨z, t, hz, ht, rfl⟩, fun y hy => ?_⟩
  unfold stNames at hy
  rw [set_set, parts_set] at hy
  have e : y ∈ [z] := hy
  rw [List.mem_singleton.mp e]
  exact hN
theorem stn_take {N : List Str} {r q : D} (hr : Opt r) (hq : PtN N 7 q) : StN N (.tup [S "take", r, q]) := by
  refine ⟨.inr (.inl ⟨r, q, hr, hq.1, rfl⟩), fun y hy => ?_⟩
  unfold stNames at hy
  rw [set_take, parts_take] at hy
  have e : y ∈ bnd 7 q ++ [] := hy
  rw [List.append_nil] at e
  exact hq.2 y e
theorem stn_cases {N : List Str} {r : D} {qs : List D} (hr : Opt r) (hl : qs.length ≤ 20) (hq : ∀ q ∈ qs, PtN N 7 q) : StN N (.tup [S "cases", r, .lst qs]) := by
  refine ⟨.inr (.inr ⟨r, qs, hr, hl, fun q m => (hq q m).1, rfl⟩), fun y hy => ?_⟩
  unfold stNames at hy
  rw [set_cases, parts_cases] at hy
  obtain ⟨q, hm, hy⟩ := List.mem_flatMap.mp (show y ∈ qs.flatMap (bnd 7) from hy)
  exact (hq q hm).2 y hy
abbrev WSt (N : List Str) (a0 : Int) (i : Nat) : List D → Int → Prop := fun ds a' => 0 ≤ a' ∧ ds.length ≤ i ∧ (∀ d ∈ ds, StN N d) ∧ ((stTot ds : Nat) : Int) = a0 - a'
abbrev WCs (N : List Str) (a0 : Int) (i : Nat) : List D → Int → Prop := fun qs a' => 0 ≤ a' ∧ a' ≤ a0 ∧ qs.length ≤ i ∧ (∀ q ∈ qs, PtN N 7 q) ∧ (((qs.flatMap (pre 7)).length : Nat) : Int) = a0 - a'
section
variable {P : Program} {w : World} {K : PySem.W.Frag} {mg : Str → Option Value} {base : Heap}
abbrev nPl : List Str := ["purse", "is_great", "sizes", "found", "labels", "left", "most", "turn", "way", "name", "whose", "lot", "case", "size"]
theorem scPl : FnScope nPl ["purse", "is_great"] (defScope sPlan) := ⟨rfl, rfl, rfl, by decide +kernel, rfl, by decide +kernel, by decide +kernel⟩
theorem ok_plan {f fC fW fT fP : Addr} {fd fdC fdW fdT fdP : FuncData} (F : Fun K "_law_tp_plan" "_law_tp_plan" sPlan f fd) (T : Txt K mg)
    (FC : Fun K "_law_coin" "_law_coin" sCoin fC fdC) (GC : FnOk P w K mg base CX0 1 fC fdC ["purse", "many"] spCoin) (bC : Binds K fdC ["purse", "many"] []) (mC : mg "_law_coin" = some (.ref fC))
    (FW : Fun K "_law_tk_stems" "_law_tk_stems" sStems fW fdW) (GW : FnOk P w K mg base CX0 2 fW fdW ["purse", "many"] spStems) (bW : Binds K fdW ["purse", "many"] []) (mW : mg "_law_tk_stems" = some (.ref fW))
    (FT : Fun K "_law_tk_term" "_law_tk_term" sTerm fT fdT) (GT : FnOk P w K mg base CX0 7 fT fdT ["purse", "labels", "left", "deep"] (spTerm 7)) (bT : Binds K fdT ["purse", "labels", "left", "deep"] []) (mT : mg "_law_tk_term" = some (.ref fT))
    (FP : Fun K "_law_tk_part" "_law_tk_part" sPart fP fdP) (GP : FnOk P w K mg base CX0 15 fP fdP ["purse", "labels", "left", "deep"] (spPart 15)) (bP : Binds K fdP ["purse", "labels", "left", "deep"] []) (mP : mg "_law_tk_part" = some (.ref fP)) :
    FnOk P w K mg base CX0 16 f fd ["purse", "is_great"] spPlan := by
  refine F.ok scPl (fun vs H Q E h => ?_) (fun cdv A outer s H vs Q E hr h => ?_)
  · obtain ⟨p, g, n, rfl, _⟩ := h
    rfl
  obtain ⟨p, g, n, rfl, hp, hn, kk⟩ := h
  have hr1 : Room 1 (A.deeper (envOfC "_law_tp_plan" (defScope sPlan) s.heap.objs.size f cdv)) := hr.mono (by omega)
  have hr2 : Room 2 (A.deeper (envOfC "_law_tp_plan" (defScope sPlan) s.heap.objs.size f cdv)) := hr.mono (by omega)
  have hr7 : Room 7 (A.deeper (envOfC "_law_tp_plan" (defScope sPlan) s.heap.objs.size f cdv)) := hr.mono (by omega)
  refine ⟨_, Evl.pss_cut (ps_par (i := 2) (j := 3) rfl scPl.nd rfl rfl (by decide) rfl rfl (pa_cons (pe_ifExp (pt_val (pv 1)) (pe_lst (pa_cons (pe_ix ix_list (pe_lst (pa_cons pe_int (pa_cons pe_int (pa_cons pe_int pa_nil)))) (pe_call GC hr1 rfl mC FC.kp bC .nil pass0 (pa_cons (pv 0) (pa_cons pe_int pa_nil))) (fun _ _ => rfl)) (pa_cons pe_int (pa_cons pe_int pa_nil)))) (pe_lst (pa_cons pe_int (pa_cons pe_int (pa_cons pe_int pa_nil))))) (pa_cons (pe_lst pa_nil) pa_nil)) (by rfl))
    (Evl.pss_cut (ps_setLc (i := 4) (own := [("size", 13)]) (g := gName 13) (tt := tYes) (by rfl) scPl.nd rfl rfl (sw_true rfl rfl rfl (by decide +kernel)) (pi_list (pv 2)) (blkOk_by (N := nPl) (sc := defScope sPlan) (by decide +kernel)) (fun _ _ _ _ _ => pg_name (i := 13) scPl.nd rfl (Or.inl rfl)) (fun _ _ _ _ _ => pts_nil)
        (fun _ _ _ _ _ => pe_call GW hr2 rfl mW FW.kp bW .nil pass0 (pa_cons (pv 0) (pa_cons (pe_op op_add pe_int (pe_call GC hr1 rfl mC FC.kp bC .nil pass0 (pa_cons (pv 0) (pa_cons (pv 13) pa_nil)))) pa_nil))))
    (Evl.pss_cut (ps_set (i := 5) scPl.nd rfl (Or.inl rfl) (pe_ifExp (pt_val (pv 1)) (pe_lst (pa_cons pe_int (pa_cons pe_int (pa_cons pe_int (pa_cons pe_int (pa_cons pe_int pa_nil)))))) (pe_lst (pa_cons pe_int (pa_cons pe_int (pa_cons pe_int (pa_cons pe_int (pa_cons pe_int pa_nil))))))))
    (Evl.pss_cut (ps_set (i := 6) scPl.nd rfl (Or.inl rfl) (pe_ifExp (pt_val (pv 1)) pe_int pe_int))
    (Evl.pss_cut (ps_for PassesOwn.never rfl (pi_range1 rfl T.range (pa_cons (pe_call GC hr1 rfl mC FC.kp bC .nil pass0 (pa_cons (pv 0) (pa_cons (pv 6) pa_nil))) pa_nil)) (pg_name (i := 7) scPl.nd rfl (Or.inl rfl))
      (Evl.pss_cut (ps_par (i := 8) (j := 9) rfl scPl.nd rfl rfl (by decide) rfl rfl (pa_cons (pe_call GC hr1 rfl mC FC.kp bC .nil pass0 (pa_cons (pv 0) (pa_cons pe_int pa_nil))) (pa_cons (pe_ix ix_list (pe_ix ix_list (pv 4) pe_int (fun _ _ => rfl)) (pe_call GC hr1 rfl mC FC.kp bC .nil pass0 (pa_cons (pv 0) (pa_cons (pe_callB call_len_seq (by rfl) T.len PySem.boot_len (pa_cons (pe_ix ix_list (pv 4) pe_int (fun _ _ => rfl)) pa_nil)) pa_nil))) (fun _ _ => rfl)) pa_nil)) (by rfl))
      (Evl.pss_cut (ps_set (i := 10) scPl.nd rfl (Or.inl rfl) (pe_ifExp (PW.pt (pw_or (pt_cmpR op_eq (pv 7) pe_int (nomark _)) (pw_or1 (pt_cmpR op_eq (pe_call GC hr1 rfl mC FC.kp bC .nil pass0 (pa_cons (pv 0) (pa_cons pe_int pa_nil))) pe_int (nomark _))))) pe_non (pv 9)))
      (pss_one (ps_if (pt_cmpR op_eq (pv 8) pe_int (nomark _))
        (pss_one (ps_expr (pe_bm PySem.F.plainAttrs_list PySem.F.slot_list_append PySem.F.type_list_append mt_append (pv 3) (pa_cons (pe_tup (pa_cons pe_str (pa_cons (pv 9) (pa_cons (pe_call GT hr7 rfl mT FT.kp bT .nil pass0 (pa_cons (pv 0) (pa_cons (pv 4) (pa_cons (pv 5) (pa_cons (pe_ix ix_list (pv 5) pe_int (fun _ _ => rfl)) pa_nil))))) pa_nil)))) pa_nil))))
        (pss_one (ps_if (pt_cut (PW.pt (pw_and (pt_cmpR op_lt (pv 8) pe_int (nomark _)) (pw_and1 (pt_cmpR op_gt (pe_ix ix_list (pv 5) pe_int (fun _ _ => rfl)) pe_int (nomark _))))))
          (pss_one (ps_expr (pe_bm PySem.F.plainAttrs_list PySem.F.slot_list_append PySem.F.type_list_append mt_append (pv 3) (pa_cons (pe_tup (pa_cons pe_str (pa_cons (pv 10) (pa_cons (pe_call GP hr rfl mP FP.kp bP .nil pass0 (pa_cons (pv 0) (pa_cons (pv 4) (pa_cons (pv 5) (pa_cons (pe_ifExp (pt_val (pv 1)) pe_int pe_int) pa_nil))))) pa_nil)))) pa_nil))))
          (pss_one (ps_if (pt_cmpR op_gt (pv 8) pe_int (nomark _))
            (Evl.pss_cut (ps_set (i := 11) scPl.nd rfl (Or.inl rfl) (pe_lst pa_nil))
            (Evl.pss_cut (ps_for PassesOwn.never rfl (pi_range1 rfl T.range (pa_cons (pe_call GC hr1 rfl mC FC.kp bC .nil pass0 (pa_cons (pv 0) (pa_cons (pv 6) pa_nil))) pa_nil)) (pg_name (i := 12) scPl.nd rfl (Or.inl rfl))
              (pss_one (ps_if (pt_cmpR op_gt (pe_ix ix_list (pv 5) pe_int (fun _ _ => rfl)) pe_int (nomark _)) (pss_one (ps_expr (pe_bm PySem.F.plainAttrs_list PySem.F.slot_list_append PySem.F.type_list_append mt_append (pv 11) (pa_cons (pe_call GP hr rfl mP FP.kp bP .nil pass0 (pa_cons (pv 0) (pa_cons (pv 4) (pa_cons (pv 5) (pa_cons (pe_ifExp (pt_val (pv 1)) pe_int pe_int) pa_nil))))) pa_nil)))) pss_nil)))
            (pss_one (ps_expr (pe_bm PySem.F.plainAttrs_list PySem.F.slot_list_append PySem.F.type_list_append mt_append (pv 3) (pa_cons (pe_tup (pa_cons pe_str (pa_cons (pv 10) (pa_cons (pv 11) pa_nil)))) pa_nil)))))) pss_nil)))))))))
    (pss_one (ps_ret (pe_tup (pa_cons (pv 3) (pa_cons (pe_ix ix_list (pe_lst (pa_cons pe_str (pa_cons pe_str pa_nil))) (pe_call GC hr1 rfl mC FC.kp bC .nil pass0 (pa_cons (pv 0) (pa_cons pe_int pa_nil))) (fun _ _ => rfl)) (pa_cons (pe_ix ix_list (pe_lst (pa_cons pe_str (pa_cons pe_str pa_nil))) (pe_call GC hr1 rfl mC FC.kp bC .nil pass0 (pa_cons (pv 0) (pa_cons pe_int pa_nil))) (fun _ _ => rfl)) pa_nil)))))))))), ?_⟩
  obtain ⟨po, hpo⟩ := hp.some
  have hc1 : cPl = 100 + 20 * cSt := rfl
  have hc2 : cSt = 2300 + 10 + 20 * cCs := rfl
  have hc3 : cCs = cP 6 := rfl
  have hc4 : cP 3 ≤ cP 6 := by decide
  -- sizes, found
  refine ⟨fun σ' H' => But p H H' ∧ Purse H' p (n + 1) ∧ ∃ (sA fo : Addr) (ss : List Int), H sA = none ∧ H fo = none ∧ sA ≠ fo ∧ H' sA = some (.lst (ss.map V.int)) ∧ H' fo = some (.lst []) ∧ ss.length = 3 ∧ (∀ x ∈ ss, 1 ≤ x ∧ x ≤ 26) ∧ σ' = [some (.ref p), some (.bl g), some (.ref sA), some (.ref fo), none, none, none, none, none, none, none, none, none, none], ?_, ?_⟩
  · have fin : ∀ (Hx : Hp) (sA fo : Addr) (ss : List Int), But p H Hx → Purse Hx p (n + 1) → Hx sA = none → (upd Hx sA (.lst (ss.map V.int))) fo = none → ss.length = 3 → (∀ x ∈ ss, 1 ≤ x ∧ x ≤ 26) →
        But p H (upd (upd Hx sA (.lst (ss.map V.int))) fo (.lst [])) ∧ Purse (upd (upd Hx sA (.lst (ss.map V.int))) fo (.lst [])) p (n + 1) ∧ H sA = none ∧ H fo = none ∧ sA ≠ fo ∧ (upd (upd Hx sA (.lst (ss.map V.int))) fo (.lst [])) sA = some (.lst (ss.map V.int)) ∧ (upd (upd Hx sA (.lst (ss.map V.int))) fo (.lst [])) fo = some (.lst []) := fun Hx sA fo ss hb hpx h1 h2 _ _ => by
      have s1 := same_new h1 (.lst (ss.map V.int))
      have s2 := same_new h2 (.lst [])
      have nsf : sA ≠ fo := ne_of_none upd_same h2
      exact ⟨(hb.trans (.of s1)).trans (.of s2), (hpx.same s1).same s2, hb.free hpo hpx.some h1, hb.free hpo hpx.some (s1.free h2), nsf, s2 _ _ upd_same, upd_same⟩
    refine ⟨_, rfl, g, rfl, ?_⟩
    refine ite2 (fun _ => ?_) (fun _ => ⟨by show 3 ≤ sizeLine; decide, fun sA hsA => ⟨by show 0 ≤ sizeLine; decide, fun fo hfo => ⟨_, _, rfl, ?_⟩⟩⟩)
    · refine ⟨by show 3 ≤ sizeLine; decide, fun q hq => ?_⟩
      have sq := same_new hq (.lst [V.int 8, V.int 8, V.int 26])
      refine ⟨_, rfl, p, 3, n, rfl, hp.same sq, by omega, by decide, by decide, fun d H1 d0 d1 hb hp1 => ?_⟩
      obtain ⟨x, hx, hx1, hx2⟩ : ∃ x : Int, atI [V.int 8, V.int 8, V.int 26] d = some (.int x) ∧ 1 ≤ x ∧ x ≤ 26 := by
        have e : d = ((0 : Nat) : Int) ∨ d = ((1 : Nat) : Int) ∨ d = ((2 : Nat) : Int) := by omega
        rcases e with e | e | e
        · exact ⟨8, at_ofN e rfl, by decide, by decide⟩
        · exact ⟨8, at_ofN e rfl, by decide, by decide⟩
        · exact ⟨26, at_ofN e rfl, by decide, by decide⟩
      refine ⟨q, _, _, _, rfl, rfl, SqL.of (hb q _ (hp.ne hq) upd_same), hx, by show 3 ≤ sizeLine; decide, fun sA hsA => ⟨by show 0 ≤ sizeLine; decide, fun fo hfo => ⟨_, _, rfl, ?_⟩⟩⟩
      have hss : ∀ y ∈ [x, 12, 8], 1 ≤ y ∧ y ≤ 26 := fun y hy => by
        simp at hy
        rcases hy with rfl | rfl | rfl
        · exact ⟨hx1, hx2⟩
        · decide
        · decide
      obtain ⟨g1, g2, g3, g4, g5, g6, g7⟩ := fin H1 sA fo [x, 12, 8] ((But.of sq).trans hb) hp1 hsA hfo rfl hss
      exact ⟨g1, g2, sA, fo, [x, 12, 8], g3, g4, g5, g6, g7, rfl, hss, rfl⟩
    · obtain ⟨g1, g2, g3, g4, g5, g6, g7⟩ := fin H sA fo [5, 2, 4] (But.refl p H) (hp.mono (by omega)) hsA hfo rfl (by decide)
      exact ⟨g1, g2, sA, fo, [5, 2, 4], g3, g4, g5, g6, g7, rfl, by decide, rfl⟩
  rintro _ H1 ⟨hb1, hp1, sA, fo, ss, hsA0, hfo0, nsf, hsA, hfo, hss3, hss, rfl⟩
  have nsp : sA ≠ p := hp.ne hsA0
  have nfp : fo ≠ p := hp.ne hfo0
  -- labels
  refine ⟨fun σ' H' => But p H H' ∧ Purse H' p (n + 1 + 3 * 11) ∧ H' fo = some (.lst []) ∧ ∃ (B : Addr) (rs : List Addr), H B = none ∧ B ≠ fo ∧ H' B = some (.lst (rs.map V.ref)) ∧ rs.length = 3 ∧ (∀ r ∈ rs, H r = none ∧ r ≠ B ∧ r ≠ fo ∧ ∃ z, Nam H' r z ∧ z.Nodup) ∧ σ' = [some (.ref p), some (.bl g), some (.ref sA), some (.ref fo), some (.ref B), none, none, none, none, none, none, none, none, none], ?_, ?_⟩
  · refine ⟨_, rfl, sA, rfl, ⟨_, SqL.of hsA⟩, fun D0 hD => ?_⟩
    have nDp : D0 ≠ p := hp1.ne hD
    have hD00 : H D0 = none := hb1.free hpo hp1.some hD
    have nDf : D0 ≠ fo := (ne_of_none hfo hD).symm
    refine lc_list (K := K) (a := sA) (xs := ss.map V.int) (fun i H2 => But p H H2 ∧ H2 sA = some (.lst (ss.map V.int)) ∧ H2 fo = some (.lst []) ∧ Purse H2 p (n + 1 + i * 11) ∧ ∃ rs : List Addr, H2 D0 = some (.lst (rs.map V.ref)) ∧ rs.length = i ∧ ∀ r ∈ rs, H r = none ∧ r ≠ D0 ∧ r ≠ fo ∧ ∃ z, Nam H2 r z ∧ z.Nodup)
      ⟨hb1.trans (.new hD), same_new hD _ _ _ hsA, same_new hD _ _ _ hfo, (by rw [Nat.zero_mul]; exact hp1.same (same_new hD _)), [], upd_same, rfl, fun _ z => nomatch z⟩ (fun i H2 _ ⟨_, h, _⟩ => SqL.of h) ?_ ?_
    · rintro i x H2 hi ⟨hb2, hsA2, hfo2, hp2, rs, hD2, hl, hrs⟩
      refine ⟨rfl, ?_⟩
      have hi3 : i < 3 := by
        have q := (List.getElem?_eq_some_iff.mp hi).1
        rw [List.length_map] at q
        omega
      obtain ⟨sz, hsz, rfl⟩ := List.mem_map.mp (List.mem_of_getElem? hi)
      obtain ⟨g1, g2⟩ := hss sz hsz
      show tCall spStems [] E0 (tCons (tVar 0) (tCons _ tNil)) _ H2 _
      refine ⟨_, rfl, _, rfl, _, rfl, p, sz, n + 1 + i * 11, rfl, hp2, by omega, by omega, by omega, fun d H3 d0 d1 hb3 hp3 => ⟨_, _, rfl, rfl, p, (1 + d).toNat, n + 1 + i * 11 + 1, ?_, by omega, by omega, hp3, by omega, fun r zs H4 hA hr hzs hzl hnd hok => ?_⟩⟩
      · show [V.ref p, V.int (1 + d)] = _
        rw [show (((1 + d).toNat : Nat) : Int) = 1 + d by omega]
      have hb4 := (hb2.trans hb3).trans hA.1
      have hr0 : H r = none := (hb2.trans hb3).free hpo hp3.some hr
      have hD4 := hA.1 _ _ nDp (hb3 _ _ nDp hD2)
      have hrD : r ≠ D0 := (ne_of_none (hb3 _ _ nDp hD2) hr).symm
      have hrf : r ≠ fo := (ne_of_none (hb3 _ _ nfp hfo2) hr).symm
      refine ⟨_, hD4, Nat.lt_of_le_of_lt (show (rs.map V.ref).length ≤ 3 by rw [List.length_map]; omega) (by decide), ?_, ?_, ?_, ?_, rs ++ [r], ?_, ?_, fun y hy => ?_⟩
      · intro b o nb e
        rw [upd_ne fun z => ?_]
        · exact hb4 b o nb e
        · rw [z, hD00] at e
          cases e
      · rw [upd_ne (ne_of_none hsA hD)]
        exact hA.1 _ _ nsp (hb3 _ _ nsp hsA2)
      · rw [upd_ne nDf.symm]
        exact hA.1 _ _ nfp (hb3 _ _ nfp hfo2)
      · obtain ⟨x1, x2, x3, e, r2⟩ := hA.2.mono (show n + 1 + i * 11 + 1 + 10 ≤ n + 1 + (i + 1) * 11 by rw [Nat.succ_mul]; omega)
        exact ⟨x1, x2, x3, by rw [upd_ne (Ne.symm nDp)]; exact e, r2⟩
      · rw [upd_same, List.map_append]
        rfl
      · rw [List.length_append, hl]
        rfl
      · have up : ∀ {y : Addr} {z : List Str}, y ≠ D0 → Nam H4 y z → Nam (upd H4 D0 (.lst (rs.map V.ref ++ [.ref r]))) y z := fun ny h => ⟨by rw [upd_ne ny]; exact h.1, h.2⟩
        rcases List.mem_append.mp hy with y1 | y1
        · obtain ⟨a1, a2, a5, z, a3, a4⟩ := hrs y y1
          have nyp : y ≠ p := hp.ne a1
          exact ⟨a1, a2, a5, z, up a2 ⟨hA.1 _ _ nyp (hb3 _ _ nyp a3.1), a3.2⟩, a4⟩
        · rw [List.mem_singleton.mp y1]
          exact ⟨hr0, hrD, hrf, zs, up hrD ⟨hzs, by omega, by omega, hok⟩, hnd⟩
    · rintro H2 ⟨hb2, hsA2, hfo2, hp2, rs, hD2, hl, hrs⟩
      rw [List.length_map, hss3] at hp2 hl
      exact ⟨hb2, hp2, hfo2, D0, rs, hD00, nDf, hD2, hl, hrs, rfl⟩
  clear hsA hfo hb1 hp1
  rintro _ H1 ⟨hb1, hp1, hfo, B, rs, hB0, nBf, hB, hrl, hrs, rfl⟩
  obtain ⟨n0, n1, n2, rfl⟩ : ∃ n0 n1 n2, rs = [n0, n1, n2] := by
    match rs, hrl with
    | [a, b, c], _ => exact ⟨a, b, c, rfl⟩
  obtain ⟨q0, q0B, q0f, N, hN0, _⟩ := hrs n0 (by simp)
  obtain ⟨q1, q1B, q1f, z1, hN1, _⟩ := hrs n1 (by simp)
  obtain ⟨q2, q2B, q2f, z2, hN2, hnd⟩ := hrs n2 (by simp)
  -- what may still be drawn
  refine ⟨fun σ' H' => ∃ (L : Addr) (Hz : Hp), Gn Hz p L B N (n + 34) (if g = true then 60 else 8) ∧ Gn H' p L B N (n + 34) (if g = true then 60 else 8) ∧ But p H Hz ∧ Same Hz H' ∧ Hz fo = none ∧ H L = none ∧ L ≠ fo ∧ H' fo = some (.lst []) ∧ σ' = [some (.ref p), some (.bl g), some (.ref sA), some (.ref fo), some (.ref B), some (.ref L), none, none, none, none, none, none, none, none], ?_, ?_⟩
  · have mk : ∀ (L : Addr) (aa d i c l : Int), H1 L = none → 0 ≤ i ∧ i ≤ 20 ∧ 1 ≤ l ∧ l ≤ 5 → ∃ Hz, Gn Hz p L B N (n + 34) aa ∧ Gn (upd H1 L (lf5 aa d i c l)) p L B N (n + 34) aa ∧ But p H Hz ∧ Same Hz (upd H1 L (lf5 aa d i c l)) ∧ Hz fo = none ∧ H L = none ∧ L ≠ fo ∧ (upd H1 L (lf5 aa d i c l)) fo = some (.lst []) := fun L aa d i c l hL hl => by
      have st := same_new hL (lf5 aa d i c l)
      have nn : ∀ {y : Addr} {o : HO}, H1 y = some o → y ≠ L := fun e => ne_of_none e hL
      have nLf : L ≠ fo := (nn hfo).symm
      have st2 : ∀ {y : Addr} {z : List Str}, Nam H1 y z → Nam (upd H1 L (lf5 aa d i c l)) y z := fun h => ⟨st _ _ h.1, h.2⟩
      have st3 : ∀ {y : Addr} {z : List Str}, y ≠ fo → Nam H1 y z → Nam (hide (upd H1 L (lf5 aa d i c l)) fo) y z := fun ny h => ⟨hide_in ny (st _ _ h.1), h.2⟩
      have two : ∀ (Hx : Hp), Purse Hx p (n + 34) → Hx L = some (lf5 aa d i c l) → Hx B = some (.lst [.ref n0, .ref n1, .ref n2]) → Nam Hx n0 N → Nam Hx n1 z1 → Nam Hx n2 z2 → Gn Hx p L B N (n + 34) aa := fun Hx h1 h2 h3 h4 h5 h6 =>
        ⟨h1, ⟨d, i, c, l, h2, hl⟩, hp1.ne hL, ⟨n0, n1, n2, z1, z2, h3, h4, h5, h6, hnd, hp.ne hB0, nn hB, hp.ne q0, nn hN0.1, hp.ne q1, nn hN1.1, hp.ne q2, nn hN2.1⟩⟩
      refine ⟨hide (upd H1 L (lf5 aa d i c l)) fo, two _ ?_ (hide_in nLf upd_same) (hide_in nBf (st _ _ hB)) (st3 q0f hN0) (st3 q1f hN1) (st3 q2f hN2), two _ (hp1.same st) upd_same (st _ _ hB) (st2 hN0) (st2 hN1) (st2 hN2), fun b o nb e => hide_in (fun z => ?_) (st _ _ (hb1 b o nb e)), hide_same, hide_self, hb1.free hpo hp1.some hL, nLf, st _ _ hfo⟩
      · obtain ⟨x1, x2, x3, e, r⟩ := hp1.same st
        exact ⟨x1, x2, x3, hide_in (Ne.symm nfp) e, r⟩
      · rw [z, hfo0] at e
        cases e
    refine ⟨_, rfl, g, rfl, ?_⟩
    cases g with
    | true =>
      refine iteT ⟨by show 5 ≤ sizeLine; decide, fun L hL => ?_⟩
      obtain ⟨Hz, m1, m2, m3, m4, m5, m6, m7, m8⟩ := mk L 60 28 20 40 5 hL (by decide)
      exact ⟨L, Hz, m1, m2, m3, m4, m5, m6, m7, m8, rfl⟩
    | false =>
      refine iteF ⟨by show 5 ≤ sizeLine; decide, fun L hL => ?_⟩
      obtain ⟨Hz, m1, m2, m3, m4, m5, m6, m7, m8⟩ := mk L 8 3 3 6 3 hL (by decide)
      exact ⟨L, Hz, m1, m2, m3, m4, m5, m6, m7, m8, rfl⟩
  clear hb1 hp1 hB hfo hN1 hN2 hrs
  rintro _ H1 ⟨L, Hz, hGz, hG1, hbz, hsz1, hzf, hL0, nLf, hfo1, rfl⟩
  have hN26 := hN0.2.2.1
  have hNok := hN0.2.2.2
  clear hN0
  generalize ha0 : (if g = true then (60 : Int) else 8) = a0 at hG1 hGz
  have ha60 : 0 ≤ a0 ∧ a0 ≤ 60 := by
    rw [← ha0]
    split <;> decide
  -- most
  refine ⟨fun σ' H' => H1 = H' ∧ ∃ mo : Int, 1 ≤ mo ∧ mo ≤ 21 ∧ σ' = [some (.ref p), some (.bl g), some (.ref sA), some (.ref fo), some (.ref B), some (.ref L), some (.int mo), none, none, none, none, none, none, none], ?_, ?_⟩
  · refine ⟨_, rfl, g, rfl, ?_⟩
    cases g with
    | true => exact iteT ⟨rfl, 21, by decide, by decide, rfl⟩
    | false => exact iteF ⟨rfl, 4, by decide, by decide, rfl⟩
  rintro _ _ ⟨rfl, mo, mo1, mo21, rfl⟩
  have zF : ∀ {x : Addr}, Hz x = none → H x = none := fun h => hbz.free hpo hGz.pu.some h
  have noz : ∀ {x : Addr}, Hz x = none → ¬ (x = p ∨ x = L) := fun h => hGz.noS h
  -- the steps
  refine ⟨fun σ' H' => ItG (WSt N a0 20) Hz p L B N fo (n + 35 + 20 * cSt) H' ∧ ∃ v7 v8 v9 v10 v11 v12, σ' = [some (.ref p), some (.bl g), some (.ref sA), some (.ref fo), some (.ref B), some (.ref L), some (.int mo), v7, v8, v9, v10, v11, v12, none], ?_, ?_⟩
  · refine ⟨_, rfl, _, rfl, p, mo, n + 34, rfl, hG1.pu, by omega, by omega, by omega, fun dr H2 d0 d1 hb2 hp2 => ⟨dr, rfl, by omega, by omega, ?_⟩⟩
    have hG2 := hG1.draw hb2 hp2
    have hk2 : Kp (fun a => a = p ∨ a = L) Hz H2 := (Kp.same hsz1).trans (hG1.kd hb2)
    refine for_range (lo := 0) (fun i σ' H' => ItG (WSt N a0 i) Hz p L B N fo (n + 35 + i * cSt) H' ∧ ∃ v7 v8 v9 v10 v11 v12, σ' = [some (.ref p), some (.bl g), some (.ref sA), some (.ref fo), some (.ref B), some (.ref L), some (.int mo), v7, v8, v9, v10, v11, v12, none])
      ⟨⟨a0, [], [], [], by rw [Nat.zero_mul]; exact hG2, hk2, hb2 _ _ nfp hfo1, reps_nil, (fun _ z => nomatch z), ha60.1, Nat.le_refl _, (fun _ z => nomatch z), by rw [Int.sub_self]; rfl⟩, _, _, _, _, _, _, rfl⟩ ?_ ?_
    · rintro i σ' H5 hi ⟨⟨a', ds, ys, G0, hG5, hk5, hf5, hr5, hn5, hW0, hWl, hWs, hWt⟩, v7, v8, v9, v10, v11, v12, rfl⟩
      have hi3 : i + 1 ≤ 20 := by omega
      have hcost : (i + 1) * cSt ≤ 20 * cSt := Nat.mul_le_mul_right _ hi3
      have hsm : (i + 1) * cSt = i * cSt + cSt := Nat.succ_mul _ _
      have ha60' : a' ≤ 60 := by omega
      -- way, name
      refine ⟨fun σ' H' => But p H5 H' ∧ Purse H' p (n + 35 + i * cSt + 2) ∧ ∃ (wy : Int) (nm : Str), nm ∈ N ∧ σ' = [some (.ref p), some (.bl g), some (.ref sA), some (.ref fo), some (.ref B), some (.ref L), some (.int mo), some (.int (0 + (i : Int))), some (.int wy), some (.str nm), v10, v11, v12, none], ?_, ?_⟩
      · refine ⟨_, rfl, p, 5, n + 35 + i * cSt, rfl, hG5.pu, by omega, by decide, by decide, fun wy H6 w0 w1 hb6 hp6 => ?_⟩
        obtain ⟨m0, m1, m2, z3, z4, hB, h0, h1, h2, nd, b1, b2, b3, b4, b5, b6, b7, b8⟩ := (hG5.draw hb6 hp6).lb
        refine pickB_ok (i := 4) (j := 0) rfl rfl hB at3_0 h0 b3 hp6 (by omega) fun y H7 hy hb7 hp7 => ?_
        exact ⟨_, _, rfl, hb6.trans hb7, hp7, wy, y, hy, rfl⟩
      rintro _ H6 ⟨hb6, hp6, wy, nm, hnm, rfl⟩
      -- whose
      refine ⟨fun σ' H' => But p H5 H' ∧ Purse H' p (n + 35 + i * cSt + 3) ∧ ∃ rv : V, Opt (.leaf rv) ∧ Leaf rv ∧ σ' = [some (.ref p), some (.bl g), some (.ref sA), some (.ref fo), some (.ref B), some (.ref L), some (.int mo), some (.int (0 + (i : Int))), some (.int wy), some (.str nm), some rv, v11, v12, none], ?_, ?_⟩
      · refine ⟨_, rfl, rfl, _, rfl, ?_⟩
        refine ite2 (fun _ => iteT ?_) (fun _ => ?_)
        · exact ⟨hb6, hp6.mono (by omega), .non, .inl rfl, leaf_non, rfl⟩
        · refine ⟨_, rfl, p, 2, n + 35 + i * cSt + 2, rfl, hp6, by omega, by decide, by decide, fun d H7 d0 d1 hb7 hp7 => ⟨rfl, _, rfl, ?_⟩⟩
          refine ite2 (fun _ => ⟨hb6.trans hb7, hp7, .non, .inl rfl, leaf_non, rfl⟩) (fun _ => ⟨_, rfl, hb6.trans hb7, hp7, .str nm, .inr ⟨nm, hNok nm hnm, rfl⟩, leaf_str, rfl⟩)
      clear hb6 hp6
      rintro _ H6 ⟨hb6, hp6, rv, hrv, hrl, rfl⟩
      have hG6 := hG5.draw hb6 hp6
      have hk6 := hk5.trans (hG5.kd hb6)
      have hf6 : H6 fo = some (.lst ys) := hb6 _ _ nfp hf5
      have hr6 : Reps H6 ds ys G0 := hr5.kp (hG5.kd hb6) fun x hx => noz (hn5 x hx).1
      clear hG5 hk5 hf5 hr5 hb6 hp6
      have push : ∀ (H7 : Hp) (a7 : Int) (n7 : Nat) (d : D) (u : V) (G7 : List Addr), n7 ≤ n + 35 + (i + 1) * cSt → Gn H7 p L B N n7 a7 → Kp (fun a => a = p ∨ a = L) H6 H7 → Rep H7 d u G7 → (∀ x ∈ G7, H6 x = none) → StN N d → 0 ≤ a7 → ((((stParts d).flatMap (pre 7)).length : Nat) : Int) = a' - a7 →
          H7 fo = some (.lst ys) ∧ ys.length < sizeLine ∧ ItG (WSt N a0 (i + 1)) Hz p L B N fo (n + 35 + (i + 1) * cSt) (upd H7 fo (.lst (ys ++ [u]))) := fun H7 a7 n7 d u G7 hn7 hG7 hk7 hr7 hg7 hd h0 ht => by
        obtain ⟨x1, x2, x3, x4, x5, x6, x7⟩ := it_push hGz hzf hG6 hk6 hf6 hr6 hn5 hG7 hk7 hr7 hg7
        refine ⟨x1, Nat.lt_of_le_of_lt (show ys.length ≤ 1000 by omega) (by decide), a7, ds ++ [d], ys ++ [u], G0 ++ G7, x3.mono hn7, x4, x5, x6, x7, h0, ?_, fun e he => ?_, ?_⟩
        · rw [List.length_append]
          show ds.length + 1 ≤ i + 1
          omega
        · rcases List.mem_append.mp he with y | y
          · exact hWs e y
          · rw [List.mem_singleton.mp y]
            exact hd
        · rw [stTot_more]
          omega
      have hL6 := hG6.lf
      obtain ⟨e1, e2, e3, e4, hL6, hl6⟩ := hL6
      refine ⟨_, rfl, rfl, _, rfl, ?_⟩
      refine ite2 (fun _ => ?_) (fun _ => ?_)
      · -- set
        have ce := cT_le e4.toNat (by omega)
        have ee : e4 = ((e4.toNat : Nat) : Int) := by omega
        refine ⟨_, rfl, .inl ⟨rfl, _, SqL.of hf6⟩, _, rfl, _, rfl, _, rfl, _, rfl, _, rfl, L, _, _, _, rfl, rfl, SqL.of hL6, at5_4, p, B, L, N, n + 35 + i * cSt + 3, e4.toNat, a', ?_, by omega, by omega, by omega, hG6, by omega, ?_⟩
        · show [V.ref p, V.ref B, V.ref L, V.int e4] = _
          rw [← ee]
        rintro u H7 ⟨t, G7, hG7, hk7, r7, f7, ht⟩
        refine ⟨by show 3 ≤ sizeLine; decide, fun tp htp => ?_⟩
        have st := same_new htp (.tup [.str (Str.ofString "set"), .str nm, u])
        obtain ⟨x1, x2, x3⟩ := push _ a' _ (.tup [S "set", .leaf (.str nm), t]) (.ref tp) G7 (by omega) (hG7.same st) (hk7.trans (.same st)) (rep_tup upd_same (reps_leaf leaf_str (reps_leaf leaf_str (reps_one (r7.same st))))) f7 (stn_set (hNok nm hnm) hnm (ht.le (by omega))) hW0 (by rw [parts_set, Int.sub_self]; rfl)
        exact ⟨fo, _, _, rfl, rfl, x1, x2, x3, _, _, _, _, _, _, rfl⟩
      · refine ⟨fun b H' => H6 = H' ∧ (b = true → 1 ≤ a'), ?_, ?_⟩
        · refine ⟨_, rfl, _, _, rfl, rfl, _, rfl, ?_⟩
          refine ite2 (fun _ => ?_) (fun _ => ⟨rfl, fun z => nomatch z⟩)
          exact ⟨_, rfl, L, _, _, _, rfl, rfl, SqL.of hL6, at5_0, _, _, rfl, rfl, _, rfl, rfl, fun z => by
            have z' : a' > 0 := of_decide_eq_true z
            omega⟩
        rintro bb _ ⟨rfl, ha1⟩
        refine ite2 (fun c => ?_) (fun _ => ?_)
        · -- take
          refine ⟨_, rfl, .inl ⟨rfl, _, SqL.of hf6⟩, _, rfl, _, rfl, _, rfl, _, rfl, _, rfl, g, rfl, ?_⟩
          refine six_three fun dp hdp => ?_
          have c6 : cP dp ≤ cP 6 := by
            rcases hdp with rfl | rfl
            · exact Nat.le_refl _
            · exact hc4
          refine ⟨p, B, L, N, n + 35 + i * cSt + 3, dp, a', rfl, by omega, hG6, ha1 c, ha60', by omega, ?_⟩
          rintro u H7 a7 h70 h71 ⟨q, G7, hG7, hk7, r7, f7, hq, hqt⟩
          refine ⟨by show 3 ≤ sizeLine; decide, fun tp htp => ?_⟩
          have st := same_new htp (.tup [.str (Str.ofString "take"), rv, u])
          obtain ⟨x1, x2, x3⟩ := push _ a7 _ (.tup [S "take", .leaf rv, q]) (.ref tp) G7 (by omega) (hG7.same st) (hk7.trans (.same st)) (rep_tup upd_same (reps_leaf leaf_str (reps_leaf hrl (reps_one (r7.same st))))) f7 (stn_take hrv (hq.le (by omega))) h70 (by
            rw [parts_take]
            show (((pre 7 q ++ []).length : Nat) : Int) = _
            rw [List.append_nil, pre_le hq.1 (show dp + 1 ≤ 7 by omega)]
            exact hqt)
          exact ⟨fo, _, _, rfl, rfl, x1, x2, x3, _, _, _, _, _, _, rfl⟩
        · refine ⟨_, rfl, _, _, rfl, rfl, _, rfl, ?_⟩
          refine ite2 (fun _ => ?_) (fun _ => ?_)
          rotate_left
          · exact ⟨⟨a', ds, ys, G0, hG6.mono (by omega), hk6, hf6, hr6, hn5, hW0, by omega, hWs, hWt⟩, _, _, _, _, _, _, rfl⟩
          -- cases
          refine ⟨fun σ' H' => Same H6 H' ∧ ∃ lo : Addr, H6 lo = none ∧ H' lo = some (.lst []) ∧ σ' = [some (.ref p), some (.bl g), some (.ref sA), some (.ref fo), some (.ref B), some (.ref L), some (.int mo), some (.int (0 + (i : Int))), some (.int wy), some (.str nm), some rv, some (.ref lo), v12, none], ?_, ?_⟩
          · exact ⟨by show 0 ≤ sizeLine; decide, fun lo hlo => ⟨same_new hlo _, lo, hlo, upd_same, rfl⟩⟩
          rintro _ H7 ⟨hs7, lo, hlo6, hlo7, rfl⟩
          refine ⟨fun σ' H' => ItG (WCs N a' 20) H6 p L B N lo (n + 35 + i * cSt + 4 + 20 * cCs) H' ∧ ∃ v12, σ' = [some (.ref p), some (.bl g), some (.ref sA), some (.ref fo), some (.ref B), some (.ref L), some (.int mo), some (.int (0 + (i : Int))), some (.int wy), some (.str nm), some rv, some (.ref lo), v12, none], ?_, ?_⟩
          · refine ⟨_, rfl, _, rfl, p, mo, n + 35 + i * cSt + 3, rfl, hG6.pu.same hs7, by omega, by omega, by omega, fun dc H8 d0 d1 hb8 hp8 => ⟨dc, rfl, by omega, by omega, ?_⟩⟩
            have hG7 := hG6.same hs7
            have hG8 := hG7.draw hb8 hp8
            refine for_range (lo := 0) (fun j σ' H' => ItG (WCs N a' j) H6 p L B N lo (n + 35 + i * cSt + 4 + j * cCs) H' ∧ ∃ v12, σ' = [some (.ref p), some (.bl g), some (.ref sA), some (.ref fo), some (.ref B), some (.ref L), some (.int mo), some (.int (0 + (i : Int))), some (.int wy), some (.str nm), some rv, some (.ref lo), v12, none])
              ⟨⟨a', [], [], [], by rw [Nat.zero_mul]; exact hG8, (Kp.same hs7).trans (hG7.kd hb8), hb8 _ _ (hG6.neP hlo6).1 hlo7, reps_nil, (fun _ z => nomatch z), hW0, Int.le_refl _, Nat.le_refl _, (fun _ z => nomatch z), by rw [Int.sub_self]; rfl⟩, _, rfl⟩ ?_ ?_
            · rintro j σ' H9 hj ⟨⟨a9, qs, zs, G9, hG9, hk9, hl9, hr9, hn9, w0, wa, wl, wq, wt⟩, v12, rfl⟩
              have hj3 : j + 1 ≤ 20 := by omega
              have hcost2 : (j + 1) * cCs ≤ 20 * cCs := Nat.mul_le_mul_right _ hj3
              have hsm2 : (j + 1) * cCs = j * cCs + cCs := Nat.succ_mul _ _
              obtain ⟨f1, f2, f3, f4, hL9, hl95⟩ := hG9.lf
              refine ⟨_, rfl, L, _, _, _, rfl, rfl, SqL.of hL9, at5_0, _, _, rfl, rfl, _, rfl, ?_⟩
              refine ite2 (fun c9 => ?_) (fun _ => ⟨⟨a9, qs, zs, G9, hG9.mono (by omega), hk9, hl9, hr9, hn9, w0, wa, by omega, wq, wt⟩, _, rfl⟩)
              have c9' : a9 > 0 := of_decide_eq_true c9
              refine ⟨_, rfl, .inl ⟨rfl, _, SqL.of hl9⟩, _, rfl, _, rfl, _, rfl, _, rfl, g, rfl, ?_⟩
              refine six_three fun dp hdp => ?_
              have c6 : cP dp ≤ cP 6 := by
                rcases hdp with rfl | rfl
                · exact Nat.le_refl _
                · exact hc4
              refine ⟨p, B, L, N, n + 35 + i * cSt + 4 + j * cCs, dp, a9, rfl, by omega, hG9, by omega, by omega, by omega, ?_⟩
              rintro u H10 a10 h70 h71 ⟨q, G10, hG10, hk10, r10, f10, hq, hqt⟩
              obtain ⟨x1, x2, x3, x4, x5, x6, x7⟩ := it_push hG6 hlo6 hG9 hk9 hl9 hr9 hn9 hG10 hk10 r10 f10
              refine ⟨lo, _, _, rfl, rfl, x1, Nat.lt_of_le_of_lt (show zs.length ≤ 1000 by omega) (by decide), ⟨a10, qs ++ [q], zs ++ [u], G9 ++ G10, x3.mono (by omega), x4, x5, x6, x7, h70, by omega, ?_, fun e he => ?_, ?_⟩, _, rfl⟩
              · rw [List.length_append]
                show qs.length + 1 ≤ j + 1
                omega
              · rcases List.mem_append.mp he with y | y
                · exact wq e y
                · rw [List.mem_singleton.mp y]
                  exact hq.le (by omega)
              · rw [List.flatMap_append, List.length_append]
                show (((qs.flatMap (pre 7)).length + (pre 7 q ++ []).length : Nat) : Int) = _
                rw [List.append_nil, pre_le hq.1 (show dp + 1 ≤ 7 by omega)]
                omega
            · rintro σ' H9 ⟨⟨a9, qs, zs, G9, hG9, hk9, hl9, hr9, hn9, w0, wa, wl, wq, wt⟩, v12, rfl⟩
              have hj3 : dc.toNat ≤ 20 := by omega
              have hcost2 : dc.toNat * cCs ≤ 20 * cCs := Nat.mul_le_mul_right _ hj3
              exact ⟨⟨a9, qs, zs, G9, hG9.mono (by omega), hk9, hl9, hr9, hn9, w0, wa, by omega, wq, wt⟩, _, rfl⟩
          clear hs7 hlo7
          rintro _ H7 ⟨⟨a9, qs, zs, G9, hG9, hk9, hl9, hr9, hn9, w0, wa, wl, wq, wt⟩, v12, rfl⟩
          have hf7 : H7 fo = some (.lst ys) := hk9 _ _ hf6 (.inl (noz hzf))
          refine ⟨_, rfl, .inl ⟨rfl, _, SqL.of hf7⟩, _, rfl, _, rfl, by show 3 ≤ sizeLine; decide, fun tp htp => ?_⟩
          have st := same_new htp (.tup [.str (Str.ofString "cases"), rv, .ref lo])
          obtain ⟨x1, x2, x3⟩ := push _ a9 _ (.tup [S "cases", .leaf rv, .lst qs]) (.ref tp) (lo :: G9) (by omega) (hG9.same st) (hk9.trans (.same st)) (rep_tup upd_same (reps_leaf leaf_str (reps_leaf hrl (reps_one (rep_lst (st _ _ hl9) (hr9.same st) fun z => (hn9 lo z).2 rfl))))) (fun x hx => by
            rcases List.mem_cons.mp hx with z | z
            · exact z ▸ hlo6
            · exact (hn9 x z).1) (stn_cases hrv wl wq) w0 (by rw [parts_cases]; exact wt)
          exact ⟨fo, _, _, rfl, rfl, x1, x2, x3, _, _, _, _, _, _, rfl⟩
    · rintro σ' H5 ⟨⟨a', ds, ys, G0, hG5, hk5, hf5, hr5, hn5, hW0, hWl, hWs, hWt⟩, v7, v8, v9, v10, v11, v12, rfl⟩
      have hi3 : dr.toNat ≤ 20 := by omega
      have hcost : dr.toNat * cSt ≤ 20 * cSt := Nat.mul_le_mul_right _ hi3
      exact ⟨⟨a', ds, ys, G0, hG5.mono (by omega), hk5, hf5, hr5, hn5, hW0, by omega, hWs, hWt⟩, _, _, _, _, _, _, rfl⟩
  clear hG1 hfo1 hsz1
  rintro _ H2 ⟨⟨a', ds, ys, G0, hG2, hk2, hf2, hr2, hn2, hW0, hWl, hWs, hWt⟩, v7, v8, v9, v10, v11, v12, rfl⟩
  -- the words
  have two : ∀ (x y : Str) (d : Int), 0 ≤ d → d < 2 → ∃ z : Str, atI [V.str x, V.str y] d = some (.str z) ∧ (z = x ∨ z = y) := fun x y d h0 h1 => by
    have e : d = ((0 : Nat) : Int) ∨ d = ((1 : Nat) : Int) := by omega
    rcases e with e | e
    · exact ⟨x, at_ofN e rfl, .inl rfl⟩
    · exact ⟨y, at_ofN e rfl, .inr rfl⟩
  refine ⟨_, rfl, by show 2 ≤ sizeLine; decide, fun q hq => ?_⟩
  have sq := same_new hq (.lst [V.str (Str.ofString "soon"), V.str (Str.ofString "late")])
  have hG3 := hG2.same sq
  refine ⟨_, rfl, p, 2, n + 35 + 20 * cSt, rfl, hG3.pu, by omega, by decide, by decide, fun d1 H4 d10 d11 hb4 hp4 => ?_⟩
  obtain ⟨r, hra, hro⟩ := two _ _ d1 d10 d11
  refine ⟨q, _, _, _, rfl, rfl, SqL.of (hb4 q _ (hG2.neP hq).1 upd_same), hra, by show 2 ≤ sizeLine; decide, fun q2 hq2 => ?_⟩
  have hG4 := hG3.draw hb4 hp4
  have sq2 := same_new hq2 (.lst [V.str (Str.ofString "absent"), V.str (Str.ofString "nothing")])
  have hG5 := hG4.same sq2
  refine ⟨_, rfl, p, 2, n + 35 + 20 * cSt + 1, rfl, hG5.pu, by omega, by decide, by decide, fun d2 H6 d20 d21 hb6 hp6 => ?_⟩
  obtain ⟨s', hsa, hso⟩ := two _ _ d2 d20 d21
  refine ⟨q2, _, _, _, rfl, rfl, SqL.of (hb6 q2 _ (hG4.neP hq2).1 upd_same), hsa, by show 3 ≤ sizeLine; decide, fun t ht => ?_⟩
  have hG6 := hG5.draw hb6 hp6
  have st := same_new ht (.tup [.ref fo, .str r, .str s'])
  have hk6 : Kp (fun a => a = p ∨ a = L) Hz (upd H6 t (.tup [.ref fo, .str r, .str s'])) := ((((hk2.trans (.same sq)).trans (hG3.kd hb4)).trans (.same sq2)).trans (hG5.kd hb6)).trans (.same st)
  have hk26 : Kp (fun a => a = p ∨ a = L) H2 (upd H6 t (.tup [.ref fo, .str r, .str s'])) := ((((Kp.same sq).trans (hG3.kd hb4)).trans (.same sq2)).trans (hG5.kd hb6)).trans (.same st)
  refine kk t ds r s' (fo :: G0) N _ (hk6.but hbz hL0) ((hG6.same st).pu.mono (by omega)) (zF (hGz.free ((((hk2.trans (.same sq)).trans (hG3.kd hb4)).trans (.same sq2)).trans (hG5.kd hb6)) hG6 ht)) ⟨.ref fo, upd_same, rep_lst (hk26 _ _ hf2 (.inl (noz hzf))) (hr2.kp hk26 fun x hx => noz (hn2 x hx).1) (fun z => (hn2 fo z).2 rfl), hro, hso⟩ (fun x hx => ?_) ⟨hWl, fun d hd => (hWs d hd).1, fun d hd => (hWs d hd).2, hN26, by omega⟩
  rcases List.mem_cons.mp hx with z | z
  · exact z ▸ hfo0
  · exact zF (hn2 x z).1
end
end K02
set_option Elab.async false
set_option linter.all false
set_option maxRecDepth 100000
set_option maxHeartbeats 4000000
namespace K02
open PySem L2 PyProof.Rows
/-! ### a module's dict: what stands at a text -/
section
variable {X : Cx} {d : Addr} {es : Array DictEntry} {n : Nat} {o e : Expr} {td ty : TE} {apos cpos : Pos}
def tKGet (K : PySem.W.Frag) (d : Addr) (td ty : TE) : TE := fun σ H Q => td σ H fun x H1 => x = .ref d ∧ ty σ H1 fun y H2 => ∃ (z : Str) (u0 : Value) (v0 : V), y = .str z ∧ PySem.W.nsIn K d z = some (some u0) ∧ RelV v0 u0 ∧ Q v0 H2
theorem pe_kget (D : KDict X.K X.w d es n) (ho : PE X o td) (he : PE X e ty) (m : M1 X o "get" apos e cpos) : PE X (.Call (.Attribute o "get" apos) [e] [] cpos) (tKGet X.K d td ty) := by
  refine ⟨fun pins s σ H Q I h => ?_⟩
  refine wpAny_Call_method m.base m.few m.line PySem.F.plainAttrs_dict PySem.F.slot_dict_get PySem.F.type_dict_get (thn (ho.run pins s σ H _ I h) fun u s1 ⟨x, H1, I1, rx, ex, q1⟩ => ?_)
  subst ex
  obtain rfl : u = Value.ref d := rx
  refine ⟨kd_type D I1, fun a ea => ?_, ?_⟩
  · cases ea
    exact ⟨_, I1.kIn _ _ D.at_, rfl⟩
  rw [m.trees]
  refine Calls.callWith_builtin rfl (Calls.evalArgs_plain (Calls.spliced_cons (thn (he.run pins s1 σ H1 _ I1 q1) fun iv s2 ⟨y, H2, I2, ry, z, u0, v0, ey, hz, r0, q2⟩ => Calls.spliced_nil ?_)))
  subst ey
  obtain ⟨t, rfl⟩ := ry
  have hm := PySem.W.mapOf_K (prog := X.prog) I2.kIn D.at_ D.lit
  refine call_meetsIn PySem.F.slot_dict_get (kd_type D I2) PySem.F.entry_dict_get (PySem.F.args_dict_get_2 _ _) (meets_dict_get (PySem.strKind X.prog X.w) d (PySem.strKind_is X.prog X.w z t) D.low) ⟨_, hm, ?_⟩
  rw [PySem.W.find_K D.at_ hz]
  exact ⟨v0, H2, I2.tok _, r0, q2⟩
end
/-- a module's dict of texts to numbers -/
structure Tab (K : PySem.W.Frag) (w : World) (d : Addr) (xs : List (String × Int)) : Prop where
  kd : ∃ es n, KDict K w d es n
  at_ : ∀ q ∈ xs, ∃ u0, PySem.W.nsIn K d (Str.ofString q.1) = some (some u0) ∧ RelV (.int q.2) u0
/-! ### what is checked, and is right -/
def spFilled : Sp := fun vs H Q _ => ∃ (v : V) (e : D) (es : List D), vs = [v] ∧ RW H (.tup (e :: es)) v ∧ Q (.bl true) H
def spCkName : Sp := fun vs H Q _ => ∃ z : Str, vs = [.str z] ∧ okName z ∧ ∀ H', Same H H' → Q .non H'
def spCkOpt : Sp := fun vs H Q _ => ∃ v : V, vs = [v] ∧ Opt (.leaf v) ∧ ∀ H', Same H H' → Q .non H'
def spCkTerm (k : Nat) : Sp := fun vs H Q _ => ∃ (v : V) (d : D) (m : Nat), vs = [v] ∧ RW H d v ∧ TmOk m d ∧ m + 2 ≤ k ∧ ∀ H', Same H H' → Q .non H'
def spCkDef : Sp := fun vs H Q _ => ∃ (v : V) (d : D), vs = [v] ∧ RW H d v ∧ Df d ∧ ∀ H', Same H H' → Q .non H'
def spCkRules : Sp := fun vs H Q _ => ∃ r s : Str, vs = [.str r, .str s] ∧ okOrd r ∧ okLck s ∧ ∀ H', Same H H' → Q .non H'
theorem RW.leaf {H : Hp} {w v : V} (h : RW H (.leaf w) v) : v = w := h.1
theorem RWs.cons {H : Hp} {d : D} {ds : List D} {xs : List V} (h : RWs H (d :: ds) xs) : ∃ x ys, xs = x :: ys ∧ RW H d x ∧ RWs H ds ys := h
section
variable {P : Program} {w : World} {K : PySem.W.Frag} {mg : Str → Option Value} {base : Heap}
theorem scFi : FnScope ["thing"] ["thing"] (defScope sFilled) := ⟨rfl, rfl, rfl, by decide +kernel, rfl, by decide +kernel, by decide +kernel⟩
theorem ok_filled {f : Addr} {fd : FuncData} (F : Fun K "is_filled" "is_filled" sFilled f fd) (T : Txt K mg) : FnOk P w K mg base CX0 1 f fd ["thing"] spFilled := by
  refine F.ok scFi (fun vs H Q E h => ?_) (fun cdv A outer s H vs Q E hr h => ?_)
  · obtain ⟨v, e, es, rfl, _⟩ := h
    rfl
  obtain ⟨v, e, es, rfl, hR, kk⟩ := h
  refine ⟨_, pss_one (ps_ret (pe_and (pe_callB call_isi (by rfl) T.isi boot_isinstance (pa_cons (pv 0) (pa_cons (pe_bltn (v := .ty "tuple") (by rfl) T.tuple boot_tuple rfl) pa_nil)))
    (pe_one (pe_cmpR op_gt (pe_callB call_len_seq (by rfl) T.len PySem.boot_len (pa_cons (pv 0) pa_nil)) pe_int (nomark _))))), ?_⟩
  obtain ⟨sT, hty, k1, k2, k3⟩ := hR.ty (K := K)
  obtain ⟨a, xs, rfl, ha, hr0⟩ := hR
  refine ⟨_, rfl, _, _, _, _, _, rfl, .ty _, hty, kit_ty k2, _, rfl, iteT ⟨_, rfl, a, xs, rfl, .inr (SqT.of ha), _, _, rfl, rfl, ?_⟩⟩
  have e1 : decide ((0 : Int) < ((xs.length : Nat) : Int)) = true := decide_eq_true (by rw [hr0.len]; show (0 : Int) < ((es.length + 1 : Nat) : Int); omega)
  show Q (.bl (decide ((0 : Int) < ((xs.length : Nat) : Int)))) H
  rw [e1]
  exact kk
theorem scCn : FnScope ["name", "letter"] ["name"] (defScope sCkName) := ⟨rfl, rfl, rfl, by decide +kernel, rfl, by decide +kernel, by decide +kernel⟩
theorem ok_ckname {f : Addr} {fd : FuncData} {t8 t9 : Nat} (F : Fun K "check_name" "check_name" sCkName f fd) (T : Txt K mg) (zS : mg "str" = none) (mL : mg "LONGEST_NAME" = some (.int 8 t8)) (mA : mg "LETTERS" = some (.str LT t9)) : FnOk P w K mg base CX0 1 f fd ["name"] spCkName := by
  refine F.ok scCn (fun vs H Q E h => ?_) (fun cdv A outer s H vs Q E hr h => ?_)
  · obtain ⟨z, rfl, _⟩ := h
    rfl
  obtain ⟨z, rfl, ⟨hz1, hz8, hzl⟩, kk⟩ := h
  refine ⟨_, pss_cons (ps_if (PW.pt (pw_or (pt_not (pt_val (pe_callB call_isi (by rfl) T.isi boot_isinstance (pa_cons (pv 0) (pa_cons (pe_bltn (v := .ty "str") (by rfl) zS boot_str rfl) pa_nil)))))
      (pw_or1 (pt_not (pt_chain op_le op_le pe_int (pe_callB call_len (by rfl) T.len PySem.boot_len (pa_cons (pv 0) pa_nil)) (pe_glob (v := .int 8) rfl mL ⟨_, rfl⟩)))))) pss_never pss_nil)
    (pss_one (ps_if (pt_not (pt_val (pe_callB (cr_all rfl) (by rfl) T.all (by decide +kernel) (pa_cons (pe_lc (own := [("letter", 1)]) (g := gName 1) (tt := tYes) rfl scCn.nd (pi_str (pv 0)) (blkOk_by (N := ["name", "letter"]) (sc := defScope sCkName) (by decide +kernel)) (fun _ _ _ _ _ => pg_name (i := 1) scCn.nd rfl (Or.inl rfl)) (fun _ _ _ _ _ => pts_nil)
      (fun _ _ _ _ _ => pe_cmpR op_in_sign (pv 1) (pe_glob (v := .str LT) rfl mA ⟨_, rfl⟩) rfl)) pa_nil)))) pss_never pss_nil)), ?_⟩
  refine ⟨_, rfl, .str z, _, _, _, _, rfl, .ty _, .base (.str z), kit_ty (a := "str") (b := "str") (r := true) (by decide +kernel), _, rfl, iteF ?_⟩
  refine ⟨_, rfl, .str z, z.length, rfl, ⟨small100 (by omega), rfl⟩, _, _, rfl, rfl, _, rfl, ?_⟩
  refine ifT (decide_eq_true (by omega)) ⟨_, _, rfl, rfl, _, rfl, ?_⟩
  refine ifF (by rw [decide_eq_true (by omega)]; rfl) ?_
  refine ⟨_, rfl, z, rfl, fun D0 hD => ?_⟩
  refine lc_it walk_str (fun i H' => Same H H' ∧ H' D0 = some (.lst ((List.replicate i true).map V.bl))) ⟨same_new hD _, upd_same⟩ (fun _ _ _ _ => trivial) ?_ ?_
  · rintro i x H2 H3 hi ⟨hs2, hD2⟩ ⟨rfl, c, hc, rfl⟩
    have hi8 : i < 9 := Nat.lt_of_lt_of_le hi (show z.cps.size ≤ 9 from Nat.le_succ_of_le hz8)
    have hcm : c ∈ z.cps.toList := Array.mem_toList_iff.mpr (Array.mem_of_getElem? hc)
    obtain ⟨c1, c2⟩ := hzl c hcm
    refine ⟨rfl, ?_⟩
    unfold tYes
    refine iteT ?_
    refine ⟨_, rfl, c, LT, rfl, rfl, _, hD2, ?_, same_put hs2 hD, ?_⟩
    · rw [List.length_map, List.length_replicate]
      exact Nat.lt_of_lt_of_le (show i < 9 from hi8) (by decide)
    · have e : decide (c ∈ LT.cps.toList) = true := decide_eq_true (by
        have z := lt_all (c - 97) (by omega)
        rw [show 97 + (c - 97) = c by omega] at z
        exact List.mem_of_getElem? z)
      rw [upd_same, List.replicate_succ', List.map_append, e]
      rfl
  · rintro H2 ⟨hs2, hD2⟩
    refine ⟨D0, _, rfl, SqL.of hD2, ?_⟩
    have ea : (List.replicate z.cps.size true).all id = true := by simp
    rw [ea]
    exact ⟨_, rfl, iteF (kk H2 hs2)⟩
end
end K02
set_option Elab.async false
set_option linter.all false
set_option maxRecDepth 100000
set_option maxHeartbeats 4000000
namespace K02
open PySem L2 PyProof.Rows
abbrev szT : List (String × Int) := [("read", 2), ("number", 2), ("call", 3)]
abbrev szP : List (String × Int) := [("name", 2), ("any", 1), ("row", 3), ("record", 3)]
theorem TmOk.head : ∀ {m : Nat} {d : D}, TmOk m d → ∃ s es, d = .tup (S s :: es) ∧ (s, ((es.length + 1 : Nat) : Int)) ∈ szT
  | 0, _, h => h.elim
  | m + 1, d, h => by
    rcases h with ⟨i, _, rfl⟩ | ⟨z, _, rfl⟩ | ⟨z, ts, _, rfl, _⟩
    · exact ⟨"number", _, rfl, show (("number", (2 : Int)) : String × Int) ∈ szT by decide⟩
    · exact ⟨"read", _, rfl, show (("read", (2 : Int)) : String × Int) ∈ szT by decide⟩
    · exact ⟨"call", _, rfl, show (("call", (3 : Int)) : String × Int) ∈ szT by decide⟩
theorem PtOk.head : ∀ {m : Nat} {d : D}, PtOk m d → ∃ s es, d = .tup (S s :: es) ∧ (s, ((es.length + 1 : Nat) : Int)) ∈ szP
  | 0, _, h => h.elim
  | m + 1, d, h => by
    rcases h with rfl | ⟨z, _, rfl⟩ | ⟨row, qs, r, rfl, _⟩
    · exact ⟨"any", _, rfl, show (("any", (1 : Int)) : String × Int) ∈ szP by decide⟩
    · exact ⟨"name", _, rfl, show (("name", (2 : Int)) : String × Int) ∈ szP by decide⟩
    · cases row
      · exact ⟨"record", _, rfl, show (("record", (3 : Int)) : String × Int) ∈ szP by decide⟩
      · exact ⟨"row", _, rfl, show (("row", (3 : Int)) : String × Int) ∈ szP by decide⟩
theorem RW.head {H : Hp} {s : String} {es : List D} {v : V} (h : RW H (.tup (S s :: es)) v) : ∃ a ys, v = .ref a ∧ H a = some (.tup (.str (Str.ofString s) :: ys)) ∧ RWs H es ys := by
  obtain ⟨a, xs, rfl, ha, x, ys, rfl, hx, hy⟩ := h
  exact ⟨a, ys, rfl, hx.1 ▸ ha, hy⟩
section
variable {P : Program} {w : World} {K : PySem.W.Frag} {mg : Str → Option Value} {base : Heap}
theorem scCo : FnScope ["name"] ["name"] (defScope sCkOpt) := ⟨rfl, rfl, rfl, by decide +kernel, rfl, by decide +kernel, by decide +kernel⟩
theorem ok_ckopt {f fN : Addr} {fd fdN : FuncData} (F : Fun K "check_optional_name" "check_optional_name" sCkOpt f fd)
    (FN : Fun K "check_name" "check_name" sCkName fN fdN) (GN : FnOk P w K mg base CX0 1 fN fdN ["name"] spCkName) (bN : Binds K fdN ["name"] []) (mN : mg "check_name" = some (.ref fN)) : FnOk P w K mg base CX0 2 f fd ["name"] spCkOpt := by
  refine F.ok scCo (fun vs H Q E h => ?_) (fun cdv A outer s H vs Q E hr h => ?_)
  · obtain ⟨v, rfl, _⟩ := h
    rfl
  obtain ⟨v, rfl, ho, kk⟩ := h
  refine ⟨_, pss_one (ps_if (pt_cmpR op_notN (pv 0) pe_non (nomark _)) (pss_one (ps_expr (pe_call GN hr rfl mN FN.kp bN .nil pass0 (pa_cons (pv 0) pa_nil)))) pss_nil), ?_⟩
  rcases ho with e | ⟨z, hz, e⟩
  · obtain rfl : v = .non := D.leaf.inj e
    exact ⟨_, rfl, rfl, _, rfl, ifF (by rw [decide_eq_true rfl]; rfl) (kk H (Same.refl H))⟩
  · obtain rfl : v = .str z := D.leaf.inj e
    exact ⟨_, rfl, rfl, _, rfl, ifT (by rw [decide_eq_false (fun z => nomatch z)]; rfl) ⟨_, rfl, z, rfl, hz, fun H' hs => kk H' hs⟩⟩
theorem scCd : FnScope ["default"] ["default"] (defScope sCkDef) := ⟨rfl, rfl, rfl, by decide +kernel, rfl, by decide +kernel, by decide +kernel⟩
theorem scCt : FnScope ["term", "inner"] ["term"] (defScope sCkTerm) := ⟨rfl, rfl, rfl, by decide +kernel, rfl, by decide +kernel, by decide +kernel⟩
theorem ckterm_none {f : Addr} {fd : FuncData} {ps : List Str} : FnOk P w K mg base CX0 0 f fd ps (spCkTerm 0) := none_of fun vs H Q E h => by
  obtain ⟨v, d, m, _, _, _, h1, _⟩ := h
  omega
theorem ok_ckterm {f fN fF dT : Addr} {fd fdN fdF : FuncData} {k : Nat} (F : Fun K "check_term" "check_term" sCkTerm f fd) (T : Txt K mg)
    (FF : Fun K "is_filled" "is_filled" sFilled fF fdF) (GF : FnOk P w K mg base CX0 1 fF fdF ["thing"] spFilled) (bF : Binds K fdF ["thing"] []) (mF : mg "is_filled" = some (.ref fF))
    (FN : Fun K "check_name" "check_name" sCkName fN fdN) (GN : FnOk P w K mg base CX0 1 fN fdN ["name"] spCkName) (bN : Binds K fdN ["name"] []) (mN : mg "check_name" = some (.ref fN))
    (TT : Tab K w dT szT) (mT : mg "TERM_SIZES" = some (.ref dT))
    (G : FnOk P w K mg base CX0 k f fd ["term"] (spCkTerm k)) (b : Binds K fd ["term"] []) (m : mg "check_term" = some (.ref f)) : FnOk P w K mg base CX0 (k + 1) f fd ["term"] (spCkTerm (k + 1)) := by
  refine F.ok scCt (fun vs H Q E h => ?_) (fun cdv A outer s H vs Q E hr h => ?_)
  · obtain ⟨v, d, m, rfl, _⟩ := h
    rfl
  obtain ⟨v, d, mm, rfl, hR, hT, hk, kk⟩ := h
  obtain ⟨es, n, KD⟩ := TT.kd
  have hm : 1 ≤ mm := by cases mm with
    | zero => exact hT.elim
    | succ j => omega
  have hr1 : Room 1 (A.deeper (envOfC "check_term" (defScope sCkTerm) s.heap.objs.size f cdv)) := hr.mono (by omega)
  refine ⟨_, pss_cons (ps_if (PW.pt (pw_or (pt_not (pt_val (pe_call GF hr1 rfl mF FF.kp bF .nil pass0 (pa_cons (pv 0) pa_nil)))) (pw_or1 (pt_cmpR op_ne (pe_kget KD (pe_glob (v := .ref dT) rfl mT rfl) (pe_ix ix_tup (pv 0) pe_int (fun _ _ => rfl)) ⟨rfl, rfl, rfl, rfl⟩) (pe_callB call_len_seq (by rfl) T.len PySem.boot_len (pa_cons (pv 0) pa_nil)) (nomark _))))) pss_never pss_nil)
    (pss_cons (ps_if (pt_cmpR op_eq (pe_ix ix_tup (pv 0) pe_int (fun _ _ => rfl)) pe_str (nomark _)) (pss_one ps_retN) pss_nil)
    (pss_cons (ps_expr (pe_call GN hr1 rfl mN FN.kp bN .nil pass0 (pa_cons (pe_ix ix_tup (pv 0) pe_int (fun _ _ => rfl)) pa_nil)))
    (pss_one (ps_if (pt_cmpR op_eq (pe_ix ix_tup (pv 0) pe_int (fun _ _ => rfl)) pe_str (nomark _))
      (pss_one (ps_for PassesOwn.never rfl (pi_list (pe_ix ix_tup (pv 0) pe_int (fun _ _ => rfl))) (pg_name (i := 1) scCt.nd rfl (Or.inl rfl)) (pss_one (ps_expr (pe_call G hr rfl m F.kp b .nil pass0 (pa_cons (pv 1) pa_nil)))))) pss_nil)))), ?_⟩
  obtain ⟨s0, ds, rfl, hsz⟩ := hT.head
  obtain ⟨a, ys, rfl, ha, hys⟩ := hR.head
  obtain ⟨u0, hu, hrel⟩ := TT.at_ _ hsz
  have hl := hys.len
  have sq := SqT.of (K := K) ha
  have a0 : atI (V.str (Str.ofString s0) :: ys) 0 = some (.str (Str.ofString s0)) := atI_nat (j := 0) rfl
  refine ⟨_, rfl, _, S s0, ds, rfl, hR, _, rfl, iteF ⟨rfl, _, rfl, a, _, 0, _, rfl, rfl, sq, a0, _, u0, _, rfl, hu, hrel, _, rfl, a, _, rfl, .inr sq, rfl, _, rfl, ?_⟩⟩
  refine ifF ?_ ?_
  · rw [List.length_cons, hl, decide_eq_true rfl]
    rfl
  refine ⟨_, rfl, a, _, 0, _, rfl, rfl, sq, a0, rfl, _, rfl, ?_⟩
  cases mm with
  | zero => exact hT.elim
  | succ mm =>
  rcases hT with ⟨i, _, e⟩ | ⟨z, hz, e⟩ | ⟨z, ts, hz, e, hl3, hts⟩
  · obtain ⟨e1, e2⟩ := List.cons.inj (D.tup.inj e)
    rw [show Str.ofString s0 = Str.ofString "number" from V.str.inj (D.leaf.inj e1)]
    exact ifT (decide_eq_true rfl) (kk H (Same.refl H))
  · obtain ⟨e1, e2⟩ := List.cons.inj (D.tup.inj e)
    subst e2
    have es0 : Str.ofString s0 = Str.ofString "read" := V.str.inj (D.leaf.inj e1)
    obtain ⟨x, ys', rfl, hx, hy'⟩ := hys
    obtain rfl : x = .str z := hx.1
    refine ifF (decide_eq_false fun q => absurd (es0.symm.trans (V.str.inj q)) (by decide)) ⟨_, rfl, a, _, 1, _, rfl, rfl, sq, atI_nat (j := 1) rfl, z, rfl, hz, fun H1 hs1 => ?_⟩
    have sq1 := SqT.of (K := K) (hs1 _ _ ha)
    refine ⟨_, rfl, a, _, 0, _, rfl, rfl, sq1, atI_nat (j := 0) rfl, rfl, _, rfl, ?_⟩
    exact ifF (decide_eq_false fun q => absurd (es0.symm.trans (V.str.inj q)) (by decide)) (kk H1 hs1)
  · obtain ⟨e1, e2⟩ := List.cons.inj (D.tup.inj e)
    subst e2
    have es0 : Str.ofString s0 = Str.ofString "call" := V.str.inj (D.leaf.inj e1)
    obtain ⟨x, ys', rfl, hx, y, ys'', rfl, hy, hn⟩ := hys
    obtain rfl : x = .str z := hx.1
    obtain ⟨lA, xs, rfl, hlA, hxs⟩ := hy
    refine ifF (decide_eq_false fun q => absurd (es0.symm.trans (V.str.inj q)) (by decide)) ⟨_, rfl, a, _, 1, _, rfl, rfl, sq, atI_nat (j := 1) rfl, z, rfl, hz, fun H1 hs1 => ?_⟩
    have sq1 := SqT.of (K := K) (hs1 _ _ ha)
    refine ⟨_, rfl, a, _, 0, _, rfl, rfl, sq1, atI_nat (j := 0) rfl, rfl, _, rfl, ?_⟩
    refine ifT (decide_eq_true (by rw [es0])) ⟨_, rfl, a, _, 2, _, rfl, rfl, sq1, atI_nat (j := 2) rfl, lA, rfl, ⟨_, SqL.of (hs1 _ _ hlA)⟩, ?_⟩
    refine for_list (K := K) (a := lA) (xs := xs) (fun i σ' H' => Same H H' ∧ ∃ v1, σ' = [some (.ref a), v1]) ⟨hs1, none, rfl⟩ (fun i σ' H' _ ⟨h, _⟩ => SqL.of (h _ _ hlA)) ?_ ?_
    · rintro i x σ' H2 hi ⟨hs2, v1, rfl⟩
      obtain ⟨t, ht, hrt⟩ := RWs.item (hxs.same hs2) hi
      exact ⟨_, rfl, x, t, mm, rfl, hrt, hts t (List.mem_of_getElem? ht), by omega, fun H3 hs3 => ⟨hs2.trans hs3, _, rfl⟩⟩
    · rintro σ' H2 ⟨hs2, _⟩
      exact kk H2 hs2
theorem ok_ckdef {f fT : Addr} {fd fdT : FuncData} (F : Fun K "check_default" "check_default" sCkDef f fd)
    (FT : Fun K "check_term" "check_term" sCkTerm fT fdT) (GT : FnOk P w K mg base CX0 7 fT fdT ["term"] (spCkTerm 7)) (bT : Binds K fdT ["term"] []) (mT : mg "check_term" = some (.ref fT)) : FnOk P w K mg base CX0 8 f fd ["default"] spCkDef := by
  refine F.ok scCd (fun vs H Q E h => ?_) (fun cdv A outer s H vs Q E hr h => ?_)
  · obtain ⟨v, d, rfl, _⟩ := h
    rfl
  obtain ⟨v, d, rfl, hR, hd, kk⟩ := h
  refine ⟨_, pss_one (ps_if (pt_cmpR op_notN (pv 0) pe_non (nomark _)) (pss_one (ps_expr (pe_call GT hr rfl mT FT.kp bT .nil pass0 (pa_cons (pv 0) pa_nil)))) pss_nil), ?_⟩
  rcases hd with rfl | hT
  · obtain rfl : v = .non := hR.1
    exact ⟨_, rfl, rfl, _, rfl, ifF (by rw [decide_eq_true rfl]; rfl) (kk H (Same.refl H))⟩
  · obtain ⟨s0, ds, rfl, _⟩ := hT.head
    obtain ⟨a, ys, rfl, ha, hys⟩ := hR.head
    exact ⟨_, rfl, rfl, _, rfl, ifT (by rw [decide_eq_false (fun z => nomatch z)]; rfl) ⟨_, rfl, _, _, 5, rfl, hR, hT, by decide, fun H' hs => kk H' hs⟩⟩
end
end K02
set_option Elab.async false
set_option linter.all false
set_option maxRecDepth 100000
set_option maxHeartbeats 4000000
namespace K02
open PySem L2 PyProof.Rows
def spCkPart (k : Nat) : Sp := fun vs H Q _ => ∃ (v : V) (d : D) (m : Nat), vs = [v] ∧ RW H d v ∧ PtOk m d ∧ 2 * m + 8 ≤ k ∧ ∀ H', Same H H' → Q .non H'
def spCkIn (row : Bool) (k : Nat) : Sp := fun vs H Q _ => ∃ (v : V) (qs : List (Str × D × D)) (r : V) (m : Nat), vs = [v] ∧ RW H (.tup [S (if row = true then "row" else "record"), .lst (qs.map (ent row)), .leaf r]) v ∧ Opt (.leaf r) ∧ qs.length ≤ 25 ∧ (∀ q ∈ qs, PtOk m q.2.1 ∧ Df q.2.2) ∧
  (row = false → (qs.map (·.1)).Nodup ∧ ∀ q ∈ qs, okName q.1) ∧ 2 * m + 9 ≤ k ∧ ∀ H', Same H H' → Q .non H'
section
variable {P : Program} {w : World} {K : PySem.W.Frag} {mg : Str → Option Value} {base : Heap}
theorem scCu : FnScope ["order", "lacks"] ["order", "lacks"] (defScope sCkRules) := ⟨rfl, rfl, rfl, by decide +kernel, rfl, by decide +kernel, by decide +kernel⟩
theorem ok_ckrules {f : Addr} {fd : FuncData} (F : Fun K "check_rules" "check_rules" sCkRules f fd) : FnOk P w K mg base CX0 1 f fd ["order", "lacks"] spCkRules := by
  refine F.ok scCu (fun vs H Q E h => ?_) (fun cdv A outer s H vs Q E hr h => ?_)
  · obtain ⟨r, s, rfl, _⟩ := h
    rfl
  obtain ⟨r, s, rfl, hr1, hs1, kk⟩ := h
  refine ⟨_, pss_cons (ps_if (pt_cmpR op_notIn_seq (pv 0) (pe_tup (pa_cons pe_str (pa_cons pe_str pa_nil))) (by rfl)) pss_never pss_nil)
    (pss_one (ps_if (pt_cmpR op_notIn_seq (pv 1) (pe_tup (pa_cons pe_str (pa_cons pe_str pa_nil))) (by rfl)) pss_never pss_nil)), ?_⟩
  have go : ∀ {x y z : Str}, z = x ∨ z = y → (!inV (.str z) [.str x, .str y]) = false := fun {x y z} h => by
    rcases h with rfl | rfl
    · simp [inV, eqV]
    · simp [inV, eqV]
  refine ⟨_, rfl, by show 2 ≤ sizeLine; decide, fun t ht => ⟨t, _, rfl, .inr (SqT.of upd_same), rfl, rfl, _, rfl, ifF (go hr1) ?_⟩⟩
  have s1 := same_new ht (.tup [V.str (Str.ofString "soon"), V.str (Str.ofString "late")])
  refine ⟨_, rfl, by show 2 ≤ sizeLine; decide, fun t2 ht2 => ⟨t2, _, rfl, .inr (SqT.of upd_same), rfl, rfl, _, rfl, ifF (go hs1) ?_⟩⟩
  exact kk _ (s1.trans (same_new ht2 _))
theorem ckpart_none {f : Addr} {fd : FuncData} {ps : List Str} : FnOk P w K mg base CX0 0 f fd ps (spCkPart 0) := none_of fun vs H Q E h => by
  obtain ⟨v, d, m, _, _, _, h1, _⟩ := h
  omega
theorem ckin_none {row : Bool} {f : Addr} {fd : FuncData} {ps : List Str} : FnOk P w K mg base CX0 0 f fd ps (spCkIn row 0) := none_of fun vs H Q E h => by
  obtain ⟨v, qs, r, m, _, _, _, _, _, _, h1, _⟩ := h
  omega
theorem scCr : FnScope ["part", "inner", "default"] ["part"] (defScope sCkRow) := ⟨rfl, rfl, rfl, by decide +kernel, rfl, by decide +kernel, by decide +kernel⟩
theorem ok_ckrow {f fO fP fD : Addr} {fd fdO fdP fdD : FuncData} {k : Nat} (F : Fun K "check_row" "check_row" sCkRow f fd)
    (FO : Fun K "check_optional_name" "check_optional_name" sCkOpt fO fdO) (GO : FnOk P w K mg base CX0 2 fO fdO ["name"] spCkOpt) (bO : Binds K fdO ["name"] []) (mO : mg "check_optional_name" = some (.ref fO))
    (FD : Fun K "check_default" "check_default" sCkDef fD fdD) (GD : FnOk P w K mg base CX0 8 fD fdD ["default"] spCkDef) (bD : Binds K fdD ["default"] []) (mD : mg "check_default" = some (.ref fD))
    (FP : Fun K "check_part" "check_part" sCkPart fP fdP) (GP : FnOk P w K mg base CX0 k fP fdP ["part"] (spCkPart k)) (bP : Binds K fdP ["part"] []) (mP : mg "check_part" = some (.ref fP)) : FnOk P w K mg base CX0 (k + 1) f fd ["part"] (spCkIn true (k + 1)) := by
  refine F.ok scCr (fun vs H Q E h => ?_) (fun cdv A outer s H vs Q E hr h => ?_)
  · obtain ⟨v, qs, r, m, rfl, _⟩ := h
    rfl
  obtain ⟨v, qs, r, m, rfl, hR, ho, hl, hq, _, hk, kk⟩ := h
  have hr2 : Room 2 (A.deeper (envOfC "check_row" (defScope sCkRow) s.heap.objs.size f cdv)) := hr.mono (by omega)
  have hr8 : Room 8 (A.deeper (envOfC "check_row" (defScope sCkRow) s.heap.objs.size f cdv)) := hr.mono (by omega)
  refine ⟨_, pss_cons (ps_expr (pe_call GO hr2 rfl mO FO.kp bO .nil pass0 (pa_cons (pe_ix ix_tup (pv 0) pe_int (fun _ _ => rfl)) pa_nil)))
    (pss_one (ps_for PassesOwn.never rfl (pi_list (pe_ix ix_tup (pv 0) pe_int (fun _ _ => rfl))) (pg_tup rfl (pgs_cons (pg_name (i := 1) scCr.nd rfl (Or.inl rfl)) (pgs_cons (pg_name (i := 2) scCr.nd rfl (Or.inl rfl)) pgs_nil)))
      (pss_cons (ps_expr (pe_call GP hr rfl mP FP.kp bP .nil pass0 (pa_cons (pv 1) pa_nil))) (pss_one (ps_expr (pe_call GD hr8 rfl mD FD.kp bD .nil pass0 (pa_cons (pv 2) pa_nil))))))), ?_⟩
  obtain ⟨a, ys, rfl, ha, hys⟩ := hR.head
  obtain ⟨x, ys', rfl, hx, hy'⟩ := hys
  obtain ⟨y, ys'', rfl, hy, hn⟩ := hy'
  obtain ⟨lA, xs, rfl, hlA, hxs⟩ := hx
  obtain rfl : y = r := hy.1
  refine ⟨_, rfl, a, _, 2, _, rfl, rfl, SqT.of ha, atI_nat (j := 2) rfl, y, rfl, ho, fun H1 hs1 => ?_⟩
  refine ⟨_, rfl, a, _, 1, _, rfl, rfl, SqT.of (hs1 _ _ ha), atI_nat (j := 1) rfl, lA, rfl, ⟨_, SqL.of (hs1 _ _ hlA)⟩, ?_⟩
  refine for_list (K := K) (a := lA) (xs := xs) (fun i σ' H' => Same H H' ∧ ∃ v1 v2, σ' = [some (.ref a), v1, v2]) ⟨hs1, none, none, rfl⟩ (fun i σ' H' _ ⟨h, _⟩ => SqL.of (h _ _ hlA)) ?_ ?_
  · rintro i x σ' H2 hi ⟨hs2, v1, v2, rfl⟩
    obtain ⟨t, ht, hrt⟩ := RWs.item (hxs.same hs2) hi
    obtain ⟨q, hqm, rfl⟩ := List.mem_map.mp (List.mem_of_getElem? ht)
    obtain ⟨e, zs, rfl, he, hzs⟩ := hrt
    obtain ⟨z1, zs1, rfl, h1, z2, zs2, rfl, h2, hn2⟩ := hzs
    obtain rfl : zs2 = [] := hn2
    refine ⟨e, _, rfl, SqT.of he, rfl, _, _, rfl, _, _, rfl, rfl, ?_⟩
    refine ⟨_, rfl, z1, q.2.1, m, rfl, h1, (hq q hqm).1, by omega, fun H3 hs3 => ⟨_, rfl, z2, q.2.2, rfl, h2.same hs3, (hq q hqm).2, fun H4 hs4 => ⟨(hs2.trans hs3).trans hs4, _, _, rfl⟩⟩⟩
  · rintro σ' H2 ⟨hs2, _⟩
    exact kk H2 hs2
theorem scCe : FnScope ["part", "ahead", "field", "inner", "default"] ["part"] (defScope sCkRec) := ⟨rfl, rfl, rfl, by decide +kernel, rfl, by decide +kernel, by decide +kernel⟩
theorem ok_ckrec {f fO fP fD fN : Addr} {fd fdO fdP fdD fdN : FuncData} {k : Nat} (F : Fun K "check_record" "check_record" sCkRec f fd)
    (FO : Fun K "check_optional_name" "check_optional_name" sCkOpt fO fdO) (GO : FnOk P w K mg base CX0 2 fO fdO ["name"] spCkOpt) (bO : Binds K fdO ["name"] []) (mO : mg "check_optional_name" = some (.ref fO))
    (FN : Fun K "check_name" "check_name" sCkName fN fdN) (GN : FnOk P w K mg base CX0 1 fN fdN ["name"] spCkName) (bN : Binds K fdN ["name"] []) (mN : mg "check_name" = some (.ref fN))
    (FD : Fun K "check_default" "check_default" sCkDef fD fdD) (GD : FnOk P w K mg base CX0 8 fD fdD ["default"] spCkDef) (bD : Binds K fdD ["default"] []) (mD : mg "check_default" = some (.ref fD))
    (FP : Fun K "check_part" "check_part" sCkPart fP fdP) (GP : FnOk P w K mg base CX0 k fP fdP ["part"] (spCkPart k)) (bP : Binds K fdP ["part"] []) (mP : mg "check_part" = some (.ref fP)) : FnOk P w K mg base CX0 (k + 1) f fd ["part"] (spCkIn false (k + 1)) := by
  refine F.ok scCe (fun vs H Q E h => ?_) (fun cdv A outer s H vs Q E hr h => ?_)
  · obtain ⟨v, qs, r, m, rfl, _⟩ := h
    rfl
  obtain ⟨v, qs, r, m, rfl, hR, ho, hl, hq, hf, hk, kk⟩ := h
  obtain ⟨hnd, hok⟩ := hf rfl
  have hr1 : Room 1 (A.deeper (envOfC "check_record" (defScope sCkRec) s.heap.objs.size f cdv)) := hr.mono (by omega)
  have hr2 : Room 2 (A.deeper (envOfC "check_record" (defScope sCkRec) s.heap.objs.size f cdv)) := hr.mono (by omega)
  have hr8 : Room 8 (A.deeper (envOfC "check_record" (defScope sCkRec) s.heap.objs.size f cdv)) := hr.mono (by omega)
  refine ⟨_, pss_cons (ps_expr (pe_call GO hr2 rfl mO FO.kp bO .nil pass0 (pa_cons (pe_ix ix_tup (pv 0) pe_int (fun _ _ => rfl)) pa_nil)))
    (pss_cons (ps_set (i := 1) scCe.nd rfl (Or.inl rfl) pe_dnewK)
    (pss_one (ps_for PassesOwn.never rfl (pi_list (pe_ix ix_tup (pv 0) pe_int (fun _ _ => rfl))) (pg_tup rfl (pgs_cons (pg_name (i := 2) scCe.nd rfl (Or.inl rfl)) (pgs_cons (pg_name (i := 3) scCe.nd rfl (Or.inl rfl)) (pgs_cons (pg_name (i := 4) scCe.nd rfl (Or.inl rfl)) pgs_nil))))
      (pss_cons (ps_expr (pe_call GN hr1 rfl mN FN.kp bN .nil pass0 (pa_cons (pv 2) pa_nil)))
      (pss_cons (ps_if (pt_cmp (pc_din (hu_of hr) (pv 2) (pv 1)) rfl) pss_never pss_nil)
      (pss_cons (ps_dput (hu_of hr) (pv 1) (pv 2) pe_bl rfl)
      (pss_cons (ps_expr (pe_call GP hr rfl mP FP.kp bP .nil pass0 (pa_cons (pv 3) pa_nil))) (pss_one (ps_expr (pe_call GD hr8 rfl mD FD.kp bD .nil pass0 (pa_cons (pv 4) pa_nil))))))))))), ?_⟩
  obtain ⟨a, ys, rfl, ha, hys⟩ := hR.head
  obtain ⟨x, ys', rfl, hx, hy'⟩ := hys
  obtain ⟨y, ys'', rfl, hy, hn⟩ := hy'
  obtain ⟨lA, xs, rfl, hlA, hxs⟩ := hx
  obtain rfl : y = r := hy.1
  refine ⟨_, rfl, a, _, 2, _, rfl, rfl, SqT.of ha, atI_nat (j := 2) rfl, y, rfl, ho, fun H1 hs1 => ?_⟩
  intro dA hdA
  have s2 := same_new hdA (.dK [])
  refine ⟨_, rfl, a, _, 1, _, rfl, rfl, SqT.of (s2 _ _ (hs1 _ _ ha)), atI_nat (j := 1) rfl, lA, rfl, ⟨_, SqL.of (s2 _ _ (hs1 _ _ hlA))⟩, ?_⟩
  refine for_list (K := K) (a := lA) (xs := xs) (fun i σ' H' => Same H H' ∧ (∃ kvs : List (Key × V), H' dA = some (.dK kvs) ∧ kvs.length ≤ i ∧ ∀ z, z ∉ (qs.take i).map (·.1) → valV kvs (.inr z) = none) ∧ ∃ v2 v3 v4, σ' = [some (.ref a), some (.ref dA), v2, v3, v4]) ⟨hs1.trans s2, ⟨[], upd_same, Nat.le_refl _, fun _ _ => rfl⟩, none, none, none, rfl⟩ (fun i σ' H' _ ⟨h, _⟩ => SqL.of (h _ _ hlA)) ?_ ?_
  · rintro i x σ' H2 hi ⟨hs2, ⟨kvs, hd2, hkl, hkn⟩, v2, v3, v4, rfl⟩
    obtain ⟨t, ht, hrt⟩ := RWs.item hxs hi
    rw [List.getElem?_map] at ht
    obtain ⟨q, hqi, rfl⟩ : ∃ q, qs[i]? = some q ∧ ent false q = t := by
      cases e : qs[i]? with
      | none =>
        rw [e] at ht
        cases ht
      | some q =>
        rw [e] at ht
        exact ⟨q, rfl, Option.some.inj ht⟩
    have hqm := List.mem_of_getElem? hqi
    obtain ⟨hil, hqe⟩ := List.getElem?_eq_some_iff.mp hqi
    obtain ⟨e, zs, rfl, he, hzs⟩ := hrt
    obtain ⟨z0, zs0, rfl, h0, z1, zs1, rfl, h1, z2, zs2, rfl, h2, hn2⟩ := hzs
    obtain rfl : zs2 = [] := hn2
    obtain rfl : z0 = .str q.1 := h0.1
    have hnot : q.1 ∉ (qs.take i).map (·.1) := fun z => by
      have e1 : qs.map (·.1) = (qs.take i).map (·.1) ++ q.1 :: (qs.drop (i + 1)).map (·.1) := by
        have w1 : qs = qs.take i ++ q :: qs.drop (i + 1) := by
          rw [← hqe, ← List.drop_eq_getElem_cons hil, List.take_append_drop]
        calc qs.map (·.1) = (qs.take i ++ q :: qs.drop (i + 1)).map (·.1) := by rw [← w1]
          _ = _ := by rw [List.map_append, List.map_cons]
      rw [e1] at hnd
      exact (List.nodup_append.mp hnd).2.2 _ z _ List.mem_cons_self rfl
    have hvn := hkn _ hnot
    refine ⟨e, _, rfl, SqT.of (hs2 _ _ he), rfl, _, _, rfl, _, _, rfl, _, _, rfl, rfl, ?_⟩
    refine ⟨_, rfl, q.1, rfl, hok q hqm, fun H3 hs3 => ?_⟩
    have hd3 := hs3 _ _ hd2
    refine ⟨_, rfl, _, rfl, dA, _, rfl, DGet.k (k := Sum.inr q.1) hd3, _, rfl, ?_⟩
    refine ifF (by rw [hvn]; rfl) ⟨_, rfl, _, rfl, dA, _, rfl, DPut.k (k := Sum.inr q.1) hd3 (Nat.lt_of_le_of_lt (show kvs.length ≤ 25 by omega) (by decide)), ?_⟩
    have hs4 : Same H (upd H3 dA (.dK (putK kvs (Sum.inr q.1) (.bl true)))) := same_put (hs2.trans hs3) (hs1.free hdA)
    refine ⟨_, rfl, z1, q.2.1, m, rfl, h1.same hs4, (hq q hqm).1, by omega, fun H5 hs5 => ⟨_, rfl, z2, q.2.2, rfl, h2.same (hs4.trans hs5), (hq q hqm).2, fun H6 hs6 => ?_⟩⟩
    have hd4 : (upd H3 dA (.dK (putK kvs (Sum.inr q.1) (.bl true)))) dA = some (.dK (putK kvs (Sum.inr q.1) (.bl true))) := upd_same
    refine ⟨(hs4.trans hs5).trans hs6, ⟨_, hs6 _ _ (hs5 _ _ hd4), Nat.le_trans (length_putK _ _ _) (by omega), fun z hz => ?_⟩, _, _, _, rfl⟩
    have et : qs.take (i + 1) = qs.take i ++ [q] := by
      rw [List.take_add_one, hqi]
      rfl
    rw [et, List.map_append] at hz
    have hz1 : z ∉ (qs.take i).map (·.1) := fun y => hz (List.mem_append_left _ y)
    have hz2 : ¬ ((Sum.inr z : Key) = Sum.inr q.1) := fun y => hz (List.mem_append_right _ (by rw [Sum.inr.inj y]; exact List.mem_cons_self))
    rw [valV_put, if_neg hz2]
    exact hkn z hz1
  · rintro σ' H2 ⟨hs2, _⟩
    exact kk H2 hs2
theorem scCp : FnScope ["part"] ["part"] (defScope sCkPart) := ⟨rfl, rfl, rfl, by decide +kernel, rfl, by decide +kernel, by decide +kernel⟩
theorem ok_ckpart {f fF fN fR fE dP : Addr} {fd fdF fdN fdR fdE : FuncData} {k : Nat} (F : Fun K "check_part" "check_part" sCkPart f fd) (T : Txt K mg)
    (FF : Fun K "is_filled" "is_filled" sFilled fF fdF) (GF : FnOk P w K mg base CX0 1 fF fdF ["thing"] spFilled) (bF : Binds K fdF ["thing"] []) (mF : mg "is_filled" = some (.ref fF))
    (FN : Fun K "check_name" "check_name" sCkName fN fdN) (GN : FnOk P w K mg base CX0 1 fN fdN ["name"] spCkName) (bN : Binds K fdN ["name"] []) (mN : mg "check_name" = some (.ref fN))
    (TT : Tab K w dP szP) (mT : mg "PART_SIZES" = some (.ref dP))
    (FR : Fun K "check_row" "check_row" sCkRow fR fdR) (GR : FnOk P w K mg base CX0 k fR fdR ["part"] (spCkIn true k)) (bR : Binds K fdR ["part"] []) (mR : mg "check_row" = some (.ref fR))
    (FE : Fun K "check_record" "check_record" sCkRec fE fdE) (GE : FnOk P w K mg base CX0 k fE fdE ["part"] (spCkIn false k)) (bE : Binds K fdE ["part"] []) (mE : mg "check_record" = some (.ref fE)) : FnOk P w K mg base CX0 (k + 1) f fd ["part"] (spCkPart (k + 1)) := by
  refine F.ok scCp (fun vs H Q E h => ?_) (fun cdv A outer s H vs Q E hr h => ?_)
  · obtain ⟨v, d, m, rfl, _⟩ := h
    rfl
  obtain ⟨v, d, mm, rfl, hR, hT, hk, kk⟩ := h
  obtain ⟨es, n, KD⟩ := TT.kd
  have hm : 1 ≤ mm := by cases mm with
    | zero => exact hT.elim
    | succ j => omega
  have hr1 : Room 1 (A.deeper (envOfC "check_part" (defScope sCkPart) s.heap.objs.size f cdv)) := hr.mono (by omega)
  refine ⟨_, pss_cons (ps_if (PW.pt (pw_or (pt_not (pt_val (pe_call GF hr1 rfl mF FF.kp bF .nil pass0 (pa_cons (pv 0) pa_nil)))) (pw_or1 (pt_cmpR op_ne (pe_kget KD (pe_glob (v := .ref dP) rfl mT rfl) (pe_ix ix_tup (pv 0) pe_int (fun _ _ => rfl)) ⟨rfl, rfl, rfl, rfl⟩) (pe_callB call_len_seq (by rfl) T.len PySem.boot_len (pa_cons (pv 0) pa_nil)) (nomark _))))) pss_never pss_nil)
    (pss_one (ps_if (pt_cmpR op_eq (pe_ix ix_tup (pv 0) pe_int (fun _ _ => rfl)) pe_str (nomark _)) (pss_one (ps_expr (pe_call GN hr1 rfl mN FN.kp bN .nil pass0 (pa_cons (pe_ix ix_tup (pv 0) pe_int (fun _ _ => rfl)) pa_nil))))
      (pss_one (ps_if (pt_cmpR op_eq (pe_ix ix_tup (pv 0) pe_int (fun _ _ => rfl)) pe_str (nomark _)) (pss_one (ps_expr (pe_call GR hr rfl mR FR.kp bR .nil pass0 (pa_cons (pv 0) pa_nil))))
        (pss_one (ps_if (pt_cmpR op_eq (pe_ix ix_tup (pv 0) pe_int (fun _ _ => rfl)) pe_str (nomark _)) (pss_one (ps_expr (pe_call GE hr rfl mE FE.kp bE .nil pass0 (pa_cons (pv 0) pa_nil)))) pss_nil)))))), ?_⟩
  obtain ⟨s0, ds, rfl, hsz⟩ := hT.head
  obtain ⟨a, ys, rfl, ha, hys⟩ := hR.head
  obtain ⟨u0, hu, hrel⟩ := TT.at_ _ hsz
  have hl := hys.len
  have sq := SqT.of (K := K) ha
  have a0 : atI (V.str (Str.ofString s0) :: ys) 0 = some (.str (Str.ofString s0)) := atI_nat (j := 0) rfl
  refine ⟨_, rfl, _, S s0, ds, rfl, hR, _, rfl, iteF ⟨rfl, _, rfl, a, _, 0, _, rfl, rfl, sq, a0, _, u0, _, rfl, hu, hrel, _, rfl, a, _, rfl, .inr sq, rfl, _, rfl, ?_⟩⟩
  refine ifF ?_ ?_
  · rw [List.length_cons, hl, decide_eq_true rfl]
    rfl
  have dif : ∀ {x y z : String}, Str.ofString x = Str.ofString y → Str.ofString y ≠ Str.ofString z → decide (V.str (Str.ofString x) = V.str (Str.ofString z)) = false := fun h1 h2 => decide_eq_false fun q => h2 (h1.symm.trans (V.str.inj q))
  cases mm with
  | zero => exact hT.elim
  | succ mm =>
  rcases hT with e | ⟨z, hz, e⟩ | ⟨row, qs, r, e, ho, hl3, hq, hf⟩
  · obtain ⟨e1, e2⟩ := List.cons.inj (D.tup.inj e)
    have es0 : Str.ofString s0 = Str.ofString "any" := V.str.inj (D.leaf.inj e1)
    refine ⟨_, rfl, a, _, 0, _, rfl, rfl, sq, a0, rfl, _, rfl, ifF (dif es0 (by decide)) ?_⟩
    refine ⟨_, rfl, a, _, 0, _, rfl, rfl, sq, a0, rfl, _, rfl, ifF (dif es0 (by decide)) ?_⟩
    exact ⟨_, rfl, a, _, 0, _, rfl, rfl, sq, a0, rfl, _, rfl, ifF (dif es0 (by decide)) (kk H (Same.refl H))⟩
  · obtain ⟨e1, e2⟩ := List.cons.inj (D.tup.inj e)
    subst e2
    have es0 : Str.ofString s0 = Str.ofString "name" := V.str.inj (D.leaf.inj e1)
    obtain ⟨x, ys', rfl, hx, hy'⟩ := hys
    obtain rfl : x = .str z := hx.1
    refine ⟨_, rfl, a, _, 0, _, rfl, rfl, sq, a0, rfl, _, rfl, ifT (decide_eq_true (by rw [es0])) ?_⟩
    exact ⟨_, rfl, a, _, 1, _, rfl, rfl, sq, atI_nat (j := 1) rfl, z, rfl, hz, fun H1 hs1 => kk H1 hs1⟩
  · rcases ho with rfl | ⟨z, hz, rfl⟩
    all_goals
      cases row
      · have es0 : Str.ofString s0 = Str.ofString "record" := V.str.inj (D.leaf.inj (List.cons.inj (D.tup.inj e)).1)
        refine ⟨_, rfl, a, _, 0, _, rfl, rfl, sq, a0, rfl, _, rfl, ifF (dif es0 (by decide)) ?_⟩
        refine ⟨_, rfl, a, _, 0, _, rfl, rfl, sq, a0, rfl, _, rfl, ifF (dif es0 (by decide)) ?_⟩
        refine ⟨_, rfl, a, _, 0, _, rfl, rfl, sq, a0, rfl, _, rfl, ifT (decide_eq_true (by rw [es0])) ?_⟩
        rw [e] at hR
        exact ⟨_, rfl, _, qs, _, mm, rfl, hR, (by first | exact .inl rfl | exact .inr ⟨z, hz, rfl⟩), hl3, hq, hf, by omega, fun H1 hs1 => kk H1 hs1⟩
      · have es0 : Str.ofString s0 = Str.ofString "row" := V.str.inj (D.leaf.inj (List.cons.inj (D.tup.inj e)).1)
        refine ⟨_, rfl, a, _, 0, _, rfl, rfl, sq, a0, rfl, _, rfl, ifF (dif es0 (by decide)) ?_⟩
        refine ⟨_, rfl, a, _, 0, _, rfl, rfl, sq, a0, rfl, _, rfl, ifT (decide_eq_true (by rw [es0])) ?_⟩
        rw [e] at hR
        exact ⟨_, rfl, _, qs, _, mm, rfl, hR, (by first | exact .inl rfl | exact .inr ⟨z, hz, rfl⟩), hl3, hq, hf, by omega, fun H1 hs1 => kk H1 hs1⟩
end
end K02
set_option Elab.async false
set_option linter.all false
set_option maxRecDepth 100000
set_option maxHeartbeats 4000000
namespace K02
open PySem L2 PyProof.Rows
def EntAt (H0 H : Hp) (ks : List D) (es : List V) : Prop := es.length = ks.length ∧ ∀ (i : Nat) (k : D), ks[i]? = some k → ∃ (a : Addr) (q x r : V), es[i]? = some (V.ref a) ∧ H a = some (.tup [q, x, r]) ∧ RW H0 k x
def spEnt : Sp := fun vs H Q _ => ∃ (v : V) (d : D) (m : Nat) (H0 : Hp), vs = [v] ∧ RW H0 d v ∧ Same H0 H ∧ PtOk m d ∧ ∀ l es H', Same H H' → H l = none → H' l = some (.lst es) → EntAt H0 H' (kids d) es → Q (.ref l) H'
def spWith (k : Nat) : Sp := fun vs H Q _ => ∃ (v : V) (d : D) (m : Nat) (H0 : Hp), vs = [v] ∧ RW H0 d v ∧ Same H0 H ∧ PtOk m d ∧ m + 1 ≤ k ∧ (pre m d).length ≤ 1000 ∧ ∀ l xs H', Same H H' → H l = none → H' l = some (.lst xs) → RWs H0 (pre m d) xs → Q (.ref l) H'
def spNames : Sp := fun vs H Q _ => ∃ (v : V) (d : D) (m : Nat), vs = [v] ∧ RW H d v ∧ PtOk m d ∧ m ≤ 8 ∧ (pre m d).length ≤ 1000 ∧ ∀ l H', Same H H' → H l = none → H' l = some (.lst ((bnd m d).map V.str)) → Q (.ref l) H'
theorem RWs.app {H : Hp} : ∀ {ds es : List D} {xs ys : List V}, RWs H ds xs → RWs H es ys → RWs H (ds ++ es) (xs ++ ys)
  | [], es, xs, ys, h, k => by
    have e : xs = [] := h
    rw [e]
    exact k
  | d :: ds, es, xs, ys, h, k => by
    obtain ⟨x, zs, rfl, h1, h2⟩ := h
    exact ⟨x, zs ++ ys, rfl, h1, h2.app k⟩
theorem pre_ok : ∀ {m : Nat} {d : D}, PtOk m d → ∀ e ∈ pre m d, ∃ m', PtOk m' e
  | 0, _, h, _, _ => h.elim
  | m + 1, d, h, e, he => by
    rcases List.mem_cons.mp he with rfl | he
    · exact ⟨_, h⟩
    · rcases h with rfl | ⟨z, _, rfl⟩ | ⟨row, qs, r, rfl, hr, hl, hq, hf⟩
      · cases he
      · cases he
      · obtain ⟨k, hk, hek⟩ := List.mem_flatMap.mp he
        rw [kids_ent] at hk
        obtain ⟨q, hm, rfl⟩ := List.mem_map.mp hk
        exact pre_ok (hq q hm).1 e hek
/-- the parts within a part -/
theorem kids_ok {m : Nat} {d : D} (h : PtOk (m + 1) d) : ∀ k ∈ kids d, PtOk m k := by
  rcases h with rfl | ⟨z, _, rfl⟩ | ⟨row, qs, r, rfl, hr, hl, hq, hf⟩
  · exact fun _ z => nomatch z
  · exact fun _ z => nomatch z
  · rw [kids_ent]
    intro k hk
    obtain ⟨q, hm, rfl⟩ := List.mem_map.mp hk
    exact (hq q hm).1
section
variable {P : Program} {w : World} {K : PySem.W.Frag} {mg : Str → Option Value} {base : Heap}
theorem scEn : FnScope ["part", "index", "inner", "default"] ["part"] (defScope sEntries) := ⟨rfl, rfl, rfl, by decide +kernel, rfl, by decide +kernel, by decide +kernel⟩
theorem ok_ent {f : Addr} {fd : FuncData} (F : Fun K "entries_of" "entries_of" sEntries f fd) (T : Txt K mg) (zE : mg "enumerate" = none) : FnOk P w K mg base CX0 1 f fd ["part"] spEnt := by
  refine F.ok scEn (fun vs H Q E h => ?_) (fun cdv A outer s H vs Q E hr h => ?_)
  · obtain ⟨v, d, m, H0, rfl, _⟩ := h
    rfl
  obtain ⟨v, d, m, H0, rfl, hR, hs0, hT, kk⟩ := h
  refine ⟨_, pss_cons (ps_if (pt_cmpR op_eq (pe_ix ix_tup (pv 0) pe_int (fun _ _ => rfl)) pe_str (nomark _)) (pss_one (ps_ret (pe_lc (own := [("index", 1), ("inner", 2), ("default", 3)]) (g := gTup K 2 (gCons (gName 1) (gCons (gTup K 2 (gCons (gName 2) (gCons (gName 3) gNil))) gNil))) (tt := tYes) rfl scEn.nd (pi_enum rfl zE (pa_cons (pe_ix ix_tup (pv 0) pe_int (fun _ _ => rfl)) pa_nil)) (blkOk_by (N := ["part", "index", "inner", "default"]) (sc := defScope sEntries) (by decide +kernel))
      (fun _ _ _ _ _ => pg_tup rfl (pgs_cons (pg_name (i := 1) scEn.nd rfl (Or.inl rfl) (Or.inr rfl)) (pgs_cons (pg_tup rfl (pgs_cons (pg_name (i := 2) scEn.nd rfl (Or.inl rfl) (Or.inr rfl)) (pgs_cons (pg_name (i := 3) scEn.nd rfl (Or.inl rfl) (Or.inr rfl)) pgs_nil))) pgs_nil))) (fun _ _ _ _ _ => pts_nil)
      (fun _ _ _ _ _ => pe_tup (pa_cons (pv 1) (pa_cons (pv 2) (pa_cons (pv 3) pa_nil))))))) pss_nil)
    (pss_cons (ps_if (pt_cmpR op_eq (pe_ix ix_tup (pv 0) pe_int (fun _ _ => rfl)) pe_str (nomark _)) (pss_one (ps_ret (pe_callTy call_list_of (by rfl) T.list boot_list (pa_cons (pe_ix ix_tup (pv 0) pe_int (fun _ _ => rfl)) pa_nil)))) pss_nil)
    (pss_one (ps_ret (pe_lst pa_nil)))), ?_⟩
  have dif : ∀ {y z : String}, Str.ofString y ≠ Str.ofString z → decide (V.str (Str.ofString y) = V.str (Str.ofString z)) = false := fun h => decide_eq_false fun q => h (V.str.inj q)
  cases m with
  | zero => exact hT.elim
  | succ mm =>
  have two : (∃ s0 ds, d = .tup (S s0 :: ds) ∧ Str.ofString s0 ≠ Str.ofString "row" ∧ Str.ofString s0 ≠ Str.ofString "record" ∧ kids d = []) ∨ ∃ (row : Bool) (qs : List (Str × D × D)) (r : D), d = .tup [S (if row = true then "row" else "record"), .lst (qs.map (ent row)), r] ∧ qs.length ≤ 25 := by
    rcases hT with e | ⟨z, hz, e⟩ | ⟨row, qs, r, e, ho, hl3, hq, hf⟩
    · exact .inl ⟨_, _, e, by decide, by decide, by rw [e]; rfl⟩
    · exact .inl ⟨_, _, e, by decide, by decide, by rw [e]; rfl⟩
    · exact .inr ⟨row, qs, r, e, hl3⟩
  rcases two with ⟨s0, ds, hd, n1, n2, hkd⟩ | ⟨row, qs, r, e, hl3⟩
  · rw [hd] at hR
    obtain ⟨a, ys, rfl, ha, hys⟩ := hR.head
    have sq := SqT.of (K := K) (hs0 _ _ ha)
    have a0 : atI (V.str (Str.ofString s0) :: ys) 0 = some (.str (Str.ofString s0)) := atI_nat (j := 0) rfl
    refine ⟨_, rfl, a, _, 0, _, rfl, rfl, sq, a0, rfl, _, rfl, ifF (dif n1) ?_⟩
    refine ⟨_, rfl, a, _, 0, _, rfl, rfl, sq, a0, rfl, _, rfl, ifF (dif n2) ?_⟩
    refine ⟨by show 0 ≤ sizeLine; decide, fun l hl => kk l [] _ (same_new hl _) hl upd_same ?_⟩
    rw [hkd]
    exact ⟨rfl, fun _ _ z => by simp at z⟩
  have hkd : kids d = qs.map fun q => q.2.1 := by
    rw [e, kids_ent]
  rw [e] at hR
  obtain ⟨a, ys, rfl, ha, hys⟩ := hR.head
  obtain ⟨x, ys', rfl, hx, hy'⟩ := hys
  obtain ⟨lA, xs, rfl, hlA, hxs⟩ := hx
  have sq := SqT.of (K := K) (hs0 _ _ ha)
  have hxl : xs.length = qs.length := by
    rw [hxs.len, List.length_map]
  have itm : ∀ (i : Nat) (x : V), xs[i]? = some x → ∃ q, qs[i]? = some q ∧ RW H0 (ent row q) x := fun i x hi => by
    obtain ⟨t, ht, hrt⟩ := RWs.item hxs hi
    rw [List.getElem?_map] at ht
    cases e2 : qs[i]? with
    | none =>
      rw [e2] at ht
      cases ht
    | some q =>
      rw [e2] at ht
      exact ⟨q, rfl, (Option.some.inj ht) ▸ hrt⟩
  have a0 : ∀ {s : String} {ys : List V}, atI (V.str (Str.ofString s) :: ys) 0 = some (.str (Str.ofString s)) := atI_nat (j := 0) rfl
  cases row with
  | true =>
    refine ⟨_, rfl, a, _, 0, _, rfl, rfl, sq, a0, rfl, _, rfl, ifT (decide_eq_true rfl) ?_⟩
    refine ⟨_, rfl, a, _, 1, _, rfl, rfl, sq, atI_nat (j := 1) rfl, lA, xs, rfl, SqL.of (hs0 _ _ hlA), fun D0 hD => ?_⟩
    refine lc_it walk_enum (fun i H' => Same H H' ∧ ∃ ts : List V, H' D0 = some (.lst ts) ∧ ts.length = i ∧ ∀ (j : Nat) (k : D), j < i → (kids d)[j]? = some k → ∃ (a : Addr) (q x r : V), ts[j]? = some (V.ref a) ∧ H' a = some (.tup [q, x, r]) ∧ RW H0 k x) ⟨same_new hD _, [], upd_same, rfl, fun j k z => absurd z (Nat.not_lt_zero _)⟩ (fun i H' _ ⟨h, _⟩ => SqL.of (h _ _ (hs0 _ _ hlA))) ?_ ?_
    · rintro i x H2 H3 hi ⟨hs2, ts, hD2, htl, hts⟩ ⟨tA, x1, y1, rfl, htA, rfl, ex, ey⟩
      obtain ⟨q, hqi, hrq⟩ := itm i y1 ey
      obtain ⟨e1, zs, rfl, he, z1, zs1, rfl, h1, z2, zs2, rfl, h2, hn2⟩ := hrq
      obtain rfl : zs2 = [] := hn2
      have s3 := same_new htA (.tup [x1, .ref e1])
      refine ⟨tA, _, rfl, SqT.of upd_same, rfl, _, _, rfl, _, _, rfl, e1, _, rfl, SqT.of (s3 _ _ (hs2 _ _ (hs0 _ _ he))), rfl, _, _, rfl, _, _, rfl, rfl, rfl, rfl, ?_⟩
      unfold tYes
      refine iteT ⟨_, rfl, _, rfl, _, rfl, by show 3 ≤ sizeLine; decide, fun t ht => ?_⟩
      have s4 := same_new ht (.tup [x1, z1, z2])
      have hD4 := s4 _ _ (s3 _ _ hD2)
      have ntD : t ≠ D0 := (ne_of_none (s3 _ _ hD2) ht).symm
      refine ⟨ts, hD4, Nat.lt_of_le_of_lt (show ts.length ≤ 1000 by omega) (by decide), same_put ((hs2.trans s3).trans s4) hD, ts ++ [.ref t], upd_same, (by rw [List.length_append, htl]; rfl), fun j k hj hk => ?_⟩
      rcases Nat.lt_succ_iff_lt_or_eq.mp hj with hj | rfl
      · obtain ⟨a1, q1, x2, r1, b1, b2, b3⟩ := hts j k hj hk
        refine ⟨a1, q1, x2, r1, (by rw [List.getElem?_append_left (by omega)]; exact b1), ?_, b3⟩
        rw [upd_ne fun z => ?_]
        · exact s4 _ _ (s3 _ _ b2)
        · rw [z, hD2] at b2
          cases b2
      · refine ⟨t, x1, z1, z2, (by rw [List.getElem?_append_right (by omega), htl, Nat.sub_self]; rfl), (by rw [upd_ne ntD]; exact upd_same), ?_⟩
        rw [hkd, List.getElem?_map, hqi] at hk
        exact (Option.some.inj hk) ▸ h1
    · rintro H2 ⟨hs2, ts, hD2, htl, hts⟩
      have hkl : (kids d).length = xs.length := by
        rw [hkd, List.length_map, hxl]
      refine kk D0 ts H2 hs2 hD hD2 ⟨by omega, fun j k hk => hts j k ?_ hk⟩
      have := (List.getElem?_eq_some_iff.mp hk).1
      omega
  | false =>
    refine ⟨_, rfl, a, _, 0, _, rfl, rfl, sq, a0, rfl, _, rfl, ifF (dif (by decide)) ?_⟩
    refine ⟨_, rfl, a, _, 0, _, rfl, rfl, sq, a0, rfl, _, rfl, ifT (decide_eq_true rfl) ?_⟩
    refine ⟨_, rfl, a, _, 1, _, rfl, rfl, sq, atI_nat (j := 1) rfl, lA, xs, rfl, .inl (SqL.of (hs0 _ _ hlA)), fun l hl => ?_⟩
    have s2 := same_new hl (.lst xs)
    refine kk l xs _ s2 hl upd_same ⟨by rw [hkd, List.length_map, hxl], fun j k hk => ?_⟩
    rw [hkd, List.getElem?_map] at hk
    cases e2 : qs[j]? with
    | none =>
      rw [e2] at hk
      cases hk
    | some q =>
      rw [e2] at hk
      have hjl := (List.getElem?_eq_some_iff.mp e2).1
      have hxj := List.getElem?_eq_getElem (show j < xs.length by omega)
      generalize xs[j] = xj at hxj
      obtain ⟨q', hq', hrq⟩ := itm j xj hxj
      rw [e2] at hq'
      cases hq'
      obtain ⟨e1, zs, rfl, he, z0, zs0, rfl, h0, z1, zs1, rfl, h1, z2, zs2, rfl, h2, hn2⟩ := hrq
      obtain rfl : zs2 = [] := hn2
      exact ⟨e1, z0, z1, z2, hxj, s2 _ _ (hs0 _ _ he), (Option.some.inj hk) ▸ h1⟩
end
end K02
set_option Elab.async false
set_option linter.all false
set_option maxRecDepth 100000
set_option maxHeartbeats 4000000
namespace K02
open PySem L2 PyProof.Rows
theorem take_flat {α β : Type} {f : α → List β} {xs : List α} {i : Nat} {x : α} (h : xs[i]? = some x) : (xs.take (i + 1)).flatMap f = (xs.take i).flatMap f ++ f x := by
  rw [List.take_add_one, h, List.flatMap_append]
  show _ ++ (f x ++ []) = _
  rw [List.append_nil]
theorem take_flat_le {α β : Type} {f : α → List β} {xs : List α} {i : Nat} : ((xs.take i).flatMap f).length ≤ (xs.flatMap f).length := by
  have e : xs.flatMap f = (xs.take i).flatMap f ++ (xs.drop i).flatMap f := by
    rw [← List.flatMap_append, List.take_append_drop]
  rw [e, List.length_append]
  omega
section
variable {P : Program} {w : World} {K : PySem.W.Frag} {mg : Str → Option Value} {base : Heap}
theorem scWi : FnScope ["part", "found", "entry"] ["part"] (defScope sWithin) := ⟨rfl, rfl, rfl, by decide +kernel, rfl, by decide +kernel, by decide +kernel⟩
theorem with_none {f : Addr} {fd : FuncData} {ps : List Str} : FnOk P w K mg base CX0 0 f fd ps (spWith 0) := none_of fun vs H Q E h => by
  obtain ⟨v, d, m, H0, _, _, _, _, h1, _⟩ := h
  omega
theorem ok_with {f fE : Addr} {fd fdE : FuncData} {k : Nat} (F : Fun K "parts_within" "parts_within" sWithin f fd)
    (FE : Fun K "entries_of" "entries_of" sEntries fE fdE) (GE : FnOk P w K mg base CX0 1 fE fdE ["part"] spEnt) (bE : Binds K fdE ["part"] []) (mE : mg "entries_of" = some (.ref fE))
    (G : FnOk P w K mg base CX0 k f fd ["part"] (spWith k)) (b : Binds K fd ["part"] []) (m : mg "parts_within" = some (.ref f)) : FnOk P w K mg base CX0 (k + 1) f fd ["part"] (spWith (k + 1)) := by
  refine F.ok scWi (fun vs H Q E h => ?_) (fun cdv A outer s H vs Q E hr h => ?_)
  · obtain ⟨v, d, m, H0, rfl, _⟩ := h
    rfl
  obtain ⟨v, d, mm, H0, rfl, hR, hs0, hT, hk, hl, kk⟩ := h
  have hm : 1 ≤ mm := by cases mm with
    | zero => exact hT.elim
    | succ j => omega
  obtain ⟨mm, rfl⟩ : ∃ j, mm = j + 1 := ⟨mm - 1, by omega⟩
  have hr1 : Room 1 (A.deeper (envOfC "parts_within" (defScope sWithin) s.heap.objs.size f cdv)) := hr.mono (by omega)
  refine ⟨_, pss_cons (ps_set (i := 1) scWi.nd rfl (Or.inl rfl) (pe_lst (pa_cons (pv 0) pa_nil)))
    (Evl.pss_cut (ps_for PassesOwn.never rfl (pi_list (pe_call GE hr1 rfl mE FE.kp bE .nil pass0 (pa_cons (pv 0) pa_nil))) (pg_name (i := 2) scWi.nd rfl (Or.inl rfl))
      (pss_one (ps_expr (pe_bm PySem.F.plainAttrs_list PySem.F.slot_list_extend PySem.F.type_list_extend mt_extend (pv 1) (pa_cons (pe_call G hr rfl m F.kp b .nil pass0 (pa_cons (pe_ix ix_tup (pv 2) pe_int (fun _ _ => rfl)) pa_nil)) pa_nil)))))
    (pss_one (ps_ret (pv 1)))), ?_⟩
  refine ⟨_, rfl, by show 1 ≤ sizeLine; decide, fun fo hfo => ?_⟩
  have s1 := same_new hfo (.lst [v])
  have pe : pre (mm + 1) d = d :: (kids d).flatMap (pre mm) := rfl
  refine ⟨fun σ' H' => Same H H' ∧ (∃ xs, H' fo = some (.lst xs) ∧ RWs H0 (pre (mm + 1) d) xs) ∧ ∃ v2, σ' = [some v, some (.ref fo), v2], ?_, ?_⟩
  · refine ⟨_, rfl, v, d, mm + 1, H0, rfl, hR, hs0.trans s1, hT, fun lE es H2 hs2 hlE0 hlE hE => ?_⟩
    refine ⟨lE, rfl, ⟨_, SqL.of hlE⟩, ?_⟩
    have nfl : fo ≠ lE := (ne_of_none upd_same hlE0)
    have hlE1 : H lE = none := s1.free hlE0
    refine for_list (K := K) (a := lE) (xs := es) (fun i σ' H' => Same H H' ∧ Kp (fun a => a = fo) H2 H' ∧ (∃ xs, H' fo = some (.lst xs) ∧ RWs H0 (d :: ((kids d).take i).flatMap (pre mm)) xs) ∧ ∃ v2, σ' = [some v, some (.ref fo), v2])
      ⟨s1.trans hs2, .same (Same.refl _), ⟨[v], hs2 _ _ upd_same, ⟨v, [], rfl, hR, rfl⟩⟩, none, rfl⟩ (fun i σ' H' _ ⟨_, h, _⟩ => SqL.of (h _ _ hlE (.inl (Ne.symm nfl)))) ?_ ?_
    · rintro i x σ' H3 hi ⟨hs3, hk3, ⟨xs, hfo3, hxs⟩, v2, rfl⟩
      obtain ⟨hEl, hEa⟩ := hE
      have hil : i < (kids d).length := by
        have := (List.getElem?_eq_some_iff.mp hi).1
        omega
      have hkid := List.getElem?_eq_getElem hil
      obtain ⟨a1, q1, x1, r1, b1, b2, b3⟩ := hEa i _ hkid
      rw [hi] at b1
      obtain rfl : x = .ref a1 := Option.some.inj b1
      have hko := kids_ok hT _ (List.getElem_mem hil)
      have t1 := take_flat (f := pre mm) hkid
      have t2 := take_flat_le (f := pre mm) (xs := kids d) (i := i + 1)
      rw [t1, List.length_append] at t2
      rw [pe, List.length_cons] at hl
      refine ⟨_, rfl, .inl ⟨rfl, _, SqL.of hfo3⟩, _, rfl, a1, _, 1, _, rfl, rfl, SqT.of (hk3 _ _ b2 (.inr fun _ z => nomatch z)), atI_nat (j := 1) rfl, x1, _, mm, H0, rfl, b3, hs0.trans hs3, hko, by omega, by omega, fun l2 ys H4 hs4 hl20 hl2 hys => ?_⟩
      have hxl := hxs.len
      have hyl := hys.len
      rw [List.length_cons] at hxl
      refine ⟨fo, l2, xs, ys, rfl, rfl, hs4 _ _ hfo3, hl2, Nat.le_trans (show xs.length + ys.length ≤ 1001 by omega) (by decide), same_put (hs3.trans hs4) hfo, (hk3.trans (.same hs4)).trans (Kp.set (hs4 _ _ hfo3) rfl), ⟨xs ++ ys, upd_same, ?_⟩, _, rfl⟩
      rw [t1]
      exact hxs.app hys
    · rintro σ' H3 ⟨hs3, hk3, ⟨xs, hfo3, hxs⟩, r⟩
      rw [hE.1, List.take_length] at hxs
      exact ⟨hs3, ⟨xs, hfo3, hxs⟩, r⟩
  rintro _ H2 ⟨hs2, ⟨xs, hfo2, hxs⟩, v2, rfl⟩
  exact ⟨_, rfl, kk fo xs H2 hs2 hfo hfo2 hxs⟩
theorem scNo : FnScope ["part", "names", "each"] ["part"] (defScope sNamesOf) := ⟨rfl, rfl, rfl, by decide +kernel, rfl, by decide +kernel, by decide +kernel⟩
theorem ok_names {f fW : Addr} {fd fdW : FuncData} (F : Fun K "names_of_part" "names_of_part" sNamesOf f fd)
    (FW : Fun K "parts_within" "parts_within" sWithin fW fdW) (GW : FnOk P w K mg base CX0 9 fW fdW ["part"] (spWith 9)) (bW : Binds K fdW ["part"] []) (mW : mg "parts_within" = some (.ref fW)) : FnOk P w K mg base CX0 10 f fd ["part"] spNames := by
  refine F.ok scNo (fun vs H Q E h => ?_) (fun cdv A outer s H vs Q E hr h => ?_)
  · obtain ⟨v, d, m, rfl, _⟩ := h
    rfl
  obtain ⟨v, d, mm, rfl, hR, hT, hk, hl, kk⟩ := h
  refine ⟨_, pss_cons (ps_set (i := 1) scNo.nd rfl (Or.inl rfl) (pe_lst pa_nil))
    (Evl.pss_cut (ps_for PassesOwn.never rfl (pi_list (pe_call GW hr rfl mW FW.kp bW .nil pass0 (pa_cons (pv 0) pa_nil))) (pg_name (i := 2) scNo.nd rfl (Or.inl rfl))
      (pss_one (ps_if (pt_cmpR op_eq (pe_ix ix_tup (pv 2) pe_int (fun _ _ => rfl)) pe_str (nomark _)) (pss_one (ps_expr (pe_bm PySem.F.plainAttrs_list PySem.F.slot_list_append PySem.F.type_list_append mt_append (pv 1) (pa_cons (pe_ix ix_tup (pv 2) pe_int (fun _ _ => rfl)) pa_nil))))
        (pss_one (ps_if (PW.pt (pw_and (pt_cmpR op_ne (pe_ix ix_tup (pv 2) pe_int (fun _ _ => rfl)) pe_str (nomark _)) (pw_and1 (pt_cmpR op_notN (pe_ix ix_tup (pv 2) pe_int (fun _ _ => rfl)) pe_non (nomark _)))))
          (pss_one (ps_expr (pe_bm PySem.F.plainAttrs_list PySem.F.slot_list_append PySem.F.type_list_append mt_append (pv 1) (pa_cons (pe_ix ix_tup (pv 2) pe_int (fun _ _ => rfl)) pa_nil)))) pss_nil)))))
    (pss_one (ps_ret (pv 1)))), ?_⟩
  refine ⟨by show 0 ≤ sizeLine; decide, fun fo hfo => ?_⟩
  have s1 := same_new hfo (.lst [])
  have deq : ∀ {y z : String}, Str.ofString y ≠ Str.ofString z → decide (V.str (Str.ofString y) = V.str (Str.ofString z)) = false := fun h => decide_eq_false fun q => h (V.str.inj q)
  have a0 : ∀ {s : String} {ys : List V}, atI (V.str (Str.ofString s) :: ys) 0 = some (.str (Str.ofString s)) := atI_nat (j := 0) rfl
  refine ⟨fun σ' H' => Same H H' ∧ H' fo = some (.lst ((bnd mm d).map V.str)) ∧ ∃ v2, σ' = [some v, some (.ref fo), v2], ?_, ?_⟩
  · refine ⟨_, rfl, v, d, mm, H, rfl, hR, s1, hT, by omega, hl, fun lE es H2 hs2 hlE0 hlE hE => ?_⟩
    refine ⟨lE, rfl, ⟨_, SqL.of hlE⟩, ?_⟩
    have nfl : fo ≠ lE := (ne_of_none upd_same hlE0)
    have hel := hE.len
    refine for_list (K := K) (a := lE) (xs := es) (fun i σ' H' => Same H H' ∧ Kp (fun a => a = fo) H2 H' ∧ H' fo = some (.lst ((((pre mm d).take i).flatMap own).map V.str)) ∧ (((pre mm d).take i).flatMap own).length ≤ i ∧ ∃ v2, σ' = [some v, some (.ref fo), v2])
      ⟨s1.trans hs2, .same (Same.refl _), hs2 _ _ upd_same, Nat.le_refl _, none, rfl⟩ (fun i σ' H' _ ⟨_, h, _⟩ => SqL.of (h _ _ hlE (.inl (Ne.symm nfl)))) ?_ ?_
    · rintro i x σ' H3 hi ⟨hs3, hk3, hfo3, hol, v2, rfl⟩
      obtain ⟨e, he, hre⟩ := RWs.item hE hi
      have hil := (List.getElem?_eq_some_iff.mp he).1
      have t1 := take_flat (f := own) he
      obtain ⟨m', hTe⟩ := pre_ok hT e (List.mem_of_getElem? he)
      have room : ((((pre mm d).take i).flatMap own).map V.str).length < sizeLine := by
        rw [List.length_map]
        exact Nat.lt_of_le_of_lt (show _ ≤ 1000 by omega) (by decide)
      have add : ∀ z : Str, own e = [z] → Same H (upd H3 fo (.lst ((((pre mm d).take i).flatMap own).map V.str ++ [.str z]))) ∧ Kp (fun a => a = fo) H2 (upd H3 fo (.lst ((((pre mm d).take i).flatMap own).map V.str ++ [.str z]))) ∧ (upd H3 fo (.lst ((((pre mm d).take i).flatMap own).map V.str ++ [.str z]))) fo = some (.lst ((((pre mm d).take (i + 1)).flatMap own).map V.str)) ∧ (((pre mm d).take (i + 1)).flatMap own).length ≤ i + 1 := fun z ez => by
        refine ⟨same_put hs3 hfo, hk3.trans (Kp.set hfo3 rfl), ?_, ?_⟩
        · rw [upd_same, t1, ez, List.map_append]
          rfl
        · rw [t1, ez, List.length_append]
          show _ + 1 ≤ i + 1
          omega
      have keep : own e = [] → H3 fo = some (.lst ((((pre mm d).take (i + 1)).flatMap own).map V.str)) ∧ (((pre mm d).take (i + 1)).flatMap own).length ≤ i + 1 := fun ez => by
        rw [t1, ez, List.append_nil]
        exact ⟨hfo3, by omega⟩
      cases m' with
      | zero => exact hTe.elim
      | succ m' =>
      rcases hTe with rfl | ⟨z, hz, rfl⟩ | ⟨row, qs, r, rfl, ho, hl3, hq, hf⟩
      · obtain ⟨a, ys, rfl, ha, hys⟩ := hre.head
        have sq := SqT.of (K := K) (hs3 _ _ ha)
        refine ⟨_, rfl, a, _, 0, _, rfl, rfl, sq, a0, rfl, _, rfl, ifF (deq (by decide)) ?_⟩
        refine ⟨_, rfl, a, _, 0, _, rfl, rfl, sq, a0, rfl, _, rfl, ifF (by rw [decide_eq_true rfl]; rfl) (iteF ?_)⟩
        obtain ⟨k1, k2⟩ := keep rfl
        exact ⟨hs3, hk3, k1, k2, _, rfl⟩
      · obtain ⟨a, ys, rfl, ha, hys⟩ := hre.head
        obtain ⟨x, ys', rfl, hx, hy'⟩ := hys
        obtain rfl : x = .str z := hx.1
        have sq := SqT.of (K := K) (hs3 _ _ ha)
        refine ⟨_, rfl, a, _, 0, _, rfl, rfl, sq, a0, rfl, _, rfl, ifT (decide_eq_true rfl) ?_⟩
        refine ⟨_, rfl, .inl ⟨rfl, _, SqL.of hfo3⟩, _, rfl, a, _, 1, _, rfl, rfl, sq, atI_nat (j := 1) rfl, fo, _, _, rfl, rfl, hfo3, room, ?_⟩
        obtain ⟨k1, k2, k3, k4⟩ := add z rfl
        exact ⟨k1, k2, k3, k4, _, rfl⟩
      · obtain ⟨a, ys, rfl, ha, hys⟩ := hre.head
        obtain ⟨x, ys', rfl, hx, y, ys'', rfl, hy, hn⟩ := hys
        have sq := SqT.of (K := K) (hs3 _ _ ha)
        have n1 : Str.ofString (if row = true then "row" else "record") ≠ Str.ofString "name" := by cases row <;> decide
        have n2 : Str.ofString (if row = true then "row" else "record") ≠ Str.ofString "any" := by cases row <;> decide
        refine ⟨_, rfl, a, _, 0, _, rfl, rfl, sq, a0, rfl, _, rfl, ifF (deq n1) ?_⟩
        refine ⟨_, rfl, a, _, 0, _, rfl, rfl, sq, a0, rfl, _, rfl, ifT (by rw [deq n2]; rfl) ?_⟩
        rcases ho with rfl | ⟨z, hz, rfl⟩
        · obtain rfl : y = .non := hy.1
          refine ⟨_, rfl, a, _, 2, _, rfl, rfl, sq, atI_nat (j := 2) rfl, rfl, _, rfl, ifF (by rw [decide_eq_true rfl]; rfl) ?_⟩
          obtain ⟨k1, k2⟩ := keep rfl
          exact ⟨hs3, hk3, k1, k2, _, rfl⟩
        · obtain rfl : y = .str z := hy.1
          refine ⟨_, rfl, a, _, 2, _, rfl, rfl, sq, atI_nat (j := 2) rfl, rfl, _, rfl, ifT (by rw [decide_eq_false (fun z => nomatch z)]; rfl) ?_⟩
          refine ⟨_, rfl, .inl ⟨rfl, _, SqL.of hfo3⟩, _, rfl, a, _, 2, _, rfl, rfl, sq, atI_nat (j := 2) rfl, fo, _, _, rfl, rfl, hfo3, room, ?_⟩
          obtain ⟨k1, k2, k3, k4⟩ := add z rfl
          exact ⟨k1, k2, k3, k4, _, rfl⟩
    · rintro σ' H3 ⟨hs3, hk3, hfo3, hol, r⟩
      rw [hel, List.take_length] at hfo3
      exact ⟨hs3, hfo3, r⟩
  rintro _ H2 ⟨hs2, hfo2, v2, rfl⟩
  exact ⟨_, rfl, kk fo H2 hs2 hfo hfo2⟩
end
end K02
set_option Elab.async false
set_option linter.all false
set_option maxRecDepth 100000
set_option maxHeartbeats 4000000
namespace K02
open PySem L2 PyProof.Rows
abbrev szS : List (String × Int) := [("take", 3), ("set", 3), ("cases", 3)]
/-- a step: its first text, its name, what is behind -/
theorem StOk.three {d : D} (h : StOk d) : (∃ z t, d = .tup [S "set", .leaf (.str z), t] ∧ okName z ∧ TmOk 5 t) ∨ ∃ (s : String) (r x : D), (s = "take" ∨ s = "cases") ∧ d = .tup [S s, r, x] ∧ Opt r ∧ (s = "take" → stParts d = [x]) ∧ (s = "cases" → x = .lst (stParts d) ∧ (stParts d).length ≤ 20) ∧ stSet d = [] ∧ ∀ q ∈ stParts d, PtOk 7 q := by
  rcases h with ⟨z, t, hz, ht, e⟩ | ⟨r, q, hr, hq, e⟩ | ⟨r, qs, hr, hl, hq, e⟩
  · exact .inl ⟨z, t, e, hz, ht⟩
  · subst e
    refine .inr ⟨"take", r, q, .inl rfl, rfl, hr, fun _ => parts_take, (fun z => absurd z (by decide)), set_take, fun y hy => ?_⟩
    rw [parts_take] at hy
    rw [List.mem_singleton.mp hy]
    exact hq
  · subst e
    refine .inr ⟨"cases", r, .lst qs, .inr rfl, rfl, hr, (fun z => absurd z (by decide)), fun _ => ?_, set_cases, ?_⟩
    · rw [parts_cases]
      exact ⟨rfl, hl⟩
    · rw [parts_cases]
      exact hq
def spPoS : Sp := fun vs H Q _ => ∃ (v : V) (d : D) (H0 : Hp), vs = [v] ∧ RW H0 d v ∧ Same H0 H ∧ StOk d ∧ ∀ l xs H', Same H H' → H l = none → H' l = some (.lst xs) → RWs H0 (stParts d) xs → Q (.ref l) H'
def spNoS : Sp := fun vs H Q _ => ∃ (v : V) (d : D), vs = [v] ∧ RW H d v ∧ StOk d ∧ ((stParts d).flatMap (pre 7)).length ≤ 900 ∧ ∀ l H', Same H H' → H l = none → H' l = some (.lst ((stNames d).map V.str)) → Q (.ref l) H'
def spCkStep : Sp := fun vs H Q _ => ∃ (v : V) (d : D), vs = [v] ∧ RW H d v ∧ StOk d ∧ ∀ H', Same H H' → Q .non H'
theorem bnd_small (m : Nat) (d : D) : (bnd m d).length ≤ (pre m d).length := by
  have one : ∀ e : D, (own e).length ≤ 1 := fun e => by
    unfold own
    split <;> simp
  have go : ∀ ds : List D, (ds.flatMap own).length ≤ ds.length := fun ds => by
    induction ds with
    | nil => exact Nat.le_refl _
    | cons e ds ih =>
      rw [List.flatMap_cons, List.length_append, List.length_cons]
      have := one e
      omega
  exact go _
theorem bnds_small (m : Nat) : ∀ ds : List D, (ds.flatMap (bnd m)).length ≤ (ds.flatMap (pre m)).length
  | [] => Nat.le_refl _
  | d :: ds => by
    rw [List.flatMap_cons, List.flatMap_cons, List.length_append, List.length_append]
    have := bnd_small m d
    have := bnds_small m ds
    omega
section
variable {P : Program} {w : World} {K : PySem.W.Frag} {mg : Str → Option Value} {base : Heap}
theorem scPo : FnScope ["step"] ["step"] (defScope sPoS) := ⟨rfl, rfl, rfl, by decide +kernel, rfl, by decide +kernel, by decide +kernel⟩
theorem ok_pos {f : Addr} {fd : FuncData} (F : Fun K "parts_of_step" "parts_of_step" sPoS f fd) (T : Txt K mg) : FnOk P w K mg base CX0 1 f fd ["step"] spPoS := by
  refine F.ok scPo (fun vs H Q E h => ?_) (fun cdv A outer s H vs Q E hr h => ?_)
  · obtain ⟨v, d, H0, rfl, _⟩ := h
    rfl
  obtain ⟨v, d, H0, rfl, hR, hs0', hd, kk⟩ := h
  refine ⟨_, pss_cons (ps_if (pt_cmpR op_eq (pe_ix ix_tup (pv 0) pe_int (fun _ _ => rfl)) pe_str (nomark _)) (pss_one (ps_ret (pe_lst (pa_cons (pe_ix ix_tup (pv 0) pe_int (fun _ _ => rfl)) pa_nil)))) pss_nil)
    (pss_cons (ps_if (pt_cmpR op_eq (pe_ix ix_tup (pv 0) pe_int (fun _ _ => rfl)) pe_str (nomark _)) (pss_one (ps_ret (pe_callTy call_list_of (by rfl) T.list boot_list (pa_cons (pe_ix ix_tup (pv 0) pe_int (fun _ _ => rfl)) pa_nil)))) pss_nil)
    (pss_one (ps_ret (pe_lst pa_nil)))), ?_⟩
  have a0 : ∀ {s : String} {ys : List V}, atI (V.str (Str.ofString s) :: ys) 0 = some (.str (Str.ofString s)) := atI_nat (j := 0) rfl
  have deq : ∀ {y z : String}, Str.ofString y ≠ Str.ofString z → decide (V.str (Str.ofString y) = V.str (Str.ofString z)) = false := fun h => decide_eq_false fun q => h (V.str.inj q)
  rcases hd.three with ⟨z, t, e, _, _⟩ | ⟨s0, r, x, hs0, e, _, h1, h2, _, _⟩
  · have e0 : stParts d = [] := by rw [e, parts_set]
    rw [e] at hR
    obtain ⟨a, ys, rfl, ha, hys⟩ := hR.head
    have sq := SqT.of (K := K) (hs0' _ _ ha)
    refine ⟨_, rfl, a, _, 0, _, rfl, rfl, sq, a0, rfl, _, rfl, ifF (deq (by decide)) ?_⟩
    refine ⟨_, rfl, a, _, 0, _, rfl, rfl, sq, a0, rfl, _, rfl, ifF (deq (by decide)) ?_⟩
    refine ⟨by show 0 ≤ sizeLine; decide, fun l hl => kk l [] _ (same_new hl _) hl upd_same ?_⟩
    rw [e0]
    rfl
  · rw [e] at hR
    obtain ⟨a, ys, rfl, ha, hys⟩ := hR.head
    obtain ⟨y1, ys1, rfl, hy1, y2, ys2, rfl, hy2, hnil⟩ := hys
    obtain rfl : ys2 = [] := hnil
    have sq := SqT.of (K := K) (hs0' _ _ ha)
    have a2 : atI [V.str (Str.ofString s0), y1, y2] 2 = some y2 := at3_2
    refine ⟨_, rfl, a, _, 0, _, rfl, rfl, sq, a0, rfl, _, rfl, ?_⟩
    rcases hs0 with rfl | rfl
    · refine ifT (decide_eq_true rfl) ⟨_, rfl, a, _, 2, _, rfl, rfl, sq, a2, by show 1 ≤ sizeLine; decide, fun l hl => ?_⟩
      refine kk l _ _ (same_new hl _) hl upd_same ?_
      rw [h1 rfl]
      exact ⟨y2, [], rfl, hy2, rfl⟩
    · refine ifF (deq (by decide)) ⟨_, rfl, a, _, 0, _, rfl, rfl, sq, a0, rfl, _, rfl, ifT (decide_eq_true rfl) ?_⟩
      obtain ⟨ex, _⟩ := h2 rfl
      rw [ex] at hy2
      obtain ⟨l0, zs, rfl, hl0, hz⟩ := hy2
      exact ⟨_, rfl, a, _, 2, _, rfl, rfl, sq, a2, l0, zs, rfl, .inl (SqL.of (hs0' _ _ hl0)), fun l hl => kk l _ _ (same_new hl _) hl upd_same hz⟩
theorem scNs : FnScope ["step", "names", "part"] ["step"] (defScope sNoS) := ⟨rfl, rfl, rfl, by decide +kernel, rfl, by decide +kernel, by decide +kernel⟩
theorem ok_nos {f fP fN : Addr} {fd fdP fdN : FuncData} (F : Fun K "names_of_step" "names_of_step" sNoS f fd)
    (FP : Fun K "parts_of_step" "parts_of_step" sPoS fP fdP) (GP : FnOk P w K mg base CX0 1 fP fdP ["step"] spPoS) (bP : Binds K fdP ["step"] []) (mP : mg "parts_of_step" = some (.ref fP))
    (FN : Fun K "names_of_part" "names_of_part" sNamesOf fN fdN) (GN : FnOk P w K mg base CX0 10 fN fdN ["part"] spNames) (bN : Binds K fdN ["part"] []) (mN : mg "names_of_part" = some (.ref fN)) : FnOk P w K mg base CX0 11 f fd ["step"] spNoS := by
  refine F.ok scNs (fun vs H Q E h => ?_) (fun cdv A outer s H vs Q E hr h => ?_)
  · obtain ⟨v, d, rfl, _⟩ := h
    rfl
  obtain ⟨v, d, rfl, hR, hd, hl, kk⟩ := h
  have hr1 : Room 1 (A.deeper (envOfC "names_of_step" (defScope sNoS) s.heap.objs.size f cdv)) := hr.mono (by decide)
  refine ⟨_, pss_cons (ps_set (i := 1) scNs.nd rfl (Or.inl rfl) (pe_lst pa_nil))
    (Evl.pss_cut (ps_if (pt_cmpR op_eq (pe_ix ix_tup (pv 0) pe_int (fun _ _ => rfl)) pe_str (nomark _)) (pss_one (ps_expr (pe_bm PySem.F.plainAttrs_list PySem.F.slot_list_append PySem.F.type_list_append mt_append (pv 1) (pa_cons (pe_ix ix_tup (pv 0) pe_int (fun _ _ => rfl)) pa_nil)))) pss_nil)
    (Evl.pss_cut (ps_for PassesOwn.never rfl (pi_list (pe_call GP hr1 rfl mP FP.kp bP .nil pass0 (pa_cons (pv 0) pa_nil))) (pg_name (i := 2) scNs.nd rfl (Or.inl rfl))
      (pss_one (ps_expr (pe_bm PySem.F.plainAttrs_list PySem.F.slot_list_extend PySem.F.type_list_extend mt_extend (pv 1) (pa_cons (pe_call GN hr rfl mN FN.kp bN .nil pass0 (pa_cons (pv 2) pa_nil)) pa_nil)))))
    (pss_one (ps_ret (pv 1))))), ?_⟩
  refine ⟨by show 0 ≤ sizeLine; decide, fun fo hfo => ?_⟩
  have s1 := same_new hfo (.lst [])
  have a0 : ∀ {s : String} {ys : List V}, atI (V.str (Str.ofString s) :: ys) 0 = some (.str (Str.ofString s)) := atI_nat (j := 0) rfl
  have deq : ∀ {y z : String}, Str.ofString y ≠ Str.ofString z → decide (V.str (Str.ofString y) = V.str (Str.ofString z)) = false := fun h => decide_eq_false fun q => h (V.str.inj q)
  have hq : ∀ q ∈ stParts d, PtOk 7 q := by
    rcases hd.three with ⟨z, t, e, _, _⟩ | ⟨s0, r, x, hs0, e, _, h1, h2, _, h4⟩
    · rw [e, parts_set]
      exact fun _ z => nomatch z
    · exact h4
  have hsl : (stSet d).length ≤ 1 := by
    rcases hd.three with ⟨z, t, e, _, _⟩ | ⟨s0, r, x, hs0, e, _, h1, h2, h3, h4⟩
    · rw [e, set_set]
      exact Nat.le_refl _
    · rw [h3]
      exact Nat.zero_le _
  -- the set name
  refine ⟨fun σ' H' => Same H H' ∧ H' fo = some (.lst ((stSet d).map V.str)) ∧ σ' = [some v, some (.ref fo), none], ?_, ?_⟩
  · rcases hd.three with ⟨z, t, e, _, _⟩ | ⟨s0, r, x, hs0, e, _, h1, h2, h3, h4⟩
    · rw [e, set_set]
      rw [e] at hR
      obtain ⟨a, ys, rfl, ha, hys⟩ := hR.head
      obtain ⟨y1, ys1, rfl, hy1, _⟩ := hys
      obtain rfl : y1 = .str z := hy1.1
      have sq := SqT.of (K := K) (s1 _ _ ha)
      refine ⟨_, rfl, a, _, 0, _, rfl, rfl, sq, a0, rfl, _, rfl, ifT (decide_eq_true rfl) ?_⟩
      exact ⟨_, rfl, .inl ⟨rfl, _, SqL.of upd_same⟩, _, rfl, a, _, 1, _, rfl, rfl, sq, atI_nat (j := 1) rfl, fo, _, _, rfl, rfl, upd_same, by decide, same_put s1 hfo, upd_same, rfl⟩
    · rw [h3]
      rw [e] at hR
      obtain ⟨a, ys, rfl, ha, hys⟩ := hR.head
      have sq := SqT.of (K := K) (s1 _ _ ha)
      refine ⟨_, rfl, a, _, 0, _, rfl, rfl, sq, a0, rfl, _, rfl, ifF ?_ ⟨s1, upd_same, rfl⟩⟩
      rcases hs0 with rfl | rfl <;> exact deq (by decide)
  rintro _ H2 ⟨hs2, hfo2, rfl⟩
  -- those of the parts
  refine ⟨fun σ' H' => Same H H' ∧ H' fo = some (.lst ((stNames d).map V.str)) ∧ ∃ v2, σ' = [some v, some (.ref fo), v2], ?_, ?_⟩
  · refine ⟨_, rfl, v, d, H, rfl, hR, hs2, hd, fun lE es H3 hs3 hlE0 hlE hE => ⟨lE, rfl, ⟨_, SqL.of hlE⟩, ?_⟩⟩
    have nfl : fo ≠ lE := ne_of_none hfo2 hlE0
    refine for_list (K := K) (a := lE) (xs := es) (fun i σ' H' => Same H H' ∧ Kp (fun a => a = fo) H3 H' ∧ H' fo = some (.lst ((stSet d ++ ((stParts d).take i).flatMap (bnd 7)).map V.str)) ∧ ∃ v2, σ' = [some v, some (.ref fo), v2])
      ⟨hs2.trans hs3, .same (Same.refl _), (by rw [List.take_zero, List.flatMap_nil, List.append_nil]; exact hs3 _ _ hfo2), none, rfl⟩ (fun i σ' H' _ ⟨_, h, _⟩ => SqL.of (h _ _ hlE (.inl (Ne.symm nfl)))) ?_ ?_
    · rintro i x σ' H4 hi ⟨hs4, hk4, hfo4, v2, rfl⟩
      obtain ⟨q, hqi, hrw⟩ := hE.item hi
      have hqm := List.mem_of_getElem? hqi
      have t1 := take_flat (f := pre 7) hqi
      have t2 := take_flat_le (f := pre 7) (xs := stParts d) (i := i + 1)
      have t3 := bnds_small 7 ((stParts d).take i)
      have t4 := bnd_small 7 q
      rw [t1, List.length_append] at t2
      refine ⟨_, rfl, .inl ⟨rfl, _, SqL.of hfo4⟩, _, rfl, x, q, 7, rfl, hrw.same hs4, hq q hqm, by decide, by omega, fun l2 H5 hs5 hl20 hl2 => ?_⟩
      refine ⟨fo, l2, _, _, rfl, rfl, hs5 _ _ hfo4, hl2, ?_, same_put (hs4.trans hs5) hfo, (hk4.trans (.same hs5)).trans (Kp.set (hs5 _ _ hfo4) rfl), ?_, _, rfl⟩
      · rw [List.length_map, List.length_map, List.length_append]
        exact Nat.le_trans (show _ ≤ 2000 by omega) (by decide)
      · rw [upd_same, take_flat (f := bnd 7) hqi, ← List.map_append, List.append_assoc]
    · rintro σ' H4 ⟨hs4, hk4, hfo4, r⟩
      rw [hE.len, List.take_length] at hfo4
      exact ⟨hs4, hfo4, r⟩
  rintro _ H3 ⟨hs3, hfo3, v2, rfl⟩
  exact ⟨_, rfl, kk fo H3 hs3 hfo hfo3⟩
theorem scCs : FnScope ["step", "part"] ["step"] (defScope sCkStep) := ⟨rfl, rfl, rfl, by decide +kernel, rfl, by decide +kernel, by decide +kernel⟩
theorem ok_ckstep {f fF fN fT fO fP fC dS : Addr} {fd fdF fdN fdT fdO fdP fdC : FuncData} (F : Fun K "check_step" "check_step" sCkStep f fd) (T : Txt K mg)
    (FF : Fun K "is_filled" "is_filled" sFilled fF fdF) (GF : FnOk P w K mg base CX0 1 fF fdF ["thing"] spFilled) (bF : Binds K fdF ["thing"] []) (mF : mg "is_filled" = some (.ref fF))
    (TT : Tab K w dS szS) (mT : mg "STEP_SIZES" = some (.ref dS))
    (FN : Fun K "check_name" "check_name" sCkName fN fdN) (GN : FnOk P w K mg base CX0 1 fN fdN ["name"] spCkName) (bN : Binds K fdN ["name"] []) (mN : mg "check_name" = some (.ref fN))
    (FT : Fun K "check_term" "check_term" sCkTerm fT fdT) (GT : FnOk P w K mg base CX0 7 fT fdT ["term"] (spCkTerm 7)) (bT : Binds K fdT ["term"] []) (mTm : mg "check_term" = some (.ref fT))
    (FO : Fun K "check_optional_name" "check_optional_name" sCkOpt fO fdO) (GO : FnOk P w K mg base CX0 2 fO fdO ["name"] spCkOpt) (bO : Binds K fdO ["name"] []) (mO : mg "check_optional_name" = some (.ref fO))
    (FP : Fun K "parts_of_step" "parts_of_step" sPoS fP fdP) (GP : FnOk P w K mg base CX0 1 fP fdP ["step"] spPoS) (bP : Binds K fdP ["step"] []) (mP : mg "parts_of_step" = some (.ref fP))
    (FC : Fun K "check_part" "check_part" sCkPart fC fdC) (GC : FnOk P w K mg base CX0 24 fC fdC ["part"] (spCkPart 24)) (bC : Binds K fdC ["part"] []) (mC : mg "check_part" = some (.ref fC)) : FnOk P w K mg base CX0 25 f fd ["step"] spCkStep := by
  refine F.ok scCs (fun vs H Q E h => ?_) (fun cdv A outer s H vs Q E hr h => ?_)
  · obtain ⟨v, d, rfl, _⟩ := h
    rfl
  obtain ⟨v, d, rfl, hR, hd, kk⟩ := h
  obtain ⟨es, n, KD⟩ := TT.kd
  have hr1 : Room 1 (A.deeper (envOfC "check_step" (defScope sCkStep) s.heap.objs.size f cdv)) := hr.mono (by decide)
  have hr2 : Room 2 (A.deeper (envOfC "check_step" (defScope sCkStep) s.heap.objs.size f cdv)) := hr.mono (by decide)
  have hr7 : Room 7 (A.deeper (envOfC "check_step" (defScope sCkStep) s.heap.objs.size f cdv)) := hr.mono (by decide)
  refine ⟨_, pss_cons (ps_if (PW.pt (pw_or (pt_not (pt_val (pe_call GF hr1 rfl mF FF.kp bF .nil pass0 (pa_cons (pv 0) pa_nil)))) (pw_or1 (pt_cmpR op_ne (pe_kget KD (pe_glob (v := .ref dS) rfl mT rfl) (pe_ix ix_tup (pv 0) pe_int (fun _ _ => rfl)) ⟨rfl, rfl, rfl, rfl⟩) (pe_callB call_len_seq (by rfl) T.len PySem.boot_len (pa_cons (pv 0) pa_nil)) (nomark _))))) pss_never pss_nil)
    (pss_cons (ps_if (pt_cmpR op_eq (pe_ix ix_tup (pv 0) pe_int (fun _ _ => rfl)) pe_str (nomark _))
      (pss_cons (ps_expr (pe_call GN hr1 rfl mN FN.kp bN .nil pass0 (pa_cons (pe_ix ix_tup (pv 0) pe_int (fun _ _ => rfl)) pa_nil)))
      (pss_cons (ps_expr (pe_call GT hr7 rfl mTm FT.kp bT .nil pass0 (pa_cons (pe_ix ix_tup (pv 0) pe_int (fun _ _ => rfl)) pa_nil)))
      (pss_one ps_retN))) pss_nil)
    (pss_cons (ps_expr (pe_call GO hr2 rfl mO FO.kp bO .nil pass0 (pa_cons (pe_ix ix_tup (pv 0) pe_int (fun _ _ => rfl)) pa_nil)))
    (pss_one (ps_for PassesOwn.never rfl (pi_list (pe_call GP hr1 rfl mP FP.kp bP .nil pass0 (pa_cons (pv 0) pa_nil))) (pg_name (i := 1) scCs.nd rfl (Or.inl rfl)) (pss_one (ps_expr (pe_call GC hr rfl mC FC.kp bC .nil pass0 (pa_cons (pv 1) pa_nil)))))))), ?_⟩
  have a0 : ∀ {s : String} {ys : List V}, atI (V.str (Str.ofString s) :: ys) 0 = some (.str (Str.ofString s)) := atI_nat (j := 0) rfl
  have deq : ∀ {y z : String}, Str.ofString y ≠ Str.ofString z → decide (V.str (Str.ofString y) = V.str (Str.ofString z)) = false := fun h => decide_eq_false fun q => h (V.str.inj q)
  have head : ∀ (s0 : String) (r x : D), (s0, (3 : Int)) ∈ szS → d = .tup [S s0, r, x] → ∃ (a : Addr) (y1 y2 : V), v = .ref a ∧ H a = some (.tup [.str (Str.ofString s0), y1, y2]) ∧ RW H r y1 ∧ RW H x y2 ∧ ∃ u0, PySem.W.nsIn K dS (Str.ofString s0) = some (some u0) ∧ RelV (.int 3) u0 := fun s0 r x hs e => by
    rw [e] at hR
    obtain ⟨a, ys, rfl, ha, hys⟩ := hR.head
    obtain ⟨y1, ys1, rfl, hy1, y2, ys2, rfl, hy2, hnil⟩ := hys
    obtain rfl : ys2 = [] := hnil
    obtain ⟨u0, h1, h2⟩ := TT.at_ _ hs
    exact ⟨a, y1, y2, rfl, ha, hy1, hy2, u0, h1, h2⟩
  rcases hd.three with ⟨z, t, e, hz, ht⟩ | ⟨s0, r, x, hs0, e, ho, _, _, _, hq⟩
  · obtain ⟨a, y1, y2, rfl, ha, hy1, hy2, u0, hu, hrel⟩ := head "set" _ _ (by decide) e
    obtain rfl : y1 = .str z := hy1.1
    have sq := SqT.of (K := K) ha
    refine ⟨_, rfl, .ref a, S "set", _, rfl, by rw [e] at hR; exact hR, _, rfl, iteF ⟨rfl, _, rfl, a, _, 0, _, rfl, rfl, sq, a0, _, u0, _, rfl, hu, hrel, _, rfl, a, _, rfl, .inr sq, rfl, _, rfl, ?_⟩⟩
    refine ifF (show (!decide (V.int 3 = V.int ((3 : Nat) : Int))) = false by decide +kernel) ?_
    refine ⟨_, rfl, a, _, 0, _, rfl, rfl, sq, a0, rfl, _, rfl, ifT (decide_eq_true rfl) ?_⟩
    refine ⟨_, rfl, a, _, 1, _, rfl, rfl, sq, at3_1, z, rfl, hz, fun H1 hs1 => ?_⟩
    exact ⟨_, rfl, a, _, 2, _, rfl, rfl, SqT.of (hs1 _ _ ha), at3_2, y2, t, 5, rfl, hy2.same hs1, ht, by decide, fun H2 hs2 => kk H2 (hs1.trans hs2)⟩
  · obtain ⟨a, y1, y2, rfl, ha, hy1, hy2, u0, hu, hrel⟩ := head s0 r x (by rcases hs0 with rfl | rfl <;> decide) e
    have sq := SqT.of (K := K) ha
    refine ⟨_, rfl, .ref a, S s0, _, rfl, by rw [e] at hR; exact hR, _, rfl, iteF ⟨rfl, _, rfl, a, _, 0, _, rfl, rfl, sq, a0, _, u0, _, rfl, hu, hrel, _, rfl, a, _, rfl, .inr sq, rfl, _, rfl, ?_⟩⟩
    refine ifF (show (!decide (V.int 3 = V.int ((3 : Nat) : Int))) = false by decide +kernel) ?_
    refine ⟨_, rfl, a, _, 0, _, rfl, rfl, sq, a0, rfl, _, rfl, ifF (by rcases hs0 with rfl | rfl <;> exact deq (by decide)) ?_⟩
    obtain ⟨w0, rfl⟩ : ∃ w0, r = .leaf w0 := by
      rcases ho with rfl | ⟨z, _, rfl⟩
      · exact ⟨_, rfl⟩
      · exact ⟨_, rfl⟩
    obtain rfl : y1 = w0 := hy1.1
    refine ⟨_, rfl, a, _, 1, _, rfl, rfl, sq, at3_1, y1, rfl, ho, fun H1 hs1 => ?_⟩
    refine ⟨_, rfl, .ref a, d, H, rfl, hR, hs1, hd, fun lE xs H2 hs2 _ hlE hE => ⟨lE, rfl, ⟨_, SqL.of hlE⟩, ?_⟩⟩
    refine for_list (K := K) (a := lE) (xs := xs) (fun i σ' H' => Same H2 H' ∧ ∃ v1, σ' = [some (.ref a), v1]) ⟨Same.refl _, none, rfl⟩ (fun i σ' H' _ ⟨h, _⟩ => SqL.of (h _ _ hlE)) ?_ ?_
    · rintro i y σ' H3 hi ⟨hs3, v1, rfl⟩
      obtain ⟨q, hqi, hrw⟩ := hE.item hi
      exact ⟨_, rfl, y, q, 7, rfl, hrw.same ((hs1.trans hs2).trans hs3), hq q (List.mem_of_getElem? hqi), by decide, fun H4 hs4 => ⟨hs3.trans hs4, _, rfl⟩⟩
    · rintro σ' H3 ⟨hs3, _⟩
      exact kk H3 ((hs1.trans hs2).trans hs3)
end
end K02
set_option Elab.async false
set_option linter.all false
set_option maxRecDepth 100000
set_option maxHeartbeats 4000000
namespace K02
open PySem L2 PyProof.Rows
abbrev sInit : Stmt := inClass sPattern 0
abbrev sGPart : Stmt := inClass sPattern 1
abbrev sGOrd : Stmt := inClass sPattern 2
abbrev sGLck : Stmt := inClass sPattern 3
abbrev sMNames : Stmt := inClass sPattern 4
abbrev sMWith : Stmt := inClass sPattern 5
abbrev sMWout : Stmt := inClass sPattern 6
abbrev sMExch : Stmt := inClass sPattern 7
abbrev sMLen : Stmt := inClass sPattern 8
/-! ### depth -/
theorem Fits.succ {c : Nat} : ∀ {n : Nat} {d : D}, Fits c n d → Fits c (n + 1) d
  | 0, d, h => by
    obtain ⟨v, rfl⟩ := h
    trivial
  | n + 1, .leaf _, _ => trivial
  | n + 1, .lst ds, h => ⟨h.1, fun e m => (h.2 e m).succ⟩
  | n + 1, .tup ds, h => ⟨h.1, fun e m => (h.2 e m).succ⟩
theorem Fits.le {c n m : Nat} {d : D} (h : Fits c n d) (hm : n ≤ m) : Fits c m d := by
  induction hm with
  | refl => exact h
  | step _ ih => exact ih.succ
theorem fits_tup {c n : Nat} {ds : List D} (h1 : ds.length ≤ c) (h2 : ∀ d ∈ ds, Fits c n d) : Fits c (n + 1) (.tup ds) := ⟨h1, h2⟩
theorem fits_lst {c n : Nat} {ds : List D} (h1 : ds.length ≤ c) (h2 : ∀ d ∈ ds, Fits c n d) : Fits c (n + 1) (.lst ds) := ⟨h1, h2⟩
theorem TmOk.fits : ∀ {n : Nat} {d : D}, TmOk n d → Fits 1000 (2 * n) d
  | 0, _, h => h.elim
  | n + 1, d, h => by
    rcases h with ⟨i, _, rfl⟩ | ⟨z, _, rfl⟩ | ⟨z, ts, _, rfl, hl, ht⟩
    · refine fits_tup (by show 2 ≤ 1000; decide) fun e he => ?_
      simp at he
      rcases he with rfl | rfl <;> exact Fits.leaf
    · refine fits_tup (by show 2 ≤ 1000; decide) fun e he => ?_
      simp at he
      rcases he with rfl | rfl <;> exact Fits.leaf
    · refine fits_tup (n := 2 * n + 1) (by show 3 ≤ 1000; decide) fun e he => ?_
      simp at he
      rcases he with rfl | rfl | rfl
      · exact Fits.leaf
      · exact Fits.leaf
      · exact fits_lst (by omega) fun t m => (ht t m).fits
theorem Df.fits {d : D} (h : Df d) : Fits 1000 10 d := by
  rcases h with rfl | h
  · exact Fits.leaf
  · exact h.fits
theorem Opt.fits {d : D} {n : Nat} (h : Opt d) : Fits 1000 n d := by
  rcases h with rfl | ⟨z, _, rfl⟩ <;> exact Fits.leaf
theorem PtOk.fits : ∀ {n : Nat} {d : D}, PtOk n d → Fits 1000 (3 * n + 10) d
  | 0, _, h => h.elim
  | n + 1, d, h => by
    rcases h with rfl | ⟨z, _, rfl⟩ | ⟨row, qs, r, rfl, hr, hl, hq, hf⟩
    · refine fits_tup (n := 3 * n + 12) (by show 1 ≤ 1000; decide) fun e he => ?_
      simp at he
      rcases he with rfl
      exact Fits.leaf
    · refine fits_tup (n := 3 * n + 12) (by show 2 ≤ 1000; decide) fun e he => ?_
      simp at he
      rcases he with rfl | rfl <;> exact Fits.leaf
    · refine fits_tup (n := 3 * n + 12) (by show 3 ≤ 1000; decide) fun e he => ?_
      have he' : e = S (if row = true then "row" else "record") ∨ e = .lst (qs.map (ent row)) ∨ e = r := by
        rcases List.mem_cons.mp he with z | z
        · exact .inl z
        · rcases List.mem_cons.mp z with z | z
          · exact .inr (.inl z)
          · exact .inr (.inr (List.mem_singleton.mp z))
      rcases he' with rfl | rfl | rfl
      · exact Fits.leaf
      · refine fits_lst (n := 3 * n + 11) (by rw [List.length_map]; omega) fun t m => ?_
        obtain ⟨q, hm, rfl⟩ := List.mem_map.mp m
        obtain ⟨h1, h2⟩ := hq q hm
        have p1 : Fits 1000 (3 * n + 10) q.2.1 := h1.fits
        have p2 : Fits 1000 (3 * n + 10) q.2.2 := h2.fits.le (by omega)
        cases row
        · refine fits_tup (n := 3 * n + 10) (by show 3 ≤ 1000; decide) fun e he => ?_
          simp at he
          rcases he with rfl | rfl | rfl
          · exact Fits.leaf
          · exact p1
          · exact p2
        · refine fits_tup (n := 3 * n + 10) (by show 2 ≤ 1000; decide) fun e he => ?_
          simp at he
          rcases he with rfl | rfl
          · exact p1
          · exact p2
      · exact hr.fits
theorem StOk.fits {d : D} (h : StOk d) : Fits 1000 33 d := by
  have three : ∀ (s : String) (r x : D), Fits 1000 32 r → Fits 1000 32 x → Fits 1000 33 (.tup [S s, r, x]) := fun s r x h1 h2 => by
    refine fits_tup (n := 32) (by show 3 ≤ 1000; decide) fun e he => ?_
    simp at he
    rcases he with rfl | rfl | rfl
    · exact Fits.leaf
    · exact h1
    · exact h2
  rcases h with ⟨z, t, _, ht, rfl⟩ | ⟨r, q, hr, hq, rfl⟩ | ⟨r, qs, hr, hl, hq, rfl⟩
  · exact three _ _ _ Fits.leaf (ht.fits.le (by decide))
  · exact three _ _ _ hr.fits (hq.fits.le (by decide))
  · exact three _ _ _ hr.fits (fits_lst (by omega) fun q m => (hq q m).fits)
structure PrOk (ds : List D) : Prop where
  len : ds.length ≤ 30
  st : ∀ d ∈ ds, StOk d
theorem PrOk.fits {ds : List D} (h : PrOk ds) : Fits 1000 34 (.lst ds) := fits_lst (by have := h.len; omega) fun d m => (h.st d m).fits
theorem PgN.ok {N : List Str} {ds : List D} (h : PgN N ds) : PrOk ds := ⟨by have := h.len; omega, h.st⟩
/-! ### a pattern in the heap -/
/-- lists and tuples stand -/
def LT1 (H H1 : Hp) : Prop := ∀ b xs, (H b = some (.lst xs) → H1 b = some (.lst xs)) ∧ (H b = some (.tup xs) → H1 b = some (.tup xs))
theorem LT1.ins {H H1 : Hp} {x C dx : Addr} {fs : List (Str × V)} (hx : H x = some (.ins C dx fs)) (b : But x H H1) : LT1 H H1 := fun c xs => by
  have n : ∀ {o}, H c = some o → (∀ C dx fs, o ≠ HO.ins C dx fs) → c ≠ x := fun e q z => by
    rw [z, hx] at e
    exact q _ _ _ (Option.some.inj e).symm
  exact ⟨fun e => b c _ (n e fun _ _ _ z => nomatch z) e, fun e => b c _ (n e fun _ _ _ z => nomatch z) e⟩
mutual
theorem Rep.lt {H H1 : Hp} (k : LT1 H H1) : ∀ {d : D} {v : V} {F : List Addr}, Rep H d v F → Rep H1 d v F
  | .leaf w, u, F, h => h
  | .lst ds, u, F, h => by
    obtain ⟨a, xs, G, e, ha, hr, hn, rfl⟩ := h
    exact ⟨a, xs, G, e, (k a xs).1 ha, Reps.lt k hr, hn, rfl⟩
  | .tup ds, u, F, h => by
    obtain ⟨a, xs, e, ha, hr⟩ := h
    exact ⟨a, xs, e, (k a xs).2 ha, Reps.lt k hr⟩
theorem Reps.lt {H H1 : Hp} (k : LT1 H H1) : ∀ {ds : List D} {xs : List V} {F : List Addr}, Reps H ds xs F → Reps H1 ds xs F
  | [], xs, F, h => h
  | d :: ds, xs, F, h => by
    obtain ⟨x, ys, F1, F2, e, h1, h2, hd, rfl⟩ := h
    exact ⟨x, ys, F1, F2, e, Rep.lt k h1, Reps.lt k h2, hd, rfl⟩
end
theorem po_ : ¬ (("_steps" : Str) = "_order") := by decide +kernel
theorem pl_ : ¬ (("_steps" : Str) = "_lacks") := by decide +kernel
theorem ol_ : ¬ (("_order" : Str) = "_lacks") := by decide +kernel
def pfs (v : V) (r s : Str) : List (Str × V) := putF "_lacks" (.str s) (putF "_order" (.str r) (putF "_steps" v []))
theorem pfs_part (v : V) (r s : Str) : (pfs v r s).lookup ("_steps" : Str) = some v := by
  unfold pfs
  rw [lookup_putF, if_neg pl_, lookup_putF, if_neg po_, lookup_putF, if_pos rfl]
theorem pfs_order (v : V) (r s : Str) : (pfs v r s).lookup ("_order" : Str) = some (.str r) := by
  unfold pfs
  rw [lookup_putF, if_neg ol_, lookup_putF, if_pos rfl]
theorem pfs_lacks (v : V) (r s : Str) : (pfs v r s).lookup ("_lacks" : Str) = some (.str s) := by
  unfold pfs
  rw [lookup_putF, if_pos rfl]
def PatAt (C : Addr) (H : Hp) (o : Addr) (d : D) (r s : Str) (G : List Addr) : Prop := ∃ dx v, H o = some (.ins C dx (pfs v r s)) ∧ Rep H d v G
structure PCls (K : PySem.W.Frag) (C : Addr) : Prop where
  cl : Cls K C
  nP : NoAttr K C "_steps"
  nO : NoAttr K C "_order"
  nL : NoAttr K C "_lacks"
def spInit (C : Addr) : Sp := fun vs H Q _ => ∃ (x dx : Addr) (v : V) (r s : Str) (ds : List D), vs = [.ref x, v, .str r, .str s] ∧ H x = some (.ins C dx []) ∧ RW H (.lst ds) v ∧ PrOk ds ∧ okOrd r ∧ okLck s ∧
  ∀ u H' G, But x H H' → H' x = some (.ins C dx (pfs u r s)) → Rep H' (.lst ds) u G → (∀ a ∈ G, H a = none) → Q .non H'
def spGPart (C : Addr) : Sp := fun vs H Q _ => ∃ (o : Addr) (d : D) (r s : Str) (G : List Addr), vs = [.ref o] ∧ PatAt C H o d r s G ∧ Fits 1000 34 d ∧ ∀ u H' G', Same H H' → Rep H' d u G' → (∀ a ∈ G', H a = none) → Q u H'
def spGOrd (C : Addr) : Sp := fun vs H Q _ => ∃ (o : Addr) (d : D) (r s : Str) (G : List Addr), vs = [.ref o] ∧ PatAt C H o d r s G ∧ Q (.str r) H
def spGLck (C : Addr) : Sp := fun vs H Q _ => ∃ (o : Addr) (d : D) (r s : Str) (G : List Addr), vs = [.ref o] ∧ PatAt C H o d r s G ∧ Q (.str s) H
def spMNames (C : Addr) : Sp := fun vs H Q _ => ∃ (o : Addr) (ds : List D) (r s : Str) (G : List Addr) (N : List Str), vs = [.ref o] ∧ PatAt C H o (.lst ds) r s G ∧ PgN N ds ∧
  ∀ (l : Addr) (ys : List Str) H', Same H H' → H l = none → H' l = some (.lst (ys.map V.str)) → ys.Perm (TxSet.dd (ds.flatMap stNames)) → sortedS ys = true → Q (.ref l) H'
def spMLen (C : Addr) : Sp := fun vs H Q _ => ∃ (o : Addr) (ds : List D) (r s : Str) (G : List Addr), vs = [.ref o] ∧ PatAt C H o (.lst ds) r s G ∧ Q (.int ((ds.length : Nat) : Int)) H
def spMWith (C : Addr) : Sp := fun vs H Q _ => ∃ (o : Addr) (ds : List D) (r s r' : Str) (G : List Addr), vs = [.ref o, .str r'] ∧ PatAt C H o (.lst ds) r s G ∧ PrOk ds ∧ okOrd r' ∧ okLck s ∧
  ∀ o' H' G', Same H H' → H o' = none → PatAt C H' o' (.lst ds) r' s G' → (∀ a ∈ G', H a = none) → Q (.ref o') H'
/-- without a step; with two exchanged -/
def spMWout (C : Addr) : Sp := fun vs H Q _ => ∃ (o : Addr) (ds : List D) (r s : Str) (G : List Addr) (i : Nat), vs = [.ref o, .int (i : Int)] ∧ PatAt C H o (.lst ds) r s G ∧ PrOk ds ∧ okOrd r ∧ okLck s ∧ i < ds.length ∧
  ∀ o' H' G', Same H H' → H o' = none → PatAt C H' o' (.lst (ds.take i ++ ds.drop (i + 1))) r s G' → (∀ a ∈ G', H a = none) → Q (.ref o') H'
def exch (ds : List D) (i : Nat) : List D := (ds.set i (ds.getD (i + 1) (.leaf .non))).set (i + 1) (ds.getD i (.leaf .non))
def spMExch (C : Addr) : Sp := fun vs H Q _ => ∃ (o : Addr) (ds : List D) (r s : Str) (G : List Addr) (i : Nat), vs = [.ref o, .int (i : Int)] ∧ PatAt C H o (.lst ds) r s G ∧ PrOk ds ∧ okOrd r ∧ okLck s ∧ i + 1 < ds.length ∧
  ∀ o' H' G', Same H H' → H o' = none → PatAt C H' o' (.lst (exch ds i)) r s G' → (∀ a ∈ G', H a = none) → Q (.ref o') H'
/-- a new instance's heap -/
theorem same_ins {H : Hp} {x dx C : Addr} (hx : H x = none) (hdx : H dx = none) : Same H (upd (upd H dx (.own x)) x (.ins C dx [])) := fun b o e => by
  rw [upd_ne (ne_of_none e hx), upd_ne (ne_of_none e hdx)]
  exact e
theorem But.same {x : Addr} {H H1 H2 : Hp} (s : Same H H1) (b : But x H1 H2) (hx : H x = none) : Same H H2 := fun c o e => b c o (fun z => by
  rw [z, hx] at e
  cases e) (s c o e)
/-! ### walks of a set's two clauses -/
section
variable {w : World} {K : PySem.W.Frag} {g1 : TG} {te : TE} {vs1 : List Nat}
theorem sc2_list {g : TG} {wi1 : TI} {vs : List Nat} {σ : L2.St} {H1 : Hp} {S a : Addr} {xs : List V} {Qd : Hp → Prop} (Pv : Nat → Hp → Prop) (h0 : Pv 0 (upd H1 S (TxSet.SetTO w S []))) (hl : ∀ i H, i ≤ xs.length → Pv i H → SqL K H a xs)
    (hs : ∀ i x H, xs[i]? = some x → Pv i H → g x (wipe σ vs) H fun σ2 H2 => wipe σ2 vs = wipe σ vs ∧ wi1 σ2 H2 fun B1 H4 => ∃ V1 : Nat → Nat → Hp → Prop, (∃ m, V1 0 m H4) ∧ ∀ j k H, V1 j k H →
      (B1.stop j H ∧ Pv (i + 1) H) ∨ (B1.go j H ∧ ∃ Ny : Hp → Prop, (∀ H', Ny H' → ∃ k', k' < k ∧ V1 (j + 1) k' H') ∧ ∀ x H', B1.yld j H x H' → g1 x (wipe σ2 vs1) H' fun σ3 H5 => wipe σ3 vs1 = wipe σ2 vs1 ∧
        te σ3 H5 fun y H7 => ∃ (k : Str) (L : List Str), y = .str k ∧ H7 S = some (TxSet.SetTO w S L) ∧ L.length + 1 < scanBound ∧ Ny (upd H7 S (TxSet.SetTO w S (TxSet.ins L k))))) (hd : ∀ H, Pv xs.length H → Qd H) :
    ∃ W : Nat → Nat → Hp → Prop, (∃ m, W 0 m (upd H1 S (TxSet.SetTO w S []))) ∧ ∀ i m H, W i m H →
      ((Itl K a).stop i H ∧ Qd H) ∨ ((Itl K a).go i H ∧ ∃ Nx : Hp → Prop, (∀ H', Nx H' → ∃ m', m' < m ∧ W (i + 1) m' H') ∧ ∀ x H', (Itl K a).yld i H x H' → g x (wipe σ vs) H' fun σ2 H2 => wipe σ2 vs = wipe σ vs ∧
        wi1 σ2 H2 fun B1 H4 => ∃ V1 : Nat → Nat → Hp → Prop, (∃ m, V1 0 m H4) ∧ ∀ j k H, V1 j k H →
          (B1.stop j H ∧ Nx H) ∨ (B1.go j H ∧ ∃ Ny : Hp → Prop, (∀ H', Ny H' → ∃ k', k' < k ∧ V1 (j + 1) k' H') ∧ ∀ x H', B1.yld j H x H' → g1 x (wipe σ2 vs1) H' fun σ3 H5 => wipe σ3 vs1 = wipe σ2 vs1 ∧
            te σ3 H5 fun y H7 => ∃ (k : Str) (L : List Str), y = .str k ∧ H7 S = some (TxSet.SetTO w S L) ∧ L.length + 1 < scanBound ∧ Ny (upd H7 S (TxSet.SetTO w S (TxSet.ins L k))))) := by
  refine ⟨fun i m H => m = xs.length - i ∧ i ≤ xs.length ∧ Pv i H, ⟨xs.length, by simp, Nat.zero_le _, h0⟩, ?_⟩
  rintro i m H ⟨rfl, hi, p⟩
  have q := hl i H hi p
  by_cases hlt : i < xs.length
  · refine .inr ⟨⟨xs, xs[i], q, by simp [hlt]⟩, Pv (i + 1), fun H' p' => ⟨xs.length - (i + 1), by omega, rfl, hlt, p'⟩, fun x H' y => ?_⟩
    obtain ⟨e, y⟩ := y
    subst e
    exact hs i x _ (y xs q) p
  · have e : i = xs.length := by omega
    subst e
    exact .inl ⟨⟨xs, q, Nat.le_refl _⟩, hd H p⟩
theorem sc2_in {σ2 : L2.St} {H4 : Hp} {S b : Addr} {zs : List V} {Qd : Hp → Prop} (Pv : Nat → Hp → Prop) (h0 : Pv 0 H4) (hl : ∀ i H, i ≤ zs.length → Pv i H → SqL K H b zs)
    (hs : ∀ j x H, zs[j]? = some x → Pv j H → g1 x (wipe σ2 vs1) H fun σ3 H5 => wipe σ3 vs1 = wipe σ2 vs1 ∧
        te σ3 H5 fun y H7 => ∃ (k : Str) (L : List Str), y = .str k ∧ H7 S = some (TxSet.SetTO w S L) ∧ L.length + 1 < scanBound ∧ Pv (j + 1) (upd H7 S (TxSet.SetTO w S (TxSet.ins L k)))) (hd : ∀ H, Pv zs.length H → Qd H) :
    ∃ V1 : Nat → Nat → Hp → Prop, (∃ m, V1 0 m H4) ∧ ∀ j k H, V1 j k H →
      ((Itl K b).stop j H ∧ Qd H) ∨ ((Itl K b).go j H ∧ ∃ Ny : Hp → Prop, (∀ H', Ny H' → ∃ k', k' < k ∧ V1 (j + 1) k' H') ∧ ∀ x H', (Itl K b).yld j H x H' → g1 x (wipe σ2 vs1) H' fun σ3 H5 => wipe σ3 vs1 = wipe σ2 vs1 ∧
        te σ3 H5 fun y H7 => ∃ (k : Str) (L : List Str), y = .str k ∧ H7 S = some (TxSet.SetTO w S L) ∧ L.length + 1 < scanBound ∧ Ny (upd H7 S (TxSet.SetTO w S (TxSet.ins L k)))) := by
  refine ⟨fun i m H => m = zs.length - i ∧ i ≤ zs.length ∧ Pv i H, ⟨zs.length, by simp, Nat.zero_le _, h0⟩, ?_⟩
  rintro i m H ⟨rfl, hi, p⟩
  have q := hl i H hi p
  by_cases hlt : i < zs.length
  · refine .inr ⟨⟨zs, zs[i], q, by simp [hlt]⟩, Pv (i + 1), fun H' p' => ⟨zs.length - (i + 1), by omega, rfl, hlt, p'⟩, fun x H' y => ?_⟩
    obtain ⟨e, y⟩ := y
    subst e
    exact hs i x _ (y zs q) p
  · have e : i = zs.length := by omega
    subst e
    exact .inl ⟨⟨zs, q, Nat.le_refl _⟩, hd H p⟩
end
/-- among few names: few -/
theorem few_in : ∀ (N L : List Str), L.Nodup → (∀ z ∈ L, z ∈ N) → L.length ≤ N.length
  | N, [], _, _ => Nat.zero_le _
  | N, z :: L, hn, h => by
    obtain ⟨h1, h2⟩ := List.nodup_cons.mp hn
    have hz := h z List.mem_cons_self
    have k := few_in (N.erase z) L h2 fun y hy => (List.mem_erase_of_ne (fun e => h1 (by rw [← e]; exact hy))).mpr (h y (List.mem_cons_of_mem _ hy))
    have e := List.length_erase_of_mem hz
    have p := List.length_pos_of_mem hz
    rw [List.length_cons]
    omega
theorem dd_few {N xs : List Str} (h : ∀ z ∈ xs, z ∈ N) : (TxSet.dd xs).length ≤ N.length := few_in _ _ (TxSet.dd_nodup xs) fun z hz => h z ((TxSet.dd_mem xs z).mp hz)
theorem tot_one {ds : List D} {d : D} (h : d ∈ ds) : ((stParts d).flatMap (pre 7)).length ≤ stTot ds := by
  unfold stTot
  obtain ⟨s, t, rfl⟩ := List.append_of_mem h
  rw [List.flatMap_append, List.flatMap_cons, List.flatMap_append, List.flatMap_append, List.length_append, List.length_append]
  omega
theorem names_nm {N : List Str} {ds : List D} (h : PgN N ds) : ∀ z ∈ ds.flatMap stNames, z ∈ N := fun z hz => by
  obtain ⟨d, hd, hz⟩ := List.mem_flatMap.mp hz
  exact h.nm d hd z hz
theorem dd_app (xs ys : List Str) : TxSet.dd (xs ++ ys) = ys.foldl TxSet.ins (TxSet.dd xs) := by
  unfold TxSet.dd
  rw [List.foldl_append]
section
variable {P : Program} {w : World} {K : PySem.W.Frag} {mg : Str → Option Value} {base : Heap}
theorem scIn : FnScope ["self", "steps", "order", "lacks", "step"] ["self", "steps", "order", "lacks"] (defScope sInit) := ⟨rfl, rfl, rfl, by decide +kernel, rfl, by decide +kernel, by decide +kernel⟩
theorem ok_init {f C fP fU fF : Addr} {fd fdP fdU fdF : FuncData} (F : Fun K "__init__" "Program.__init__" sInit f fd) (CC : PCls K C)
    (FP : Fun K "check_step" "check_step" sCkStep fP fdP) (GP : FnOk P w K mg base CX0 25 fP fdP ["step"] spCkStep) (bP : Binds K fdP ["step"] []) (mP : mg "check_step" = some (.ref fP))
    (FU : Fun K "check_rules" "check_rules" sCkRules fU fdU) (GU : FnOk P w K mg base CX0 1 fU fdU ["order", "lacks"] spCkRules) (bU : Binds K fdU ["order", "lacks"] []) (mU : mg "check_rules" = some (.ref fU))
    (FF : Fun K "fresh" "fresh" sFresh fF fdF) (GF : FnOk P w K mg base CX0 40 fF fdF ["thing"] (spCopy 40)) (bF : Binds K fdF ["thing"] []) (mF : mg "fresh" = some (.ref fF)) : FnOk P w K mg base CX0 41 f fd ["self", "steps", "order", "lacks"] (spInit C) := by
  refine F.ok scIn (fun vs H Q E h => ?_) (fun cdv A outer s H vs Q E hr h => ?_)
  · obtain ⟨x, dx, v, r, s, d, rfl, _⟩ := h
    rfl
  obtain ⟨x, dx, v, r, s, ds, rfl, hx, hR, hT, ho, hc, kk⟩ := h
  have hr1 := hr.mono (show 1 ≤ 40 by decide)
  have hr25 := hr.mono (show 25 ≤ 40 by decide)
  refine ⟨_, pss_cons (ps_for PassesOwn.never rfl (pi_list (pv 1)) (pg_name (i := 4) scIn.nd rfl (Or.inl rfl)) (pss_one (ps_expr (pe_call GP hr25 rfl mP FP.kp bP .nil pass0 (pa_cons (pv 4) pa_nil)))))
    (pss_cons (ps_expr (pe_call GU hr1 rfl mU FU.kp bU .nil pass0 (pa_cons (pv 2) (pa_cons (pv 3) pa_nil))))
    (pss_cons (ps_fld (pv 0) (pe_call GF hr rfl mF FF.kp bF .nil pass0 (pa_cons (pv 1) pa_nil)) rfl)
    (pss_cons (ps_fld (pv 0) (pv 2) rfl) (pss_one (ps_fld (pv 0) (pv 3) rfl))))), ?_⟩
  obtain ⟨l, zs, rfl, hl3, hz⟩ := id hR
  refine ⟨_, rfl, l, rfl, ⟨_, SqL.of hl3⟩, ?_⟩
  refine for_list (K := K) (a := l) (xs := zs) (fun i σ' H' => Same H H' ∧ ∃ v4 : Option V, σ' = [some (.ref x), some (.ref l), some (.str r), some (.str s), v4]) ⟨Same.refl _, _, rfl⟩ (fun i σ' H' _ ⟨h, _⟩ => SqL.of (h _ _ hl3)) ?_ ?_
  · rintro i x0 σ' H4 hi ⟨hs4, v4, rfl⟩
    obtain ⟨q, hqi, hrw⟩ := hz.item hi
    exact ⟨_, rfl, x0, q, rfl, hrw.same hs4, hT.st q (List.mem_of_getElem? hqi), fun H5 hs5 => ⟨hs4.trans hs5, _, rfl⟩⟩
  · rintro σ' H1 ⟨hs1, v4, rfl⟩
    refine ⟨_, rfl, _, rfl, r, s, rfl, ho, hc, fun H2 hs2 => ?_⟩
    have hs12 := hs1.trans hs2
    refine ⟨_, rfl, .ref l, .lst ds, 34, rfl, by decide, hR.same hs12, hT.fits, fun u H3 G hs3 hr3 hG => ?_⟩
    have hs123 := hs12.trans hs3
    have hx3 := hs123 _ _ hx
    refine ⟨_, rfl, x, C, dx, [], rfl, hx3, CC.cl, CC.nP, (by show 0 < 1000; decide), _, rfl, _, rfl, x, C, dx, _, rfl, upd_same, CC.cl, CC.nO, (by show 1 < 1000; decide), _, rfl, _, rfl, x, C, dx, _, rfl, upd_same, CC.cl, CC.nL, (by show 2 < 1000; decide), ?_⟩
    have hb : But x H3 (upd (upd (upd H3 x (.ins C dx (putF "_steps" u []))) x (.ins C dx (putF "_order" (.str r) (putF "_steps" u [])))) x (.ins C dx (pfs u r s))) := fun b o n e => by
      rw [upd_ne n, upd_ne n, upd_ne n]
      exact e
    exact kk u _ G ((But.of hs123).trans hb) upd_same (hr3.lt (.ins hx3 hb)) fun a ha => hs12.free (hG a ha)
theorem scGp : FnScope ["self"] ["self"] (defScope sGPart) := ⟨rfl, rfl, rfl, by decide +kernel, rfl, by decide +kernel, by decide +kernel⟩
theorem ok_gpart {f C fF : Addr} {fd fdF : FuncData} (F : Fun K "steps" "Program.steps" sGPart f fd) (CC : PCls K C)
    (FF : Fun K "fresh" "fresh" sFresh fF fdF) (GF : FnOk P w K mg base CX0 40 fF fdF ["thing"] (spCopy 40)) (bF : Binds K fdF ["thing"] []) (mF : mg "fresh" = some (.ref fF)) : FnOk P w K mg base CX0 41 f fd ["self"] (spGPart C) := by
  refine F.ok scGp (fun vs H Q E h => ?_) (fun cdv A outer s H vs Q E hr h => ?_)
  · obtain ⟨o, d, r, s, G, rfl, _⟩ := h
    rfl
  obtain ⟨o, d, r, s, G, rfl, ⟨dx, v, ho, hR⟩, hT, kk⟩ := h
  refine ⟨_, pss_one (ps_ret (pe_call GF hr rfl mF FF.kp bF .nil pass0 (pa_cons (pe_fld (pv 0) rfl) pa_nil))), ?_⟩
  exact ⟨_, rfl, o, C, dx, _, _, rfl, ho, CC.cl, CC.nP, pfs_part _ _ _, v, d, 34, rfl, by decide, hR.rw, hT, fun u H3 G3 hs3 hr3 hG => kk u H3 G3 hs3 hr3 hG⟩
theorem scGo : FnScope ["self"] ["self"] (defScope sGOrd) := ⟨rfl, rfl, rfl, by decide +kernel, rfl, by decide +kernel, by decide +kernel⟩
theorem ok_gord {f C : Addr} {fd : FuncData} (F : Fun K "order" "Program.order" sGOrd f fd) (CC : PCls K C) : FnOk P w K mg base CX0 1 f fd ["self"] (spGOrd C) := by
  refine F.ok scGo (fun vs H Q E h => ?_) (fun cdv A outer s H vs Q E hr h => ?_)
  · obtain ⟨o, d, r, s, G, rfl, _⟩ := h
    rfl
  obtain ⟨o, d, r, s, G, rfl, ⟨dx, v, ho, hR⟩, kk⟩ := h
  exact ⟨_, pss_one (ps_ret (pe_fld (pv 0) rfl)), _, rfl, o, C, dx, _, _, rfl, ho, CC.cl, CC.nO, pfs_order _ _ _, kk⟩
theorem scGl : FnScope ["self"] ["self"] (defScope sGLck) := ⟨rfl, rfl, rfl, by decide +kernel, rfl, by decide +kernel, by decide +kernel⟩
theorem ok_glck {f C : Addr} {fd : FuncData} (F : Fun K "lacks" "Program.lacks" sGLck f fd) (CC : PCls K C) : FnOk P w K mg base CX0 1 f fd ["self"] (spGLck C) := by
  refine F.ok scGl (fun vs H Q E h => ?_) (fun cdv A outer s H vs Q E hr h => ?_)
  · obtain ⟨o, d, r, s, G, rfl, _⟩ := h
    rfl
  obtain ⟨o, d, r, s, G, rfl, ⟨dx, v, ho, hR⟩, kk⟩ := h
  exact ⟨_, pss_one (ps_ret (pe_fld (pv 0) rfl)), _, rfl, o, C, dx, _, _, rfl, ho, CC.cl, CC.nL, pfs_lacks _ _ _, kk⟩
theorem scMn : FnScope ["self", "step", "name"] ["self"] (defScope sMNames) := ⟨rfl, rfl, rfl, by decide +kernel, rfl, by decide +kernel, by decide +kernel⟩
theorem ok_mnames {f C fN : Addr} {fd fdN : FuncData} (F : Fun K "names" "Program.names" sMNames f fd) (CC : PCls K C) (T : Txt K mg) (zS : mg "sorted" = none)
    (FN : Fun K "names_of_step" "names_of_step" sNoS fN fdN) (GN : FnOk P w K mg base CX0 11 fN fdN ["step"] spNoS) (bN : Binds K fdN ["step"] []) (mN : mg "names_of_step" = some (.ref fN)) : FnOk P w K mg base CX0 12 f fd ["self"] (spMNames C) := by
  refine F.ok scMn (fun vs H Q E h => ?_) (fun cdv A outer s H vs Q E hr h => ?_)
  · obtain ⟨o, ds, r, s, G, N, rfl, _⟩ := h
    rfl
  obtain ⟨o, ds, r, s, G, N, rfl, ⟨dx, v, ho, hR⟩, hT, kk⟩ := h
  refine ⟨_, pss_one (ps_ret (pe_callB (by exact TxSet.call_sortT rfl) (by rfl) zS boot_sorted (pa_cons (by exact (TxSet.pe_sc2 (wi1 := iList K (tCall spNoS [] E0 (tCons (tVar 1) tNil))) (mine := [("step", 1), ("name", 2)]) (vs1 := [2]) (g := gName 1) (g1 := gName 2) rfl scMn.nd (pi_list (pe_fld (pv 0) rfl)) (blkOk_by (N := ["self", "step", "name"]) (sc := defScope sMNames) (by decide +kernel)) (by decide) (fun _ _ _ _ _ => pg_name (i := 1) scMn.nd rfl (Or.inl rfl))
      (fun _ _ _ _ _ => pi_list (pe_call GN hr rfl mN FN.kp bN .nil pass0 (pa_cons (pv 1) pa_nil))) (fun _ _ _ _ _ => pg_name (i := 2) scMn.nd rfl (Or.inl rfl)) (fun _ _ _ _ _ => pv 2))) pa_nil))), ?_⟩
  obtain ⟨l, zs, F0, rfl, hl, hz, hnl, rfl⟩ := hR
  refine ⟨_, rfl, o, C, dx, _, _, rfl, ho, CC.cl, CC.nP, pfs_part _ _ _, l, rfl, ⟨_, SqL.of hl⟩, fun S0 hS0 => ?_⟩
  have sb : scanBound = 4096 := rfl
  have small : ∀ i, (TxSet.dd ((ds.take i).flatMap stNames)).length ≤ 26 := fun i => Nat.le_trans (dd_few (N := N) fun z hz => by
    obtain ⟨d, hd, hz⟩ := List.mem_flatMap.mp hz
    exact hT.nm d (List.mem_of_mem_take hd) z hz) hT.nl
  refine sc2_list (K := K) (a := l) (xs := zs) (fun i H' => Same H H' ∧ H' S0 = some (TxSet.SetTO w S0 (TxSet.dd ((ds.take i).flatMap stNames)))) ⟨same_new hS0 _, upd_same⟩ (fun i H' _ ⟨h, _⟩ => SqL.of (h _ _ hl)) ?_ ?_
  · rintro i x H2 hi ⟨hs2, hS2⟩
    obtain ⟨d, Gd, hd, hrd, hGd, _⟩ := hz.item hi
    have hdm := List.mem_of_getElem? hd
    refine ⟨rfl, _, rfl, x, d, rfl, hrd.rw.same hs2, hT.st d hdm, Nat.le_trans (tot_one hdm) (Nat.le_trans hT.tot (by decide)), fun l2 H3 hs3 hl20 hl2 => ⟨l2, rfl, ⟨_, SqL.of hl2⟩, ?_⟩⟩
    have n2S : l2 ≠ S0 := fun z => by
      rw [z, hS2] at hl20
      cases hl20
    refine sc2_in (K := K) (b := l2) (zs := (stNames d).map V.str) (fun j H' => Same H H' ∧ H' l2 = some (.lst ((stNames d).map V.str)) ∧ H' S0 = some (TxSet.SetTO w S0 (TxSet.dd ((ds.take i).flatMap stNames ++ (stNames d).take j)))) ⟨hs2.trans hs3, hl2, (by rw [List.take_zero, List.append_nil]; exact hs3 _ _ hS2)⟩ (fun j H' _ ⟨_, h, _⟩ => SqL.of h) ?_ ?_
    · rintro j y H4 hj ⟨hs4, hl4, hS4⟩
      rw [List.getElem?_map] at hj
      obtain ⟨z, hzj, rfl⟩ : ∃ z, (stNames d)[j]? = some z ∧ V.str z = y := by
        cases e : (stNames d)[j]? with
        | none =>
          rw [e] at hj
          cases hj
        | some z =>
          rw [e] at hj
          exact ⟨z, rfl, Option.some.inj hj⟩
      refine ⟨rfl, _, rfl, z, _, rfl, hS4, ?_, same_put hs4 hS0, (by rw [upd_ne n2S]; exact hl4), ?_⟩
      · have := dd_few (N := N) (xs := (ds.take i).flatMap stNames ++ (stNames d).take j) fun y hy => by
          rcases List.mem_append.mp hy with hy | hy
          · obtain ⟨e, he, hy⟩ := List.mem_flatMap.mp hy
            exact hT.nm e (List.mem_of_mem_take he) y hy
          · exact hT.nm d hdm y (List.mem_of_mem_take hy)
        have := hT.nl
        omega
      · rw [upd_same, List.take_add_one, hzj, ← List.append_assoc]
        show _ = some (TxSet.SetTO w S0 (TxSet.dd (((ds.take i).flatMap stNames ++ (stNames d).take j) ++ [z])))
        rw [TxSet.dd_more]
        rfl
    · rintro H4 ⟨hs4, _, hS4⟩
      rw [List.length_map, List.take_length, ← take_flat hd] at hS4
      exact ⟨hs4, hS4⟩
  · rintro H2 ⟨hs2, hS2⟩
    rw [hz.len] at hS2
    have sm := small ds.length
    rw [List.take_length] at hS2 sm
    exact ⟨S0, _, rfl, hS2, by omega, fun ys p hp hso hp0 => kk p ys _ (hs2.trans (same_new hp0 _)) (hs2.free hp0) upd_same hp hso⟩
theorem scMl : FnScope ["self"] ["self"] (defScope sMLen) := ⟨rfl, rfl, rfl, by decide +kernel, rfl, by decide +kernel, by decide +kernel⟩
theorem ok_mlen {f C : Addr} {fd : FuncData} (F : Fun K "__len__" "Program.__len__" sMLen f fd) (CC : PCls K C) (T : Txt K mg) : FnOk P w K mg base CX0 1 f fd ["self"] (spMLen C) := by
  refine F.ok scMl (fun vs H Q E h => ?_) (fun cdv A outer s H vs Q E hr h => ?_)
  · obtain ⟨o, d, r, s, G, rfl, _⟩ := h
    rfl
  obtain ⟨o, ds, r, s, G, rfl, ⟨dx, v, ho, hR⟩, kk⟩ := h
  refine ⟨_, pss_one (ps_ret (pe_callB call_len_seq (by rfl) T.len PySem.boot_len (pa_cons (pe_fld (pv 0) rfl) pa_nil))), ?_⟩
  obtain ⟨l, zs, F0, rfl, hl, hz, hnl, rfl⟩ := hR
  refine ⟨_, rfl, o, C, dx, _, _, rfl, ho, CC.cl, CC.nP, pfs_part _ _ _, l, zs, rfl, .inl (SqL.of hl), ?_⟩
  rw [hz.len]
  exact kk
theorem scMw : FnScope ["self", "order"] ["self", "order"] (defScope sMWith) := ⟨rfl, rfl, rfl, by decide +kernel, rfl, by decide +kernel, by decide +kernel⟩
theorem ok_mwith {f C fI : Addr} {fd fdI : FuncData} (F : Fun K "with_order" "Program.with_order" sMWith f fd) (CC : PCls K C) (M : Mk K C fI) (mC : mg "Program" = some (.ref C))
    (GI : FnOk P w K mg base CX0 41 fI fdI ["self", "steps", "order", "lacks"] (spInit C)) (bI : Binds K fdI ["self", "steps", "order", "lacks"] []) : FnOk P w K mg base CX0 43 f fd ["self", "order"] (spMWith C) := by
  refine F.ok scMw (fun vs H Q E h => ?_) (fun cdv A outer s H vs Q E hr h => ?_)
  · obtain ⟨o, d, r, s, r', G, rfl, _⟩ := h
    rfl
  obtain ⟨o, d, r, s, r', G, rfl, ⟨dx, v, ho, hR⟩, hT, hr', hs', kk⟩ := h
  refine ⟨_, pss_one (ps_ret (pe_make M GI hr rfl mC bI .nil pass0 (pa_cons (pe_fld (pv 0) rfl) (pa_cons (pv 1) (pa_cons (pe_fld (pv 0) rfl) pa_nil))))), ?_⟩
  refine ⟨_, rfl, o, C, dx, _, _, rfl, ho, CC.cl, CC.nP, pfs_part _ _ _, _, rfl, _, rfl, o, C, dx, _, _, rfl, ho, CC.cl, CC.nL, pfs_lacks _ _ _, ?_⟩
  intro x dx2 hx hdx hne
  have st := same_ins (C := C) hx hdx
  refine ⟨x, dx2, v, r', s, d, rfl, upd_same, hR.rw.same st, hT, hr', hs', fun u H' G' hb hx' hr2 hG => ⟨rfl, kk x H' G' (But.same st hb hx) hx ⟨dx2, u, hx', hr2⟩ fun a ha => st.free (hG a ha)⟩⟩
end
end K02
set_option Elab.async false
set_option linter.all false
set_option maxRecDepth 100000
set_option maxHeartbeats 4000000
namespace K02
open PySem L2 PyProof.Rows
theorem cutV_pre (xs : List V) (m : Nat) : cutV xs none (some (m : Int)) = xs.take m := by
  unfold cutV
  rw [HT.sIx_none, HT.sIx_nat, List.drop_zero, Nat.sub_zero]
  rcases Nat.le_total m xs.length with h | h
  · rw [Nat.min_eq_left h]
  · rw [Nat.min_eq_right h, List.take_of_length_le (Nat.le_refl _), List.take_of_length_le h]
theorem cutV_post (xs : List V) (m : Nat) : cutV xs (some (m : Int)) none = xs.drop m := by
  unfold cutV
  rw [HT.sIx_none, HT.sIx_nat]
  rcases Nat.le_total m xs.length with h | h
  · rw [Nat.min_eq_left h]
    refine List.take_of_length_le ?_
    rw [List.length_drop]
    exact Nat.le_refl _
  · rw [Nat.min_eq_right h, Nat.sub_self, List.take_zero, List.drop_of_length_le h]
theorem RWs.take {H : Hp} : ∀ {ds : List D} {xs : List V} (i : Nat), RWs H ds xs → RWs H (ds.take i) (xs.take i)
  | [], xs, i, h => by
    have e : xs = [] := h
    rw [e, List.take_nil, List.take_nil]
    rfl
  | d :: ds, xs, 0, h => rfl
  | d :: ds, xs, i + 1, h => by
    obtain ⟨x, ys, rfl, h1, h2⟩ := h
    exact ⟨x, _, rfl, h1, h2.take i⟩
theorem RWs.drop {H : Hp} : ∀ {ds : List D} {xs : List V} (i : Nat), RWs H ds xs → RWs H (ds.drop i) (xs.drop i)
  | [], xs, i, h => by
    have e : xs = [] := h
    rw [e, List.drop_nil, List.drop_nil]
    rfl
  | d :: ds, xs, 0, h => h
  | d :: ds, xs, i + 1, h => by
    obtain ⟨x, ys, rfl, h1, h2⟩ := h
    exact h2.drop i
theorem RWs.put {H : Hp} {d : D} {x : V} (hx : RW H d x) : ∀ {ds : List D} {xs : List V} (i : Nat), RWs H ds xs → RWs H (ds.set i d) (xs.set i x)
  | [], xs, i, h => by
    have e : xs = [] := h
    rw [e]
    rfl
  | e :: ds, xs, 0, h => by
    obtain ⟨y, ys, rfl, h1, h2⟩ := h
    exact ⟨x, ys, rfl, hx, h2⟩
  | e :: ds, xs, i + 1, h => by
    obtain ⟨y, ys, rfl, h1, h2⟩ := h
    exact ⟨y, _, rfl, h1, RWs.put hx i h2⟩
theorem PrOk.out {ds : List D} (h : PrOk ds) (i : Nat) : PrOk (ds.take i ++ ds.drop (i + 1)) := by
  refine ⟨?_, fun d hd => ?_⟩
  · rw [List.length_append, List.length_take, List.length_drop]
    have := h.len
    omega
  · rcases List.mem_append.mp hd with z | z
    · exact h.st d (List.mem_of_mem_take z)
    · exact h.st d (List.mem_of_mem_drop z)
theorem PrOk.exch {ds : List D} (h : PrOk ds) {i : Nat} (hi : i + 1 < ds.length) : PrOk (exch ds i) := by
  have g : ∀ j, j < ds.length → ds.getD j (.leaf .non) ∈ ds := fun j hj => by
    rw [List.getD_eq_getElem?_getD, List.getElem?_eq_getElem hj]
    exact List.getElem_mem hj
  refine ⟨?_, fun d hd => ?_⟩
  · unfold K02.exch
    rw [List.length_set, List.length_set]
    exact h.len
  · rcases List.mem_or_eq_of_mem_set hd with z | rfl
    · rcases List.mem_or_eq_of_mem_set z with z | rfl
      · exact h.st d z
      · exact h.st _ (g _ hi)
    · exact h.st _ (g _ (by omega))
section
variable {P : Program} {w : World} {K : PySem.W.Frag} {mg : Str → Option Value} {base : Heap}
theorem scMo : FnScope ["self", "index"] ["self", "index"] (defScope sMWout) := ⟨rfl, rfl, rfl, by decide +kernel, rfl, by decide +kernel, by decide +kernel⟩
theorem ok_mwout {f C fI : Addr} {fd fdI : FuncData} (F : Fun K "without" "Program.without" sMWout f fd) (CC : PCls K C) (T : Txt K mg) (M : Mk K C fI) (mC : mg "Program" = some (.ref C))
    (GI : FnOk P w K mg base CX0 41 fI fdI ["self", "steps", "order", "lacks"] (spInit C)) (bI : Binds K fdI ["self", "steps", "order", "lacks"] []) : FnOk P w K mg base CX0 43 f fd ["self", "index"] (spMWout C) := by
  refine F.ok scMo (fun vs H Q E h => ?_) (fun cdv A outer s H vs Q E hr h => ?_)
  · obtain ⟨o, d, r, s, G, i, rfl, _⟩ := h
    rfl
  obtain ⟨o, ds, r, s, G, i, rfl, ⟨dx, v, ho, hR⟩, hT, hro, hlo, hi, kk⟩ := h
  refine ⟨_, pss_cons (ps_if (pt_not (pt_chain op_le op_lt pe_int (pv 1) (pe_callB call_len_seq (by rfl) T.len PySem.boot_len (pa_cons (pe_fld (pv 0) rfl) pa_nil)))) pss_never pss_nil)
    (pss_one (ps_ret (pe_make M GI hr rfl mC bI .nil pass0 (pa_cons (pe_op op_cat (pe_slice sl_list (pe_fld (pv 0) rfl) po_none (po_some (pv 1))) (pe_slice sl_list (pe_fld (pv 0) rfl) (po_some (pe_op op_add (pv 1) pe_int)) po_none)) (pa_cons (pe_fld (pv 0) rfl) (pa_cons (pe_fld (pv 0) rfl) pa_nil)))))), ?_⟩
  obtain ⟨l, zs, F0, rfl, hl, hz, hnl, rfl⟩ := id hR
  have hlen := hz.len
  refine ⟨_, rfl, _, _, rfl, rfl, _, rfl, ?_⟩
  refine ifT (decide_eq_true (by omega)) ⟨_, rfl, o, C, dx, _, _, rfl, ho, CC.cl, CC.nP, pfs_part _ _ _, l, zs, rfl, .inl (SqL.of hl), _, _, rfl, rfl, _, rfl, ?_⟩
  refine ifF (by rw [decide_eq_true (by omega)]; rfl) ?_
  refine ⟨_, rfl, o, C, dx, _, _, rfl, ho, CC.cl, CC.nP, pfs_part _ _ _, _, rfl, _, rfl, l, zs, rfl, SqL.of hl, fun p1 hp1 => ?_⟩
  rw [cutV_pre]
  have s1 := same_new hp1 (.lst (zs.take i))
  refine ⟨_, rfl, o, C, dx, _, _, rfl, s1 _ _ ho, CC.cl, CC.nP, pfs_part _ _ _, _, rfl, _, _, rfl, rfl, _, rfl, l, zs, rfl, SqL.of (s1 _ _ hl), fun p2 hp2 => ?_⟩
  rw [show ((i : Int) + 1) = ((i + 1 : Nat) : Int) by omega, cutV_post]
  have s2 := same_new hp2 (.lst (zs.drop (i + 1)))
  have sz : (zs.take i).length + (zs.drop (i + 1)).length ≤ 1000 := by
    rw [List.length_take, List.length_drop]
    have := hT.len
    omega
  refine ⟨p1, p2, _, _, rfl, rfl, s2 _ _ upd_same, upd_same, Nat.le_trans sz (by decide), fun p3 hp3 => ?_⟩
  have s3 := same_new hp3 (.lst (zs.take i ++ zs.drop (i + 1)))
  have s13 := (s1.trans s2).trans s3
  have ho3 := s13 _ _ ho
  refine ⟨_, rfl, o, C, dx, _, _, rfl, ho3, CC.cl, CC.nO, pfs_order _ _ _, _, rfl, o, C, dx, _, _, rfl, ho3, CC.cl, CC.nL, pfs_lacks _ _ _, ?_⟩
  intro x dx2 hx hdx hne
  have st := same_ins (C := C) hx hdx
  have hzr := hz.rw
  refine ⟨x, dx2, .ref p3, r, s, _, rfl, upd_same, ⟨p3, _, rfl, st _ _ upd_same, ((hzr.take i).app (hzr.drop (i + 1))).same (s13.trans st)⟩, hT.out i, hro, hlo, fun u H' G' hb hx' hr2 hG => ⟨rfl, ?_⟩⟩
  exact kk x H' G' (s13.trans (But.same st hb hx)) (s13.free hx) ⟨dx2, u, hx', hr2⟩ fun a ha => s13.free (st.free (hG a ha))
theorem scMx : FnScope ["self", "index", "steps"] ["self", "index"] (defScope sMExch) := ⟨rfl, rfl, rfl, by decide +kernel, rfl, by decide +kernel, by decide +kernel⟩
theorem ok_mexch {f C fI : Addr} {fd fdI : FuncData} (F : Fun K "exchanged" "Program.exchanged" sMExch f fd) (CC : PCls K C) (T : Txt K mg) (M : Mk K C fI) (mC : mg "Program" = some (.ref C))
    (GI : FnOk P w K mg base CX0 41 fI fdI ["self", "steps", "order", "lacks"] (spInit C)) (bI : Binds K fdI ["self", "steps", "order", "lacks"] []) : FnOk P w K mg base CX0 43 f fd ["self", "index"] (spMExch C) := by
  refine F.ok scMx (fun vs H Q E h => ?_) (fun cdv A outer s H vs Q E hr h => ?_)
  · obtain ⟨o, d, r, s, G, i, rfl, _⟩ := h
    rfl
  obtain ⟨o, ds, r, s, G, i, rfl, ⟨dx, v, ho, hR⟩, hT, hro, hlo, hi, kk⟩ := h
  refine ⟨_, pss_cons (ps_if (pt_not (pt_chain op_le op_lt pe_int (pv 1) (pe_op op_sub (pe_callB call_len_seq (by rfl) T.len PySem.boot_len (pa_cons (pe_fld (pv 0) rfl) pa_nil)) pe_int))) pss_never pss_nil)
    (pss_cons (ps_set (i := 2) scMx.nd rfl (Or.inl rfl) (pe_callTy call_list_of (by rfl) T.list boot_list (pa_cons (pe_fld (pv 0) rfl) pa_nil)))
    (Evl.pss_cut (ps_asg (pe_tup (pa_cons (pe_ix ix_list (pv 2) (pe_op op_add (pv 1) pe_int) (fun _ _ => rfl)) (pa_cons (pe_ix ix_list (pv 2) (pv 1) (fun _ _ => rfl)) pa_nil))) (pg_tup rfl (pgs_cons (pg_sub (pv 2) (pv 1) set_list) (pgs_cons (pg_sub (pv 2) (pe_op op_add (pv 1) pe_int) set_list) pgs_nil))))
    (pss_one (ps_ret (pe_make M GI hr rfl mC bI .nil pass0 (pa_cons (pv 2) (pa_cons (pe_fld (pv 0) rfl) (pa_cons (pe_fld (pv 0) rfl) pa_nil)))))))), ?_⟩
  obtain ⟨l, zs, F0, rfl, hl, hz, hnl, rfl⟩ := id hR
  have hlen := hz.len
  have hzr := hz.rw
  have e1 := List.getElem?_eq_getElem (show i < zs.length by omega)
  have e2 := List.getElem?_eq_getElem (show i + 1 < zs.length by omega)
  generalize zs[i]'(by omega) = x1 at e1
  generalize zs[i + 1]'(by omega) = x2 at e2
  obtain ⟨d1, g1, w1⟩ := hzr.item e1
  obtain ⟨d2, g2, w2⟩ := hzr.item e2
  refine ⟨_, rfl, _, _, rfl, rfl, _, rfl, ?_⟩
  refine ifT (decide_eq_true (by omega)) ⟨_, rfl, o, C, dx, _, _, rfl, ho, CC.cl, CC.nP, pfs_part _ _ _, l, zs, rfl, .inl (SqL.of hl), _, _, rfl, rfl, _, _, rfl, rfl, _, rfl, ?_⟩
  refine ifF (by rw [decide_eq_true (by omega)]; rfl) ?_
  refine ⟨_, rfl, o, C, dx, _, _, rfl, ho, CC.cl, CC.nP, pfs_part _ _ _, l, zs, rfl, .inl (SqL.of hl), fun p1 hp1 => ?_⟩
  have s1 := same_new hp1 (.lst zs)
  have ei : ((i : Int) + 1) = ((i + 1 : Nat) : Int) := by omega
  have q1 : (upd H p1 (.lst zs)) p1 = some (.lst zs) := upd_same
  refine ⟨fun σ' H' => Same H H' ∧ H' p1 = some (.lst ((zs.set i x2).set (i + 1) x1)) ∧ σ' = [some (.ref o), some (.int (i : Int)), some (.ref p1)], ?_, ?_⟩
  · refine ⟨_, rfl, _, rfl, _, _, rfl, rfl, p1, zs, _, x2, rfl, rfl, SqL.of q1, (by rw [ei]; exact atI_nat e2), _, rfl, _, rfl, p1, zs, _, x1, rfl, rfl, SqL.of q1, atI_nat e1, by show 2 ≤ sizeLine; decide, fun t ht => ?_⟩
    have s2 := same_new ht (.tup [x2, x1])
    refine ⟨t, _, rfl, SqT.of upd_same, rfl, _, _, rfl, _, rfl, _, rfl, p1, zs, _, i, rfl, rfl, s2 _ _ q1, Evl.ixN_nat (by omega), ?_⟩
    refine ⟨_, _, rfl, _, rfl, _, rfl, _, _, rfl, rfl, p1, zs.set i x2, _, i + 1, rfl, rfl, upd_same, (by rw [ei]; exact Evl.ixN_nat (by rw [List.length_set]; omega)), rfl, ?_⟩
    exact ⟨same_put (same_put (s1.trans s2) hp1) hp1, upd_same, rfl⟩
  rintro _ H3 ⟨s3, q3, rfl⟩
  have ho3 := s3 _ _ ho
  refine ⟨_, rfl, _, rfl, o, C, dx, _, _, rfl, ho3, CC.cl, CC.nO, pfs_order _ _ _, _, rfl, o, C, dx, _, _, rfl, ho3, CC.cl, CC.nL, pfs_lacks _ _ _, ?_⟩
  intro x dx2 hx hdx hne
  have st := same_ins (C := C) hx hdx
  have ex : exch ds i = (ds.set i d2).set (i + 1) d1 := by
    unfold exch
    rw [List.getD_eq_getElem?_getD, List.getD_eq_getElem?_getD, g1, g2]
    rfl
  refine ⟨x, dx2, .ref p1, r, s, exch ds i, rfl, upd_same, ⟨p1, _, rfl, st _ _ q3, ?_⟩, hT.exch hi, hro, hlo, fun u H' G' hb hx' hr2 hG => ⟨rfl, ?_⟩⟩
  · rw [ex]
    exact (RWs.put w1 (i + 1) (RWs.put w2 i hzr)).same (s3.trans st)
  · exact kk x H' G' (s3.trans (But.same st hb hx)) (s3.free hx) ⟨dx2, u, hx', hr2⟩ fun a ha => s3.free (st.free (hG a ha))
end
end K02
set_option Elab.async false
set_option linter.all false
set_option maxRecDepth 100000
set_option maxHeartbeats 4000000
namespace K02
open PySem L2 PyProof.Rows
def spTpParts : Sp := fun vs H Q _ => ∃ (v : V) (ds : List D) (H0 : Hp), vs = [v] ∧ RW H0 (.lst ds) v ∧ Same H0 H ∧ (∀ d ∈ ds, StOk d) ∧ (ds.flatMap stParts).length ≤ 900 ∧ ∀ l xs H', Same H H' → H l = none → H' l = some (.lst xs) → RWs H0 (ds.flatMap stParts) xs → Q (.ref l) H'
theorem set_small (d : D) : (stSet d).length ≤ 1 := by
  unfold stSet
  split
  · split <;> simp
  · simp
theorem sets_small (ds : List D) (i : Nat) : ((ds.take i).flatMap stSet).length ≤ ds.length := by
  have go : ∀ es : List D, (es.flatMap stSet).length ≤ es.length := fun es => by
    induction es with
    | nil => exact Nat.le_refl _
    | cons e es ih =>
      rw [List.flatMap_cons, List.length_append, List.length_cons]
      have := set_small e
      omega
  have := go (ds.take i)
  rw [List.length_take] at this
  omega
theorem step_parts {d : D} (h : StOk d) : ∀ q ∈ stParts d, PtOk 7 q := by
  rcases h.three with ⟨z, t, e, _, _⟩ | ⟨s0, r, x, _, _, _, _, _, _, h4⟩
  · rw [e, parts_set]
    exact fun _ z => nomatch z
  · exact h4
theorem parts_small : ∀ {qs : List D}, (∀ q ∈ qs, PtOk 7 q) → qs.length ≤ (qs.flatMap (pre 7)).length
  | [], _ => Nat.le_refl _
  | q :: qs, h => by
    rw [List.flatMap_cons, List.length_append, List.length_cons]
    have := parts_small fun y hy => h y (List.mem_cons_of_mem q hy)
    have : 1 ≤ (pre 7 q).length := by
      show 1 ≤ (q :: _).length
      rw [List.length_cons]
      omega
    omega
theorem law_names {ds : List D} {z : Str} : z ∈ ds.flatMap stNames ↔ z ∈ ds.flatMap stSet ++ (ds.flatMap stParts).flatMap (bnd 7) := by
  constructor
  · intro h
    obtain ⟨d, hd, hz⟩ := List.mem_flatMap.mp h
    rcases List.mem_append.mp hz with hz | hz
    · exact List.mem_append_left _ (List.mem_flatMap.mpr ⟨d, hd, hz⟩)
    · obtain ⟨q, hq, hz⟩ := List.mem_flatMap.mp hz
      exact List.mem_append_right _ (List.mem_flatMap.mpr ⟨q, List.mem_flatMap.mpr ⟨d, hd, hq⟩, hz⟩)
  · intro h
    rcases List.mem_append.mp h with h | h
    · obtain ⟨d, hd, hz⟩ := List.mem_flatMap.mp h
      exact List.mem_flatMap.mpr ⟨d, hd, List.mem_append_left _ hz⟩
    · obtain ⟨q, hq, hz⟩ := List.mem_flatMap.mp h
      obtain ⟨d, hd, hq⟩ := List.mem_flatMap.mp hq
      exact List.mem_flatMap.mpr ⟨d, hd, List.mem_append_right _ (List.mem_flatMap.mpr ⟨q, hq, hz⟩)⟩
theorem RW.ent {H : Hp} {row : Bool} {q : Str × D × D} {x : V} (h : RW H (ent row q) x) : ∃ a xs y, x = .ref a ∧ H a = some (.tup xs) ∧ atI xs (-2) = some y ∧ RW H q.2.1 y := by
  cases row with
  | true =>
    obtain ⟨a, zs, rfl, ha, z1, zs1, rfl, h1, z2, zs2, rfl, h2, hn⟩ := h
    obtain rfl : zs2 = [] := hn
    exact ⟨a, _, z1, rfl, ha, rfl, h1⟩
  | false =>
    obtain ⟨a, zs, rfl, ha, z0, zs0, rfl, h0, z1, zs1, rfl, h1, z2, zs2, rfl, h2, hn⟩ := h
    obtain rfl : zs2 = [] := hn
    exact ⟨a, _, z1, rfl, ha, rfl, h1⟩
theorem bnd_flat {m : Nat} {d : D} : bnd (m + 1) d = own d ++ (kids d).flatMap (bnd m) := by
  show (d :: (kids d).flatMap (pre m)).flatMap own = _
  rw [List.flatMap_cons, List.flatMap_assoc]
  rfl
section
variable {P : Program} {w : World} {K : PySem.W.Frag} {mg : Str → Option Value} {base : Heap}
theorem scTq : FnScope ["steps_here", "found", "step"] ["steps_here"] (defScope sTpParts) := ⟨rfl, rfl, rfl, by decide +kernel, rfl, by decide +kernel, by decide +kernel⟩
theorem ok_tparts {f : Addr} {fd : FuncData} (F : Fun K "_law_tp_parts" "_law_tp_parts" sTpParts f fd) (T : Txt K mg) : FnOk P w K mg base CX0 1 f fd ["steps_here"] spTpParts := by
  refine F.ok scTq (fun vs H Q E h => ?_) (fun cdv A outer s H vs Q E hr h => ?_)
  · obtain ⟨v, ds, H0, rfl, _⟩ := h
    rfl
  obtain ⟨v, ds, H0, rfl, hR, hs0, hd, hl, kk⟩ := h
  refine ⟨_, pss_cons (ps_set (i := 1) scTq.nd rfl (Or.inl rfl) (pe_lst pa_nil))
    (Evl.pss_cut (ps_for PassesOwn.never rfl (pi_list (pv 0)) (pg_name (i := 2) scTq.nd rfl (Or.inl rfl))
      (Evl.pss_cut (ps_if (pt_cmpR op_eq (pe_ix ix_tup (pv 2) pe_int (fun _ _ => rfl)) pe_str (nomark _)) (pss_one (ps_expr (pe_bm PySem.F.plainAttrs_list PySem.F.slot_list_append PySem.F.type_list_append mt_append (pv 1) (pa_cons (pe_ix ix_tup (pv 2) pe_int (fun _ _ => rfl)) pa_nil)))) pss_nil)
      (pss_one (ps_if (pt_cmpR op_eq (pe_ix ix_tup (pv 2) pe_int (fun _ _ => rfl)) pe_str (nomark _)) (pss_one (ps_set (i := 1) scTq.nd rfl (Or.inl rfl) (pe_op op_cat (pv 1) (pe_callTy call_list_of (by rfl) T.list boot_list (pa_cons (pe_ix ix_tup (pv 2) pe_int (fun _ _ => rfl)) pa_nil))))) pss_nil))))
    (pss_one (ps_ret (pv 1)))), ?_⟩
  obtain ⟨l0, zs, rfl, hl0, hz⟩ := hR
  have a0 : ∀ {s : String} {ys : List V}, atI (V.str (Str.ofString s) :: ys) 0 = some (.str (Str.ofString s)) := atI_nat (j := 0) rfl
  have deq : ∀ {y z : String}, Str.ofString y ≠ Str.ofString z → decide (V.str (Str.ofString y) = V.str (Str.ofString z)) = false := fun h => decide_eq_false fun q => h (V.str.inj q)
  refine ⟨by show 0 ≤ sizeLine; decide, fun fo hfo => ?_⟩
  have s1 := same_new hfo (.lst [])
  refine ⟨fun σ' H' => Same H H' ∧ ∃ (l : Addr) (xs : List V) (v2 : Option V), H l = none ∧ H' l = some (.lst xs) ∧ RWs H0 (ds.flatMap stParts) xs ∧ σ' = [some (.ref l0), some (.ref l), v2], ?_, ?_⟩
  · refine ⟨_, rfl, l0, rfl, ⟨_, SqL.of (s1 _ _ (hs0 _ _ hl0))⟩, ?_⟩
    refine for_list (K := K) (a := l0) (xs := zs) (fun i σ' H' => Same H H' ∧ ∃ (l : Addr) (xs : List V) (v2 : Option V), H l = none ∧ H' l = some (.lst xs) ∧ RWs H0 ((ds.take i).flatMap stParts) xs ∧ σ' = [some (.ref l0), some (.ref l), v2])
      ⟨s1, fo, [], none, hfo, upd_same, rfl, rfl⟩ (fun i σ' H' _ ⟨h, _⟩ => SqL.of (h _ _ (hs0 _ _ hl0))) ?_ ?_
    · rintro i x σ' H2 hi ⟨hs2, l, xs, v2, hlH, hl2, hxs, rfl⟩
      obtain ⟨d, hdi, hrw⟩ := hz.item hi
      have hok := hd d (List.mem_of_getElem? hdi)
      have hrw2 := hrw.same (hs0.trans hs2)
      have t1 := take_flat (f := stParts) hdi
      have t2 := take_flat_le (f := stParts) (xs := ds) (i := i + 1)
      have hxl := hxs.len
      rw [t1, List.length_append] at t2
      -- take
      refine ⟨fun σ' H' => Same H H' ∧ ∃ (xs' : List V) (tk : Bool), H' l = some (.lst xs') ∧ (tk = true → ∃ r x, d = .tup [S "take", r, x] ∧ RWs H0 ((ds.take (i + 1)).flatMap stParts) xs') ∧ (tk = false → xs' = xs ∧ ∀ r x, d ≠ .tup [S "take", r, x]) ∧ σ' = [some (.ref l0), some (.ref l), some x], ?_, ?_⟩
      · rcases hok.three with ⟨z, t, e, _, _⟩ | ⟨s0, r, y, hs0', e, _, h1, h2, _, _⟩
        · rw [e] at hrw2
          obtain ⟨a, ys, rfl, ha, hys⟩ := hrw2.head
          refine ⟨_, rfl, a, _, 0, _, rfl, rfl, SqT.of ha, a0, rfl, _, rfl, ifF (deq (by decide)) ⟨hs2, xs, false, hl2, (fun z => nomatch z), fun _ => ⟨rfl, fun r x q => ?_⟩, rfl⟩⟩
          rw [e] at q
          have q1 := V.str.inj (D.leaf.inj (List.cons.inj (D.tup.inj q)).1)
          exact absurd q1 (by decide)
        · rw [e] at hrw2
          obtain ⟨a, ys, rfl, ha, hys⟩ := hrw2.head
          obtain ⟨y1, ys1, rfl, hy1, y2, ys2, rfl, hy2, hnil⟩ := hys
          obtain rfl : ys2 = [] := hnil
          rcases hs0' with rfl | rfl
          · refine ⟨_, rfl, a, _, 0, _, rfl, rfl, SqT.of ha, a0, rfl, _, rfl, ifT (decide_eq_true rfl) ?_⟩
            refine ⟨_, rfl, .inl ⟨rfl, _, SqL.of hl2⟩, _, rfl, a, _, 2, _, rfl, rfl, SqT.of ha, at3_2, l, _, _, rfl, rfl, hl2, Nat.lt_of_le_of_lt (show xs.length ≤ 1000 by omega) (by decide), same_put hs2 hlH, xs ++ [y2], true, upd_same, fun _ => ⟨r, y, e, ?_⟩, (fun z => nomatch z), rfl⟩
            rw [t1, h1 rfl]
            have hrw0 := hrw
            rw [e] at hrw0
            obtain ⟨a', ys', e', ha', hys'⟩ := hrw0.head
            cases e'
            have ee := (hs0.trans hs2) _ _ ha'
            rw [ha] at ee
            cases ee
            obtain ⟨y1', ys1', e1, hy1', y2', ys2', e2, hy2', _⟩ := hys'
            cases e1
            cases e2
            exact hxs.app ⟨y2, [], rfl, hy2', rfl⟩
          · refine ⟨_, rfl, a, _, 0, _, rfl, rfl, SqT.of ha, a0, rfl, _, rfl, ifF (deq (by decide)) ⟨hs2, xs, false, hl2, (fun z => nomatch z), fun _ => ⟨rfl, fun r x q => ?_⟩, rfl⟩⟩
            rw [e] at q
            have q1 := V.str.inj (D.leaf.inj (List.cons.inj (D.tup.inj q)).1)
            exact absurd q1 (by decide)
      rintro _ H3 ⟨hs3, xs', tk, hl3, htk, hnt, rfl⟩
      have hrw3 := hrw.same (hs0.trans hs3)
      cases tk with
      | true =>
        obtain ⟨r, y, e, hxs'⟩ := htk rfl
        rw [e] at hrw3
        obtain ⟨a, ys, rfl, ha, hys⟩ := hrw3.head
        exact ⟨_, rfl, a, _, 0, _, rfl, rfl, SqT.of ha, a0, rfl, _, rfl, ifF (deq (by decide)) ⟨hs3, l, xs', _, hlH, hl3, hxs', rfl⟩⟩
      | false =>
        obtain ⟨rfl, hne⟩ := hnt rfl
        rcases hok.three with ⟨z, t, e, _, _⟩ | ⟨s0, r, y, hs0', e, _, h1, h2, _, _⟩
        · rw [e] at hrw3
          obtain ⟨a, ys, rfl, ha, hys⟩ := hrw3.head
          refine ⟨_, rfl, a, _, 0, _, rfl, rfl, SqT.of ha, a0, rfl, _, rfl, ifF (deq (by decide)) ⟨hs3, l, xs', _, hlH, hl3, ?_, rfl⟩⟩
          rw [t1, e, parts_set, List.append_nil]
          exact hxs
        · rcases hs0' with rfl | rfl
          · exact absurd e (hne _ _)
          have hrw0 := hrw
          obtain ⟨ey, hlen⟩ := h2 rfl
          rw [e, ey] at hrw0
          obtain ⟨a, ys, rfl, ha, y1, ys1, rfl, hy1, y2, ys2, rfl, hy2, hnil⟩ := hrw0.head
          obtain rfl : ys2 = [] := hnil
          obtain ⟨lc, cs, rfl, hlc, hcs⟩ := hy2
          have h03 := hs0.trans hs3
          refine ⟨_, rfl, a, _, 0, _, rfl, rfl, SqT.of (h03 _ _ ha), a0, rfl, _, rfl, ifT (decide_eq_true rfl) ?_⟩
          refine ⟨_, rfl, _, rfl, a, _, 2, _, rfl, rfl, SqT.of (h03 _ _ ha), at3_2, lc, cs, rfl, .inl (SqL.of (h03 _ _ hlc)), fun q hq => ?_⟩
          have sq := same_new hq (.lst cs)
          have hcl := hcs.len
          refine ⟨l, q, xs', cs, rfl, rfl, sq _ _ hl3, upd_same, Nat.le_trans (show xs'.length + cs.length ≤ 1000 by omega) (by decide), fun p hp => ?_⟩
          have sp := same_new hp (.lst (xs' ++ cs))
          refine ⟨(hs3.trans sq).trans sp, p, xs' ++ cs, _, hs3.free (sq.free hp), upd_same, ?_, rfl⟩
          rw [t1]
          exact hxs.app hcs
    · rintro σ' H2 ⟨hs2, l, xs, v2, hlH, hl2, hxs, rfl⟩
      rw [hz.len, List.take_length] at hxs
      exact ⟨hs2, l, xs, v2, hlH, hl2, hxs, rfl⟩
  rintro _ H2 ⟨hs2, l, xs, v2, hlH, hl2, hxs, rfl⟩
  exact ⟨_, rfl, kk l xs H2 hs2 hlH hl2 hxs⟩
end
end K02
set_option Elab.async false
set_option linter.all false
set_option maxRecDepth 100000
set_option maxHeartbeats 4000000
namespace K02
open PySem L2 PyProof.Rows
def turnKw {α : Type} (us ws : List α) : List α := us ++ (ws.drop 2 ++ ((ws.drop 1).take 1 ++ ws.take 1))
def spMade (C : Addr) : Sp := fun vs H Q _ => ∃ (p t : Addr) (n : Nat) (v : V) (ds : List D) (r s : Str), vs = [.ref p, .ref t] ∧ Purse H p n ∧ n + 2 < 10 ^ 60 ∧ H t = some (.tup [v, .str r, .str s]) ∧ RW H (.lst ds) v ∧ PrOk ds ∧ okOrd r ∧ okLck s ∧
  ∀ o H' G, But p H H' → Purse H' p (n + 2) → H o = none → PatAt C H' o (.lst ds) r s G → (∀ a ∈ G, H a = none) → Q (.ref o) H'
theorem pfs_no {m : Str} (v : V) (r s : Str) (h1 : ¬ m = "_lacks") (h2 : ¬ m = "_order") (h3 : ¬ m = "_steps") : (pfs v r s).lookup m = none := by
  unfold pfs
  rw [lookup_putF, if_neg h1, lookup_putF, if_neg h2, lookup_putF, if_neg h3]
  rfl
theorem pfs_with (v : V) (r s : Str) : (pfs v r s).lookup ("with_order" : Str) = none := pfs_no v r s (by decide +kernel) (by decide +kernel) (by decide +kernel)
theorem pfs_wout (v : V) (r s : Str) : (pfs v r s).lookup ("without" : Str) = none := pfs_no v r s (by decide +kernel) (by decide +kernel) (by decide +kernel)
theorem pfs_exch (v : V) (r s : Str) : (pfs v r s).lookup ("exchanged" : Str) = none := pfs_no v r s (by decide +kernel) (by decide +kernel) (by decide +kernel)
/-- a pattern was made; else all stands but the purse -/
structure Done (C : Addr) (H : Hp) (p : Addr) (n : Nat) (d : D) (r s : Str) (H' : Hp) (o : Addr) (Go : List Addr) : Prop where
  bt : But p H H'
  pu : Purse H' p n
  pa : PatAt C H' o d r s Go
  no : H o = none
  nw : ∀ a ∈ Go, H a = none
theorem Done.kp {C p o : Addr} {H H1 H2 : Hp} {n m : Nat} {d : D} {r s : Str} {Go : List Addr} {S : Addr → Prop} (h : Done C H p n d r s H1 o Go) (hp : Purse H p m) (k : Kp S H1 H2) (hS : ∀ a, S a → H a = none ∧ a ∉ Go) : Done C H p n d r s H2 o Go := by
  have np : ¬ S p := fun z => by
    obtain ⟨po, e⟩ := hp.some
    rw [(hS p z).1] at e
    cases e
  refine ⟨fun b o n e => k b o (h.bt b o n e) (.inl fun z => ?_), ?_, ?_, h.no, h.nw⟩
  · rw [(hS b z).1] at e
    cases e
  · obtain ⟨x, y, z, e, q⟩ := h.pu
    exact ⟨x, y, z, k _ _ e (.inl np), q⟩
  · obtain ⟨dx, v, e, q⟩ := h.pa
    exact ⟨dx, v, k.there e (fun _ z => nomatch z), q.kp k fun a ha z => (hS a z).2 ha⟩
theorem two_of : ∀ {ds : List D}, 1 < ds.length → ∃ d0 d1 rest, ds = d0 :: d1 :: rest
  | [], h => absurd h (by decide)
  | [_], h => absurd h (by show ¬ 1 < 1; decide)
  | d0 :: d1 :: rest, _ => ⟨d0, d1, rest, rfl⟩
/-- a set step, for a while -/
def xS : D := .tup [S "set", S "a", .tup [S "number", .leaf (.int 3)]]
theorem xS_ok : StOk xS := .inl ⟨Str.ofString "a", _, menu_name (by decide +kernel), .inl ⟨3, by decide, rfl⟩, rfl⟩
theorem with_x {ds : List D} {i : Nat} (h : i ≤ ds.length) : (ds.take i ++ [xS] ++ ds.drop i).take i ++ (ds.take i ++ [xS] ++ ds.drop i).drop (i + 1) = ds ∧ i < (ds.take i ++ [xS] ++ ds.drop i).length := by
  have e1 : (ds.take i).length = i := by rw [List.length_take]; omega
  have e2 : (ds.take i ++ [xS]).length = i + 1 := by rw [List.length_append, e1]; rfl
  refine ⟨?_, ?_⟩
  · have e3 : (ds.take i ++ [xS] ++ ds.drop i).drop (i + 1) = ds.drop i := by
      rw [List.drop_append_of_le_length (by omega), List.drop_of_length_le (by omega), List.nil_append]
    have e4 : (ds.take i ++ [xS] ++ ds.drop i).take i = ds.take i := by
      rw [List.append_assoc, List.take_append_of_le_length (by omega), List.take_of_length_le (by omega)]
    rw [e3, e4, List.take_append_drop]
  · rw [List.length_append, e2]
    omega
theorem PrOk.with_x {ds : List D} (h : PrOk ds) (hl : ds.length < 20) (i : Nat) : PrOk (ds.take i ++ [xS] ++ ds.drop i) := by
  refine ⟨?_, fun d hd => ?_⟩
  · rw [List.length_append, List.length_append, List.length_take, List.length_drop]
    show _ + 1 + _ ≤ 30
    omega
  · rcases List.mem_append.mp hd with z | z
    · rcases List.mem_append.mp z with z | z
      · exact h.st d (List.mem_of_mem_take z)
      · rw [List.mem_singleton.mp z]
        exact xS_ok
    · exact h.st d (List.mem_of_mem_drop z)
section
variable {P : Program} {w : World} {K : PySem.W.Frag} {mg : Str → Option Value} {base : Heap}
theorem kb_init {fI : Addr} {fdI : FuncData} (F : Fun K "__init__" "Program.__init__" sInit fI fdI) : KBn K fdI ["self", "steps", "order", "lacks"] 1 ["lacks", "order", "steps"] turnKw turnKw := by
  obtain ⟨oc, od, kV, doc, pm, an, cdv, ct, osl, rfl, lk, hcd⟩ := F.ex
  refine ⟨fun s us ws _ h1 h2 => ?_, fun r1 r2 => r1.append ((r2.drop 2).append (((r2.drop 1).take 1).append (r2.take 1)))⟩
  match us, h1, ws, h2 with
  | [_], _, [_, _, _], _ => exact .of_eq rfl
theorem scMd : FnScope ["purse", "plan", "handed", "road", "made", "at"] ["purse", "plan"] (defScope sMade) := ⟨rfl, rfl, rfl, by decide +kernel, rfl, by decide +kernel, by decide +kernel⟩
theorem ok_made {f C fC fY fI fW fU fX fG fO fL fM pP pO pL : Addr} {fd fdC fdY fdI fdW fdU fdX fdG fdO fdL fdM : FuncData} (F : Fun K "_law_tp_made" "_law_tp_made" sMade f fd) (T : Txt K mg) (CC : PCls K C) (M : Mk K C fI) (mP : mg "Program" = some (.ref C))
    (FC : Fun K "_law_coin" "_law_coin" sCoin fC fdC) (GC : FnOk P w K mg base CX0 1 fC fdC ["purse", "many"] spCoin) (bC : Binds K fdC ["purse", "many"] []) (mC : mg "_law_coin" = some (.ref fC))
    (FY : Fun K "_law_ta_copy" "_law_ta_copy" sCopied fY fdY) (GY : FnOk P w K mg base CX0 40 fY fdY ["thing"] (spCopy 40)) (bY : Binds K fdY ["thing"] []) (mY : mg "_law_ta_copy" = some (.ref fY))
    (FI : Fun K "__init__" "Program.__init__" sInit fI fdI) (GI : FnOk P w K mg base CX0 41 fI fdI ["self", "steps", "order", "lacks"] (spInit C)) (bI : Binds K fdI ["self", "steps", "order", "lacks"] [])
    (mW : Meth K C "with_order" fW) (GW : FnOk P w K mg base CX0 43 fW fdW ["self", "order"] (spMWith C)) (bW : Binds K fdW ["self", "order"] [])
    (mU : Meth K C "without" fU) (GU : FnOk P w K mg base CX0 43 fU fdU ["self", "index"] (spMWout C)) (bU : Binds K fdU ["self", "index"] [])
    (mX : Meth K C "exchanged" fX) (GX : FnOk P w K mg base CX0 43 fX fdX ["self", "index"] (spMExch C)) (bX : Binds K fdX ["self", "index"] [])
    (pg : PropOf K C "steps" pP fG) (GG : FnOk P w K mg base CX0 41 fG fdG ["self"] (spGPart C)) (bG : Binds K fdG ["self"] [])
    (po : PropOf K C "order" pO fO) (GO : FnOk P w K mg base CX0 1 fO fdO ["self"] (spGOrd C)) (bO : Binds K fdO ["self"] [])
    (pl : PropOf K C "lacks" pL fL) (GL : FnOk P w K mg base CX0 1 fL fdL ["self"] (spGLck C)) (bL : Binds K fdL ["self"] [])
    (FM : Fun K "_law_ta_mark" "_law_ta_mark" sMark fM fdM) (GM : FnOk P w K mg base CX0 40 fM fdM ["thing", "tally"] (spMark 40)) (bM : Binds K fdM ["thing", "tally"] []) (mM : mg "_law_ta_mark" = some (.ref fM)) :
    FnOk P w K mg base CX0 44 f fd ["purse", "plan"] (spMade C) := by
  refine F.ok scMd (fun vs H Q E h => ?_) (fun cdv A outer s H vs Q E hr h => ?_)
  · obtain ⟨p, t, n, v, d, r, s, rfl, _⟩ := h
    rfl
  obtain ⟨p, t, n, v, ds, r, s, rfl, hp, hn, ht, hR, hT, hrd, hlk, kk⟩ := h
  have hr1 := hr.mono (show 1 ≤ 43 by decide)
  have hr2 := hr.mono (show 1 + 1 ≤ 43 by decide)
  have hr40 := hr.mono (show 40 ≤ 43 by decide)
  have hr42 := hr.mono (show 41 + 1 ≤ 43 by decide)
  refine ⟨_, Evl.pss_cut (ps_par (i := 2) (j := 3) rfl scMd.nd rfl rfl (by decide) rfl rfl (pa_cons (pe_call GY hr40 rfl mY FY.kp bY .nil pass0 (pa_cons (pe_ix ix_tup (pv 1) pe_int (fun _ _ => rfl)) pa_nil)) (pa_cons (pe_call GC hr1 rfl mC FC.kp bC .nil pass0 (pa_cons (pv 0) (pa_cons pe_int pa_nil))) pa_nil)) (by rfl))
    (Evl.pss_cut (ps_if (pt_cmpR op_eq (pv 3) pe_int (nomark _)) (pss_one (ps_set (i := 4) scMd.nd rfl (Or.inl rfl) (pe_meth (pe_make M GI hr42 rfl mP bI .nil pass0 (pa_cons (pv 2) (pa_cons (pe_ix ix_list (pe_lst (pa_cons pe_str (pa_cons pe_str pa_nil))) (pe_callTy call_int1 (by rfl) T.int boot_int (pa_cons (pe_cmpR op_eq (pe_ix ix_tup (pv 1) pe_int (fun _ _ => rfl)) pe_str (nomark _)) pa_nil)) (fun _ _ => rfl)) (pa_cons (pe_ix ix_tup (pv 1) pe_int (fun _ _ => rfl)) pa_nil))))
            CC.cl mW GW hr bW .nil pass0 (pa_cons (pe_ix ix_tup (pv 1) pe_int (fun _ _ => rfl)) pa_nil))))
      (pss_one (ps_if (pt_cmpR op_eq (pv 3) pe_int (nomark _)) (pss_one (ps_set (i := 4) scMd.nd rfl (Or.inl rfl) (pe_makeK0 M GI hr42 rfl mP (kb_init FI) pass0 (pk_cons (pe_ix ix_tup (pv 1) pe_int (fun _ _ => rfl)) (pk_cons (pe_ix ix_tup (pv 1) pe_int (fun _ _ => rfl)) (pk_cons (pv 2) pk_nil))))))
        (pss_one (ps_if (pt_cut (PW.pt (pw_and (pt_cmpR op_eq (pv 3) pe_int (nomark _)) (pw_and1 (pt_cmpR op_gt (pe_callB call_len_seq (by rfl) T.len PySem.boot_len (pa_cons (pv 2) pa_nil)) pe_int (nomark _))))))
          (pss_one (ps_set (i := 4) scMd.nd rfl (Or.inl rfl) (pe_meth (pe_make M GI hr42 rfl mP bI .nil pass0 (pa_cons (pe_op op_cat (pe_lst (pa_cons (pe_ix ix_list (pv 2) pe_int (fun _ _ => rfl)) (pa_cons (pe_ix ix_list (pv 2) pe_int (fun _ _ => rfl)) pa_nil))) (pe_slice sl_list (pv 2) (po_some pe_int) po_none)) (pa_cons (pe_ix ix_tup (pv 1) pe_int (fun _ _ => rfl)) (pa_cons (pe_ix ix_tup (pv 1) pe_int (fun _ _ => rfl)) pa_nil))))
            CC.cl mX GX hr bX .nil pass0 (pa_cons pe_int pa_nil))))
          (pss_one (ps_if (pt_cut (PW.pt (pw_and (pt_cmpR op_eq (pv 3) pe_int (nomark _)) (pw_and1 (pt_cmpR op_lt (pe_callB call_len_seq (by rfl) T.len PySem.boot_len (pa_cons (pv 2) pa_nil)) pe_int (nomark _))))))
            (pss_cons (ps_set (i := 5) scMd.nd rfl (Or.inl rfl) (pe_call GC hr1 rfl mC FC.kp bC .nil pass0 (pa_cons (pv 0) (pa_cons (pe_op op_add (pe_callB call_len_seq (by rfl) T.len PySem.boot_len (pa_cons (pv 2) pa_nil)) pe_int) pa_nil))))
            (pss_one (ps_set (i := 4) scMd.nd rfl (Or.inl rfl) (pe_meth (pe_make M GI hr42 rfl mP bI .nil pass0 (pa_cons (pe_op op_cat (pe_op op_cat (pe_slice sl_list (pv 2) po_none (po_some (pv 5))) (pe_lst (pa_cons (pe_tup (pa_cons pe_str (pa_cons pe_str (pa_cons (pe_tup (pa_cons pe_str (pa_cons pe_int pa_nil))) pa_nil)))) pa_nil))) (pe_slice sl_list (pv 2) (po_some (pv 5)) po_none)) (pa_cons (pe_ix ix_tup (pv 1) pe_int (fun _ _ => rfl)) (pa_cons (pe_ix ix_tup (pv 1) pe_int (fun _ _ => rfl)) pa_nil))))
              CC.cl mU GU hr bU .nil pass0 (pa_cons (pv 5) pa_nil)))))
            (pss_one (ps_set (i := 4) scMd.nd rfl (Or.inl rfl) (pe_make M GI hr42 rfl mP bI .nil pass0 (pa_cons (pv 2) (pa_cons (pe_ix ix_tup (pv 1) pe_int (fun _ _ => rfl)) (pa_cons (pe_ix ix_tup (pv 1) pe_int (fun _ _ => rfl)) pa_nil)))))))))))))
    (Evl.pss_cut (ps_if (pt_cmpR op_eq (pv 3) pe_int (nomark _)) (pss_one (ps_set (i := 4) scMd.nd rfl (Or.inl rfl) (pe_make M GI hr42 rfl mP bI .nil pass0 (pa_cons (pe_prop (pv 4) CC.cl pg GG hr42 bG .nil pass0 rfl) (pa_cons (pe_prop (pv 4) CC.cl po GO hr2 bO .nil pass0 rfl) (pa_cons (pe_prop (pv 4) CC.cl pl GL hr2 bL .nil pass0 rfl) pa_nil)))))) pss_nil)
    (pss_cons (ps_expr (pe_call GM hr40 rfl mM FM.kp bM .nil pass0 (pa_cons (pv 2) (pa_cons (pe_lst (pa_cons pe_int pa_nil)) pa_nil))))
    (pss_one (ps_ret (pv 4)))))), ?_⟩
  obtain ⟨po', hpo⟩ := hp.some
  have htp : t ≠ p := fun z => by
    obtain ⟨x, y, z', e, _⟩ := hp
    rw [z, e] at ht
    cases ht
  have t0 : atI [v, V.str r, V.str s] 0 = some v := atI_nat (j := 0) rfl
  have t1 : atI [v, V.str r, V.str s] 1 = some (.str r) := atI_nat (j := 1) rfl
  have t2 : atI [v, V.str r, V.str s] 2 = some (.str s) := atI_nat (j := 2) rfl
  have hfit := hT.fits
  have dlen := hT.len
  refine ⟨fun σ' H' => ∃ (u : V) (G : List Addr) (rd : Int), But p H H' ∧ Purse H' p (n + 1) ∧ Rep H' (.lst ds) u G ∧ (∀ a ∈ G, H a = none) ∧ σ' = [some (.ref p), some (.ref t), some u, some (.int rd), none, none], ?_, ?_⟩
  · refine ⟨_, rfl, t, _, 0, _, rfl, rfl, SqT.of ht, t0, v, .lst ds, 34, rfl, by decide, hR, hfit, fun u H1 G hs1 hr1 hG => ⟨_, rfl, p, 6, n, rfl, hp.same hs1, by omega, by decide, by decide, fun rd H2 r0 r1 hb hp2 => ⟨_, _, rfl, u, G, rd, (But.of hs1).trans hb, hp2, hr1.kp (hb.kp (hp.same hs1)) fun a ha z => hp.ne (hG a ha) z, hG, rfl⟩⟩⟩
  rintro _ H2 ⟨u, G, rd, hb2, hp2, hr2', hG, rfl⟩
  have ht2 := SqT.of (K := K) (hb2 _ _ htp ht)
  have fr2 : ∀ {Hx : Hp} {m : Nat}, But p H Hx → Purse Hx p m → ∀ {a : Addr}, Hx a = none → H a = none := fun {Hx} {m} hb hpx {a} e => But.free hb hpo hpx.some e
  have mk : ∀ (Hx : Hp) (u' : V) (r' : Str) (es : List D) (m : Nat), okOrd r' → PrOk es → But p H Hx → Purse Hx p m → m ≤ n + 2 → RW Hx (.lst es) u' → ∀ x dx : Addr, Hx x = none → Hx dx = none → ∀ Q' : Hp → Prop, (∀ H' Go, Done C H p (n + 2) (.lst es) r' s H' x Go → Same Hx H' → (∀ a ∈ Go, Hx a = none) → Q' H') →
      spInit C [.ref x, u', .str r', .str s] (upd (upd Hx dx (.own x)) x (.ins C dx [])) (fun v H3 => v = .non ∧ Q' H3) E0 := fun Hx u' r' es m hr' hes hbx hpx hm hw x dx hx hdx Q' q => by
    have st := same_ins (C := C) hx hdx
    refine ⟨x, dx, u', r', s, es, rfl, upd_same, hw.same st, hes, hr', hlk, fun w H' Go hb hx' hrw hG => ?_⟩
    have sx : Same Hx H' := But.same st hb hx
    exact ⟨rfl, q H' Go ⟨hbx.trans (.of sx), (hpx.same sx).mono hm, ⟨dx, w, hx', hrw⟩, fr2 hbx hpx hx, fun a ha => fr2 hbx hpx (st.free (hG a ha))⟩ sx fun a ha => st.free (hG a ha)⟩
  have apart : ∀ {Hx : Hp} {e : D} {u' : V} {G' Go : List Addr}, Rep Hx e u' G' → (∀ a ∈ Go, Hx a = none) → ∀ a, a ∈ G' → a ∉ Go := fun hr h a ha z => by
    obtain ⟨zs, q⟩ := hr.at_ a ha
    rw [h a z] at q
    cases q
  refine ⟨fun σ' H' => ∃ (o : Addr) (Go : List Addr) (v5 : Option V), Done C H p (n + 2) (.lst ds) r s H' o Go ∧ Rep H' (.lst ds) u G ∧ (∀ a ∈ G, a ∉ Go) ∧ σ' = [some (.ref p), some (.ref t), some u, some (.int rd), some (.ref o), v5], ?_, ?_⟩
  · refine ⟨_, rfl, rfl, _, rfl, ?_⟩
    refine ite2 (fun _ => ?_) (fun _ => ?_)
    · -- with_order
      refine ⟨_, rfl, by show 2 ≤ sizeLine; decide, fun q hq => ?_⟩
      have sq := same_new hq (.lst [V.str (Str.ofString "late"), V.str (Str.ofString "soon")])
      have ht3 := SqT.of (K := K) (sq _ _ (hb2 _ _ htp ht))
      refine ⟨_, rfl, t, _, 1, _, rfl, rfl, ht3, t1, rfl, .inr ⟨_, rfl, ?_⟩⟩
      obtain ⟨r', hr', hat⟩ : ∃ r' : Str, okOrd r' ∧ atI [V.str (Str.ofString "late"), V.str (Str.ofString "soon")] (if decide (V.str r = V.str (Str.ofString "late")) = true then (1 : Int) else 0) = some (.str r') := by
        split
        · exact ⟨_, .inl rfl, at_ofN (j := 1) rfl rfl⟩
        · exact ⟨_, .inr rfl, at_ofN (j := 0) rfl rfl⟩
      have hb3 := hb2.trans (But.of sq)
      have hr3 := hr2'.same sq
      refine ⟨q, _, _, _, rfl, rfl, SqL.of upd_same, hat, _, rfl, t, _, 2, _, rfl, rfl, ht3, t2, fun x dx hx hdx hne => mk _ u r' ds _ hr' hT hb3 (hp2.same sq) (by omega) hr3.rw x dx hx hdx _ fun H' Go hD hs hGo => ?_⟩
      obtain ⟨dx2, w2, e1, e2⟩ := hD.pa
      refine ⟨x, dx2, _, rfl, e1, pfs_with _ _ _, _, rfl, t, _, 1, _, rfl, rfl, SqT.of (hD.bt _ _ htp ht), t1, x, ds, r', s, r, Go, rfl, hD.pa, hT, hrd, hlk, fun o' H'' G' hs2 ho' pat' hG' => ?_⟩
      exact ⟨o', G', none, ⟨hD.bt.trans (.of hs2), hD.pu.same hs2, pat', fr2 hD.bt hD.pu ho', fun a ha => fr2 hD.bt hD.pu (hG' a ha)⟩, (hr3.same hs).same hs2, apart (hr3.same hs) hG', rfl⟩
    refine ⟨_, rfl, rfl, _, rfl, ?_⟩
    refine ite2 (fun _ => ?_) (fun _ => ?_)
    · -- by name
      exact ⟨_, rfl, t, _, 2, _, rfl, rfl, ht2, t2, _, rfl, t, _, 1, _, rfl, rfl, ht2, t1, _, rfl, rfl, rfl, fun x dx hx hdx hne => mk H2 u r ds _ hrd hT hb2 hp2 (by omega) hr2'.rw x dx hx hdx _ fun H' Go hD hs hGo => ⟨x, Go, none, hD, hr2'.same hs, apart hr2' hGo, rfl⟩⟩
    obtain ⟨hl, zs, G0, rfl, hhl, hz, hnl, rfl⟩ := id hr2'
    have hzl := hz.len
    have hzr := hz.rw
    have sqh := SqL.of (K := K) hhl
    refine ⟨fun b H' => H2 = H' ∧ (b = true → 1 < ds.length), ?_, ?_⟩
    · refine ⟨_, rfl, rfl, _, rfl, ?_⟩
      refine ite2 (fun _ => ?_) (fun _ => ⟨rfl, fun z => nomatch z⟩)
      exact ⟨_, rfl, hl, zs, rfl, .inl sqh, _, _, rfl, rfl, _, rfl, rfl, fun z => by
        have z' : (((zs.length : Nat) : Int)) > 1 := of_decide_eq_true z
        omega⟩
    rintro bb _ ⟨rfl, hbb⟩
    refine ite2 (fun c => ?_) (fun _ => ?_)
    · -- exchanged
      have hl2 := hbb c
      obtain ⟨d0, d1, rest, eds⟩ := two_of hl2
      rw [eds] at hzr
      obtain ⟨x0, ys0, e0, w0, x1, ys1, e1, w1, w2⟩ := hzr
      subst e1
      have a1 : atI zs 1 = some x1 := by rw [e0]; exact atI_nat (j := 1) rfl
      have a0 : atI zs 0 = some x0 := by rw [e0]; exact atI_nat (j := 0) rfl
      refine ⟨_, rfl, hl, zs, _, x1, rfl, rfl, sqh, a1, _, rfl, hl, zs, _, x0, rfl, rfl, sqh, a0, by show 2 ≤ sizeLine; decide, fun q1 hq1 => ?_⟩
      have s1 := same_new hq1 (.lst [x1, x0])
      have u1 : (upd H2 q1 (.lst [x1, x0])) q1 = some (.lst [x1, x0]) := upd_same
      generalize upd H2 q1 (.lst [x1, x0]) = HA at s1 u1 ⊢
      refine ⟨_, rfl, _, rfl, hl, zs, rfl, SqL.of (s1 _ _ hhl), fun q2 hq2 => ?_⟩
      rw [show cutV zs (some 2) none = ys1 by rw [show (2 : Int) = ((2 : Nat) : Int) from rfl, cutV_post, e0]; rfl]
      have s2 := same_new hq2 (.lst ys1)
      have u2 : (upd HA q2 (.lst ys1)) q2 = some (.lst ys1) := upd_same
      generalize upd HA q2 (.lst ys1) = HB at s2 u2 ⊢
      have yl : ys1.length ≤ 30 := by
        rw [e0] at hzl
        rw [List.length_cons, List.length_cons] at hzl
        omega
      refine ⟨q1, q2, [x1, x0], ys1, rfl, rfl, s2 _ _ u1, u2, Nat.le_trans (show 2 + ys1.length ≤ 1000 by omega) (by decide), fun q3 hq3 => ?_⟩
      have s3 := same_new hq3 (.lst ([x1, x0] ++ ys1))
      have u3 : (upd HB q3 (.lst ([x1, x0] ++ ys1))) q3 = some (.lst (x1 :: x0 :: ys1)) := upd_same
      generalize upd HB q3 (.lst ([x1, x0] ++ ys1)) = HC at s3 u3 ⊢
      have s13 := (s1.trans s2).trans s3
      have ht3 := SqT.of (K := K) (s13 _ _ (hb2 _ _ htp ht))
      have hes : PrOk (d1 :: d0 :: rest) := by
        rw [eds] at hT
        refine ⟨hT.len, fun d hd => hT.st d ?_⟩
        rcases List.mem_cons.mp hd with rfl | hd
        · exact List.mem_cons_of_mem _ List.mem_cons_self
        · rcases List.mem_cons.mp hd with rfl | hd
          · exact List.mem_cons_self
          · exact List.mem_cons_of_mem _ (List.mem_cons_of_mem _ hd)
      have hb3 := hb2.trans (But.of s13)
      have hr3 := hr2'.same s13
      have hw2 : RWs HC rest ys1 := w2.same s13
      have hw1 : RWs HC (d0 :: rest) (x0 :: ys1) := ⟨x0, _, rfl, w0.same s13, hw2⟩
      have hw0 : RWs HC (d1 :: d0 :: rest) (x1 :: x0 :: ys1) := ⟨x1, _, rfl, w1.same s13, hw1⟩
      have hall : RW HC (.lst (d1 :: d0 :: rest)) (.ref q3) := ⟨q3, _, rfl, u3, hw0⟩
      refine ⟨_, rfl, t, _, 1, _, rfl, rfl, ht3, t1, _, rfl, t, _, 2, _, rfl, rfl, ht3, t2, fun x dx hx hdx hne => mk _ (.ref q3) r (d1 :: d0 :: rest) _ hrd hes hb3 (hp2.same s13) (by omega) hall x dx hx hdx _ fun H' Go hD hs hGo => ?_⟩
      obtain ⟨dx2, w2', e1', e2'⟩ := hD.pa
      refine ⟨x, dx2, _, rfl, e1', pfs_exch _ _ _, x, d1 :: d0 :: rest, r, s, Go, 0, rfl, hD.pa, hes, hrd, hlk, by show 0 + 1 < rest.length + 2; omega, fun o' H'' G' hs2 ho' pat' hG' => ?_⟩
      have pat2 : PatAt C H'' o' (.lst ds) r s G' := by
        rw [eds]
        exact pat'
      exact ⟨o', G', none, ⟨hD.bt.trans (.of hs2), hD.pu.same hs2, pat2, fr2 hD.bt hD.pu ho', fun a ha => fr2 hD.bt hD.pu (hG' a ha)⟩, (hr3.same hs).same hs2, apart (hr3.same hs) hG', rfl⟩
    refine ⟨fun b H' => H2 = H' ∧ (b = true → ds.length < 20), ?_, ?_⟩
    · refine ⟨_, rfl, rfl, _, rfl, ?_⟩
      refine ite2 (fun _ => ?_) (fun _ => ⟨rfl, fun z => nomatch z⟩)
      exact ⟨_, rfl, hl, zs, rfl, .inl sqh, _, _, rfl, rfl, _, rfl, rfl, fun z => by
        have z' : (((zs.length : Nat) : Int)) < 20 := of_decide_eq_true z
        omega⟩
    rintro bb2 _ ⟨rfl, hbb2⟩
    refine ite2 (fun c => ?_) (fun _ => ?_)
    · -- one more step, and without it
      have hl20 := hbb2 c
      refine ⟨_, rfl, _, rfl, hl, zs, rfl, .inl sqh, _, _, rfl, rfl, p, _, n + 1, rfl, hp2, by omega, by omega, by omega, fun da H3 da0 da1 hb3' hp3 => ?_⟩
      obtain ⟨i, rfl⟩ : ∃ i : Nat, da = (i : Int) := ⟨da.toNat, by omega⟩
      have hid : i ≤ ds.length := by omega
      have hb3 := hb2.trans hb3'
      have nph : ∀ {a}, H a = none → a ≠ p := fun e => hp.ne e
      have hhl3 : H3 hl = some (.lst zs) := hb3' _ _ (nph (hG hl List.mem_cons_self)) hhl
      have hr3 : Rep H3 (.lst ds) (.ref hl) (hl :: G0) := hr2'.kp (hb3'.kp hp2) fun a ha z => nph (hG a ha) z
      have hz3 : RWs H3 ds zs := by
        obtain ⟨l', zs', e', h', w'⟩ := hr3.rw
        cases e'
        rw [hhl3] at h'
        cases h'
        exact w'
      refine ⟨_, rfl, _, rfl, _, rfl, hl, zs, rfl, SqL.of hhl3, fun q1 hq1 => ?_⟩
      rw [cutV_pre]
      have s1 := same_new hq1 (.lst (zs.take i))
      have v1 : (upd H3 q1 (.lst (zs.take i))) q1 = some (.lst (zs.take i)) := upd_same
      generalize upd H3 q1 (.lst (zs.take i)) = HA at s1 v1 ⊢
      refine ⟨by show 2 ≤ sizeLine; decide, fun m1 hm1 => ?_⟩
      have s2 := same_new hm1 (.tup [.str (Str.ofString "number"), .int 3])
      have h1 : Rep (upd HA m1 (.tup [.str (Str.ofString "number"), .int 3])) (.tup [S "number", .leaf (.int 3)]) (.ref m1) [] := rep_tup upd_same (reps_leaf leaf_str (reps_leaf leaf_int reps_nil))
      generalize upd HA m1 (.tup [.str (Str.ofString "number"), .int 3]) = HB at s2 h1 ⊢
      refine ⟨by show 3 ≤ sizeLine; decide, fun m2 hm2 => ?_⟩
      have s3 := same_new hm2 (.tup [.str (Str.ofString "set"), .str (Str.ofString "a"), .ref m1])
      have h2 : Rep (upd HB m2 (.tup [.str (Str.ofString "set"), .str (Str.ofString "a"), .ref m1])) xS (.ref m2) [] := rep_tup upd_same (reps_leaf leaf_str (reps_leaf leaf_str (reps_one (h1.same s3))))
      generalize upd HB m2 (.tup [.str (Str.ofString "set"), .str (Str.ofString "a"), .ref m1]) = HC at s3 h2 ⊢
      refine ⟨by show 1 ≤ sizeLine; decide, fun q2 hq2 => ?_⟩
      have s4 := same_new hq2 (.lst [V.ref m2])
      have v2 : (upd HC q2 (.lst [V.ref m2])) q2 = some (.lst [V.ref m2]) := upd_same
      generalize upd HC q2 (.lst [V.ref m2]) = HD at s4 v2 ⊢
      have s24 := (s2.trans s3).trans s4
      have ztl : (zs.take i).length ≤ 30 := by
        rw [List.length_take]
        omega
      refine ⟨q1, q2, _, _, rfl, rfl, s24 _ _ v1, v2, Nat.le_trans (show (zs.take i).length + 1 ≤ 1000 by omega) (by decide), fun q3 hq3 => ?_⟩
      have s5 := same_new hq3 (.lst (zs.take i ++ [V.ref m2]))
      have v3 : (upd HD q3 (.lst (zs.take i ++ [V.ref m2]))) q3 = some (.lst (zs.take i ++ [V.ref m2])) := upd_same
      generalize upd HD q3 (.lst (zs.take i ++ [V.ref m2])) = HE at s5 v3 ⊢
      have s15 := (s1.trans s24).trans s5
      refine ⟨_, rfl, _, rfl, _, rfl, hl, zs, rfl, SqL.of (s15 _ _ hhl3), fun q4 hq4 => ?_⟩
      rw [cutV_post]
      have s6 := same_new hq4 (.lst (zs.drop i))
      have v4 : (upd HE q4 (.lst (zs.drop i))) q4 = some (.lst (zs.drop i)) := upd_same
      generalize upd HE q4 (.lst (zs.drop i)) = HF at s6 v4 ⊢
      refine ⟨q3, q4, _, _, rfl, rfl, s6 _ _ v3, v4, ?_, fun q5 hq5 => ?_⟩
      · refine Nat.le_trans (show _ ≤ 1000 from ?_) (by decide)
        rw [List.length_append, List.length_drop]
        show (zs.take i).length + 1 + _ ≤ 1000
        omega
      have s7 := same_new hq5 (.lst (zs.take i ++ [V.ref m2] ++ zs.drop i))
      have v5 : (upd HF q5 (.lst (zs.take i ++ [V.ref m2] ++ zs.drop i))) q5 = some (.lst (zs.take i ++ [V.ref m2] ++ zs.drop i)) := upd_same
      generalize upd HF q5 (.lst (zs.take i ++ [V.ref m2] ++ zs.drop i)) = HG at s7 v5 ⊢
      have s17 := (s15.trans s6).trans s7
      have ht3 := SqT.of (K := K) (s17 _ _ (hb3 _ _ htp ht))
      have hb4 := hb3.trans (But.of s17)
      have hr4 := hr3.same s17
      obtain ⟨wx1, wx2⟩ := with_x hid
      have hes := hT.with_x hl20 i
      have hx : RW HG xS (.ref m2) := (h2.same (((s4.trans s5).trans s6).trans s7)).rw
      have hxs : RWs HG [xS] [V.ref m2] := ⟨_, [], rfl, hx, rfl⟩
      have hall : RW HG (.lst (ds.take i ++ [xS] ++ ds.drop i)) (.ref q5) := ⟨q5, _, rfl, v5, (((hz3.take i).same s17).app hxs).app ((hz3.drop i).same s17)⟩
      refine ⟨_, rfl, t, _, 1, _, rfl, rfl, ht3, t1, _, rfl, t, _, 2, _, rfl, rfl, ht3, t2, fun x dx hx0 hdx hne => mk _ (.ref q5) r _ _ hrd hes hb4 (hp3.same s17) (by omega) hall x dx hx0 hdx _ fun H' Go hD hs hGo => ?_⟩
      obtain ⟨dx2, w2', e1', e2'⟩ := hD.pa
      refine ⟨x, dx2, _, rfl, e1', pfs_wout _ _ _, _, rfl, x, _, r, s, Go, i, rfl, hD.pa, hes, hrd, hlk, wx2, fun o' H'' G' hs2 ho' pat' hG' => ?_⟩
      rw [wx1] at pat'
      exact ⟨o', G', _, ⟨hD.bt.trans (.of hs2), hD.pu.same hs2, pat', fr2 hD.bt hD.pu ho', fun a ha => fr2 hD.bt hD.pu (hG' a ha)⟩, (hr4.same hs).same hs2, apart (hr4.same hs) hG', rfl⟩
    · exact ⟨_, rfl, _, rfl, t, _, 1, _, rfl, rfl, ht2, t1, _, rfl, t, _, 2, _, rfl, rfl, ht2, t2, fun x dx hx hdx hne => mk H2 _ r ds _ hrd hT hb2 hp2 (by omega) hr2'.rw x dx hx hdx _ fun H' Go hD hs hGo => ⟨x, Go, none, hD, hr2'.same hs, apart hr2' hGo, rfl⟩⟩
  rintro _ H3 ⟨o, Go, v5, hD, hr3, hap, rfl⟩
  -- told, and made of it
  refine ⟨fun σ' H' => ∃ (o : Addr) (Go : List Addr) (v5 : Option V), Done C H p (n + 2) (.lst ds) r s H' o Go ∧ Rep H' (.lst ds) u G ∧ (∀ a ∈ G, a ∉ Go) ∧ σ' = [some (.ref p), some (.ref t), some u, some (.int rd), some (.ref o), v5], ?_, ?_⟩
  · refine ⟨_, rfl, rfl, _, rfl, ?_⟩
    refine ite2 (fun _ => ?_) (fun _ => ⟨o, Go, v5, hD, hr3, hap, rfl⟩)
    obtain ⟨dx, w0, e1, _⟩ := id hD.pa
    refine ⟨_, rfl, o, dx, _, rfl, e1, o, .lst ds, r, s, Go, rfl, hD.pa, hfit, fun u1 H4 G1 hs4 hr4 hG1 => ?_⟩
    have pa4 : PatAt C H4 o (.lst ds) r s Go := by
      obtain ⟨dx, v, e, q⟩ := hD.pa
      exact ⟨dx, v, hs4 _ _ e, q.same hs4⟩
    obtain ⟨dx4, w4, e4, _⟩ := id pa4
    refine ⟨_, rfl, o, dx4, _, rfl, e4, o, .lst ds, r, s, Go, rfl, pa4, _, rfl, o, dx4, _, rfl, e4, o, .lst ds, r, s, Go, rfl, pa4, fun x dx hx hdx hne => mk H4 u1 r ds _ hrd hT (hD.bt.trans (.of hs4)) (hD.pu.same hs4) (Nat.le_refl _) hr4.rw x dx hx hdx _ fun H' Go' hD' hs hGo => ⟨x, Go', v5, hD', (hr3.same hs4).same hs, apart (hr3.same hs4) hGo, rfl⟩⟩
  clear hD hr3 hap
  rintro _ H3 ⟨o, Go, v5, hD, hr3, hap, rfl⟩
  refine ⟨_, rfl, by show 1 ≤ sizeLine; decide, fun tl htl => ?_⟩
  have sl := same_new htl (.lst [.int 0])
  have ntl : tl ∉ G := fun z => by
    obtain ⟨zs, e⟩ := hr3.at_ tl z
    rw [htl] at e
    cases e
  have ntl2 : tl ∉ Go := fun z => by
    obtain ⟨dx2, w2, e1, e2⟩ := hD.pa
    obtain ⟨zs, e⟩ := e2.at_ tl z
    rw [htl] at e
    cases e
  have htl0 : H tl = none := fr2 hD.bt hD.pu htl
  refine ⟨u, tl, .lst ds, G, 34, 0, rfl, by decide, hr3.same sl, hfit, upd_same, ntl, fun H4 kp hr4 ht4 => ⟨_, rfl, ?_⟩⟩
  have hD4 : Done C H p (n + 2) (.lst ds) r s H4 o Go := hD.kp hp ((Kp.same sl).trans kp) fun a z => by
    rcases z with z | rfl
    · exact ⟨hG a z, hap a z⟩
    · exact ⟨htl0, ntl2⟩
  exact kk o H4 Go hD4.bt hD4.pu hD4.no hD4.pa hD4.nw
end
end K02
set_option Elab.async false
set_option linter.all false
set_option maxRecDepth 100000
set_option maxHeartbeats 4000000
namespace K02
open PySem L2 PyProof.Rows
def spSize (k : Nat) : Sp := fun vs H Q _ => ∃ (v : V) (d : D) (m : Nat), vs = [v] ∧ RW H d v ∧ PtOk m d ∧ m + 1 ≤ k ∧ ∀ H', Same H H' → Q (.int (((pre m d).length : Nat) : Int)) H'
section
variable {P : Program} {w : World} {K : PySem.W.Frag} {mg : Str → Option Value} {base : Heap}
theorem size_none {f : Addr} {fd : FuncData} {ps : List Str} : FnOk P w K mg base CX0 0 f fd ps (spSize 0) := none_of fun vs H Q E h => by
  obtain ⟨v, d, m, _, _, _, h1, _⟩ := h
  omega
theorem sum_len {α β : Type} {f : α → List β} : ∀ {xs : List α}, (xs.map fun x => (((f x).length : Nat) : Int)).sum = (((xs.flatMap f).length : Nat) : Int)
  | [] => rfl
  | x :: xs => by
    rw [List.map_cons, List.sum_cons, sum_len, List.flatMap_cons, List.length_append]
    omega
theorem scSi : FnScope ["piece", "one"] ["piece"] (defScope sSize) := ⟨rfl, rfl, rfl, by decide +kernel, rfl, by decide +kernel, by decide +kernel⟩
theorem ok_size {f : Addr} {fd : FuncData} {k : Nat} (F : Fun K "_law_ta_size" "_law_ta_size" sSize f fd) (T : Txt K mg) (zS : mg "sum" = none)
    (G : FnOk P w K mg base CX0 k f fd ["piece"] (spSize k)) (b : Binds K fd ["piece"] []) (m : mg "_law_ta_size" = some (.ref f)) : FnOk P w K mg base CX0 (k + 1) f fd ["piece"] (spSize (k + 1)) := by
  refine F.ok scSi (fun vs H Q E h => ?_) (fun cdv A outer s H vs Q E hr h => ?_)
  · obtain ⟨v, d, m, rfl, _⟩ := h
    rfl
  obtain ⟨v, d, mm, rfl, hR, hT, hk, kk⟩ := h
  refine ⟨_, pss_cons (ps_if (pt_cmpR op_in_seq (pe_ix ix_tup (pv 0) pe_int (fun _ _ => rfl)) (pe_tup (pa_cons pe_str (pa_cons pe_str pa_nil))) (by rfl)) (pss_one (ps_ret pe_int)) pss_nil)
    (pss_one (ps_ret (pe_op op_add pe_int (pe_callB (cr_sum rfl) (by rfl) zS (by decide +kernel) (pa_cons (pe_lc (own := [("one", 1)]) (g := gName 1) (tt := tYes) rfl scSi.nd (pi_list (pe_ix ix_tup (pv 0) pe_int (fun _ _ => rfl))) (blkOk_by (N := ["piece", "one"]) (sc := defScope sSize) (by decide +kernel)) (fun _ _ _ _ _ => pg_name (i := 1) scSi.nd rfl (Or.inl rfl)) (fun _ _ _ _ _ => pts_nil)
      (fun _ _ _ _ _ => pe_call G hr rfl m F.kp b .nil pass0 (pa_cons (pe_ix (show IxR _ (rIxT K) from ix_tup) (pv 1) (pe_un un_neg pe_int) (fun _ _ => rfl)) pa_nil))) pa_nil))))), ?_⟩
  have a0 : ∀ {s : String} {ys : List V}, atI (V.str (Str.ofString s) :: ys) 0 = some (.str (Str.ofString s)) := atI_nat (j := 0) rfl
  cases mm with
  | zero => exact hT.elim
  | succ mm =>
  rcases hT with e | ⟨z, hz, e⟩ | ⟨row, qs, r, e, ho, hl3, hq, hf⟩
  · rw [e] at hR
    obtain ⟨a, ys, rfl, ha, hys⟩ := hR.head
    refine ⟨_, rfl, a, _, 0, _, rfl, rfl, SqT.of ha, a0, by show 2 ≤ sizeLine; decide, fun t ht => ⟨t, _, rfl, .inr (SqT.of upd_same), rfl, rfl, _, rfl, ifT (by decide +kernel) ?_⟩⟩
    have z := kk _ (same_new ht (.tup [V.str (Str.ofString "name"), V.str (Str.ofString "any")]))
    rw [e] at z
    exact z
  · rw [e] at hR
    obtain ⟨a, ys, rfl, ha, hys⟩ := hR.head
    refine ⟨_, rfl, a, _, 0, _, rfl, rfl, SqT.of ha, a0, by show 2 ≤ sizeLine; decide, fun t ht => ⟨t, _, rfl, .inr (SqT.of upd_same), rfl, rfl, _, rfl, ifT (by decide +kernel) ?_⟩⟩
    have z := kk _ (same_new ht (.tup [V.str (Str.ofString "name"), V.str (Str.ofString "any")]))
    rw [e] at z
    exact z
  have hkd : kids d = qs.map fun q => q.2.1 := by
    rw [e, kids_ent]
  rw [e] at hR
  obtain ⟨a, ys, rfl, ha, hys⟩ := hR.head
  obtain ⟨x, ys', rfl, hx, hy'⟩ := hys
  obtain ⟨lA, xs, rfl, hlA, hxs⟩ := hx
  have hxl : xs.length = qs.length := by
    rw [hxs.len, List.length_map]
  refine ⟨_, rfl, a, _, 0, _, rfl, rfl, SqT.of ha, a0, by show 2 ≤ sizeLine; decide, fun t ht => ⟨t, _, rfl, .inr (SqT.of upd_same), rfl, rfl, _, rfl, ifF (by cases row <;> decide +kernel) ?_⟩⟩
  have s1 := same_new ht (.tup [V.str (Str.ofString "name"), V.str (Str.ofString "any")])
  generalize upd H t (.tup [V.str (Str.ofString "name"), V.str (Str.ofString "any")]) = H1 at s1
  refine ⟨_, rfl, a, _, 1, _, rfl, rfl, SqT.of (s1 _ _ ha), atI_nat (j := 1) rfl, lA, rfl, ⟨_, SqL.of (s1 _ _ hlA)⟩, fun D0 hD => ?_⟩
  have epre : (pre (mm + 1) d).length = ((kids d).flatMap (pre mm)).length + 1 := rfl
  refine lc_list (K := K) (a := lA) (xs := xs) (fun i H' => Same H1 H' ∧ H' D0 = some (.lst ((((kids d).take i).map fun k => (((pre mm k).length : Nat) : Int)).map V.int))) ⟨same_new hD _, upd_same⟩ (fun i H' _ ⟨h, _⟩ => SqL.of (h _ _ (s1 _ _ hlA))) ?_ ?_
  · rintro i x H3 hi ⟨hs3, hD3⟩
    refine ⟨rfl, ?_⟩
    have hil := (List.getElem?_eq_some_iff.mp hi).1
    obtain ⟨t2, ht2, hrt⟩ := RWs.item (hxs.same (s1.trans hs3)) hi
    rw [List.getElem?_map] at ht2
    obtain ⟨q, hqi, rfl⟩ : ∃ q, qs[i]? = some q ∧ ent row q = t2 := by
      cases e2 : qs[i]? with
      | none =>
        rw [e2] at ht2
        cases ht2
      | some q =>
        rw [e2] at ht2
        exact ⟨q, rfl, Option.some.inj ht2⟩
    obtain ⟨b1, zs, y1, rfl, hb1, hat, hry⟩ := hrt.ent
    have hkid : (kids d)[i]? = some q.2.1 := by
      rw [hkd, List.getElem?_map, hqi]
      rfl
    have tp := take_flat_le (f := pre mm) (xs := kids d) (i := i + 1)
    rw [take_flat (f := pre mm) hkid, List.length_append] at tp
    show tCall (spSize k) [] E0 (tCons (tOp (rIxT K) (tVar 1) _) tNil) _ H3 _
    refine ⟨_, rfl, 2, rfl, b1, zs, -2, y1, rfl, rfl, SqT.of hb1, hat, y1, q.2.1, mm, rfl, hry, (hq q (List.mem_of_getElem? hqi)).1, by omega, fun H4 hs4 => ⟨_, hs4 _ _ hD3, ?_, same_put (hs3.trans hs4) hD, ?_⟩⟩
    · rw [List.length_map, List.length_map]
      exact Nat.lt_of_le_of_lt (Nat.le_trans (List.length_take_le _ _) (show i ≤ 1000 by omega)) (by decide)
    · rw [upd_same, List.take_add_one, hkid]
      simp
  · rintro H3 ⟨hs3, hD3⟩
    have hkl : (kids d).length = xs.length := by
      rw [hkd, List.length_map, hxl]
    rw [← hkl, List.take_length] at hD3
    refine ⟨D0, _, rfl, SqL.of hD3, _, _, rfl, rfl, ?_⟩
    rw [sum_len]
    have z := kk H3 (s1.trans hs3)
    rw [epre] at z
    have e9 : (1 : Int) + (((((kids d).flatMap (pre mm)).length : Nat)) : Int) = (((((kids d).flatMap (pre mm)).length + 1 : Nat)) : Int) := by omega
    show Q (.int (1 + (((((kids d).flatMap (pre mm)).length : Nat)) : Int))) H3
    rw [e9]
    exact z
end
end K02
set_option Elab.async false
set_option linter.all false
set_option maxRecDepth 100000
set_option maxHeartbeats 2000000
/-! Promises of functions that run where no guarded builtin runs around them: so repr of nested data may be told. -/
namespace L2
open PySem PySem.Spec PyProof.Rows
def Free (A : Around) : Prop := A.guards = some []
theorem Free.deeper {A : Around} (h : Free A) (e : Env) : Free (A.deeper e) := h
theorem Free.caller : Free callerA := rfl
/-- as FnOk, where nothing guarded runs around -/
structure FnG (P : Program) (w : World) (K : PySem.W.Frag) (mg : Str → Option Value) (base : Heap) (CX : CXT) (k : Nat) (f : Addr) (fd : FuncData) (ps : List Str) (sp : Sp) : Prop where
  len : ∀ vs H Q E, sp vs H Q E → vs.length = ps.length
  run : ∀ (A : Around) (outer : List Env) (s : Shared) (H : Hp) (args : Args) (us : List Value) (vs : List V) (Q : VK) (E : XK), Free A → Room k A → Env0 P w K mg base A outer s H →
    BindsTo s fd args (ps.zip us) → Vals vs us → sp vs H Q E → codeAny (model P w) A (.call (.ref f) args) (CR CX outer P w H s Q E) s
section
variable {P : Program} {w : World} {K : PySem.W.Frag} {mg : Str → Option Value} {base : Heap} {CX : CXT} {f : Addr} {fd : FuncData} {ps : List Str} {sp : Sp}
theorem FnOk.g {k : Nat} (F : FnOk P w K mg base CX k f fd ps sp) : FnG P w K mg base CX k f fd ps sp := ⟨F.len, fun A outer s H args us vs Q E _ => F.run A outer s H args us vs Q E⟩
theorem FnG.mono {j k : Nat} (F : FnG P w K mg base CX j f fd ps sp) (h : j ≤ k) : FnG P w K mg base CX k f fd ps sp := ⟨F.len, fun A outer s H args us vs Q E hg hr => F.run A outer s H args us vs Q E hg (hr.mono h)⟩
end
section
variable {X : Cx} {CX : CXT} {k : Nat} {f : Addr} {fd : FuncData} {ps : List Str} {sp : Sp} {E : XK} {x : Str} {p pos : Pos} {e : Expr} {es : List Expr} {t : TA}
/-- f(..) by place, no defaults -/
theorem pe_callG (F : FnG X.prog X.w X.K X.mg X.base CX k f fd ps sp) (fr : Free X.A) (hr : Room k X.A) (hg : Gl X x) (hm : X.mg x = some (.ref f)) (hk : PySem.W.keepIn X.K (.ref f) = true) (hb : Binds X.K fd ps []) (hx : Passes CX X E)
    (ha : PA X (e :: es) t) (hdb : (x == ("__debug__" : Str)) = false := by decide) (he : starEach (e :: es) X.env = (false, eval e X.env) :: starEach es X.env := by rfl) (hpl : (backTo pos (starEach es X.env)).any (·.1) = false := by rfl) :
    PE X (.Call (.Name x p) (e :: es) [] pos) (tCall sp [] E t) := by
  refine ⟨fun pins s σ H Q I h => wpAny_Call_Name_kw (ld_glob I hg hm ?_ hdb)⟩
  refine PySem.W.callWith_K (h₀ := X.base) I.ok.mod.kin hk (thn (ha.run pos pins s σ H _ I h) fun us s1 ⟨vs, H1, J, r, q⟩ => ⟨J.kIn, ?_⟩) he hpl
  replace q : sp (vs ++ []) H1 Q E := q
  rw [List.append_nil] at q
  have hl : (us ++ []).length = ps.length := by
    rw [List.append_nil, ← r.length]
    exact F.len _ _ _ _ q
  have bd := hb s1 us J.kIn hl
  rw [List.append_nil] at bd
  refine wpAny_call (codeAny_mono (F.run X.A X.stack s1 H1 ⟨us, []⟩ us vs Q E fr hr J.env0 bd r q) fun rr z hz => ?_)
  rcases rr with er | (u | _ | _ | _) <;> first | exact hx pins σ H1 s1 er z J hz | exact hz.elim | exact J.after hz
end
section
variable {P : Program} {w : World} {K : PySem.W.Frag} {mg : Str → Option Value} {base : Heap}
/-- from the body of a def -/
theorem Fun.okG {x qual : Str} {st : Stmt} {f : Addr} {fd : FuncData} {N ps : List Str} {k : Nat} {sp : Sp} (F : Fun K x qual st f fd) (S : FnScope N ps (defScope st)) (len : ∀ vs H Q E, sp vs H Q E → vs.length = ps.length)
    (hbody : ∀ (cdv : Value) (A : Around) (outer : List Env) (s : Shared) (H : Hp) (vs : List V) (Q : VK) (E : XK), Free A → Room k (A.deeper (envOfC qual (defScope st) s.heap.objs.size f cdv)) → sp vs H Q E →
      ∃ t, PSs (cxOf CX0 P w K mg base N qual (defScope st) f cdv A outer s H E).nox (defBody st) t ∧ t { nx := fun _ H' => Q .non H', rt := Q } (start N vs) H) : FnG P w K mg base CX0 (k + 1) f fd ps sp := by
  obtain ⟨oc, od, kV, doc, pm, an, cdv, ct, osl, rfl, lk, hcd⟩ := F.ex
  refine ⟨len, fun A outer s H args us vs Q E hg hr e0 hb r hsp => ?_⟩
  have hl := len _ _ _ _ hsp
  have inK : K.In s.heap := e0.mod.kin.keeps fun b o e => (e0.bs b o e).1
  have noL : s.heap.NoLimit := e0.mod.nolimit.keeps fun b o e => (e0.bs b o e).1
  refine codeAny_call_function hr.depth (inK _ _ lk) rfl S.co S.gen rfl (PySem.W.codeRec_of inK hcd) (hb _ _ _ _ ?_)
  refine wpAny_newFunctionEnv_cells S.kind (fun ⟨n, v⟩ hy => ?_) fun env he z1 ex => ?_
  · exact (S.par n (List.of_mem_zip hy).1).imp id fun q => ⟨q, PySem.W.cellsFrom_some _ _ _ (.inl q)⟩
  subst he
  refine ⟨noL.keeps ex.toInCall.keep, codeAny_func ?_⟩
  obtain ⟨t, ht, hq⟩ := hbody cdv A outer s H vs Q E hg (hr.deeper _) hsp
  have J : Inv (cxOf CX0 P w K mg base N qual (defScope st) f cdv A outer s H E) [] (start N vs) H z1 := inv_start S hr.hd e0 hl r ex
  refine wpAny_mono (ht.nox.run [] z1 (start N vs) H _ J hq) (fun fl z hs => ?_) fun _ _ hs => hs
  cases fl with
  | ret u =>
    obtain ⟨v, σ', H', J2, rv, q⟩ := hs
    exact ⟨v, H', J2.os, J2.bare, J2.base, J2.hok, rv, q⟩
  | next =>
    obtain ⟨σ', H', J2, q⟩ := hs
    exact ⟨V.non, H', J2.os, J2.bare, J2.base, J2.hok, rfl, q⟩
  | brk =>
    obtain ⟨_, _, _, q⟩ := hs
    exact q.elim
  | cont =>
    obtain ⟨_, _, _, q⟩ := hs
    exact q.elim
end
end L2
set_option Elab.async false
set_option linter.all false
set_option maxRecDepth 100000
set_option maxHeartbeats 2000000
/-! repr of lists and tuples of texts, whole numbers and None, nested. -/
namespace L2
open PySem PySem.Spec PyProof.Rows
def rReprD (K : PySem.W.Frag) : List V → Hp → VK → Prop := fun xs H Q => ∃ (v : V) (d : PyData), xs = [v] ∧ Dp K H v d ∧ d.showable = true ∧ d.hasDict = false ∧ d.depth ≤ 60 ∧ d.shown.length ≤ sizeLine ∧ Q (.str d.shown) H
theorem call_reprD {X : Cx} (fr : Free X.A) (hu : X.A.units + 64 < cLine) : CallR X (.builtin "repr") (rReprD X.K) := by
  intro pins s σ H xs us Q I r h
  obtain ⟨v, d, rfl, hd, sh, nd, dp, sz, q⟩ := h
  obtain ⟨u, rfl, r1⟩ := vals1 r
  have big : ∀ {a : Addr}, u = Value.ref a → wpAny (model X.prog X.w) X.A (call (.builtin "repr") [u]) (EP X pins σ Q) X.xe s := fun {a} e => by
    obtain ⟨as, rd⟩ := Dp.reads I d v u hd r1
    subst e
    refine repr_of_reads' rd sh (fun z => ?_) fr (by omega) (fun _ _ e => e) (fun h' t tk k => ⟨.str _, H, I.kept k, ⟨_, rfl⟩, q⟩) sz
    rw [nd] at z
    cases z
  cases hd with
  | non =>
    obtain rfl : u = Value.none := r1
    exact PySem.P.repr_of_none ⟨.str _, H, I.tok _, ⟨_, rfl⟩, q⟩
  | bl b =>
    obtain rfl : u = Value.bool b := r1
    refine PySem.P.repr_of_bool ⟨.str _, H, I.tok _, ⟨_, rfl⟩, ?_⟩
    rw [PyData.shown_bool] at q
    cases b <;> exact q
  | int i =>
    obtain ⟨t, rfl⟩ := r1
    refine PySem.P.repr_of_int (by simpa [PyData.showable] using sh) ⟨.str _, H, I.tok _, ⟨_, rfl⟩, ?_⟩
    rw [PyData.shown_int] at q
    exact q
  | str x =>
    obtain ⟨t, rfl⟩ := r1
    rw [PyData.shown_str] at q sz
    exact PySem.P.repr_of_str ⟨.str _, H, I.tok _, ⟨_, rfl⟩, q⟩ sz
  | @lst a xs ds h1 h2 => exact big (a := a) r1
  | @tup a xs ds h1 h2 => exact big (a := a) r1
end L2
set_option Elab.async false
set_option linter.all false
set_option maxRecDepth 100000
set_option maxHeartbeats 4000000
namespace K02
open PySem L2 PyProof.Rows
/-! ### equal data -/
mutual
def deq : D → D → Bool
  | .leaf v, .leaf w => decide (v = w)
  | .lst ds, .lst es => deqs ds es
  | .tup ds, .tup es => deqs ds es
  | .leaf _, .lst _ | .leaf _, .tup _ | .lst _, .leaf _ | .lst _, .tup _ | .tup _, .leaf _ | .tup _, .lst _ => false
def deqs : List D → List D → Bool
  | [], [] => true
  | d :: ds, e :: es => deq d e && deqs ds es
  | [], _ :: _ | _ :: _, [] => false
end
mutual
theorem deq_self : ∀ (d : D), deq d d = true
  | .leaf v => by simp [deq]
  | .lst ds => by rw [deq]; exact deqs_self ds
  | .tup ds => by rw [deq]; exact deqs_self ds
theorem deqs_self : ∀ (ds : List D), deqs ds ds = true
  | [] => by rw [deqs]
  | d :: ds => by rw [deqs, deq_self d, deqs_self ds]; rfl
end
theorem deqs_all : ∀ {ds es : List D}, ds.length = es.length → deqs ds es = (ds.zip es).all fun q => deq q.1 q.2
  | [], [], _ => by rw [deqs]; rfl
  | d :: ds, e :: es, h => by
    rw [deqs, deqs_all (Nat.succ.inj h)]
    rfl
  | [], _ :: _, h => nomatch h
  | _ :: _, [], h => nomatch h
theorem deqs_len : ∀ {ds es : List D}, ds.length ≠ es.length → deqs ds es = false
  | [], [], h => absurd rfl h
  | d :: ds, e :: es, h => by
    rw [deqs, deqs_len (fun z => h (by rw [List.length_cons, List.length_cons, z])), Bool.and_false]
  | [], _ :: _, _ => by rw [deqs]
  | _ :: _, [], _ => by rw [deqs]
/-- None, small whole numbers and short texts, so deep at most -/
def Lf (v : V) : Prop := v = .non ∨ (∃ i : Int, v = .int i ∧ i.natAbs ≤ 1000) ∨ ∃ z : Str, v = .str z ∧ PyData.strOk z = true ∧ z.length ≤ 8
def Pl : Nat → D → Prop
  | _, .leaf v => Lf v
  | 0, .lst _ => False
  | 0, .tup _ => False
  | n + 1, .lst ds => ds.length ≤ 1000 ∧ ∀ d ∈ ds, Pl n d
  | n + 1, .tup ds => ds.length ≤ 1000 ∧ ∀ d ∈ ds, Pl n d
/-- as the library's data -/
def toL : V → PyData
  | .int i => .int i
  | .str z => .str z
  | .bl b => .bool b
  | _ => .none
mutual
def toP : D → PyData
  | .leaf v => toL v
  | .lst ds => .list (toPs ds)
  | .tup ds => .tuple (toPs ds)
def toPs : List D → List PyData
  | [] => []
  | d :: ds => toP d :: toPs ds
end
theorem dp_leaf {K : PySem.W.Frag} {H : Hp} {v : V} (h : Leaf v) : Dp K H v (toL v) := by
  rcases h with rfl | ⟨b, rfl⟩ | ⟨i, rfl⟩ | ⟨z, rfl⟩
  · exact .non
  · exact .bl _
  · exact .int _
  · exact .str _
mutual
theorem RW.dp {K : PySem.W.Frag} {H : Hp} : ∀ {d : D} {v : V}, RW H d v → Dp K H v (toP d)
  | .leaf w, u, h => by
    obtain ⟨rfl, hl⟩ := h
    rw [toP]
    exact dp_leaf hl
  | .lst ds, u, h => by
    obtain ⟨a, xs, rfl, ha, hr⟩ := h
    rw [toP]
    exact .lst (SqL.of ha) (RWs.dp hr)
  | .tup ds, u, h => by
    obtain ⟨a, xs, rfl, ha, hr⟩ := h
    rw [toP]
    exact .tup (SqT.of ha) (RWs.dp hr)
theorem RWs.dp {K : PySem.W.Frag} {H : Hp} : ∀ {ds : List D} {xs : List V}, RWs H ds xs → DpAll K H xs (toPs ds)
  | [], xs, h => by
    have e : xs = [] := h
    rw [e, toPs]
    exact .nil
  | d :: ds, xs, h => by
    obtain ⟨x, ys, rfl, h1, h2⟩ := h
    rw [toPs]
    exact .cons (RW.dp h1) (RWs.dp h2)
end
theorem toPs_len : ∀ (ds : List D), (toPs ds).length = ds.length
  | [] => by rw [toPs]; rfl
  | d :: ds => by rw [toPs, List.length_cons, List.length_cons, toPs_len ds]
theorem eqv_leaf {v w : V} (h1 : Lf v) (h2 : Lf w) : PyData.eqv (toL v) (toL w) = decide (v = w) := by
  rcases h1 with rfl | ⟨i, rfl, _⟩ | ⟨z, rfl, _⟩ <;> rcases h2 with rfl | ⟨j, rfl, _⟩ | ⟨y, rfl, _⟩ <;> simp [toL, PyData.eqv] <;> (rw [Bool.eq_iff_iff]; simp)
mutual
theorem eqv_deq : ∀ {n m : Nat} (d e : D), Pl n d → Pl m e → PyData.eqv (toP d) (toP e) = deq d e
  | n, m, .leaf v, .leaf w, h1, h2 => by
    have a : Lf v := by cases n <;> exact h1
    have b : Lf w := by cases m <;> exact h2
    rw [toP, toP, deq]
    exact eqv_leaf a b
  | n + 1, m + 1, .lst ds, .lst es, h1, h2 => by
    rw [toP, toP, deq, PyData.eqv]
    exact eqvs_deqs ds es h1.2 h2.2
  | n + 1, m + 1, .tup ds, .tup es, h1, h2 => by
    rw [toP, toP, deq, PyData.eqv]
    exact eqvs_deqs ds es h1.2 h2.2
  | n, m, .leaf v, .lst es, h1, _ => by
    have a : Lf v := by cases n <;> exact h1
    rw [toP, toP, deq]
    rcases a with rfl | ⟨i, rfl, _⟩ | ⟨z, rfl, _⟩ <;> simp [toL, PyData.eqv]
  | n, m, .leaf v, .tup es, h1, _ => by
    have a : Lf v := by cases n <;> exact h1
    rw [toP, toP, deq]
    rcases a with rfl | ⟨i, rfl, _⟩ | ⟨z, rfl, _⟩ <;> simp [toL, PyData.eqv]
  | n, m, .lst ds, .leaf w, _, h2 => by
    have b : Lf w := by cases m <;> exact h2
    rw [toP, toP, deq]
    rcases b with rfl | ⟨i, rfl, _⟩ | ⟨z, rfl, _⟩ <;> simp [toL, PyData.eqv]
  | n, m, .tup ds, .leaf w, _, h2 => by
    have b : Lf w := by cases m <;> exact h2
    rw [toP, toP, deq]
    rcases b with rfl | ⟨i, rfl, _⟩ | ⟨z, rfl, _⟩ <;> simp [toL, PyData.eqv]
  | n, m, .lst ds, .tup es, _, _ => by rw [toP, toP, deq, PyData.eqv]
  | n, m, .tup ds, .lst es, _, _ => by rw [toP, toP, deq, PyData.eqv]
theorem eqvs_deqs : ∀ {n m : Nat} (ds es : List D), (∀ d ∈ ds, Pl n d) → (∀ e ∈ es, Pl m e) → PyData.eqvAll (toPs ds) (toPs es) = deqs ds es
  | n, m, [], [], _, _ => by rw [toPs, deqs, PyData.eqvAll]
  | n, m, d :: ds, e :: es, h1, h2 => by
    rw [toPs, toPs, deqs, PyData.eqvAll, eqv_deq d e (h1 d List.mem_cons_self) (h2 e List.mem_cons_self), eqvs_deqs ds es (fun x hx => h1 x (List.mem_cons_of_mem _ hx)) fun x hx => h2 x (List.mem_cons_of_mem _ hx)]
  | n, m, [], e :: es, _, _ => by rw [toPs, toPs, deqs, PyData.eqvAll]
  | n, m, d :: ds, [], _, _ => by rw [toPs, toPs, deqs, PyData.eqvAll]
end
mutual
theorem lay_of : ∀ {n : Nat} (d : D), Pl n d → (toP d).canLay0 = true ∧ (toP d).depth ≤ n + 1 ∧ (toP d).showable = true
  | n, .leaf v, h => by
    have a : Lf v := by cases n <;> exact h
    rw [toP]
    rcases a with rfl | ⟨i, rfl, hi⟩ | ⟨z, rfl, hz, _⟩
    · simp [toL, PyData.canLay0, PyData.depth, PyData.showable]
    · refine ⟨by simp [toL, PyData.canLay0], by simp [toL, PyData.depth], ?_⟩
      rw [toL, PyData.showable]
      refine decide_eq_true (Nat.lt_of_le_of_lt (Nat.log2_le_self _) (by omega))
    · simp [toL, PyData.canLay0, PyData.depth, PyData.showable, hz]
  | n + 1, .lst ds, h => by
    obtain ⟨a, b, c⟩ := lays_of ds h.2
    rw [toP, PyData.canLay0, PyData.depth, PyData.showable]
    exact ⟨a, by omega, c⟩
  | n + 1, .tup ds, h => by
    obtain ⟨a, b, c⟩ := lays_of ds h.2
    rw [toP, PyData.canLay0, PyData.depth, PyData.showable]
    exact ⟨a, by omega, c⟩
theorem lays_of : ∀ {n : Nat} (ds : List D), (∀ d ∈ ds, Pl n d) → PyData.canLayAll0 (toPs ds) = true ∧ PyData.depthAll (toPs ds) ≤ n + 1 ∧ PyData.showableAll (toPs ds) = true
  | n, [], _ => by
    rw [toPs]
    exact ⟨by simp [PyData.canLayAll0], by simp [PyData.depthAll], by simp [PyData.showableAll]⟩
  | n, d :: ds, h => by
    obtain ⟨a1, b1, c1⟩ := lay_of d (h d List.mem_cons_self)
    obtain ⟨a2, b2, c2⟩ := lays_of ds fun x hx => h x (List.mem_cons_of_mem _ hx)
    rw [toPs, PyData.canLayAll0, PyData.depthAll, PyData.showableAll, a1, a2, c1, c2]
    exact ⟨rfl, Nat.max_le.mpr ⟨b1, b2⟩, rfl⟩
end
theorem shaped_of {n : Nat} {d : D} (h : Pl n d) (hn : n ≤ 60) : SeqAt.shaped (toP d) = true := by
  obtain ⟨a, b, _⟩ := lay_of d h
  show ((toP d).canLay0 && decide ((toP d).depth ≤ 64)) = true
  rw [a, decide_eq_true (by omega)]
  rfl
end K02
set_option Elab.async false
set_option linter.all false
set_option maxRecDepth 100000
set_option maxHeartbeats 4000000
namespace K02
open PySem L2 PyProof.Rows
mutual
theorem ints_of : ∀ {n : Nat} (d : D), Pl n d → (toP d).intsShort 13 = true
  | n, .leaf v, h => by
    have a : Lf v := by cases n <;> exact h
    rw [toP]
    rcases a with rfl | ⟨i, rfl, hi⟩ | ⟨z, rfl, hz, _⟩
    · simp [toL, PyData.intsShort]
    · rw [toL, PyData.intsShort]
      exact decide_eq_true (PyData.shown_int_le (by omega))
    · simp [toL, PyData.intsShort]
  | n + 1, .lst ds, h => by
    rw [toP, PyData.intsShort]
    exact intss_of ds h.2
  | n + 1, .tup ds, h => by
    rw [toP, PyData.intsShort]
    exact intss_of ds h.2
theorem intss_of : ∀ {n : Nat} (ds : List D), (∀ d ∈ ds, Pl n d) → PyData.intsShortAll 13 (toPs ds) = true
  | n, [], _ => by
    rw [toPs]
    simp [PyData.intsShortAll]
  | n, d :: ds, h => by
    rw [toPs, PyData.intsShortAll, ints_of d (h d List.mem_cons_self), intss_of ds fun x hx => h x (List.mem_cons_of_mem _ hx)]
    rfl
end
/-! where the one says None the other is no number, and of few signs -/
mutual
def Rb : D → D → Prop
  | d, .leaf v => v = .non → (toP d).weight ≤ 2 ^ 20 ∧ ∀ i, d ≠ .leaf (.int i)
  | .lst ds, .lst es => ds.length = es.length → Rbs ds es
  | .tup ds, .tup es => ds.length = es.length → Rbs ds es
  | .leaf _, .lst _ | .leaf _, .tup _ | .lst _, .tup _ | .tup _, .lst _ => True
def Rbs : List D → List D → Prop
  | d :: ds, e :: es => Rb d e ∧ Rbs ds es
  | [], _ => True
  | _ :: _, [] => True
end
theorem Rbs.item : ∀ {ds es : List D} {i : Nat} {d e : D}, Rbs ds es → ds[i]? = some d → es[i]? = some e → Rb d e
  | d :: ds, e :: es, 0, x, y, h, h1, h2 => by
    rw [Rbs] at h
    have e1 : d = x := Option.some.inj h1
    have e2 : e = y := Option.some.inj h2
    rw [← e1, ← e2]
    exact h.1
  | d :: ds, e :: es, i + 1, x, y, h, h1, h2 => by
    rw [Rbs] at h
    exact h.2.item (by simpa using h1) (by simpa using h2)
  | [], _, i, x, y, _, h1, _ => by simp at h1
  | _ :: _, [], i, x, y, _, _, h2 => by simp at h2
/-! ### what repr says: None, or not -/
def hd0 (x : Str) : Option Nat := x.cps.toList.head?
theorem hd_app {x y : Str} {c : Nat} (h : hd0 x = some c) : hd0 (x ++ y) = some c := by
  have e : (x ++ y).cps = x.cps ++ y.cps := rfl
  unfold hd0 at h ⊢
  rw [e, Array.toList_append]
  cases q : x.cps.toList with
  | nil =>
    rw [q] at h
    cases h
  | cons a l =>
    rw [q] at h
    exact h
theorem fold_hd (q : Nat) (f : Nat → List Nat) : ∀ (l : List Nat) (acc : Array Nat), acc.toList.head? = some q → (l.foldl (fun out c => out ++ (f c).toArray) acc).toList.head? = some q
  | [], acc, h => h
  | c :: l, acc, h => by
    refine fold_hd q f l _ ?_
    rw [Array.toList_append]
    cases e : acc.toList with
    | nil =>
      rw [e] at h
      cases h
    | cons a r =>
      rw [e] at h
      exact h
theorem hd_text (x : Str) : hd0 (reprText x) = some (reprQuote x) := by
  unfold hd0 reprText
  rw [Array.toList_push, ← Array.foldl_toList]
  have h := fold_hd (reprQuote x) (PySem.Builtin.Str.reprChar (reprQuote x)) x.cps.toList #[reprQuote x] rfl
  revert h
  generalize (x.cps.toList.foldl (fun out c => out ++ (PySem.Builtin.Str.reprChar (reprQuote x) c).toArray) #[reprQuote x]).toList = l
  intro h
  cases l with
  | nil => cases h
  | cons a r => exact h
theorem quote_not (x : Str) : reprQuote x ≠ 78 := by
  unfold reprQuote
  split <;> decide
theorem hd_none : hd0 (Str.ofString "None") = some 78 := by decide +kernel
theorem shown_non {n : Nat} {d : D} (h : Pl n d) (ni : ∀ i, d ≠ .leaf (.int i)) : decide (V.str (toP d).shown = V.str (Str.ofString "None")) = deq d (.leaf .non) := by
  have no : ∀ {c : Nat} {z : Str}, hd0 z = some c → c ≠ 78 → decide (V.str z = V.str (Str.ofString "None")) = false := fun h1 h2 => decide_eq_false fun e => h2 (by
    rw [V.str.inj e, hd_none] at h1
    exact (Option.some.inj h1).symm)
  cases d with
  | leaf v =>
    have a : Lf v := by cases n <;> exact h
    rw [toP, deq]
    rcases a with rfl | ⟨i, rfl, hi⟩ | ⟨z, rfl, hz, _⟩
    · show decide (V.str (PyData.none).shown = V.str (Str.ofString "None")) = _
      rw [PyData.shown_none]
      decide
    · exact absurd rfl (ni i)
    · rw [toL, PyData.shown_str, no (hd_text z) (quote_not z)]
      rfl
  | lst ds =>
    rw [toP, deq, PyData.shown_list]
    exact no (hd_app (hd_app (show hd0 (Str.ofString "[") = some 91 by decide +kernel))) (by decide)
  | tup ds =>
    rw [toP, deq, PyData.shown_tuple]
    exact no (hd_app (hd_app (show hd0 (Str.ofString "(") = some 40 by decide +kernel))) (by decide)
end K02
set_option Elab.async false
set_option linter.all false
set_option maxRecDepth 100000
set_option maxHeartbeats 4000000
namespace K02
open PySem L2 PyProof.Rows
def spSame2 (n : Nat) : Sp := fun vs H Q _ => ∃ (v u : V) (d e : D) (m : Nat), vs = [v, u] ∧ m + 1 ≤ n ∧ m ≤ 50 ∧ RW H d v ∧ RW H e u ∧ Pl m d ∧ Pl m e ∧ Rb d e ∧ ∀ H', Same H H' → Q (.bl (deq d e)) H'
theorem same2_none {P : Program} {w : World} {K : PySem.W.Frag} {mg : Str → Option Value} {base : Heap} {f : Addr} {fd : FuncData} : FnG P w K mg base CX0 0 f fd ["told", "owed"] (spSame2 0) :=
  ⟨fun vs H Q E h => by
    obtain ⟨_, _, _, _, m, _, h1, _⟩ := h
    exact absurd h1 (Nat.not_succ_le_zero m), fun A outer s H args us vs Q E _ _ _ _ _ h => by
    obtain ⟨_, _, _, _, m, _, h1, _⟩ := h
    exact absurd h1 (Nat.not_succ_le_zero m)⟩
theorem deq_kL {d e : D} (h : d.isL ≠ e.isL) : deq d e = false := by
  cases d <;> cases e <;> first | exact absurd rfl h | rw [deq]
theorem deq_kT {d e : D} (h : d.isT ≠ e.isT) : deq d e = false := by
  cases d <;> cases e <;> first | exact absurd rfl h | rw [deq]
theorem deq_its {d e : D} (h1 : d.isL = e.isL) (h2 : d.isT = e.isT) (h : (e.isL || e.isT) = true) : deq d e = deqs d.its e.its := by
  cases d <;> cases e <;> simp_all [D.isL, D.isT, D.its, deq]
theorem rb_its {d e : D} (h1 : d.isL = e.isL) (h2 : d.isT = e.isT) (h : (e.isL || e.isT) = true) (r : Rb d e) : d.its.length = e.its.length → Rbs d.its e.its := by
  cases d <;> cases e <;> simp_all [D.isL, D.isT, D.its, Rb]
theorem pl_its {n : Nat} {d : D} (p : Pl n d) (h : (d.isL || d.isT) = true) : ∃ m, n = m + 1 ∧ d.its.length ≤ 1000 ∧ ∀ x ∈ d.its, Pl m x := by
  cases d with
  | leaf v => cases h
  | lst ds =>
    cases n with
    | zero => exact p.elim
    | succ m => exact ⟨m, rfl, p.1, p.2⟩
  | tup ds =>
    cases n with
    | zero => exact p.elim
    | succ m => exact ⟨m, rfl, p.1, p.2⟩
def D.isI : D → Bool
  | .leaf (.int _) => true
  | _ => false
def D.isS : D → Bool
  | .leaf (.str _) => true
  | _ => false
theorem RW.kd {K : PySem.W.Frag} {H : Hp} {d : D} {v : V} {n : Nat} (h : RW H d v) (p : Pl n d) : ∃ s : String, TyX K H v (.type s) ∧ kitB s "int" = some d.isI ∧ kitB s "str" = some d.isS ∧ kitB s "bool" = some false := by
  cases d with
  | leaf w =>
    obtain ⟨rfl, _⟩ := h
    have a : Lf v := by cases n <;> exact p
    rcases a with rfl | ⟨i, rfl, _⟩ | ⟨z, rfl, _⟩
    · exact ⟨"NoneType", .base .non, (by show kitB _ _ = some false; decide +kernel), (by show kitB _ _ = some false; decide +kernel), by decide +kernel⟩
    · exact ⟨"int", .base (.int i), (by show kitB _ _ = some true; decide +kernel), (by show kitB _ _ = some false; decide +kernel), by decide +kernel⟩
    · exact ⟨"str", .base (.str z), (by show kitB _ _ = some false; decide +kernel), (by show kitB _ _ = some true; decide +kernel), by decide +kernel⟩
  | lst ds =>
    obtain ⟨a, xs, rfl, ha, _⟩ := h
    exact ⟨"list", .base (.lst ha), (by show kitB _ _ = some false; decide +kernel), (by show kitB _ _ = some false; decide +kernel), by decide +kernel⟩
  | tup ds =>
    obtain ⟨a, xs, rfl, ha, _⟩ := h
    exact ⟨"tuple", .base (.tup ha), (by show kitB _ _ = some false; decide +kernel), (by show kitB _ _ = some false; decide +kernel), by decide +kernel⟩
theorem fits_shown {n : Nat} {d : D} (p : Pl n d) (hn : n ≤ 50) (hw : (toP d).weight ≤ 2 ^ 20) : (toP d).shown.length ≤ sizeLine := by
  obtain ⟨a, b, _⟩ := lay_of d p
  refine PyData.shown_fits_of_layable0 (B := 13) (by decide) (by decide) ?_ (ints_of d p)
  show ((toP d).canLay0 && decide ((toP d).depth ≤ 64) && decide ((toP d).weight ≤ 2 ^ 20)) = true
  rw [a, decide_eq_true (by omega), decide_eq_true hw]
  rfl
section
variable {P : Program} {w : World} {K : PySem.W.Frag} {mg : Str → Option Value} {base : Heap}
theorem ok_same2 {f : Addr} {fd : FuncData} {n : Nat} (F : Fun K "_law_ta_same" "_law_ta_same" sSame f fd) (T : Txt K mg) (G : FnG P w K mg base CX0 n f fd ["told", "owed"] (spSame2 n)) (b : Binds K fd ["told", "owed"] []) (m : mg "_law_ta_same" = some (.ref f)) (zD : mg "dict" = none) (zB : mg "bool" = none) (zS : mg "str" = none) :
    FnG P w K mg base CX0 (n + 1) f fd ["told", "owed"] (spSame2 (n + 1)) := by
  refine F.okG scS (fun vs H Q E h => ?_) (fun cdv A outer s H vs Q E fr hr h => ?_)
  · obtain ⟨v, u, d, e, m0, rfl, _⟩ := h
    rfl
  obtain ⟨v, u, d, e, m0, rfl, hm, hm2, hv, hu, pd, pe, rb, kk⟩ := h
  refine ⟨_, pss_cons (ps_if (pt_val (pe_callB call_isi (by rfl) T.isi boot_isinstance (pa_cons (pv 1) (pa_cons (pe_bltn (v := .ty "dict") (by rfl) zD boot_dict rfl) pa_nil)))) pss_never pss_nil)
    (pss_cons (ps_if (pt_val (pe_callB call_isiT (by rfl) T.isi boot_isinstance (pa_cons (pv 1) (pa_cons (pe_tup (pa_cons (pe_bltn (v := .ty "list") (by rfl) T.list boot_list rfl) (pa_cons (pe_bltn (v := .ty "tuple") (by rfl) T.tuple boot_tuple rfl) pa_nil))) pa_nil))))
      (pss_cons (ps_if (pw_or (pt_cmpR op_ne (pe_callB call_isi (by rfl) T.isi boot_isinstance (pa_cons (pv 0) (pa_cons (pe_bltn (v := .ty "list") (by rfl) T.list boot_list rfl) pa_nil))) (pe_callB call_isi (by rfl) T.isi boot_isinstance (pa_cons (pv 1) (pa_cons (pe_bltn (v := .ty "list") (by rfl) T.list boot_list rfl) pa_nil))) (nomark _))
          (pw_or1 (pt_cmpR op_ne (pe_callB call_isi (by rfl) T.isi boot_isinstance (pa_cons (pv 0) (pa_cons (pe_bltn (v := .ty "tuple") (by rfl) T.tuple boot_tuple rfl) pa_nil))) (pe_callB call_isi (by rfl) T.isi boot_isinstance (pa_cons (pv 1) (pa_cons (pe_bltn (v := .ty "tuple") (by rfl) T.tuple boot_tuple rfl) pa_nil))) (nomark _)))).pt (pss_one (ps_ret pe_bl)) pss_nil)
      (pss_one (ps_ret (pe_and (pe_cmpR op_eq (pe_callB call_len_seq (by rfl) T.len PySem.boot_len (pa_cons (pv 0) pa_nil)) (pe_callB call_len_seq (by rfl) T.len PySem.boot_len (pa_cons (pv 1) pa_nil)) (nomark _))
        (pe_one (pe_callB (cr_all rfl) (by rfl) T.all (by decide +kernel) (pa_cons (pe_lc (own := [("at", 3)]) (g := gName 3) (tt := tYes) rfl scS.nd (pi_range1 rfl T.range (pa_cons (pe_callB call_len_seq (by rfl) T.len PySem.boot_len (pa_cons (pv 1) pa_nil)) pa_nil)) (blkOk_by (N := ["told", "owed", "name", "at"]) (sc := defScope sSame) (by decide +kernel)) (fun _ _ _ _ _ => pg_name (i := 3) scS.nd rfl (Or.inl rfl)) (fun _ _ _ _ _ => pts_nil)
          (fun _ _ _ _ _ => pe_callG G fr hr rfl m F.kp b pass0 (pa_cons (pe_ix (show IxR _ (rIx K) from ix_seq) (pv 0) (pv 3) (fun _ _ => rfl)) (pa_cons (pe_ix (show IxR _ (rIx K) from ix_seq) (pv 1) (pv 3) (fun _ _ => rfl)) pa_nil)))) pa_nil))))))) pss_nil)
    (pss_cons (ps_if (pw_or (pt_cmpR op_isN (pv 1) pe_non (nomark _)) (pw_or1 (pt_val (pe_callB call_isi (by rfl) T.isi boot_isinstance (pa_cons (pv 1) (pa_cons (pe_bltn (v := .ty "bool") (by rfl) zB boot_bool rfl) pa_nil)))))).pt
      (pss_one (ps_ret (pe_cmpR op_eq (pe_callB (call_reprD fr hr.units) (by rfl) T.repr boot_repr (pa_cons (pv 0) pa_nil)) (pe_callB (call_reprD fr hr.units) (by rfl) T.repr boot_repr (pa_cons (pv 1) pa_nil)) (nomark _)))) pss_nil)
    (pss_cons (ps_if (pt_val (pe_callB call_isi (by rfl) T.isi boot_isinstance (pa_cons (pv 1) (pa_cons (pe_bltn (v := .ty "int") (by rfl) T.int boot_int rfl) pa_nil))))
      (pss_one (ps_ret (pe_and (pe_callB call_isi (by rfl) T.isi boot_isinstance (pa_cons (pv 0) (pa_cons (pe_bltn (v := .ty "int") (by rfl) T.int boot_int rfl) pa_nil)))
        (pe_and (pe_not (pe_callB call_isi (by rfl) T.isi boot_isinstance (pa_cons (pv 0) (pa_cons (pe_bltn (v := .ty "bool") (by rfl) zB boot_bool rfl) pa_nil)))) (pe_one (pe_cmpR op_eq (pv 0) (pv 1) (nomark _))))))) pss_nil)
    (pss_one (ps_ret (pe_and (pe_callB call_isi (by rfl) T.isi boot_isinstance (pa_cons (pv 0) (pa_cons (pe_bltn (v := .ty "str") (by rfl) zS boot_str rfl) pa_nil))) (pe_one (pe_cmpR op_eq (pv 0) (pv 1) (nomark _))))))))), ?_⟩
  obtain ⟨sT, hty, k1, k2, k3⟩ := hu.ty (K := K)
  refine ⟨_, rfl, u, _, _, _, _, rfl, .ty _, hty, kit_ty k3, _, rfl, iteF ?_⟩
  refine ⟨_, rfl, by show 2 ≤ sizeLine; decide, fun tp htp => ?_⟩
  have hs1 := same_new htp (.tup [V.ty "list", V.ty "tuple"])
  have hv1 := hv.same hs1
  have hu1 := hu.same hs1
  obtain ⟨s1, hty1, q1, q2, q3⟩ := hu1.ty (K := K)
  refine ⟨u, tp, _, _, _, _, rfl, upd_same, .cons (.ty _) (.cons (.ty _) .nil), hty1, kit_two q1 q2, _, rfl, ?_⟩
  clear hty hty1
  generalize hH1 : upd H tp (.tup [V.ty "list", V.ty "tuple"]) = H1 at hs1 hv1 hu1
  refine ite2 (fun ee => ?_) (fun ee => ?_)
  · -- a list or a tuple
    obtain ⟨sa, hta, a1, a2, a3⟩ := hv1.ty (K := K)
    obtain ⟨sb, htb, b1, b2, b3⟩ := hu1.ty (K := K)
    refine ⟨_, rfl, v, _, _, _, _, rfl, .ty _, hta, kit_ty a1, _, rfl, u, _, _, _, _, rfl, .ty _, htb, kit_ty b1, rfl, _, rfl, ?_⟩
    show if (!decide (V.bl d.isL = V.bl e.isL)) = true then _ else _
    by_cases cL : d.isL = e.isL
    rotate_left
    · refine ifT (by rw [decide_eq_false (fun z => cL (V.bl.inj z))]; rfl) ?_
      rw [deq_kL cL] at kk
      exact kk _ hs1
    refine ifF (by rw [cL, decide_eq_true rfl]; rfl) ?_
    refine ⟨_, rfl, v, _, _, _, _, rfl, .ty _, hta, kit_ty a2, _, rfl, u, _, _, _, _, rfl, .ty _, htb, kit_ty b2, rfl, _, rfl, ?_⟩
    show if (!decide (V.bl d.isT = V.bl e.isT)) = true then _ else _
    by_cases cT : d.isT = e.isT
    rotate_left
    · refine ifT (by rw [decide_eq_false (fun z => cT (V.bl.inj z))]; rfl) ?_
      rw [deq_kT cT] at kk
      exact kk _ hs1
    refine ifF (by rw [cT, decide_eq_true rfl]; rfl) ?_
    clear hta htb
    have dd : (d.isL || d.isT) = true := by rw [cL, cT]; exact ee
    obtain ⟨m', rfl, hl1, hf1⟩ := pl_its pd dd
    obtain ⟨m2, em, hl2, hf2⟩ := pl_its pe ee
    obtain rfl : m' = m2 := Nat.succ.inj em
    have rbs := rb_its cL cT ee rb
    rw [deq_its cL cT ee] at kk
    obtain ⟨a, xs, rfl, ha, ra⟩ := hv1.seq dd
    obtain ⟨c, ys, rfl, hc, rc⟩ := hu1.seq ee
    have hlx := ra.len
    have hly := rc.len
    have sq : ∀ {a : Addr} {xs : List V} {H : Hp}, (H a = some (.lst xs) ∨ H a = some (.tup xs)) → SqL K H a xs ∨ SqT K H a xs := fun h => by
      rcases h with h | h
      · exact .inl (SqL.of h)
      · exact .inr (SqT.of h)
    refine ⟨_, rfl, a, xs, rfl, sq ha, _, rfl, c, ys, rfl, sq hc, rfl, _, rfl, ?_⟩
    rw [hlx, hly]
    by_cases cl : d.its.length = e.its.length
    rotate_left
    · refine ifF (decide_eq_false fun z => cl (by have := V.int.inj z; omega)) ?_
      rw [deqs_len cl] at kk
      exact kk _ hs1
    refine ifT (decide_eq_true (by rw [cl])) ?_
    refine ⟨_, rfl, c, ys, rfl, sq hc, _, rfl, by omega, by omega, fun D0 hD => ?_⟩
    have hat : ∀ (a : Addr) (xs : List V), (H1 a = some (.lst xs) ∨ H1 a = some (.tup xs)) → ∀ (i : Nat) (y : V), xs[i]? = some y → ∀ H' : Hp, Same H1 H' → ∀ Q : VK, Q y H' → rIx K (.ref a) (.int (0 + (i : Int))) H' Q := fun a xs ha i y hy H' hs Q q => by
      have e0 : atI xs (0 + (i : Int)) = some y := by
        rw [Int.zero_add]
        exact atI_nat hy
      rcases ha with ha | ha
      · exact .inl ⟨a, xs, _, y, rfl, rfl, SqL.of (hs _ _ ha), e0, q⟩
      · exact .inr (.inl ⟨a, xs, _, y, rfl, rfl, SqT.of (hs _ _ ha), e0, q⟩)
    refine lc_range (lo := 0) (fun i H' => Same H1 H' ∧ H' D0 = some (.lst ((((d.its.zip e.its).take i).map fun q => deq q.1 q.2).map V.bl))) ⟨same_new hD _, upd_same⟩ ?_ ?_
    · rintro i H2 hi ⟨hs2, hD2⟩
      have hi2 : i < e.its.length := by omega
      refine ⟨rfl, ?_⟩
      show tCall (spSame2 n) [] E0 (tCons (tOp (rIx K) (tVar 0) (tVar 3)) (tCons (tOp (rIx K) (tVar 1) (tVar 3)) tNil)) _ H2 _
      have hx := List.getElem?_eq_getElem (show i < xs.length by omega)
      have hy := List.getElem?_eq_getElem (show i < ys.length by omega)
      generalize xs[i] = x at hx
      generalize ys[i] = y at hy
      obtain ⟨e1, he1, hr1⟩ := ra.item hx
      obtain ⟨e2, he2, hr2⟩ := rc.item hy
      have hz : (d.its.zip e.its)[i]? = some (e1, e2) := by
        rw [List.getElem?_zip_eq_some]
        exact ⟨he1, he2⟩
      refine ⟨_, rfl, _, rfl, hat a xs ha i x hx H2 hs2 _ ⟨_, rfl, _, rfl, hat c ys hc i y hy H2 hs2 _ ?_⟩⟩
      refine ⟨x, y, e1, e2, m', rfl, by omega, by omega, hr1.same hs2, hr2.same hs2, hf1 e1 (List.mem_of_getElem? he1), hf2 e2 (List.mem_of_getElem? he2), (rbs cl).item he1 he2, fun H3 hs3 => ?_⟩
      refine ⟨_, hs3 _ _ hD2, ?_, same_put (hs2.trans hs3) hD, ?_⟩
      · rw [List.length_map, List.length_map, List.length_take]
        exact Nat.lt_of_lt_of_le (show min i (d.its.zip e.its).length < 1000 by omega) (by decide)
      · rw [upd_same, List.take_add_one, hz, List.map_append, List.map_append]
        rfl
    · rintro H2 ⟨hs2, hD2⟩
      refine ⟨D0, _, rfl, SqL.of hD2, ?_⟩
      have el : (((ys.length : Nat) : Int)).toNat = (d.its.zip e.its).length := by
        rw [Int.toNat_natCast, List.length_zip, hly]
        omega
      rw [el, List.take_length, List.all_map]
      have ea : ((d.its.zip e.its).all (id ∘ fun q => deq q.1 q.2)) = deqs d.its e.its := (deqs_all cl).symm
      rw [ea]
      exact kk H2 (hs1.trans hs2)
  · -- a leaf
    obtain ⟨rfl, _⟩ := hu.leafs (by simpa using ee)
    have hl : Lf u := by cases m0 <;> exact pe
    obtain ⟨sa, hta, i1, i2, i3⟩ := hv1.kd (K := K) pd
    rcases hl with rfl | ⟨i0, rfl, _⟩ | ⟨z0, rfl, _⟩
    · refine ⟨_, rfl, rfl, _, rfl, ifT (decide_eq_true rfl) ?_⟩
      have rb' : (toP d).weight ≤ 2 ^ 20 ∧ ∀ i, d ≠ .leaf (.int i) := by
        cases d <;> (rw [Rb] at rb; exact rb rfl)
      obtain ⟨w1, w2⟩ := rb'
      obtain ⟨p1, p2, p3⟩ := lay_of d pd
      refine ⟨_, rfl, v, toP d, rfl, hv1.dp, p3, PyData.hasDict_of_canLay _ p1, by omega, fits_shown pd hm2 w1, ?_⟩
      refine ⟨_, rfl, .non, .none, rfl, .non, rfl, rfl, by simp [PyData.depth], by rw [PyData.shown_none]; decide, rfl, ?_⟩
      rw [PyData.shown_none]
      have e3 := shown_non pd w2
      show Q (.bl (decide (V.str (toP d).shown = V.str (Str.ofString "None")))) H1
      rw [e3]
      exact kk _ hs1
    · refine ⟨_, rfl, rfl, _, rfl, ifF (decide_eq_false (fun z => nomatch z)) ?_⟩
      refine ⟨_, rfl, .int i0, _, _, _, _, rfl, .ty _, .base (.int i0), kit_ty (a := "int") (b := "bool") (r := false) (by decide +kernel), _, rfl, iteF ?_⟩
      refine ⟨_, rfl, .int i0, _, _, _, _, rfl, .ty _, .base (.int i0), kit_ty (a := "int") (b := "int") (r := true) (by decide +kernel), _, rfl, iteT ?_⟩
      refine ⟨_, rfl, v, _, _, _, _, rfl, .ty _, hta, kit_ty i1, _, rfl, ?_⟩
      cases ci : d.isI with
      | false =>
        refine iteF ?_
        have ef : deq d (.leaf (.int i0)) = false := by
          cases d with
          | leaf w0 =>
            rw [deq]
            refine decide_eq_false fun z => ?_
            subst z
            cases ci
          | lst ds => rw [deq]
          | tup ds => rw [deq]
        rw [ef] at kk
        exact kk _ hs1
      | true =>
        refine iteT ⟨_, rfl, v, _, _, _, _, rfl, .ty _, hta, kit_ty i3, _, rfl, _, rfl, iteT ?_⟩
        cases d with
        | leaf w0 =>
          cases w0 with
          | int j =>
            obtain ⟨rfl, _⟩ := hv1
            refine ⟨_, rfl, _, rfl, rfl, ?_⟩
            rw [deq] at kk
            exact kk _ hs1
          | _ => cases ci
        | lst ds => cases ci
        | tup ds => cases ci
    · refine ⟨_, rfl, rfl, _, rfl, ifF (decide_eq_false (fun z => nomatch z)) ?_⟩
      refine ⟨_, rfl, .str z0, _, _, _, _, rfl, .ty _, .base (.str z0), kit_ty (a := "str") (b := "bool") (r := false) (by decide +kernel), _, rfl, iteF ?_⟩
      refine ⟨_, rfl, .str z0, _, _, _, _, rfl, .ty _, .base (.str z0), kit_ty (a := "str") (b := "int") (r := false) (by decide +kernel), _, rfl, iteF ?_⟩
      refine ⟨_, rfl, v, _, _, _, _, rfl, .ty _, hta, kit_ty i2, _, rfl, ?_⟩
      cases ci : d.isS with
      | false =>
        refine iteF ?_
        have ef : deq d (.leaf (.str z0)) = false := by
          cases d with
          | leaf w0 =>
            rw [deq]
            refine decide_eq_false fun z => ?_
            subst z
            cases ci
          | lst ds => rw [deq]
          | tup ds => rw [deq]
        rw [ef] at kk
        exact kk _ hs1
      | true =>
        refine iteT ?_
        cases d with
        | leaf w0 =>
          cases w0 with
          | str j =>
            obtain ⟨rfl, _⟩ := hv1
            refine ⟨_, rfl, _, rfl, rfl, ?_⟩
            rw [deq] at kk
            exact kk _ hs1
          | _ => cases ci
        | lst ds => cases ci
        | tup ds => cases ci
end
end K02
set_option Elab.async false
set_option linter.all false
set_option maxRecDepth 100000
set_option maxHeartbeats 4000000
namespace K02
open PySem L2 PyProof.Rows
def spNrName : Sp := fun vs H Q _ => ∃ (p : Addr) (z : Str) (n : Nat), vs = [.ref p, .str z] ∧ Purse H p n ∧ n + 3 < 10 ^ 60 ∧ okName z ∧ ∀ y H', okName y → But p H H' → Purse H' p (n + 3) → Q (.str y) H'
theorem cutS_len {z : Str} (lo hi : Option Int) : (cutS z lo hi).length ≤ z.length := cutS_length _ _ _
section
variable {P : Program} {w : World} {K : PySem.W.Frag} {mg : Str → Option Value} {base : Heap}
theorem scNn : FnScope ["purse", "name", "letters", "at", "sign", "way"] ["purse", "name"] (defScope sNrName) := ⟨rfl, rfl, rfl, by decide +kernel, rfl, by decide +kernel, by decide +kernel⟩
theorem ok_nrname {f fC : Addr} {fd fdC : FuncData} (F : Fun K "_law_ta_near_name" "_law_ta_near_name" sNrName f fd) (T : Txt K mg)
    (FC : Fun K "_law_coin" "_law_coin" sCoin fC fdC) (GC : FnOk P w K mg base CX0 1 fC fdC ["purse", "many"] spCoin) (bC : Binds K fdC ["purse", "many"] []) (mC : mg "_law_coin" = some (.ref fC)) : FnOk P w K mg base CX0 2 f fd ["purse", "name"] spNrName := by
  refine F.ok scNn (fun vs H Q E h => ?_) (fun cdv A outer s H vs Q E hr h => ?_)
  · obtain ⟨p, z, n, rfl, _⟩ := h
    rfl
  obtain ⟨p, z, n, rfl, hp, hn, hz, kk⟩ := h
  refine ⟨_, Evl.pss_cut (ps_par (i := 2) (j := 3) rfl scNn.nd rfl rfl (by decide) rfl rfl (pa_cons pe_str (pa_cons (pe_call GC hr rfl mC FC.kp bC .nil pass0 (pa_cons (pv 0) (pa_cons (pe_callB call_len (by rfl) T.len PySem.boot_len (pa_cons (pv 1) pa_nil)) pa_nil))) pa_nil)) (by rfl))
    (Evl.pss_cut (ps_par (i := 4) (j := 5) rfl scNn.nd rfl rfl (by decide) rfl rfl (pa_cons (pe_ix ix_str (pv 2) (pe_call GC hr rfl mC FC.kp bC .nil pass0 (pa_cons (pv 0) (pa_cons pe_int pa_nil))) (fun _ _ => rfl)) (pa_cons (pe_call GC hr rfl mC FC.kp bC .nil pass0 (pa_cons (pv 0) (pa_cons pe_int pa_nil))) pa_nil)) (by rfl))
    (Evl.pss_cut (ps_if (PW.pt (pw_and (pt_cmpR op_eq (pv 5) pe_int (nomark _)) (pw_and1 (pt_cmpR op_lt (pe_callB call_len (by rfl) T.len PySem.boot_len (pa_cons (pv 1) pa_nil)) pe_int (nomark _)))))
        (pss_one (ps_ret (pe_op op_add_str (pe_op op_add_str (pe_slice sl_str (pv 1) po_none (po_some (pv 3))) (pv 4)) (pe_slice sl_str (pv 1) (po_some (pv 3)) po_none)))) pss_nil)
    (Evl.pss_cut (ps_if (PW.pt (pw_and (pt_cmpR op_eq (pv 5) pe_int (nomark _)) (pw_and1 (pt_cmpR op_gt (pe_callB call_len (by rfl) T.len PySem.boot_len (pa_cons (pv 1) pa_nil)) pe_int (nomark _)))))
        (pss_one (ps_ret (pe_op op_add_str (pe_slice sl_str (pv 1) po_none (po_some (pv 3))) (pe_slice sl_str (pv 1) (po_some (pe_op op_add (pv 3) pe_int)) po_none)))) pss_nil)
    (pss_one (ps_ret (pe_op op_add_str (pe_op op_add_str (pe_slice sl_str (pv 1) po_none (po_some (pv 3))) (pv 4)) (pe_slice sl_str (pv 1) (po_some (pe_op op_add (pv 3) pe_int)) po_none))))))), ?_⟩
  obtain ⟨hz1, hz8, hzl⟩ := hz
  have sz : z.length ≤ sizeLine := small100 (by omega)
  refine ⟨fun σ' H' => ∃ a : Nat, a < z.length ∧ But p H H' ∧ Purse H' p (n + 1) ∧ σ' = [some (.ref p), some (.str z), some (.str LT), some (.int (a : Int)), none, none], ?_, ?_⟩
  · refine ⟨_, rfl, _, rfl, .str z, z.length, rfl, ⟨sz, rfl⟩, p, _, n, rfl, hp, by omega, by omega, by omega, fun d H1 d0 d1 hb hp1 => ?_⟩
    obtain ⟨a, rfl⟩ := Int.eq_ofNat_of_zero_le d0
    exact ⟨_, _, rfl, a, by omega, hb, hp1, rfl⟩
  rintro _ H1 ⟨a, ha, hb1, hp1, rfl⟩
  refine ⟨fun σ' H' => ∃ (r : Nat) (way : Int), r < 26 ∧ But p H H' ∧ Purse H' p (n + 3) ∧ σ' = [some (.ref p), some (.str z), some (.str LT), some (.int (a : Int)), some (.str ⟨#[97 + r]⟩), some (.int way)], ?_, ?_⟩
  · refine ⟨_, rfl, _, rfl, p, 26, n + 1, rfl, hp1, by omega, by decide, by decide, fun d H2 d0 d1 hb2 hp2 => ⟨LT, _, _, rfl, rfl, by decide +kernel, lt_at d0 d1, _, rfl, p, 3, n + 2, rfl, hp2, by omega, by decide, by decide, fun e H3 e0 e1 hb3 hp3 => ?_⟩⟩
    exact ⟨_, _, rfl, d.toNat, e, by omega, (hb1.trans hb2).trans hb3, hp3, rfl⟩
  rintro _ H3 ⟨r, way, hr26, hb3, hp3, rfl⟩
  have l1 := (cut_pre (z := z) (k := (a : Int)) (n := a) rfl).1
  have l1' : (cutS z none (some (a : Int))).length = a := by rw [l1]; omega
  have l2 : (cutS z (some (a : Int)) none).length = z.length - a := by
    show ((cutS z (some (a : Int)) none).cps.toList).length = _
    rw [cut_post (z := z) (k := (a : Int)) (n := a) rfl (by omega), List.length_drop]
    rfl
  have l3 : (cutS z (some ((a : Int) + 1)) none).length = z.length - (a + 1) := by
    show ((cutS z (some ((a : Int) + 1)) none).cps.toList).length = _
    rw [cut_post (z := z) (k := (a : Int) + 1) (n := a + 1) (by omega) (by omega), List.length_drop]
    rfl
  have s1 : ((⟨#[97 + r]⟩ : Str)).length = 1 := rfl
  have low : ls (⟨#[97 + r]⟩ : Str) := ls_one hr26
  have b1 : (cutS z none (some (a : Int))).length ≤ 8 := by omega
  have b2 : (cutS z (some (a : Int)) none).length ≤ 8 := by omega
  have b3 : (cutS z (some ((a : Int) + 1)) none).length ≤ 8 := by omega
  refine ⟨fun σ' H' => H' = H3 ∧ σ' = [some (.ref p), some (.str z), some (.str LT), some (.int (a : Int)), some (.str ⟨#[97 + r]⟩), some (.int way)], ?_, ?_⟩
  · refine ⟨_, rfl, rfl, _, rfl, ?_⟩
    refine ite2 (fun _ => ⟨_, rfl, .str z, z.length, rfl, ⟨sz, rfl⟩, _, _, rfl, rfl, _, rfl, ite2 (fun c => ?_) (fun _ => ⟨rfl, rfl⟩)⟩) (fun _ => iteF ⟨rfl, rfl⟩)
    have c' : (z.length : Int) < 8 := of_decide_eq_true c
    refine ⟨_, rfl, _, rfl, _, rfl, z, rfl, sz, _, rfl, _, _, rfl, rfl, small100 (by rw [s1]; omega), _, rfl, _, rfl, _, rfl, z, rfl, sz, _, _, rfl, rfl, small100 (by rw [Str.length_append, s1]; omega), ?_⟩
    refine kk _ _ ⟨?_, ?_, ls_app (ls_app (ls_cut hzl _ _) low) (ls_cut hzl _ _)⟩ hb3 hp3
    · rw [Str.length_append, Str.length_append, s1]
      omega
    · rw [Str.length_append, Str.length_append, l1', l2, s1]
      omega
  rintro _ H4 ⟨rfl, rfl⟩
  refine ⟨fun σ' H' => H' = H4 ∧ σ' = [some (.ref p), some (.str z), some (.str LT), some (.int (a : Int)), some (.str ⟨#[97 + r]⟩), some (.int way)], ?_, ?_⟩
  · refine ⟨_, rfl, rfl, _, rfl, ?_⟩
    refine ite2 (fun _ => ⟨_, rfl, .str z, z.length, rfl, ⟨sz, rfl⟩, _, _, rfl, rfl, _, rfl, ite2 (fun c => ?_) (fun _ => ⟨rfl, rfl⟩)⟩) (fun _ => iteF ⟨rfl, rfl⟩)
    have c' : (1 : Int) < (z.length : Int) := of_decide_eq_true c
    refine ⟨_, rfl, _, rfl, _, rfl, z, rfl, sz, _, rfl, _, rfl, _, _, rfl, rfl, _, rfl, z, rfl, sz, _, _, rfl, rfl, small100 (by omega), ?_⟩
    refine kk _ _ ⟨?_, ?_, ls_app (ls_cut hzl _ _) (ls_cut hzl _ _)⟩ hb3 hp3
    · rw [Str.length_append, l1', l3]
      omega
    · rw [Str.length_append, l1', l3]
      omega
  rintro _ H5 ⟨rfl, rfl⟩
  refine ⟨_, rfl, _, rfl, _, rfl, z, rfl, sz, _, rfl, _, _, rfl, rfl, small100 (by rw [s1]; omega), _, rfl, _, rfl, _, _, rfl, rfl, _, rfl, z, rfl, sz, _, _, rfl, rfl, small100 (by rw [Str.length_append, s1]; omega), ?_⟩
  refine kk _ _ ⟨?_, ?_, ls_app (ls_app (ls_cut hzl _ _) low) (ls_cut hzl _ _)⟩ hb3 hp3
  · rw [Str.length_append, Str.length_append, s1]
    omega
  · rw [Str.length_append, Str.length_append, l1', l3, s1]
    omega
end
end K02
set_option Elab.async false
set_option linter.all false
set_option maxRecDepth 100000
set_option maxHeartbeats 4000000
namespace K02
open PySem L2 PyProof.Rows
/-! ### what may be handed on: a part M of the heap, and what is new -/
def gm (p : Addr) (H M H1 : Hp) : Hp := fun b => if (decide (b ≠ p) && ((H b).isNone || (M b).isSome)) = true then H1 b else none
section
variable {p b : Addr} {H M H1 H2 : Hp} {o : HO}
theorem gm_new (n : b ≠ p) (h : H b = none) (e : H1 b = some o) : gm p H M H1 b = some o := by
  unfold gm
  rw [if_pos (by rw [decide_eq_true n, h]; rfl)]
  exact e
theorem gm_old (n : b ≠ p) {o' : HO} (h : M b = some o') (e : H1 b = some o) : gm p H M H1 b = some o := by
  unfold gm
  rw [if_pos (by rw [decide_eq_true n, h]; simp)]
  exact e
theorem gm_le : Same (gm p H M H1) H1 := fun b o e => by
  unfold gm at e
  split at e
  · exact e
  · cases e
theorem gm_is (e : gm p H M H1 b = some o) : b ≠ p ∧ (H b = none ∨ ∃ o', M b = some o') ∧ H1 b = some o := by
  unfold gm at e
  split at e
  · rename_i c
    obtain ⟨c1, c2⟩ := Bool.and_eq_true_iff.mp c
    refine ⟨of_decide_eq_true c1, ?_, e⟩
    rcases Bool.or_eq_true_iff.mp c2 with c2 | c2
    · exact .inl (Option.isNone_iff_eq_none.mp c2)
    · exact .inr (Option.isSome_iff_exists.mp c2)
  · cases e
theorem gm_up (hp : M p = none) (s : Same M H1) : Same M (gm p H M H1) := fun b o e => gm_old (fun z => by
  rw [z, hp] at e
  cases e) e (s _ _ e)
theorem gm_p : gm p H M H1 p = none := by
  unfold gm
  rw [if_neg (by simp)]
/-- behind another step -/
theorem gm_next (s : ∀ b o, b ≠ p → H1 b = some o → H2 b = some o) : Same (gm p H M H1) (gm p H M H2) := fun b o e => by
  obtain ⟨n, c, e2⟩ := gm_is e
  rcases c with c | ⟨o', c⟩
  · exact gm_new n c (s _ _ n e2)
  · exact gm_old n c (s _ _ n e2)
/-- what a callee hands back -/
theorem gm_call {G : Hp} (fr : ∀ b, G b = none → H b = none) (s : ∀ b o, b ≠ p → gm p G M H1 b = some o → H2 b = some o) : Same (gm p G M H1) (gm p H M H2) := fun b o e => by
  obtain ⟨n, c, e2⟩ := gm_is e
  rcases c with c | ⟨o', c⟩
  · exact gm_new n (fr _ c) (s _ _ n e)
  · exact gm_old n c (s _ _ n e)
theorem same_but (h : Same M H) (b : But p H H1) (hp : M p = none) : Same M H1 := fun a x e => b a x (fun z => by
  rw [z, hp] at e
  cases e) (h a x e)
end
theorem rw_str {H : Hp} {z : Str} : RW H (.leaf (.str z)) (.str z) := ⟨rfl, leaf_str⟩
theorem rw_int {H : Hp} {i : Int} : RW H (.leaf (.int i)) (.int i) := ⟨rfl, leaf_int⟩
theorem rw_non {H : Hp} : RW H (.leaf .non) .non := ⟨rfl, .inl rfl⟩
theorem rws_nil {H : Hp} : RWs H [] [] := rfl
theorem rws_cons {H : Hp} {d : D} {ds : List D} {x : V} {xs : List V} (h : RW H d x) (t : RWs H ds xs) : RWs H (d :: ds) (x :: xs) := ⟨x, xs, rfl, h, t⟩
theorem rw_tupG {p q : Addr} {H M Hx : Hp} {n m : Nat} {ds : List D} {xs : List V} (hp : Purse H p n) (b : But p H Hx) (pu : Purse Hx p m) (h : Hx q = none) (r : RWs (gm p H M (upd Hx q (.tup xs))) ds xs) : RW (gm p H M (upd Hx q (.tup xs))) (.tup ds) (.ref q) := by
  obtain ⟨_, e⟩ := hp.some
  exact ⟨q, xs, rfl, gm_new (pu.ne h) (b.free e pu.some h) upd_same, r⟩
theorem RWs.snoc {H : Hp} {d : D} {x : V} : ∀ {ds : List D} {xs : List V}, RWs H ds xs → RW H d x → RWs H (ds ++ [d]) (xs ++ [x])
  | [], xs, h, k => by
    have e : xs = [] := h
    rw [e]
    exact ⟨x, [], rfl, k, rfl⟩
  | e :: ds, xs, h, k => by
    obtain ⟨y, ys, rfl, h1, h2⟩ := h
    exact ⟨y, _, rfl, h1, RWs.snoc h2 k⟩
theorem RWs.rev {H : Hp} : ∀ {ds : List D} {xs : List V}, RWs H ds xs → RWs H ds.reverse xs.reverse
  | [], xs, h => by
    have e : xs = [] := h
    rw [e]
    rfl
  | d :: ds, xs, h => by
    obtain ⟨x, ys, rfl, h1, h2⟩ := h
    rw [List.reverse_cons, List.reverse_cons]
    exact h2.rev.snoc h1
/-! ### plain -/
theorem lf_name {z : Str} (h : okName z) : Lf (.str z) := .inr (.inr ⟨z, rfl, by
  show z.cps.all _ = true
  rw [← Array.all_toList]
  exact List.all_eq_true.mpr fun c hc => decide_eq_true (by
    have := h.2.2 c hc
    omega), h.2.1⟩)
theorem lf_S {s : String} (h : (PyData.strOk (Str.ofString s) && decide ((Str.ofString s).length ≤ 8)) = true) : Lf (.str (Str.ofString s)) := .inr (.inr ⟨_, rfl, (Bool.and_eq_true_iff.mp h).1, of_decide_eq_true (Bool.and_eq_true_iff.mp h).2⟩)
theorem pl_leaf {n : Nat} {v : V} (h : Lf v) : Pl n (.leaf v) := by cases n <;> exact h
theorem Pl.succ : ∀ {n : Nat} {d : D}, Pl n d → Pl (n + 1) d
  | n, .leaf v, h => by
    have a : Lf v := by cases n <;> exact h
    exact pl_leaf a
  | n + 1, .lst ds, h => ⟨h.1, fun d m => (h.2 d m).succ⟩
  | n + 1, .tup ds, h => ⟨h.1, fun d m => (h.2 d m).succ⟩
theorem Pl.le {n m : Nat} {d : D} (h : Pl n d) (hm : n ≤ m) : Pl m d := by
  induction hm with
  | refl => exact h
  | step _ ih => exact ih.succ
theorem pl_tup {n : Nat} {ds : List D} (h1 : ds.length ≤ 1000) (h2 : ∀ d ∈ ds, Pl n d) : Pl (n + 1) (.tup ds) := ⟨h1, h2⟩
theorem pl_lst {n : Nat} {ds : List D} (h1 : ds.length ≤ 1000) (h2 : ∀ d ∈ ds, Pl n d) : Pl (n + 1) (.lst ds) := ⟨h1, h2⟩
theorem TmOk.pl : ∀ {n : Nat} {d : D}, TmOk n d → Pl (2 * n) d
  | 0, _, h => h.elim
  | n + 1, d, h => by
    rcases h with ⟨i, hi, rfl⟩ | ⟨z, hz, rfl⟩ | ⟨z, ts, hz, rfl, hl, ht⟩
    · refine pl_tup (n := 2 * n + 1) (by show 2 ≤ 1000; decide) fun e he => ?_
      simp at he
      rcases he with rfl | rfl
      · exact pl_leaf (lf_S (by decide +kernel))
      · exact pl_leaf (.inr (.inl ⟨i, rfl, hi⟩))
    · refine pl_tup (n := 2 * n + 1) (by show 2 ≤ 1000; decide) fun e he => ?_
      simp at he
      rcases he with rfl | rfl
      · exact pl_leaf (lf_S (by decide +kernel))
      · exact pl_leaf (lf_name hz)
    · refine pl_tup (n := 2 * n + 1) (by show 3 ≤ 1000; decide) fun e he => ?_
      simp at he
      rcases he with rfl | rfl | rfl
      · exact pl_leaf (lf_S (by decide +kernel))
      · exact pl_leaf (lf_name hz)
      · exact pl_lst (by omega) fun t m => (ht t m).pl
def spNrTerm (k : Nat) : Sp := fun vs H Q _ => ∃ (p : Addr) (M : Hp) (v : V) (d : D) (n m : Nat), vs = [.ref p, v] ∧ Purse H p n ∧ n + 5 * k < 10 ^ 60 ∧ Same M H ∧ M p = none ∧ RW M d v ∧ TmOk m d ∧ m ≤ k ∧ m ≤ 5 ∧
  ∀ u H' d', But p H H' → Purse H' p (n + 5 * k) → RW (gm p H M H') d' u → TmOk m d' → Q u H'
section
variable {P : Program} {w : World} {K : PySem.W.Frag} {mg : Str → Option Value} {base : Heap}
theorem nrterm_none {f : Addr} {fd : FuncData} {ps : List Str} : FnOk P w K mg base CX0 0 f fd ps (spNrTerm 0) := none_of fun vs H Q E h => by
  obtain ⟨p, M, v, d, n, m, _, _, _, _, _, _, h1, h2, _⟩ := h
  obtain rfl : m = 0 := by omega
  exact h1
theorem scNt : FnScope ["purse", "term", "way", "number", "name", "lot", "at"] ["purse", "term"] (defScope sNrTerm) := ⟨rfl, rfl, rfl, by decide +kernel, rfl, by decide +kernel, by decide +kernel⟩
theorem ok_nrterm {f fC fN : Addr} {fd fdC fdN : FuncData} {k : Nat} (F : Fun K "_law_ta_near_term" "_law_ta_near_term" sNrTerm f fd) (T : Txt K mg)
    (FC : Fun K "_law_coin" "_law_coin" sCoin fC fdC) (GC : FnOk P w K mg base CX0 1 fC fdC ["purse", "many"] spCoin) (bC : Binds K fdC ["purse", "many"] []) (mC : mg "_law_coin" = some (.ref fC))
    (FN : Fun K "_law_ta_near_name" "_law_ta_near_name" sNrName fN fdN) (GN : FnOk P w K mg base CX0 2 fN fdN ["purse", "name"] spNrName) (bN : Binds K fdN ["purse", "name"] []) (mN : mg "_law_ta_near_name" = some (.ref fN))
    (G : FnOk P w K mg base CX0 (k + 2) f fd ["purse", "term"] (spNrTerm k)) (b : Binds K fd ["purse", "term"] []) (m : mg "_law_ta_near_term" = some (.ref f)) : FnOk P w K mg base CX0 (k + 3) f fd ["purse", "term"] (spNrTerm (k + 1)) := by
  refine F.ok scNt (fun vs H Q E h => ?_) (fun cdv A outer s H vs Q E hr h => ?_)
  · obtain ⟨p, M, v, d, n, m, rfl, _⟩ := h
    rfl
  obtain ⟨p, M, v, d, n, m0, rfl, hp, hn, hM, hMp, hR, hT, hm, hm5, kk⟩ := h
  have hr1 := hr.mono (show 1 ≤ k + 2 by omega)
  have hr2 := hr.mono (show 2 ≤ k + 2 by omega)
  refine ⟨_, Evl.pss_cut (ps_set (i := 2) scNt.nd rfl (Or.inl rfl) (pe_call GC hr1 rfl mC FC.kp bC .nil pass0 (pa_cons (pv 0) (pa_cons pe_int pa_nil))))
    (pss_cons (ps_if (pt_cmpR op_eq (pe_ix ix_tup (pv 1) pe_int (fun _ _ => rfl)) pe_str (nomark _))
        (Evl.pss_cut (ps_set (i := 3) scNt.nd rfl (Or.inl rfl) (pe_ifExp (pt_cmpR op_eq (pv 2) pe_int (nomark _)) (pe_un un_neg (pe_ix ix_tup (pv 1) pe_int (fun _ _ => rfl)))
            (pe_op op_sub (pe_op op_mod (pe_callTy call_int1 (by rfl) T.int boot_int (pa_cons (pe_op op_add (pe_ix ix_tup (pv 1) pe_int (fun _ _ => rfl)) (pe_op op_mul pe_int (pv 2))) pa_nil)) pe_int) pe_int)))
          (pss_one (ps_ret (pe_ifExp (pt_cmpR op_eq (pv 2) pe_int (nomark _)) (pe_tup (pa_cons pe_str (pa_cons pe_str pa_nil))) (pe_tup (pa_cons pe_str (pa_cons (pv 3) pa_nil))))))) pss_nil)
    (pss_cons (ps_if (pt_cmpR op_eq (pv 2) pe_int (nomark _))
        (pss_one (ps_ret (pe_ifExp (pt_cmpR op_eq (pe_ix ix_tup (pv 1) pe_int (fun _ _ => rfl)) pe_str (nomark _)) (pe_tup (pa_cons pe_str (pa_cons (pe_ix ix_tup (pv 1) pe_int (fun _ _ => rfl)) (pa_cons (pe_lst pa_nil) pa_nil))))
          (pe_tup (pa_cons pe_str (pa_cons (pe_ix ix_tup (pv 1) pe_int (fun _ _ => rfl)) pa_nil)))))) pss_nil)
    (Evl.pss_cut (ps_if (PW.pt (pw_or (pt_cmpR op_eq (pe_ix ix_tup (pv 1) pe_int (fun _ _ => rfl)) pe_str (nomark _)) (pw_or (pt_cmpR op_eq (pv 2) pe_int (nomark _)) (pw_or1 (pt_cmpR (op_eqD hr.units) (pe_ix ix_tup (pv 1) pe_int (fun _ _ => rfl)) (pe_lst pa_nil) (nomark _))))))
        (Evl.pss_cut (ps_set (i := 4) scNt.nd rfl (Or.inl rfl) (pe_call GN hr2 rfl mN FN.kp bN .nil pass0 (pa_cons (pv 0) (pa_cons (pe_ix ix_tup (pv 1) pe_int (fun _ _ => rfl)) pa_nil))))
          (pss_one (ps_ret (pe_ifExp (pt_cmpR op_eq (pe_ix ix_tup (pv 1) pe_int (fun _ _ => rfl)) pe_str (nomark _)) (pe_tup (pa_cons pe_str (pa_cons (pv 4) pa_nil))) (pe_tup (pa_cons pe_str (pa_cons (pv 4) (pa_cons (pe_ix ix_tup (pv 1) pe_int (fun _ _ => rfl)) pa_nil)))))))) pss_nil)
    (Evl.pss_cut (ps_par (i := 5) (j := 6) rfl scNt.nd rfl rfl (by decide) rfl rfl (pa_cons (pe_callTy call_list_of (by rfl) T.list boot_list (pa_cons (pe_ix ix_tup (pv 1) pe_int (fun _ _ => rfl)) pa_nil)) (pa_cons (pe_call GC hr1 rfl mC FC.kp bC .nil pass0 (pa_cons (pv 0) (pa_cons (pe_callB call_len_seq (by rfl) T.len PySem.boot_len (pa_cons (pe_ix ix_tup (pv 1) pe_int (fun _ _ => rfl)) pa_nil)) pa_nil))) pa_nil)) (by rfl))
    (Evl.pss_cut (ps_if (pt_cmpR op_eq (pv 2) pe_int (nomark _)) (pss_one (ps_ret (pe_tup (pa_cons pe_str (pa_cons (pe_ix ix_tup (pv 1) pe_int (fun _ _ => rfl)) (pa_cons (pe_op op_cat (pe_slice sl_list (pv 5) po_none (po_some (pv 6))) (pe_slice sl_list (pv 5) (po_some (pe_op op_add (pv 6) pe_int)) po_none)) pa_nil)))))) pss_nil)
    (Evl.pss_cut (ps_if (pt_cmpR op_eq (pv 2) pe_int (nomark _)) (pss_one (ps_ret (pe_tup (pa_cons pe_str (pa_cons (pe_ix ix_tup (pv 1) pe_int (fun _ _ => rfl)) (pa_cons (pe_revL (pv 5)) pa_nil)))))) pss_nil)
    (Evl.pss_cut (ps_asg (pe_call G hr rfl m F.kp b .nil pass0 (pa_cons (pv 0) (pa_cons (pe_ix ix_list (pv 5) (pv 6) (fun _ _ => rfl)) pa_nil))) (pg_sub (pv 5) (pv 6) set_list))
    (pss_one (ps_ret (pe_tup (pa_cons pe_str (pa_cons (pe_ix ix_tup (pv 1) pe_int (fun _ _ => rfl)) (pa_cons (pv 5) pa_nil)))))))))))))
    , ?_⟩
  obtain ⟨po, hpo⟩ := hp.some
  refine ⟨fun σ' H' => ∃ w : Int, But p H H' ∧ Purse H' p (n + 1) ∧ σ' = [some (.ref p), some v, some (.int w), none, none, none, none], ?_, ?_⟩
  · exact ⟨_, rfl, p, 5, n, rfl, hp, by omega, by decide, by decide, fun d1 H1 d10 d11 hb1 hp1 => ⟨d1, hb1, hp1, rfl⟩⟩
  rintro _ H1 ⟨w, hb1, hp1, rfl⟩
  cases m0 with
  | zero => exact hT.elim
  | succ m1 =>
  have up : ∀ {Hx : Hp}, But p H Hx → Same M Hx := fun b => same_but hM b hMp
  have ne_p : ∀ {b : Addr} {o : HO}, M b = some o → b ≠ p := fun e z => by
    rw [z, hMp] at e
    cases e
  have hM1 := up hb1
  rcases hT with ⟨i, hi, rfl⟩ | ⟨z, hz, rfl⟩ | ⟨z, ts, hz, rfl, hl, ht⟩
  · -- a number
    obtain ⟨a, xs, rfl, ha', x0, _, rfl, h0, x1, _, rfl, h1, h2⟩ := hR
    obtain rfl : _ = [] := h2
    obtain ⟨rfl, _⟩ := h0
    obtain ⟨rfl, _⟩ := h1
    have ha := SqT.of (K := K) (hM1 _ _ ha')
    refine ⟨_, rfl, a, _, 0, _, rfl, rfl, ha, atI_nat (j := 0) rfl, rfl, _, rfl, ifT (decide_eq_true rfl) ?_⟩
    refine ⟨fun σ' H' => ∃ j : Int, j.natAbs ≤ 1000 ∧ H' = H1 ∧ σ' = [some (.ref p), some (.ref a), some (.int w), some (.int j), none, none, none], ?_, ?_⟩
    · refine ⟨_, rfl, rfl, _, rfl, ite2 (fun _ => ?_) (fun _ => ?_)⟩
      · exact ⟨_, rfl, a, _, 1, _, rfl, rfl, ha, atI_nat (j := 1) rfl, _, rfl, -i, by omega, rfl, rfl⟩
      · refine ⟨_, rfl, a, _, 1, _, rfl, rfl, ha, atI_nat (j := 1) rfl, _, rfl, _, _, rfl, rfl, .inl ⟨by decide, by decide⟩, _, _, rfl, rfl, .inl ⟨_, rfl, _, _, rfl, rfl, by show (0 : Int) < 9; decide, _, _, rfl, rfl, (i + 3 * w) % 9 - 4, ?_, rfl, rfl⟩⟩
        have q0 := Int.emod_nonneg (i + 3 * w) (show (9 : Int) ≠ 0 by decide)
        have q1 := Int.emod_lt_of_pos (i + 3 * w) (show (0 : Int) < 9 by decide)
        omega
    rintro _ H2 ⟨j, hj, rfl, rfl⟩
    refine ⟨_, rfl, rfl, _, rfl, ite2 (fun _ => ⟨by show 2 ≤ sizeLine; decide, fun q hq => ?_⟩) (fun _ => ⟨_, rfl, by show 2 ≤ sizeLine; decide, fun q hq => ?_⟩)⟩
    · have sq := same_new hq (.tup [V.str (Str.ofString "read"), V.str (Str.ofString "a")])
      exact kk _ _ _ (hb1.trans (.of sq)) ((hp1.same sq).mono (by omega)) (rw_tupG hp hb1 hp1 hq (rws_cons rw_str (rws_cons rw_str rws_nil))) (.inr (.inl ⟨_, menu_name (by decide +kernel), rfl⟩))
    · have sq := same_new hq (.tup [V.str (Str.ofString "number"), V.int j])
      exact kk _ _ _ (hb1.trans (.of sq)) ((hp1.same sq).mono (by omega)) (rw_tupG hp hb1 hp1 hq (rws_cons rw_str (rws_cons rw_int rws_nil))) (.inl ⟨j, hj, rfl⟩)
  · -- a name that is read
    obtain ⟨a, xs, rfl, ha', x0, _, rfl, h0, x1, _, rfl, h1, h2⟩ := hR
    obtain rfl : _ = [] := h2
    obtain ⟨rfl, _⟩ := h0
    obtain ⟨rfl, _⟩ := h1
    have ha0 := hM1 _ _ ha'
    have ha := SqT.of (K := K) ha0
    have nap := ne_p ha'
    refine ⟨_, rfl, a, _, 0, _, rfl, rfl, ha, atI_nat (j := 0) rfl, rfl, _, rfl, ifF (decide_eq_false fun e => absurd (V.str.inj e) (by decide)) ?_⟩
    refine ⟨_, rfl, rfl, _, rfl, ite2 (fun _ => ?_) (fun _ => ?_)⟩
    · refine ⟨_, rfl, a, _, 0, _, rfl, rfl, ha, atI_nat (j := 0) rfl, rfl, _, rfl, ifT (decide_eq_true rfl) ⟨_, rfl, a, _, 1, _, rfl, rfl, ha, atI_nat (j := 1) rfl, by show 0 ≤ sizeLine; decide, fun l hl => ⟨by show 3 ≤ sizeLine; decide, fun q hq => ?_⟩⟩⟩
      have sl := same_new hl (.lst [])
      have sq := same_new hq (.tup [V.str (Str.ofString "call"), V.str z, V.ref l])
      exact kk _ _ _ (hb1.trans (.of (sl.trans sq))) ((hp1.same (sl.trans sq)).mono (by omega)) (rw_tupG hp (hb1.trans (.of sl)) (hp1.same sl) hq (rws_cons rw_str (rws_cons rw_str (rws_cons (show RW _ (.lst []) (.ref l) from ⟨l, [], rfl, gm_new (hp1.ne hl) (hb1.free hpo hp1.some hl) (sq _ _ upd_same), rfl⟩) rws_nil)))) (.inr (.inr ⟨z, [], hz, rfl, by decide, fun _ h => nomatch h⟩))
    refine ⟨fun σ' H' => False, ?_, fun _ _ h => h.elim⟩
    refine ⟨_, rfl, a, _, 0, _, rfl, rfl, ha, atI_nat (j := 0) rfl, rfl, _, rfl, ifT (decide_eq_true rfl) ?_⟩
    refine ⟨fun σ' H' => ∃ y : Str, okName y ∧ But p H1 H' ∧ Purse H' p (n + 4) ∧ σ' = [some (.ref p), some (.ref a), some (.int w), none, some (.str y), none, none], ?_, ?_⟩
    · exact ⟨_, rfl, _, rfl, a, _, 1, _, rfl, rfl, ha, atI_nat (j := 1) rfl, p, z, n + 1, rfl, hp1, by omega, hz, fun y H2 hy hb2 hp2 => ⟨y, hy, hb2, hp2, rfl⟩⟩
    rintro _ H2 ⟨y, hy, hb2, hp2, rfl⟩
    have ha2 := SqT.of (K := K) (hb2 _ _ nap ha0)
    refine ⟨_, rfl, a, _, 0, _, rfl, rfl, ha2, atI_nat (j := 0) rfl, rfl, _, rfl, ifT (decide_eq_true rfl) ⟨_, rfl, by show 2 ≤ sizeLine; decide, fun q hq => ?_⟩⟩
    have sq := same_new hq (.tup [V.str (Str.ofString "read"), V.str y])
    exact kk _ _ _ ((hb1.trans hb2).trans (.of sq)) ((hp2.same sq).mono (by omega)) (rw_tupG hp (hb1.trans hb2) hp2 hq (rws_cons rw_str (rws_cons rw_str rws_nil))) (.inr (.inl ⟨y, hy, rfl⟩))
  · -- a call
    obtain ⟨a, xs, rfl, ha', x0, _, rfl, h0, x1, _, rfl, h1, x2, _, rfl, h2, h3⟩ := hR
    obtain rfl : _ = [] := h3
    obtain ⟨rfl, _⟩ := h0
    obtain ⟨rfl, _⟩ := h1
    obtain ⟨l, zs, rfl, hl', hzs⟩ := id h2
    have ha0 := hM1 _ _ ha'
    have hl0 := hM1 _ _ hl'
    have ha := SqT.of (K := K) ha0
    have nap := ne_p ha'
    have nlp := ne_p hl'
    have hlen := hzs.len
    refine ⟨_, rfl, a, _, 0, _, rfl, rfl, ha, atI_nat (j := 0) rfl, rfl, _, rfl, ifF (decide_eq_false fun e => absurd (V.str.inj e) (by decide)) ?_⟩
    refine ⟨_, rfl, rfl, _, rfl, ite2 (fun _ => ?_) (fun _ => ?_)⟩
    · refine ⟨_, rfl, a, _, 0, _, rfl, rfl, ha, atI_nat (j := 0) rfl, rfl, _, rfl, ifF (decide_eq_false fun e => absurd (V.str.inj e) (by decide)) ⟨_, rfl, a, _, 1, _, rfl, rfl, ha, atI_nat (j := 1) rfl, by show 2 ≤ sizeLine; decide, fun q hq => ?_⟩⟩
      have sq := same_new hq (.tup [V.str (Str.ofString "read"), V.str z])
      exact kk _ _ _ (hb1.trans (.of sq)) ((hp1.same sq).mono (by omega)) (rw_tupG hp hb1 hp1 hq (rws_cons rw_str (rws_cons rw_str rws_nil))) (.inr (.inl ⟨z, hz, rfl⟩))
    refine ⟨fun σ' H' => ts ≠ [] ∧ Same H1 H' ∧ σ' = [some (.ref p), some (.ref a), some (.int w), none, none, none, none], ?_, ?_⟩
    · refine ⟨_, rfl, a, _, 0, _, rfl, rfl, ha, atI_nat (j := 0) rfl, rfl, _, rfl, ifF (decide_eq_false fun e => absurd (V.str.inj e) (by decide)) ⟨_, rfl, rfl, _, rfl, ite2 (fun _ => ?_) (fun _ => ?_)⟩⟩
      · refine ⟨fun σ' H' => ∃ y : Str, okName y ∧ But p H1 H' ∧ Purse H' p (n + 4) ∧ σ' = [some (.ref p), some (.ref a), some (.int w), none, some (.str y), none, none], ?_, ?_⟩
        · exact ⟨_, rfl, _, rfl, a, _, 1, _, rfl, rfl, ha, atI_nat (j := 1) rfl, p, z, n + 1, rfl, hp1, by omega, hz, fun y H2 hy hb2 hp2 => ⟨y, hy, hb2, hp2, rfl⟩⟩
        rintro _ H2 ⟨y, hy, hb2, hp2, rfl⟩
        have ha2 := SqT.of (K := K) (hb2 _ _ nap ha0)
        refine ⟨_, rfl, a, _, 0, _, rfl, rfl, ha2, atI_nat (j := 0) rfl, rfl, _, rfl, ifF (decide_eq_false fun e => absurd (V.str.inj e) (by decide)) ⟨_, rfl, _, rfl, a, _, 2, _, rfl, rfl, ha2, atI_nat (j := 2) rfl, by show 3 ≤ sizeLine; decide, fun q hq => ?_⟩⟩
        have sq := same_new hq (.tup [V.str (Str.ofString "call"), V.str y, V.ref l])
        exact kk _ _ _ ((hb1.trans hb2).trans (.of sq)) ((hp2.same sq).mono (by omega)) (rw_tupG hp (hb1.trans hb2) hp2 hq (rws_cons rw_str (rws_cons rw_str (rws_cons (h2.same (gm_up hMp (up ((hb1.trans hb2).trans (.of sq))))) rws_nil)))) (.inr (.inr ⟨y, ts, hy, rfl, hl, ht⟩))
      · refine ⟨_, rfl, a, _, 2, _, rfl, rfl, ha, atI_nat (j := 2) rfl, by show 0 ≤ sizeLine; decide, fun l0 hl00 => ?_⟩
        have s0 := same_new hl00 (.lst [])
        have pts : Pl 11 (.lst ts) := pl_lst (by omega) fun t mt => (ht t mt).pl.le (by omega)
        have e0 : PyData.eqv (toP (.lst ts)) (toP (.lst [])) = ts.isEmpty := by
          rw [eqv_deq (n := 11) (m := 1) _ _ pts (pl_lst (n := 0) (ds := []) (by decide) (by simp)), deq]
          cases ts with
          | nil => rw [deqs]; rfl
          | cons t ts => rw [deqs]; rfl
        refine ⟨toP (.lst ts), toP (.lst []), (h2.same (up (hb1.trans (.of s0)))).dp, ?_, shaped_of pts (by decide), shaped_of (n := 1) (pl_lst (n := 0) (ds := []) (by decide) (by simp)) (by decide), _, rfl, ?_⟩
        · exact RW.dp (show RW _ (.lst []) (.ref l0) from ⟨l0, [], rfl, upd_same, rfl⟩)
        rw [e0]
        cases ts with
        | cons t ts => exact iteF ⟨(fun h => nomatch h), s0, rfl⟩
        | nil =>
          refine iteT ?_
          have hp1' := hp1.same s0
          have hb1' := hb1.trans (.of s0)
          have ha1 := s0 _ _ ha0
          generalize upd H1 l0 (.lst []) = H2 at hp1' hb1' ha1 ⊢
          refine ⟨fun σ' H' => ∃ y : Str, okName y ∧ But p H2 H' ∧ Purse H' p (n + 4) ∧ σ' = [some (.ref p), some (.ref a), some (.int w), none, some (.str y), none, none], ?_, ?_⟩
          · exact ⟨_, rfl, _, rfl, a, _, 1, _, rfl, rfl, SqT.of ha1, atI_nat (j := 1) rfl, p, z, n + 1, rfl, hp1', by omega, hz, fun y H2 hy hb2 hp2 => ⟨y, hy, hb2, hp2, rfl⟩⟩
          rintro _ H3 ⟨y, hy, hb2, hp2, rfl⟩
          have ha2 := SqT.of (K := K) (hb2 _ _ nap ha1)
          refine ⟨_, rfl, a, _, 0, _, rfl, rfl, ha2, atI_nat (j := 0) rfl, rfl, _, rfl, ifF (decide_eq_false fun e => absurd (V.str.inj e) (by decide)) ⟨_, rfl, _, rfl, a, _, 2, _, rfl, rfl, ha2, atI_nat (j := 2) rfl, by show 3 ≤ sizeLine; decide, fun q hq => ?_⟩⟩
          have sq := same_new hq (.tup [V.str (Str.ofString "call"), V.str y, V.ref l])
          exact kk _ _ _ ((hb1'.trans hb2).trans (.of sq)) ((hp2.same sq).mono (by omega)) (rw_tupG hp (hb1'.trans hb2) hp2 hq (rws_cons rw_str (rws_cons rw_str (rws_cons (h2.same (gm_up hMp (up ((hb1'.trans hb2).trans (.of sq))))) rws_nil)))) (.inr (.inr ⟨y, [], hy, rfl, by decide, fun _ h => nomatch h⟩))
    rintro _ H2 ⟨hne, hs2, rfl⟩
    have tl : 0 < ts.length := by
      cases ts with
      | nil => exact absurd rfl hne
      | cons t ts => exact Nat.succ_pos _
    have ha2 := hs2 _ _ ha0
    have hl2 := hs2 _ _ hl0
    have hp2 := hp1.same hs2
    have hb2 := hb1.trans (.of hs2)
    clear ha hs2 ha0 hl0 h2 hl'
    -- a list and a place
    refine ⟨fun σ' H' => ∃ (q : Addr) (j : Nat), j < ts.length ∧ H q = none ∧ But p H2 H' ∧ Purse H' p (n + 2) ∧ H' q = some (.lst zs) ∧ σ' = [some (.ref p), some (.ref a), some (.int w), none, none, some (.ref q), some (.int (j : Int))], ?_, ?_⟩
    · refine ⟨_, rfl, a, _, 2, _, rfl, rfl, SqT.of ha2, atI_nat (j := 2) rfl, l, zs, rfl, .inl (SqL.of hl2), fun q hq => ?_⟩
      have sq := same_new hq (.lst zs)
      have nqp := hp2.ne hq
      refine ⟨_, rfl, _, rfl, a, _, 2, _, rfl, rfl, SqT.of (sq _ _ ha2), atI_nat (j := 2) rfl, l, zs, rfl, .inl (SqL.of (sq _ _ hl2)), p, _, n + 1, rfl, hp2.same sq, by omega, by omega, by omega, fun d H3 d0 d1 hb3 hp3 => ?_⟩
      obtain ⟨j, rfl⟩ := Int.eq_ofNat_of_zero_le d0
      exact ⟨_, _, rfl, q, j, by omega, hb2.free hpo hp2.some hq, (But.of sq).trans hb3, hp3, hb3 _ _ nqp upd_same, rfl⟩
    rintro _ H3 ⟨q, j, hj, hq0, hb3, hp3, hq3, rfl⟩
    have ha3 := hb3 _ _ nap ha2
    have hb03 := hb2.trans hb3
    have nqp : q ≠ p := hp.ne hq0
    clear ha2 hl2 hp2 hb1 hp1 hb2
    have ei : ((j : Int) + 1) = ((j + 1 : Nat) : Int) := by omega
    have hx := List.getElem?_eq_getElem (show j < zs.length by omega)
    generalize zs[j]'(by omega) = x at hx
    obtain ⟨t, hti, rx⟩ := hzs.item hx
    have pp3 : ∃ o', H3 p = some o' := hp3.some
    -- one left out
    refine ⟨fun σ' H' => H' = H3 ∧ σ' = [some (.ref p), some (.ref a), some (.int w), none, none, some (.ref q), some (.int (j : Int))], ?_, ?_⟩
    · refine ⟨_, rfl, rfl, _, rfl, ite2 (fun _ => ?_) (fun _ => ⟨rfl, rfl⟩)⟩
      refine ⟨_, rfl, a, _, 1, _, rfl, rfl, SqT.of ha3, atI_nat (j := 1) rfl, _, rfl, _, rfl, _, rfl, q, zs, rfl, SqL.of hq3, fun p1 hp1 => ?_⟩
      rw [cutV_pre]
      have s1 := same_new hp1 (.lst (zs.take j))
      refine ⟨_, rfl, _, rfl, _, _, rfl, rfl, _, rfl, q, zs, rfl, SqL.of (s1 _ _ hq3), fun p2 hp2 => ?_⟩
      rw [ei, cutV_post]
      have s2 := same_new hp2 (.lst (zs.drop (j + 1)))
      have sz : (zs.take j).length + (zs.drop (j + 1)).length ≤ 1000 := by
        rw [List.length_take, List.length_drop]
        omega
      refine ⟨p1, p2, _, _, rfl, rfl, s2 _ _ upd_same, upd_same, Nat.le_trans sz (by decide), fun p4 hp4 => ⟨by show 3 ≤ sizeLine; decide, fun q5 hq5 => ?_⟩⟩
      have s4 := same_new hp4 (.lst (zs.take j ++ zs.drop (j + 1)))
      have s5 := same_new hq5 (.tup [V.str (Str.ofString "call"), V.str z, V.ref p4])
      have s14 := (s1.trans s2).trans s4
      have sA := s14.trans s5
      refine kk _ _ _ (hb03.trans (.of sA)) ((hp3.same sA).mono (by omega)) (rw_tupG hp (hb03.trans (.of s14)) (hp3.same s14) hq5 (rws_cons rw_str (rws_cons rw_str (rws_cons (show RW _ (.lst _) (.ref p4) from ⟨p4, _, rfl, gm_new ((hp3.same (s1.trans s2)).ne hp4) (hb03.free hpo hp3.some ((s1.trans s2).free hp4)) (s5 _ _ upd_same), ((hzs.take j).app (hzs.drop (j + 1))).same (gm_up hMp (up (hb03.trans (.of sA))))⟩) rws_nil)))) (.inr (.inr ⟨z, _, hz, rfl, ?_, fun t' m => ?_⟩))
      · rw [List.length_append, List.length_take, List.length_drop]
        omega
      · rcases List.mem_append.mp m with y | y
        · exact ht t' (List.mem_of_mem_take y)
        · exact ht t' (List.mem_of_mem_drop y)
    rintro _ H4 ⟨rfl, rfl⟩
    -- turned
    refine ⟨fun σ' H' => H' = H4 ∧ σ' = [some (.ref p), some (.ref a), some (.int w), none, none, some (.ref q), some (.int (j : Int))], ?_, ?_⟩
    · refine ⟨_, rfl, rfl, _, rfl, ite2 (fun _ => ?_) (fun _ => ⟨rfl, rfl⟩)⟩
      refine ⟨_, rfl, a, _, 1, _, rfl, rfl, SqT.of ha3, atI_nat (j := 1) rfl, _, rfl, q, zs, rfl, SqL.of hq3, fun p1 hp1 => ⟨by show 3 ≤ sizeLine; decide, fun q5 hq5 => ?_⟩⟩
      have s1 := same_new hp1 (.lst zs.reverse)
      have s5 := same_new hq5 (.tup [V.str (Str.ofString "call"), V.str z, V.ref p1])
      have sA := s1.trans s5
      refine kk _ _ _ (hb03.trans (.of sA)) ((hp3.same sA).mono (by omega)) (rw_tupG hp (hb03.trans (.of s1)) (hp3.same s1) hq5 (rws_cons rw_str (rws_cons rw_str (rws_cons (show RW _ (.lst _) (.ref p1) from ⟨p1, _, rfl, gm_new (hp3.ne hp1) (hb03.free hpo hp3.some hp1) (s5 _ _ upd_same), hzs.rev.same (gm_up hMp (up (hb03.trans (.of sA))))⟩) rws_nil)))) (.inr (.inr ⟨z, _, hz, rfl, ?_, fun t' m => ht t' (List.mem_reverse.mp m)⟩))
      rw [List.length_reverse]
      exact hl
    rintro _ H5 ⟨rfl, rfl⟩
    -- one changed
    refine ⟨fun σ' H' => ∃ (u : V) (t' : D), TmOk m1 t' ∧ But p H H' ∧ Purse H' p (n + 2 + 5 * k) ∧ RWs (gm p H M H') (ts.set j t') (zs.set j u) ∧ H' q = some (.lst (zs.set j u)) ∧ H' a = some (.tup [V.str (Str.ofString "call"), V.str z, V.ref l]) ∧ σ' = [some (.ref p), some (.ref a), some (.int w), none, none, some (.ref q), some (.int (j : Int))], ?_, ?_⟩
    · refine ⟨_, rfl, _, rfl, _, rfl, q, zs, _, x, rfl, rfl, SqL.of hq3, atI_nat hx, p, M, x, t, n + 2, m1, rfl, hp3, by omega, up hb03, hMp, rx, ht t (List.mem_of_getElem? hti), by omega, by omega, fun u H6 t' hb6 hp6 ru hu => ?_⟩
      have hq6 := hb6 _ _ nqp hq3
      have nk : But p H (upd H6 q (.lst (zs.set j u))) := fun c o nc e => by
        rw [upd_ne (ne_of_none e hq0)]
        exact (hb03.trans hb6) c o nc e
      refine ⟨_, rfl, _, rfl, q, zs, _, j, rfl, rfl, hq6, Evl.ixN_nat (by omega), u, t', hu, nk, ?_, ?_, upd_same, ?_, rfl⟩
      · obtain ⟨x1, x2, x3, e, r⟩ := hp6
        exact ⟨x1, x2, x3, by rw [upd_ne nqp.symm]; exact e, r⟩
      · refine RWs.put (ru.same (gm_call (fun c e => hb03.free hpo hp3.some e) fun c o nc e => ?_)) j (hzs.same (gm_up hMp (up nk)))
        obtain ⟨_, c2, e2⟩ := gm_is e
        have nq : c ≠ q := fun y => by
          rw [y] at c2
          rcases c2 with c2 | ⟨o', c2⟩
          · rw [hq3] at c2
            cases c2
          · have := hM _ _ c2
            rw [hq0] at this
            cases this
        rw [upd_ne nq]
        exact e2
      · rw [upd_ne (fun y => by
          rw [y] at ha'
          have := hM _ _ ha'
          rw [hq0] at this
          cases this)]
        exact hb6 _ _ nap ha3
    rintro _ H6 ⟨u, t', hu, hb6, hp6, hzs6, hq6, ha6, rfl⟩
    refine ⟨_, rfl, a, _, 1, _, rfl, rfl, SqT.of ha6, atI_nat (j := 1) rfl, _, rfl, by show 3 ≤ sizeLine; decide, fun q5 hq5 => ?_⟩
    have s5 := same_new hq5 (.tup [V.str (Str.ofString "call"), V.str z, V.ref q])
    refine kk _ _ _ (hb6.trans (.of s5)) ((hp6.same s5).mono (by omega)) (rw_tupG hp hb6 hp6 hq5 (rws_cons rw_str (rws_cons rw_str (rws_cons (show RW _ (.lst _) (.ref q) from ⟨q, _, rfl, gm_new nqp hq0 (s5 _ _ hq6), hzs6.same (gm_next fun c o _ e => s5 _ _ e)⟩) rws_nil)))) (.inr (.inr ⟨z, _, hz, rfl, ?_, fun e m => ?_⟩))
    · rw [List.length_set]
      exact hl
    · rcases List.mem_or_eq_of_mem_set m with y | rfl
      · exact ht e y
      · exact hu
end
end K02
set_option Elab.async false
set_option linter.all false
set_option maxRecDepth 100000
set_option maxHeartbeats 4000000
namespace K02
open PySem L2 PyProof.Rows
/-- what stands ahead in an item: nothing, or a field's name -/
def preV (row : Bool) (f : Str) : List V := if row = true then [] else [.str f]
theorem rw_ent_of {H : Hp} {row : Bool} {q : Str × D × D} {v : V} (h : RW H (ent row q) v) : ∃ a x1 xd, v = .ref a ∧ H a = some (.tup (preV row q.1 ++ [x1, xd])) ∧ RW H q.2.1 x1 ∧ RW H q.2.2 xd := by
  cases row with
  | true =>
    obtain ⟨a, xs, rfl, ha, x1, _, rfl, h1, x2, _, rfl, h2, h3⟩ := h
    obtain rfl : _ = [] := h3
    exact ⟨a, x1, x2, rfl, ha, h1, h2⟩
  | false =>
    obtain ⟨a, xs, rfl, ha, x0, _, rfl, h0, x1, _, rfl, h1, x2, _, rfl, h2, h3⟩ := h
    obtain rfl : _ = [] := h3
    obtain ⟨rfl, _⟩ := h0
    exact ⟨a, x1, x2, rfl, ha, h1, h2⟩
theorem rw_ent_to {H : Hp} {row : Bool} {f : Str} {d1 dd : D} {a : Addr} {x1 xd : V} (h : H a = some (.tup (preV row f ++ [x1, xd]))) (h1 : RW H d1 x1) (h2 : RW H dd xd) : RW H (ent row (f, d1, dd)) (.ref a) := by
  cases row with
  | true => exact ⟨a, _, rfl, h, rws_cons h1 (rws_cons h2 rws_nil)⟩
  | false => exact ⟨a, _, rfl, h, rws_cons rw_str (rws_cons h1 (rws_cons h2 rws_nil))⟩
section
variable {row : Bool} {f : Str} {x y : V}
theorem pre_m1 : atI (preV row f ++ [x, y]) (-1) = some y := by cases row <;> rfl
theorem pre_m2 : atI (preV row f ++ [x, y]) (-2) = some x := by cases row <;> rfl
theorem pre_c1 : cutV (preV row f ++ [x, y]) none (some (-1)) = preV row f ++ [x] := by cases row <;> rfl
theorem pre_c2 : cutV (preV row f ++ [x, y]) none (some (-2)) = preV row f := by cases row <;> rfl
theorem pre_n1 : ¬ (HT.sIx (preV row f ++ [x, y]).length 0 none = 0 ∧ HT.sIx (preV row f ++ [x, y]).length (preV row f ++ [x, y]).length (some (-1)) = (preV row f ++ [x, y]).length) := by
  cases row with
  | true =>
    show ¬ (HT.sIx 2 0 none = 0 ∧ HT.sIx 2 2 (some (-1)) = 2)
    decide
  | false =>
    show ¬ (HT.sIx 3 0 none = 0 ∧ HT.sIx 3 3 (some (-1)) = 3)
    decide
theorem pre_n2 : ¬ (HT.sIx (preV row f ++ [x, y]).length 0 none = 0 ∧ HT.sIx (preV row f ++ [x, y]).length (preV row f ++ [x, y]).length (some (-2)) = (preV row f ++ [x, y]).length) := by
  cases row with
  | true =>
    show ¬ (HT.sIx 2 0 none = 0 ∧ HT.sIx 2 2 (some (-2)) = 2)
    decide
  | false =>
    show ¬ (HT.sIx 3 0 none = 0 ∧ HT.sIx 3 3 (some (-2)) = 3)
    decide
theorem pre_len : (preV row f).length ≤ 1 := by
  cases row
  · exact Nat.le_refl 1
  · exact Nat.zero_le 1
end
theorem gm_same {p : Addr} {H M H1 H2 : Hp} (s : Same H1 H2) : Same (gm p H M H1) (gm p H M H2) := gm_next fun b o _ e => s b o e
theorem in_strs {z : Str} {ns : List Str} : inV (.str z) (ns.map V.str) = decide (z ∈ ns) := by
  rw [Bool.eq_iff_iff]
  simp [inV, eqV]
def spNrTak (k : Nat) : Sp := fun vs H Q _ => ∃ (p kn : Addr) (M : Hp) (v : V) (row : Bool) (q : Str × D × D) (ns : List Str) (n m : Nat), vs = [.ref p, v, .ref kn] ∧ Purse H p n ∧ n + (60 * k + 30) < 10 ^ 60 ∧ Same M H ∧ M p = none ∧ RW M (ent row q) v ∧ H kn = some (.lst (ns.map V.str)) ∧ kn ≠ p ∧
  PtOk m q.2.1 ∧ Df q.2.2 ∧ (row = false → okName q.1) ∧ m ≤ k ∧ m ≤ 8 ∧
  ∀ u H' q', But p H H' → Purse H' p (n + (60 * k + 30)) → RW (gm p H M H') (ent row q') u → PtOk m q'.2.1 → Df q'.2.2 → (row = false → okName q'.1 ∧ (q'.1 = q.1 ∨ q'.1 ∉ ns)) → Q u H'
def spNear (k : Nat) : Sp := fun vs H Q _ => ∃ (p : Addr) (M : Hp) (v : V) (d : D) (n m : Nat), vs = [.ref p, v] ∧ Purse H p n ∧ n + 60 * k < 10 ^ 60 ∧ Same M H ∧ M p = none ∧ RW M d v ∧ PtOk m d ∧ m ≤ k ∧ m ≤ 8 ∧
  ∀ u H' d', But p H H' → Purse H' p (n + 60 * k) → RW (gm p H M H') d' u → PtOk m d' → Q u H'
section
variable {P : Program} {w : World} {K : PySem.W.Frag} {mg : Str → Option Value} {base : Heap}
theorem scNk : FnScope ["purse", "one", "known", "way", "name", "default"] ["purse", "one", "known"] (defScope sNrTak) := ⟨rfl, rfl, rfl, by decide +kernel, rfl, by decide +kernel, by decide +kernel⟩
theorem ok_nrtak {f fC fN fT fP : Addr} {fd fdC fdN fdT fdP : FuncData} {k : Nat} (F : Fun K "_law_ta_near_taking" "_law_ta_near_taking" sNrTak f fd) (T : Txt K mg)
    (FC : Fun K "_law_coin" "_law_coin" sCoin fC fdC) (GC : FnOk P w K mg base CX0 1 fC fdC ["purse", "many"] spCoin) (bC : Binds K fdC ["purse", "many"] []) (mC : mg "_law_coin" = some (.ref fC))
    (FN : Fun K "_law_ta_near_name" "_law_ta_near_name" sNrName fN fdN) (GN : FnOk P w K mg base CX0 2 fN fdN ["purse", "name"] spNrName) (bN : Binds K fdN ["purse", "name"] []) (mN : mg "_law_ta_near_name" = some (.ref fN))
    (FT : Fun K "_law_ta_near_term" "_law_ta_near_term" sNrTerm fT fdT) (GT : FnOk P w K mg base CX0 7 fT fdT ["purse", "term"] (spNrTerm 5)) (bT : Binds K fdT ["purse", "term"] []) (mT : mg "_law_ta_near_term" = some (.ref fT))
    (FP : Fun K "_law_ta_near" "_law_ta_near" sNear fP fdP) (GP : FnOk P w K mg base CX0 (2 * k + 8) fP fdP ["purse", "piece"] (spNear k)) (bP : Binds K fdP ["purse", "piece"] []) (mP : mg "_law_ta_near" = some (.ref fP)) :
    FnOk P w K mg base CX0 (2 * k + 9) f fd ["purse", "one", "known"] (spNrTak k) := by
  refine F.ok scNk (fun vs H Q E h => ?_) (fun cdv A outer s H vs Q E hr h => ?_)
  · obtain ⟨p, kn, M, v, row, q, ns, n, m, rfl, _⟩ := h
    rfl
  obtain ⟨p, kn, M, v, row, q, ns, n, m, rfl, hp, hn, hM, hMp, hR, hkn, nkp, hT, hD, hf, hmk, hm8, kk⟩ := h
  have hr1 := hr.mono (show 1 ≤ 2 * k + 8 by omega)
  have hr2 := hr.mono (show 2 ≤ 2 * k + 8 by omega)
  have hr7 := hr.mono (show 7 ≤ 2 * k + 8 by omega)
  refine ⟨_, Evl.pss_cut (ps_set (i := 3) scNk.nd rfl (Or.inl rfl) (pe_call GC hr1 rfl mC FC.kp bC .nil pass0 (pa_cons (pv 0) (pa_cons pe_int pa_nil))))
    (Evl.pss_cut (ps_if (PW.pt (pw_and (pt_cmpR op_eq (pv 3) pe_int (nomark _)) (pw_and1 (pt_cmpR op_eq (pe_callB call_len_seq (by rfl) T.len PySem.boot_len (pa_cons (pv 1) pa_nil)) pe_int (nomark _)))))
        (Evl.pss_cut (ps_set (i := 4) scNk.nd rfl (Or.inl rfl) (pe_call GN hr2 rfl mN FN.kp bN .nil pass0 (pa_cons (pv 0) (pa_cons (pe_ix ix_tup (pv 1) pe_int (fun _ _ => rfl)) pa_nil))))
          (pss_one (ps_ret (pe_ifExp (pt_cmpR op_in_seq (pv 4) (pv 2) (by rfl)) (pv 1) (pe_tup (pa_cons (pv 4) (pa_cons (pe_ix ix_tup (pv 1) pe_int (fun _ _ => rfl)) (pa_cons (pe_ix ix_tup (pv 1) pe_int (fun _ _ => rfl)) pa_nil)))))))) pss_nil)
    (Evl.pss_cut (ps_if (PW.pt (pw_and (pt_cmpR op_eq (pv 3) pe_int (nomark _)) (pw_and1 (pt_cmpR op_notN (pe_ix ix_tup (pv 1) (pe_un un_neg pe_int) (fun _ _ => rfl)) pe_non (nomark _)))))
        (pss_one (ps_ret (pe_callTy call_tuple_of (by rfl) T.tuple boot_tuple (pa_cons (pe_op op_cat (pe_callTy call_list_of (by rfl) T.list boot_list (pa_cons (pe_slice sl_tup (pv 1) po_none (po_some (pe_un un_neg pe_int))) pa_nil))
          (pe_lst (pa_cons (pe_call GT hr7 rfl mT FT.kp bT .nil pass0 (pa_cons (pv 0) (pa_cons (pe_ix ix_tup (pv 1) (pe_un un_neg pe_int) (fun _ _ => rfl)) pa_nil))) pa_nil))) pa_nil)))) pss_nil)
    (Evl.pss_cut (ps_if (pt_cmpR op_lt (pv 3) pe_int (nomark _))
        (Evl.pss_cut (ps_set (i := 5) scNk.nd rfl (Or.inl rfl) (pe_ifExp (pt_cmpR op_notN (pe_ix ix_tup (pv 1) (pe_un un_neg pe_int) (fun _ _ => rfl)) pe_non (nomark _)) pe_non (pe_tup (pa_cons pe_str (pa_cons (pe_call GC hr1 rfl mC FC.kp bC .nil pass0 (pa_cons (pv 0) (pa_cons pe_int pa_nil))) pa_nil)))))
          (pss_one (ps_ret (pe_callTy call_tuple_of (by rfl) T.tuple boot_tuple (pa_cons (pe_op op_cat (pe_callTy call_list_of (by rfl) T.list boot_list (pa_cons (pe_slice sl_tup (pv 1) po_none (po_some (pe_un un_neg pe_int))) pa_nil)) (pe_lst (pa_cons (pv 5) pa_nil))) pa_nil))))) pss_nil)
    (pss_one (ps_ret (pe_callTy call_tuple_of (by rfl) T.tuple boot_tuple (pa_cons (pe_op op_cat (pe_callTy call_list_of (by rfl) T.list boot_list (pa_cons (pe_slice sl_tup (pv 1) po_none (po_some (pe_un un_neg pe_int))) pa_nil))
        (pe_lst (pa_cons (pe_call GP hr rfl mP FP.kp bP .nil pass0 (pa_cons (pv 0) (pa_cons (pe_ix ix_tup (pv 1) (pe_un un_neg pe_int) (fun _ _ => rfl)) pa_nil))) (pa_cons (pe_ix ix_tup (pv 1) (pe_un un_neg pe_int) (fun _ _ => rfl)) pa_nil)))) pa_nil))))))), ?_⟩
  obtain ⟨po, hpo⟩ := hp.some
  have up : ∀ {Hx : Hp}, But p H Hx → Same M Hx := fun b => same_but hM b hMp
  obtain ⟨a, x1, xd, rfl, ha', h1, hd⟩ := rw_ent_of hR
  have nap : a ≠ p := fun z => by
    rw [z, hMp] at ha'
    cases ha'
  have ha0 := hM _ _ ha'
  refine ⟨fun σ' H' => ∃ w : Int, But p H H' ∧ Purse H' p (n + 1) ∧ σ' = [some (.ref p), some (.ref a), some (.ref kn), some (.int w), none, none], ?_, ?_⟩
  · exact ⟨_, rfl, p, 4, n, rfl, hp, by omega, by decide, by decide, fun d1 H1 d10 d11 hb1 hp1 => ⟨d1, hb1, hp1, rfl⟩⟩
  rintro _ H1 ⟨w, hb1, hp1, rfl⟩
  have ha1 := hb1 _ _ nap ha0
  have st := SqT.of (K := K) ha1
  -- another name
  refine ⟨fun σ' H' => H' = H1 ∧ σ' = [some (.ref p), some (.ref a), some (.ref kn), some (.int w), none, none], ?_, ?_⟩
  · refine ⟨_, rfl, rfl, _, rfl, ite2 (fun _ => ?_) (fun _ => iteF ⟨rfl, rfl⟩)⟩
    refine ⟨_, rfl, a, _, rfl, .inr st, rfl, _, rfl, ?_⟩
    cases row with
    | true => exact ifF (decide_eq_false fun e => absurd (show (2 : Int) = 3 from V.int.inj e) (by decide)) ⟨rfl, rfl⟩
    | false =>
      refine ifT (decide_eq_true rfl) ?_
      refine ⟨fun σ' H' => ∃ y : Str, okName y ∧ But p H1 H' ∧ Purse H' p (n + 4) ∧ σ' = [some (.ref p), some (.ref a), some (.ref kn), some (.int w), some (.str y), none], ?_, ?_⟩
      · exact ⟨_, rfl, _, rfl, a, _, 0, _, rfl, rfl, st, atI_nat (j := 0) rfl, p, q.1, n + 1, rfl, hp1, by omega, hf rfl, fun y H2 hy hb2 hp2 => ⟨y, hy, hb2, hp2, rfl⟩⟩
      rintro _ H2 ⟨y, hy, hb2, hp2, rfl⟩
      have hb02 := hb1.trans hb2
      have ha2 := SqT.of (K := K) (hb2 _ _ nap ha1)
      refine ⟨_, rfl, _, rfl, kn, _, rfl, .inl (SqL.of (hb02 _ _ nkp hkn)), rfl, ?_, _, rfl, ?_⟩
      · rw [List.all_map]
        exact List.all_eq_true.mpr fun _ _ => rfl
      show if inV (V.str y) (ns.map V.str) = true then _ else _
      rw [in_strs]
      refine ite2 (fun _ => ?_) (fun hin => ?_)
      · exact ⟨_, rfl, kk _ _ q hb02 (hp2.mono (by omega)) (hR.same (gm_up hMp (up hb02))) hT hD fun _ => ⟨hf rfl, .inl rfl⟩⟩
      · refine ⟨_, rfl, _, rfl, a, _, 1, _, rfl, rfl, ha2, atI_nat (j := 1) rfl, _, rfl, a, _, 2, _, rfl, rfl, ha2, atI_nat (j := 2) rfl, by show 3 ≤ sizeLine; decide, fun q5 hq5 => ?_⟩
        have s5 := same_new hq5 (.tup [V.str y, x1, xd])
        have hbA := hb02.trans (.of s5)
        exact kk _ _ (y, q.2.1, q.2.2) hbA ((hp2.same s5).mono (by omega)) (rw_ent_to (row := false) (gm_new (hp2.ne hq5) (hb02.free hpo hp2.some hq5) upd_same) (h1.same (gm_up hMp (up hbA))) (hd.same (gm_up hMp (up hbA)))) hT hD fun _ => ⟨hy, .inr fun z => hin (decide_eq_true z)⟩
  rintro _ H2 ⟨rfl, rfl⟩
  -- another default, near
  refine ⟨fun σ' H' => H' = H2 ∧ σ' = [some (.ref p), some (.ref a), some (.ref kn), some (.int w), none, none], ?_, ?_⟩
  · refine ⟨_, rfl, rfl, _, rfl, ite2 (fun _ => ?_) (fun _ => iteF ⟨rfl, rfl⟩)⟩
    refine ⟨_, rfl, 1, rfl, a, _, _, _, rfl, rfl, st, pre_m1, rfl, _, rfl, ?_⟩
    rcases hD with e | hT5
    · rw [e] at hd
      obtain ⟨rfl, _⟩ := hd
      exact ifF (by rw [decide_eq_true rfl]; rfl) ⟨rfl, rfl⟩
    have nn : xd ≠ .non := fun z => by
      rw [z] at hd
      cases hq2 : q.2.2 with
      | leaf v0 =>
        rw [hq2] at hT5
        rcases hT5 with ⟨_, _, z⟩ | ⟨_, _, z⟩ | ⟨_, _, _, z, _⟩ <;> cases z
      | lst ds =>
        rw [hq2] at hd
        obtain ⟨_, _, z, _⟩ := hd
        cases z
      | tup ds =>
        rw [hq2] at hd
        obtain ⟨_, _, z, _⟩ := hd
        cases z
    refine ifT (by rw [decide_eq_false nn]; rfl) ?_
    refine ⟨_, rfl, 1, rfl, _, rfl, a, _, rfl, st, pre_n1, fun p1 hp1' => ?_⟩
    rw [pre_c1]
    have s1 := same_new hp1' (.tup (preV row q.1 ++ [x1]))
    refine ⟨p1, _, rfl, .inr (SqT.of upd_same), fun l hl => ?_⟩
    have s2 := s1.trans (same_new hl (.lst (preV row q.1 ++ [x1])))
    have hp3 := hp1.same s2
    have hb3 := hb1.trans (.of s2)
    refine ⟨_, rfl, _, rfl, 1, rfl, a, _, _, _, rfl, rfl, SqT.of (s2 _ _ ha1), pre_m1, p, M, xd, q.2.2, n + 1, 5, rfl, hp3, by omega, up hb3, hMp, hd, hT5, by decide, by decide, fun u H6 d' hb6 hp6 ru hu => ⟨by show 1 ≤ sizeLine; decide, fun l2 hl2 => ?_⟩⟩
    have nl : l ≠ p := (hp1.same s1).ne hl
    have hl6 := hb6 _ _ nl upd_same
    have t2 := same_new hl2 (.lst [u])
    have eA : preV row q.1 ++ [x1] ++ [u] = preV row q.1 ++ [x1, u] := by rw [List.append_assoc]; rfl
    refine ⟨l, l2, _, _, rfl, rfl, t2 _ _ hl6, upd_same, ?_, ?_⟩
    · refine Nat.le_trans ?_ (show 1000 ≤ sizeLine by decide)
      rw [List.length_append]
      have := pre_len (row := row) (f := q.1)
      show _ + 1 + 1 ≤ 1000
      omega
    rw [eA]
    intro l3 hl3
    have t3 := t2.trans (same_new hl3 (.lst (preV row q.1 ++ [x1, u])))
    refine ⟨l3, _, rfl, .inl ⟨SqL.of upd_same, fun q5 hq5 => ?_⟩⟩
    have t5 := t3.trans (same_new hq5 (.tup (preV row q.1 ++ [x1, u])))
    have hb06 := hb3.trans hb6
    have hbA := hb06.trans (.of t5)
    exact kk _ _ (q.1, q.2.1, d') hbA ((hp6.same t5).mono (by omega)) (rw_ent_to (gm_new ((hp6.same t3).ne hq5) (hb06.free hpo hp6.some (t3.free hq5)) upd_same) (h1.same (gm_up hMp (up hbA))) (ru.same (gm_call (fun c e => hb3.free hpo hp3.some e) fun c o _ e => t5 _ _ (gm_le _ _ e)))) hT (.inr hu) fun z => ⟨hf z, .inl rfl⟩
  rintro _ H3 ⟨rfl, rfl⟩
  -- a default more, or less
  refine ⟨fun σ' H' => H' = H3 ∧ σ' = [some (.ref p), some (.ref a), some (.ref kn), some (.int w), none, none], ?_, ?_⟩
  · refine ⟨_, rfl, _, _, rfl, rfl, _, rfl, ite2 (fun _ => ?_) (fun _ => ⟨rfl, rfl⟩)⟩
    refine ⟨fun σ' H' => ∃ (y : V) (dd : D), Df dd ∧ But p H H' ∧ Purse H' p (n + 2) ∧ RW (gm p H M H') dd y ∧ H' a = some (.tup (preV row q.1 ++ [x1, xd])) ∧ σ' = [some (.ref p), some (.ref a), some (.ref kn), some (.int w), none, some y], ?_, ?_⟩
    · refine ⟨_, rfl, 1, rfl, a, _, _, _, rfl, rfl, st, pre_m1, rfl, _, rfl, ite2 (fun _ => ?_) (fun _ => ?_)⟩
      · exact ⟨.non, .leaf .non, .inl rfl, hb1, hp1.mono (by omega), rw_non, ha1, rfl⟩
      · refine ⟨_, rfl, p, 3, n + 1, rfl, hp1, by omega, by decide, by decide, fun d H4 d0 d1 hb4 hp4 => ⟨by show 2 ≤ sizeLine; decide, fun q5 hq5 => ?_⟩⟩
        have s5 := same_new hq5 (.tup [V.str (Str.ofString "number"), V.int d])
        exact ⟨_, _, .inr (.inl ⟨d, by omega, rfl⟩), (hb1.trans hb4).trans (.of s5), hp4.same s5, rw_tupG hp (hb1.trans hb4) hp4 hq5 (rws_cons rw_str (rws_cons rw_int rws_nil)), s5 _ _ (hb4 _ _ nap ha1), rfl⟩
    rintro _ H4 ⟨y, dd, hdd, hb4, hp4, ry, ha4, rfl⟩
    refine ⟨_, rfl, 1, rfl, _, rfl, a, _, rfl, SqT.of ha4, pre_n1, fun p1 hp1' => ?_⟩
    rw [pre_c1]
    have s1 := same_new hp1' (.tup (preV row q.1 ++ [x1]))
    refine ⟨p1, _, rfl, .inr (SqT.of upd_same), fun l hl => ?_⟩
    have s2 := s1.trans (same_new hl (.lst (preV row q.1 ++ [x1])))
    refine ⟨_, rfl, by show 1 ≤ sizeLine; decide, fun l2 hl2 => ?_⟩
    have t2 := same_new hl2 (.lst [y])
    have eA : preV row q.1 ++ [x1] ++ [y] = preV row q.1 ++ [x1, y] := by rw [List.append_assoc]; rfl
    refine ⟨l, l2, _, _, rfl, rfl, t2 _ _ upd_same, upd_same, ?_, ?_⟩
    · refine Nat.le_trans ?_ (show 1000 ≤ sizeLine by decide)
      rw [List.length_append]
      have := pre_len (row := row) (f := q.1)
      show _ + 1 + 1 ≤ 1000
      omega
    rw [eA]
    intro l3 hl3
    have t3 := (s2.trans t2).trans (same_new hl3 (.lst (preV row q.1 ++ [x1, y])))
    refine ⟨l3, _, rfl, .inl ⟨SqL.of upd_same, fun q5 hq5 => ?_⟩⟩
    have t5 := t3.trans (same_new hq5 (.tup (preV row q.1 ++ [x1, y])))
    have hbA := hb4.trans (.of t5)
    exact kk _ _ (q.1, q.2.1, dd) hbA ((hp4.same t5).mono (by omega)) (rw_ent_to (gm_new ((hp4.same t3).ne hq5) (hb4.free hpo hp4.some (t3.free hq5)) upd_same) (h1.same (gm_up hMp (up hbA))) (ry.same (gm_same t5))) hT hdd fun z => ⟨hf z, .inl rfl⟩
  rintro _ H4 ⟨rfl, rfl⟩
  -- another part, near
  refine ⟨_, rfl, 2, rfl, _, rfl, a, _, rfl, st, pre_n2, fun p1 hp1' => ?_⟩
  rw [pre_c2]
  have s1 := same_new hp1' (.tup (preV row q.1))
  refine ⟨p1, _, rfl, .inr (SqT.of upd_same), fun l hl => ?_⟩
  have s2 := s1.trans (same_new hl (.lst (preV row q.1)))
  have hp3 := hp1.same s2
  have hb3 := hb1.trans (.of s2)
  refine ⟨_, rfl, _, rfl, 2, rfl, a, _, _, _, rfl, rfl, SqT.of (s2 _ _ ha1), pre_m2, p, M, x1, q.2.1, n + 1, m, rfl, hp3, by omega, up hb3, hMp, h1, hT, hmk, hm8, fun u H6 d' hb6 hp6 ru hu => ?_⟩
  have nl : l ≠ p := (hp1.same s1).ne hl
  have hl6 := hb6 _ _ nl upd_same
  refine ⟨_, rfl, 1, rfl, a, _, _, _, rfl, rfl, SqT.of (hb6 _ _ nap (s2 _ _ ha1)), pre_m1, by show 2 ≤ sizeLine; decide, fun l2 hl2 => ?_⟩
  have t2 := same_new hl2 (.lst [u, xd])
  refine ⟨l, l2, _, _, rfl, rfl, t2 _ _ hl6, upd_same, ?_, fun l3 hl3 => ?_⟩
  · refine Nat.le_trans ?_ (show 1000 ≤ sizeLine by decide)
    have := pre_len (row := row) (f := q.1)
    show _ + 2 ≤ 1000
    omega
  have t3 := t2.trans (same_new hl3 (.lst (preV row q.1 ++ [u, xd])))
  refine ⟨l3, _, rfl, .inl ⟨SqL.of upd_same, fun q5 hq5 => ?_⟩⟩
  have t5 := t3.trans (same_new hq5 (.tup (preV row q.1 ++ [u, xd])))
  have hb06 := hb3.trans hb6
  have hbA := hb06.trans (.of t5)
  exact kk _ _ (q.1, d', q.2.2) hbA ((hp6.same t5).mono (by omega)) (rw_ent_to (gm_new ((hp6.same t3).ne hq5) (hb06.free hpo hp6.some (t3.free hq5)) upd_same) (ru.same (gm_call (fun c e => hb3.free hpo hp3.some e) fun c o _ e => t5 _ _ (gm_le _ _ e))) (hd.same (gm_up hMp (up hbA)))) hu hD fun z => ⟨hf z, .inl rfl⟩
end
end K02
set_option Elab.async false
set_option linter.all false
set_option maxRecDepth 100000
set_option maxHeartbeats 4000000
namespace K02
open PySem L2 PyProof.Rows
theorem nodup_put : ∀ {ns : List Str} {j : Nat} {x : Str}, ns.Nodup → (ns[j]? = some x ∨ x ∉ ns) → (ns.set j x).Nodup
  | [], j, x, _, _ => List.nodup_nil
  | y :: ns, 0, x, h, c => by
    obtain ⟨h1, h2⟩ := List.nodup_cons.mp h
    refine List.nodup_cons.mpr ⟨?_, h2⟩
    rcases c with c | c
    · have e : y = x := Option.some.inj c
      rw [← e]
      exact h1
    · exact fun z => c (List.mem_cons_of_mem _ z)
  | y :: ns, j + 1, x, h, c => by
    obtain ⟨h1, h2⟩ := List.nodup_cons.mp h
    refine List.nodup_cons.mpr ⟨fun z => ?_, nodup_put h2 (c.imp (fun e => by simpa using e) fun e z => e (List.mem_cons_of_mem _ z))⟩
    rcases List.mem_or_eq_of_mem_set z with z | rfl
    · exact h1 z
    · rcases c with c | c
      · exact h1 (List.mem_of_getElem? (i := j) (by simpa using c))
      · exact c List.mem_cons_self
theorem not_mem_put : ∀ {ns : List Str} {i : Nat} {b y : Str}, ns.Nodup → ns[i]? = some b → y ≠ b → b ∉ ns.set i y
  | [], i, b, y, _, h, _ => by simp at h
  | x :: ns, 0, b, y, h, e, n => by
    have ex : x = b := Option.some.inj e
    subst ex
    intro z
    rcases List.mem_cons.mp z with z | z
    · exact n z.symm
    · exact (List.nodup_cons.mp h).1 z
  | x :: ns, i + 1, b, y, h, e, n => by
    have e' : ns[i]? = some b := by simpa using e
    obtain ⟨h1, h2⟩ := List.nodup_cons.mp h
    intro z
    rcases List.mem_cons.mp z with z | z
    · exact h1 (z ▸ List.mem_of_getElem? e')
    · exact not_mem_put h2 e' n z
theorem nodup_swap : ∀ {ns : List Str} {i j : Nat} {a b : Str}, ns.Nodup → ns[j]? = some a → ns[i]? = some b → ((ns.set j b).set i a).Nodup
  | [], i, j, a, b, _, h, _ => by simp at h
  | y :: ns, 0, 0, a, b, h, h1, h2 => by
    have e : y = a := Option.some.inj h1
    rw [← e]
    exact h
  | y :: ns, i + 1, 0, a, b, h, h1, h2 => by
    have e : y = a := Option.some.inj h1
    subst e
    have h2' : ns[i]? = some b := by simpa using h2
    obtain ⟨g1, g2⟩ := List.nodup_cons.mp h
    exact List.nodup_cons.mpr ⟨not_mem_put g2 h2' fun z => g1 (z ▸ List.mem_of_getElem? h2'), nodup_put g2 (.inr g1)⟩
  | y :: ns, 0, j + 1, a, b, h, h1, h2 => by
    have e : y = b := Option.some.inj h2
    subst e
    have h1' : ns[j]? = some a := by simpa using h1
    obtain ⟨g1, g2⟩ := List.nodup_cons.mp h
    exact List.nodup_cons.mpr ⟨not_mem_put g2 h1' fun z => g1 (z ▸ List.mem_of_getElem? h1'), nodup_put g2 (.inr g1)⟩
  | y :: ns, i + 1, j + 1, a, b, h, h1, h2 => by
    have h1' : ns[j]? = some a := by simpa using h1
    have h2' : ns[i]? = some b := by simpa using h2
    obtain ⟨g1, g2⟩ := List.nodup_cons.mp h
    refine List.nodup_cons.mpr ⟨fun z => ?_, nodup_swap g2 h1' h2'⟩
    rcases List.mem_or_eq_of_mem_set z with z | rfl
    · rcases List.mem_or_eq_of_mem_set z with z | rfl
      · exact g1 z
      · exact g1 (List.mem_of_getElem? h2')
    · exact g1 (List.mem_of_getElem? h1')
/-- the items of a part -/
structure QsOk (row : Bool) (m : Nat) (qs : List (Str × D × D)) : Prop where
  len : qs.length ≤ 25
  it : ∀ q ∈ qs, PtOk m q.2.1 ∧ Df q.2.2
  nm : row = false → (qs.map (·.1)).Nodup ∧ ∀ q ∈ qs, okName q.1
theorem QsOk.pt {row : Bool} {m : Nat} {qs : List (Str × D × D)} (h : QsOk row m qs) {r : D} (hr : Opt r) : PtOk (m + 1) (.tup [S (if row = true then "row" else "record"), .lst (qs.map (ent row)), r]) := .inr (.inr ⟨row, qs, r, rfl, hr, h.len, h.it, h.nm⟩)
theorem QsOk.nil {row : Bool} {m : Nat} : QsOk row m [] := ⟨by decide, fun _ h => (nomatch h), fun _ => ⟨List.nodup_nil, fun _ h => (nomatch h)⟩⟩
theorem QsOk.out {row : Bool} {m : Nat} {qs : List (Str × D × D)} (h : QsOk row m qs) (j : Nat) : QsOk row m (qs.take j ++ qs.drop (j + 1)) := by
  have sub : ∀ q ∈ qs.take j ++ qs.drop (j + 1), q ∈ qs := fun q hq => by
    rcases List.mem_append.mp hq with z | z
    · exact List.mem_of_mem_take z
    · exact List.mem_of_mem_drop z
  refine ⟨?_, fun q hq => h.it q (sub q hq), fun e => ⟨?_, fun q hq => (h.nm e).2 q (sub q hq)⟩⟩
  · rw [List.length_append, List.length_take, List.length_drop]
    have := h.len
    omega
  · have s : (qs.take j ++ qs.drop (j + 1)).Sublist qs := by
      have e1 : qs.take j ++ qs.drop j = qs := List.take_append_drop _ _
      have e2 : (qs.drop (j + 1)).Sublist (qs.drop j) := by
        rw [← List.drop_drop]
        exact List.drop_sublist _ _
      have e3 := (List.Sublist.refl (qs.take j)).append e2
      rw [e1] at e3
      exact e3
    exact (h.nm e).1.sublist (s.map _)
theorem QsOk.put {row : Bool} {m j : Nat} {qs : List (Str × D × D)} {q q' : Str × D × D} (h : QsOk row m qs) (hj : qs[j]? = some q) (h1 : PtOk m q'.2.1) (h2 : Df q'.2.2) (h3 : row = false → okName q'.1 ∧ (q'.1 = q.1 ∨ q'.1 ∉ qs.map (·.1))) : QsOk row m (qs.set j q') := by
  refine ⟨by rw [List.length_set]; exact h.len, fun x hx => ?_, fun e => ⟨?_, fun x hx => ?_⟩⟩
  · rcases List.mem_or_eq_of_mem_set hx with z | rfl
    · exact h.it x z
    · exact ⟨h1, h2⟩
  · rw [List.map_set]
    refine nodup_put (h.nm e).1 ?_
    rcases (h3 e).2 with z | z
    · exact .inl (by rw [List.getElem?_map, hj, z]; rfl)
    · exact .inr z
  · rcases List.mem_or_eq_of_mem_set hx with z | rfl
    · exact (h.nm e).2 x z
    · exact (h3 e).1
theorem QsOk.swap {row : Bool} {m i j : Nat} {qs : List (Str × D × D)} {a b : Str × D × D} (h : QsOk row m qs) (hj : qs[j]? = some a) (hi : qs[i]? = some b) : QsOk row m ((qs.set j b).set i a) := by
  have sub : ∀ x ∈ (qs.set j b).set i a, x ∈ qs := fun x hx => by
    rcases List.mem_or_eq_of_mem_set hx with z | rfl
    · rcases List.mem_or_eq_of_mem_set z with z | rfl
      · exact z
      · exact List.mem_of_getElem? hi
    · exact List.mem_of_getElem? hj
  refine ⟨by rw [List.length_set, List.length_set]; exact h.len, fun x hx => h.it x (sub x hx), fun e => ⟨?_, fun x hx => (h.nm e).2 x (sub x hx)⟩⟩
  rw [List.map_set, List.map_set]
  exact nodup_swap (h.nm e).1 (by rw [List.getElem?_map, hj]; rfl) (by rw [List.getElem?_map, hi]; rfl)
theorem Df.pl {d : D} (h : Df d) : Pl 10 d := by
  rcases h with rfl | h
  · exact pl_leaf (.inl rfl)
  · exact h.pl
theorem Opt.pl {d : D} {n : Nat} (h : Opt d) : Pl n d := by
  rcases h with rfl | ⟨z, hz, rfl⟩
  · exact pl_leaf (.inl rfl)
  · exact pl_leaf (lf_name hz)
theorem ent_pl {n : Nat} {row : Bool} {q : Str × D × D} (h1 : Pl n q.2.1) (h2 : Pl n q.2.2) (h3 : row = false → okName q.1) : Pl (n + 1) (ent row q) := by
  cases row
  · refine pl_tup (n := n) (by show 3 ≤ 1000; decide) fun e he => ?_
    simp at he
    rcases he with rfl | rfl | rfl
    · exact pl_leaf (lf_name (h3 rfl))
    · exact h1
    · exact h2
  · refine pl_tup (n := n) (by show 2 ≤ 1000; decide) fun e he => ?_
    simp at he
    rcases he with rfl | rfl
    · exact h1
    · exact h2
theorem PtOk.pl : ∀ {n : Nat} {d : D}, PtOk n d → Pl (3 * n + 10) d
  | 0, _, h => h.elim
  | n + 1, d, h => by
    rcases h with rfl | ⟨z, hz, rfl⟩ | ⟨row, qs, r, rfl, hr, hl, hq, hf⟩
    · refine pl_tup (n := 3 * n + 12) (by show 1 ≤ 1000; decide) fun e he => ?_
      simp at he
      rcases he with rfl
      exact pl_leaf (lf_S (by decide +kernel))
    · refine pl_tup (n := 3 * n + 12) (by show 2 ≤ 1000; decide) fun e he => ?_
      simp at he
      rcases he with rfl | rfl
      · exact pl_leaf (lf_S (by decide +kernel))
      · exact pl_leaf (lf_name hz)
    · refine pl_tup (n := 3 * n + 12) (by show 3 ≤ 1000; decide) fun e he => ?_
      have he' : e = S (if row = true then "row" else "record") ∨ e = .lst (qs.map (ent row)) ∨ e = r := by
        rcases List.mem_cons.mp he with z | z
        · exact .inl z
        · rcases List.mem_cons.mp z with z | z
          · exact .inr (.inl z)
          · exact .inr (.inr (List.mem_singleton.mp z))
      rcases he' with rfl | rfl | rfl
      · cases row <;> exact pl_leaf (lf_S (by decide +kernel))
      · refine pl_lst (n := 3 * n + 11) (by rw [List.length_map]; omega) fun t m => ?_
        obtain ⟨q, hm, rfl⟩ := List.mem_map.mp m
        exact ent_pl (hq q hm).1.pl ((hq q hm).2.pl.le (by omega)) fun e => (hf e).2 q hm
      · exact hr.pl
theorem QsOk.pl {row : Bool} {m : Nat} {qs : List (Str × D × D)} (h : QsOk row m qs) : Pl (3 * m + 12) (.lst (qs.map (ent row))) := by
  refine pl_lst (n := 3 * m + 11) (by rw [List.length_map]; have := h.len; omega) fun t mm => ?_
  obtain ⟨q, hm, rfl⟩ := List.mem_map.mp mm
  exact ent_pl (h.it q hm).1.pl ((h.it q hm).2.pl.le (by omega)) fun e => (h.nm e).2 q hm
section
variable {P : Program} {w : World} {K : PySem.W.Frag} {mg : Str → Option Value} {base : Heap}
theorem near_none {f : Addr} {fd : FuncData} {ps : List Str} {k : Nat} : FnOk P w K mg base CX0 k f fd ps (spNear 0) := (none_of fun vs H Q E h => by
  obtain ⟨p, M, v, d, n, m, _, _, _, _, _, _, h1, h2, _⟩ := h
  obtain rfl : m = 0 := by omega
  exact h1 : FnOk P w K mg base CX0 0 f fd ps (spNear 0)).mono (Nat.zero_le _)
theorem scNr : FnScope ["purse", "piece", "way", "lot", "at", "last", "first", "second", "known", "one"] ["purse", "piece"] (defScope sNear) := ⟨rfl, rfl, rfl, by decide +kernel, rfl, by decide +kernel, by decide +kernel⟩
theorem ok_near {f fC fN fK : Addr} {fd fdC fdN fdK : FuncData} {k : Nat} (F : Fun K "_law_ta_near" "_law_ta_near" sNear f fd) (T : Txt K mg)
    (FC : Fun K "_law_coin" "_law_coin" sCoin fC fdC) (GC : FnOk P w K mg base CX0 1 fC fdC ["purse", "many"] spCoin) (bC : Binds K fdC ["purse", "many"] []) (mC : mg "_law_coin" = some (.ref fC))
    (FN : Fun K "_law_ta_near_name" "_law_ta_near_name" sNrName fN fdN) (GN : FnOk P w K mg base CX0 2 fN fdN ["purse", "name"] spNrName) (bN : Binds K fdN ["purse", "name"] []) (mN : mg "_law_ta_near_name" = some (.ref fN))
    (FK : Fun K "_law_ta_near_taking" "_law_ta_near_taking" sNrTak fK fdK) (GK : FnOk P w K mg base CX0 (2 * k + 9) fK fdK ["purse", "one", "known"] (spNrTak k)) (bK : Binds K fdK ["purse", "one", "known"] []) (mK : mg "_law_ta_near_taking" = some (.ref fK)) :
    FnOk P w K mg base CX0 (2 * k + 10) f fd ["purse", "piece"] (spNear (k + 1)) := by
  refine F.ok scNr (fun vs H Q E h => ?_) (fun cdv A outer s H vs Q E hr h => ?_)
  · obtain ⟨p, M, v, d, n, m, rfl, _⟩ := h
    rfl
  obtain ⟨p, M, v, d, n, m0, rfl, hp, hn, hM, hMp, hR, hT, hmk, hm8, kk⟩ := h
  have hr1 := hr.mono (show 1 ≤ 2 * k + 9 by omega)
  have hr2 := hr.mono (show 2 ≤ 2 * k + 9 by omega)
  refine ⟨_, (pss_cons (ps_if (pt_cmpR op_eq (pe_ix ix_tup (pv 1) pe_int (fun _ _ => rfl)) pe_str (nomark _)) (pss_one (ps_ret (pe_tup (pa_cons pe_str (pa_cons pe_str pa_nil))))) pss_nil)
    (pss_cons (ps_if (pt_cmpR op_eq (pe_ix ix_tup (pv 1) pe_int (fun _ _ => rfl)) pe_str (nomark _)) (pss_one (ps_ret (pe_ifExp (pt_cmpR op_eq (pe_call GC hr1 rfl mC FC.kp bC .nil pass0 (pa_cons (pv 0) (pa_cons pe_int pa_nil))) pe_int (nomark _)) (pe_tup (pa_cons pe_str pa_nil)) (pe_tup (pa_cons pe_str (pa_cons (pe_call GN hr2 rfl mN FN.kp bN .nil pass0 (pa_cons (pv 0) (pa_cons (pe_ix ix_tup (pv 1) pe_int (fun _ _ => rfl)) pa_nil))) pa_nil)))))) pss_nil)
    (Evl.pss_cut (ps_par (i := 2) (j := 3) rfl scNr.nd rfl rfl (by decide) rfl rfl (pa_cons (pe_call GC hr1 rfl mC FC.kp bC .nil pass0 (pa_cons (pv 0) (pa_cons pe_int pa_nil))) (pa_cons (pe_callTy call_list_of (by rfl) T.list boot_list (pa_cons (pe_ix ix_tup (pv 1) pe_int (fun _ _ => rfl)) pa_nil)) pa_nil)) (by rfl))
    (Evl.pss_cut (ps_if (pt_cmpR op_eq (pv 2) pe_int (nomark _)) (pss_one (ps_ret (pe_tup (pa_cons (pe_ix ix_tup (pv 1) pe_int (fun _ _ => rfl)) (pa_cons (pv 3) (pa_cons (pe_ifExp (pt_cmpR op_isN (pe_ix ix_tup (pv 1) pe_int (fun _ _ => rfl)) pe_non (nomark _)) pe_str pe_non) pa_nil)))))) pss_nil)
    (Evl.pss_cut (ps_if (PW.pt (pw_and (pt_cmpR op_eq (pv 2) pe_int (nomark _)) (pw_and1 (pt_cmpR op_notN (pe_ix ix_tup (pv 1) pe_int (fun _ _ => rfl)) pe_non (nomark _))))) (pss_one (ps_ret (pe_tup (pa_cons (pe_ix ix_tup (pv 1) pe_int (fun _ _ => rfl)) (pa_cons (pv 3) (pa_cons (pe_call GN hr2 rfl mN FN.kp bN .nil pass0 (pa_cons (pv 0) (pa_cons (pe_ix ix_tup (pv 1) pe_int (fun _ _ => rfl)) pa_nil))) pa_nil)))))) pss_nil)
    (Evl.pss_cut (ps_if (pt_cmpR (op_eqD hr.units) (pv 3) (pe_lst pa_nil) (nomark _)) (pss_one (ps_ret (pe_tup (pa_cons (pe_ifExp (pt_cmpR op_eq (pe_ix ix_tup (pv 1) pe_int (fun _ _ => rfl)) pe_str (nomark _)) pe_str pe_str) (pa_cons (pe_lst pa_nil) (pa_cons (pe_ix ix_tup (pv 1) pe_int (fun _ _ => rfl)) pa_nil)))))) pss_nil)
    (Evl.pss_cut (ps_set (i := 4) scNr.nd rfl (Or.inl rfl) (pe_call GC hr1 rfl mC FC.kp bC .nil pass0 (pa_cons (pv 0) (pa_cons (pe_callB call_len_seq (by rfl) T.len PySem.boot_len (pa_cons (pv 3) pa_nil)) pa_nil))))
    (Evl.pss_cut (ps_if (pt_cmpR op_eq (pv 2) pe_int (nomark _)) (pss_one (ps_ret (pe_tup (pa_cons (pe_ix ix_tup (pv 1) pe_int (fun _ _ => rfl)) (pa_cons (pe_op op_cat (pe_slice sl_list (pv 3) po_none (po_some (pv 4))) (pe_slice sl_list (pv 3) (po_some (pe_op op_add (pv 4) pe_int)) po_none)) (pa_cons (pe_ix ix_tup (pv 1) pe_int (fun _ _ => rfl)) pa_nil)))))) pss_nil)
    (Evl.pss_cut (ps_if (pt_cmpR op_eq (pv 2) pe_int (nomark _)) (Evl.pss_cut (ps_set (i := 5) scNr.nd rfl (Or.inl rfl) (pe_call GC hr1 rfl mC FC.kp bC .nil pass0 (pa_cons (pv 0) (pa_cons (pe_callB call_len_seq (by rfl) T.len PySem.boot_len (pa_cons (pv 3) pa_nil)) pa_nil))))
    (Evl.pss_cut (ps_par (i := 6) (j := 7) rfl scNr.nd rfl rfl (by decide) rfl rfl (pa_cons (pe_ix ix_list (pv 3) (pv 4) (fun _ _ => rfl)) (pa_cons (pe_ix ix_list (pv 3) (pv 5) (fun _ _ => rfl)) pa_nil)) (by rfl))
    (Evl.pss_cut (ps_asg (pv 7) (pg_sub (pv 3) (pv 4) set_list))
    (Evl.pss_cut (ps_asg (pv 6) (pg_sub (pv 3) (pv 5) set_list))
    (pss_one (ps_ret (pe_tup (pa_cons (pe_ix ix_tup (pv 1) pe_int (fun _ _ => rfl)) (pa_cons (pv 3) (pa_cons (pe_ix ix_tup (pv 1) pe_int (fun _ _ => rfl)) pa_nil)))))))))) pss_nil)
    (Evl.pss_cut (ps_set (i := 8) scNr.nd rfl (Or.inl rfl) (pe_ifExp (pt_cmpR op_eq (pe_ix ix_tup (pv 1) pe_int (fun _ _ => rfl)) pe_str (nomark _)) (pe_lc (own := [("one", 9)]) (g := gName 9) (tt := tYes) rfl scNr.nd (pi_list (pv 3)) (blkOk_by (N := ["purse", "piece", "way", "lot", "at", "last", "first", "second", "known", "one"]) (sc := defScope sNear) (by decide +kernel)) (fun _ _ _ _ _ => pg_name (i := 9) scNr.nd rfl (Or.inl rfl)) (fun _ _ _ _ _ => pts_nil)
        (fun _ _ _ _ _ => (pe_ix (show IxR _ (rIxT K) from ix_tup) (pv 9) pe_int (fun _ _ => rfl)))) (pe_lst pa_nil)))
    (Evl.pss_cut (ps_asg (pe_call GK hr rfl mK FK.kp bK .nil pass0 (pa_cons (pv 0) (pa_cons (pe_ix ix_list (pv 3) (pv 4) (fun _ _ => rfl)) (pa_cons (pv 8) pa_nil)))) (pg_sub (pv 3) (pv 4) set_list))
    (pss_one (ps_ret (pe_tup (pa_cons (pe_ix ix_tup (pv 1) pe_int (fun _ _ => rfl)) (pa_cons (pv 3) (pa_cons (pe_ix ix_tup (pv 1) pe_int (fun _ _ => rfl)) pa_nil))))))))))))))))), ?_⟩
  obtain ⟨po, hpo⟩ := hp.some
  have up : ∀ {Hx : Hp}, But p H Hx → Same M Hx := fun b => same_but hM b hMp
  have ne_p : ∀ {b : Addr} {o : HO}, M b = some o → b ≠ p := fun e z => by
    rw [z, hMp] at e
    cases e
  cases m0 with
  | zero => exact hT.elim
  | succ m =>
  have so : ∀ {s t : String}, ¬ Str.ofString s = Str.ofString t → decide (V.str (Str.ofString s) = V.str (Str.ofString t)) = false := fun h => decide_eq_false fun e => h (V.str.inj e)
  rcases hT with rfl | ⟨z, hz, rfl⟩ | ⟨row, qs, r, rfl, hr0, hl, hq, hnm⟩
  · -- whatever
    obtain ⟨a, xs, rfl, ha', x0, _, rfl, h0, h1⟩ := hR
    obtain rfl : _ = [] := h1
    obtain ⟨rfl, _⟩ := h0
    refine ⟨_, rfl, a, _, 0, _, rfl, rfl, SqT.of (hM _ _ ha'), atI_nat (j := 0) rfl, rfl, _, rfl, ifT (decide_eq_true rfl) ⟨by show 2 ≤ sizeLine; decide, fun q hq => ?_⟩⟩
    have sq := same_new hq (.tup [V.str (Str.ofString "name"), V.str (Str.ofString "a")])
    exact kk _ _ _ (.of sq) ((hp.same sq).mono (by omega)) (rw_tupG hp (.refl _ _) hp hq (rws_cons rw_str (rws_cons rw_str rws_nil))) (.inr (.inl ⟨_, menu_name (by decide +kernel), rfl⟩))
  · -- a name
    obtain ⟨a, xs, rfl, ha', x0, _, rfl, h0, x1, _, rfl, h1, h2⟩ := hR
    obtain rfl : _ = [] := h2
    obtain ⟨rfl, _⟩ := h0
    obtain ⟨rfl, _⟩ := h1
    have ha := SqT.of (K := K) (hM _ _ ha')
    refine ⟨_, rfl, a, _, 0, _, rfl, rfl, ha, atI_nat (j := 0) rfl, rfl, _, rfl, ifF (so (by decide)) ?_⟩
    refine ⟨_, rfl, a, _, 0, _, rfl, rfl, ha, atI_nat (j := 0) rfl, rfl, _, rfl, ifT (decide_eq_true rfl) ?_⟩
    refine ⟨_, rfl, p, 4, n, rfl, hp, by omega, by decide, by decide, fun d1 H1 d10 d11 hb1 hp1 => ⟨rfl, _, rfl, ite2 (fun _ => ⟨by show 1 ≤ sizeLine; decide, fun q hq => ?_⟩) (fun _ => ?_)⟩⟩
    · have sq := same_new hq (.tup [V.str (Str.ofString "any")])
      exact kk _ _ _ (hb1.trans (.of sq)) ((hp1.same sq).mono (by omega)) (rw_tupG hp hb1 hp1 hq (rws_cons rw_str rws_nil)) (.inl rfl)
    · refine ⟨_, rfl, _, rfl, a, _, 1, _, rfl, rfl, SqT.of (hb1 _ _ (ne_p ha') (hM _ _ ha')), atI_nat (j := 1) rfl, p, z, n + 1, rfl, hp1, by omega, hz, fun y H2 hy hb2 hp2 => ⟨by show 2 ≤ sizeLine; decide, fun q hq => ?_⟩⟩
      have sq := same_new hq (.tup [V.str (Str.ofString "name"), V.str y])
      exact kk _ _ _ ((hb1.trans hb2).trans (.of sq)) ((hp2.same sq).mono (by omega)) (rw_tupG hp (hb1.trans hb2) hp2 hq (rws_cons rw_str (rws_cons rw_str rws_nil))) (.inr (.inl ⟨y, hy, rfl⟩))
  -- a row or a record
  have qok : QsOk row m qs := ⟨hl, hq, hnm⟩
  obtain ⟨a, xs, rfl, ha', x0, _, rfl, h0, x1, _, rfl, h1, xr, _, rfl, h2, h3⟩ := hR
  obtain rfl : _ = [] := h3
  obtain ⟨rfl, _⟩ := h0
  obtain ⟨l, zs, rfl, hl', hzs⟩ := id h1
  have nap := ne_p ha'
  have hlen : zs.length = qs.length := by rw [hzs.len, List.length_map]
  have rv : (xr = .non ∧ r = .leaf .non) ∨ ∃ z, okName z ∧ xr = .str z ∧ r = .leaf (.str z) := by
    rcases hr0 with rfl | ⟨z, hz, rfl⟩
    · exact .inl ⟨h2.1, rfl⟩
    · exact .inr ⟨z, hz, h2.1, rfl⟩
  have flat : ∀ {Hx : Hp}, RW Hx r xr := fun {Hx} => by
    rcases rv with ⟨rfl, rfl⟩ | ⟨z, _, rfl, rfl⟩
    · exact rw_non
    · exact rw_str
  have ha0 := hM _ _ ha'
  generalize hw0 : (if row = true then "row" else "record" : String) = nm at ha' ha0 kk ⊢
  have nmc : (nm = "row" ∧ row = true) ∨ (nm = "record" ∧ row = false) := by
    cases row
    · exact .inr ⟨hw0.symm, rfl⟩
    · exact .inl ⟨hw0.symm, rfl⟩
  have ok3 : ∀ {qs' : List (Str × D × D)} {r' : D}, QsOk row m qs' → Opt r' → PtOk (m + 1) (.tup [S nm, .lst (qs'.map (ent row)), r']) := fun h1 h2 => by
    have := h1.pt h2
    rw [hw0] at this
    exact this
  -- a new tuple behind
  have out : ∀ {Hx : Hp} {c : Nat} {L : Addr} {ys : List V} {qs' : List (Str × D × D)} {y : V} {r' : D}, But p H Hx → Purse Hx p c → c ≤ n + 60 * (k + 1) → H L = none → L ≠ p → Hx L = some (.lst ys) → RWs (gm p H M Hx) (qs'.map (ent row)) ys → RW (gm p H M Hx) r' y → QsOk row m qs' → Opt r' →
      ∀ q, Hx q = none → Q (.ref q) (upd Hx q (.tup [V.str (Str.ofString nm), .ref L, y])) := fun {Hx c L ys qs' y r'} hb hpx hc hL hLp hLx hys hy hqs hr' q hq => by
    have sq := same_new hq (.tup [V.str (Str.ofString nm), .ref L, y])
    have g := gm_same (p := p) (H := H) (M := M) sq
    exact kk _ _ _ (hb.trans (.of sq)) ((hpx.same sq).mono hc) (rw_tupG hp hb hpx hq (rws_cons rw_str (rws_cons (show RW _ (.lst _) (.ref L) from ⟨L, ys, rfl, gm_new hLp hL (sq _ _ hLx), hys.same g⟩) (rws_cons (hy.same g) rws_nil)))) (ok3 hqs hr')
  have any0 : decide (V.str (Str.ofString nm) = V.str (Str.ofString "any")) = false := by
    rcases nmc with ⟨rfl, _⟩ | ⟨rfl, _⟩ <;> exact so (by decide)
  have name0 : decide (V.str (Str.ofString nm) = V.str (Str.ofString "name")) = false := by
    rcases nmc with ⟨rfl, _⟩ | ⟨rfl, _⟩ <;> exact so (by decide)
  have hst := SqT.of (K := K) ha0
  refine ⟨_, rfl, a, _, 0, _, rfl, rfl, hst, atI_nat (j := 0) rfl, rfl, _, rfl, ifF any0 ?_⟩
  refine ⟨_, rfl, a, _, 0, _, rfl, rfl, hst, atI_nat (j := 0) rfl, rfl, _, rfl, ifF name0 ?_⟩
  -- way and lot
  refine ⟨fun σ' H' => ∃ (w : Int) (L : Addr), But p H H' ∧ Purse H' p (n + 1) ∧ H L = none ∧ L ≠ p ∧ H' L = some (.lst zs) ∧ σ' = [some (.ref p), some (.ref a), some (.int w), some (.ref L), none, none, none, none, none, none], ?_, ?_⟩
  · refine ⟨_, rfl, p, 6, n, rfl, hp, by omega, by decide, by decide, fun w H1 w0 w1 hb1 hp1 => ?_⟩
    refine ⟨_, rfl, a, _, 1, _, rfl, rfl, SqT.of (hb1 _ _ nap ha0), atI_nat (j := 1) rfl, l, zs, rfl, .inl (SqL.of (up hb1 _ _ hl')), fun L hL => ?_⟩
    have sL := same_new hL (.lst zs)
    exact ⟨_, _, rfl, w, L, hb1.trans (.of sL), hp1.same sL, hb1.free hpo hp1.some hL, hp1.ne hL, upd_same, rfl⟩
  rintro _ H1 ⟨w, L, hb1, hp1, hL0, hLp, hL1, rfl⟩
  have ha1 := hb1 _ _ nap ha0
  have st := SqT.of (K := K) ha1
  have hzs1 := hzs.same (gm_up (H := H) hMp (up hb1))
  have cL : n + 1 ≤ n + 60 * (k + 1) := by omega
  -- another rest
  refine ⟨fun σ' H' => H' = H1 ∧ σ' = [some (.ref p), some (.ref a), some (.int w), some (.ref L), none, none, none, none, none, none], ?_, ?_⟩
  · refine ⟨_, rfl, rfl, _, rfl, ite2 (fun _ => ?_) (fun _ => ⟨rfl, rfl⟩)⟩
    refine ⟨_, rfl, a, _, 0, _, rfl, rfl, st, atI_nat (j := 0) rfl, _, rfl, _, rfl, a, _, 2, _, rfl, rfl, st, atI_nat (j := 2) rfl, rfl, _, rfl, ite2 (fun _ => ?_) (fun _ => ?_)⟩
    · exact ⟨by show 3 ≤ sizeLine; decide, out hb1 hp1 cL hL0 hLp hL1 hzs1 rw_str qok (.inr ⟨_, menu_name (by decide +kernel), rfl⟩)⟩
    · exact ⟨by show 3 ≤ sizeLine; decide, out hb1 hp1 cL hL0 hLp hL1 hzs1 rw_non qok (.inl rfl)⟩
  rintro _ H2 ⟨rfl, rfl⟩
  refine ⟨fun σ' H' => H' = H2 ∧ σ' = [some (.ref p), some (.ref a), some (.int w), some (.ref L), none, none, none, none, none, none], ?_, ?_⟩
  · refine ⟨_, rfl, rfl, _, rfl, ite2 (fun _ => ?_) (fun _ => iteF ⟨rfl, rfl⟩)⟩
    refine ⟨_, rfl, a, _, 2, _, rfl, rfl, st, atI_nat (j := 2) rfl, rfl, _, rfl, ?_⟩
    rcases rv with ⟨rfl, _⟩ | ⟨z, hz, rfl, _⟩
    · exact ifF (by rw [decide_eq_true rfl]; rfl) ⟨rfl, rfl⟩
    refine ifT (by rw [decide_eq_false fun z => nomatch z]; rfl) ?_
    refine ⟨_, rfl, a, _, 0, _, rfl, rfl, st, atI_nat (j := 0) rfl, _, rfl, _, rfl, _, rfl, a, _, 2, _, rfl, rfl, st, atI_nat (j := 2) rfl, p, z, n + 1, rfl, hp1, by omega, hz, fun y H3 hy hb3 hp3 => ⟨by show 3 ≤ sizeLine; decide, ?_⟩⟩
    have hb03 := hb1.trans hb3
    exact out hb03 hp3 (by omega) hL0 hLp (hb3 _ _ hLp hL1) (hzs.same (gm_up hMp (up hb03))) rw_str qok (.inr ⟨y, hy, rfl⟩)
  rintro _ H3 ⟨rfl, rfl⟩
  -- nothing in it
  refine ⟨fun σ' H' => qs ≠ [] ∧ Same H3 H' ∧ σ' = [some (.ref p), some (.ref a), some (.int w), some (.ref L), none, none, none, none, none, none], ?_, ?_⟩
  · refine ⟨_, rfl, by show 0 ≤ sizeLine; decide, fun l0 hl00 => ?_⟩
    have s0 := same_new hl00 (.lst [])
    have e0 : PyData.eqv (toP (.lst (qs.map (ent row)))) (toP (.lst [])) = qs.isEmpty := by
      rw [eqv_deq (m := 1) _ _ qok.pl (pl_lst (n := 0) (ds := []) (by decide) (by simp)), deq]
      cases qs with
      | nil => rw [List.map_nil, deqs]; rfl
      | cons q qs => rw [List.map_cons, deqs]; rfl
    refine ⟨toP (.lst (qs.map (ent row))), toP (.lst []), RW.dp (show RW _ (.lst _) (.ref L) from ⟨L, zs, rfl, s0 _ _ hL1, hzs.same (up (hb1.trans (.of s0)))⟩), RW.dp (show RW _ (.lst []) (.ref l0) from ⟨l0, [], rfl, upd_same, rfl⟩), shaped_of qok.pl (by omega), shaped_of (n := 1) (pl_lst (n := 0) (ds := []) (by decide) (by simp)) (by decide), _, rfl, ?_⟩
    rw [e0]
    cases qs with
    | cons q qs => exact iteF ⟨(fun h => nomatch h), s0, rfl⟩
    | nil =>
      refine iteT ?_
      have hb0 := hb1.trans (.of s0)
      have hp0 := hp1.same s0
      have ha2 := s0 _ _ ha1
      have st2 := SqT.of (K := K) ha2
      rcases nmc with ⟨rfl, rfl⟩ | ⟨rfl, rfl⟩
      · refine ⟨_, rfl, a, _, 0, _, rfl, rfl, st2, atI_nat (j := 0) rfl, rfl, _, rfl, ifF (so (by decide)) ⟨by show 0 ≤ sizeLine; decide, fun l1 hl1 => ?_⟩⟩
        have s1 := same_new hl1 (.lst [])
        refine ⟨_, rfl, a, _, 2, _, rfl, rfl, SqT.of (s1 _ _ ha2), atI_nat (j := 2) rfl, by show 3 ≤ sizeLine; decide, fun q hq => ?_⟩
        have sq := same_new hq (.tup [V.str (Str.ofString "record"), .ref l1, xr])
        exact kk _ _ _ ((hb0.trans (.of s1)).trans (.of sq)) (((hp0.same s1).same sq).mono (by omega)) (rw_tupG hp (hb0.trans (.of s1)) (hp0.same s1) hq (rws_cons rw_str (rws_cons (show RW _ (.lst []) (.ref l1) from ⟨l1, [], rfl, gm_new (hp0.ne hl1) (hb0.free hpo hp0.some hl1) (sq _ _ upd_same), rfl⟩) (rws_cons flat rws_nil)))) ((QsOk.nil (row := false)).pt hr0)
      · refine ⟨_, rfl, a, _, 0, _, rfl, rfl, st2, atI_nat (j := 0) rfl, rfl, _, rfl, ifT (decide_eq_true rfl) ⟨by show 0 ≤ sizeLine; decide, fun l1 hl1 => ?_⟩⟩
        have s1 := same_new hl1 (.lst [])
        refine ⟨_, rfl, a, _, 2, _, rfl, rfl, SqT.of (s1 _ _ ha2), atI_nat (j := 2) rfl, by show 3 ≤ sizeLine; decide, fun q hq => ?_⟩
        have sq := same_new hq (.tup [V.str (Str.ofString "row"), .ref l1, xr])
        exact kk _ _ _ ((hb0.trans (.of s1)).trans (.of sq)) (((hp0.same s1).same sq).mono (by omega)) (rw_tupG hp (hb0.trans (.of s1)) (hp0.same s1) hq (rws_cons rw_str (rws_cons (show RW _ (.lst []) (.ref l1) from ⟨l1, [], rfl, gm_new (hp0.ne hl1) (hb0.free hpo hp0.some hl1) (sq _ _ upd_same), rfl⟩) (rws_cons flat rws_nil)))) ((QsOk.nil (row := true)).pt hr0)
  rintro _ H4 ⟨hne, hs4, rfl⟩
  have ql : 0 < qs.length := by
    cases qs with
    | nil => exact absurd rfl hne
    | cons q qs => exact Nat.succ_pos _
  have hb4 := hb1.trans (.of hs4)
  have hp4 := hp1.same hs4
  have ha4 := hs4 _ _ ha1
  have hL4 := hs4 _ _ hL1
  clear hs4 ha1 hL1 hzs1 st hb1 hp1 hst
  -- a place
  refine ⟨fun σ' H' => ∃ j : Nat, j < qs.length ∧ But p H H' ∧ Purse H' p (n + 2) ∧ H' L = some (.lst zs) ∧ H' a = some (.tup [V.str (Str.ofString nm), V.ref l, xr]) ∧ σ' = [some (.ref p), some (.ref a), some (.int w), some (.ref L), some (.int (j : Int)), none, none, none, none, none], ?_, ?_⟩
  · refine ⟨_, rfl, _, rfl, L, zs, rfl, .inl (SqL.of hL4), p, _, n + 1, rfl, hp4, by omega, by omega, by omega, fun d H5 d0 d1 hb5 hp5 => ?_⟩
    obtain ⟨j, rfl⟩ := Int.eq_ofNat_of_zero_le d0
    exact ⟨j, by omega, hb4.trans hb5, hp5, hb5 _ _ hLp hL4, hb5 _ _ nap ha4, rfl⟩
  rintro _ H5 ⟨j, hj, hb5, hp5, hL5, ha5, rfl⟩
  clear hb4 hp4 ha4 hL4
  have st := SqT.of (K := K) ha5
  have ei : ((j : Int) + 1) = ((j + 1 : Nat) : Int) := by omega
  have hx := List.getElem?_eq_getElem (show j < zs.length by omega)
  generalize zs[j]'(by omega) = x at hx
  obtain ⟨dx, hdx, rx⟩ := hzs.item hx
  rw [List.getElem?_map] at hdx
  obtain ⟨q, hqj, rfl⟩ : ∃ q, qs[j]? = some q ∧ ent row q = dx := by
    cases e : qs[j]? with
    | none =>
      rw [e] at hdx
      cases hdx
    | some q =>
      rw [e] at hdx
      exact ⟨q, rfl, Option.some.inj hdx⟩
  -- one left out
  refine ⟨fun σ' H' => H' = H5 ∧ σ' = [some (.ref p), some (.ref a), some (.int w), some (.ref L), some (.int (j : Int)), none, none, none, none, none], ?_, ?_⟩
  · refine ⟨_, rfl, rfl, _, rfl, ite2 (fun _ => ?_) (fun _ => ⟨rfl, rfl⟩)⟩
    refine ⟨_, rfl, a, _, 0, _, rfl, rfl, st, atI_nat (j := 0) rfl, _, rfl, _, rfl, _, rfl, L, zs, rfl, SqL.of hL5, fun p1 hp1 => ?_⟩
    rw [cutV_pre]
    have s1 := same_new hp1 (.lst (zs.take j))
    refine ⟨_, rfl, _, rfl, _, _, rfl, rfl, _, rfl, L, zs, rfl, SqL.of (s1 _ _ hL5), fun p2 hp2 => ?_⟩
    rw [ei, cutV_post]
    have s2 := same_new hp2 (.lst (zs.drop (j + 1)))
    have sz : (zs.take j).length + (zs.drop (j + 1)).length ≤ 1000 := by
      rw [List.length_take, List.length_drop]
      omega
    refine ⟨p1, p2, _, _, rfl, rfl, s2 _ _ upd_same, upd_same, Nat.le_trans sz (by decide), fun p4 hp4 => ?_⟩
    have s4 := same_new hp4 (.lst (zs.take j ++ zs.drop (j + 1)))
    have s14 := (s1.trans s2).trans s4
    have hb14 := hb5.trans (.of s14)
    refine ⟨_, rfl, a, _, 2, _, rfl, rfl, SqT.of (s14 _ _ ha5), atI_nat (j := 2) rfl, by show 3 ≤ sizeLine; decide, ?_⟩
    refine out (qs' := qs.take j ++ qs.drop (j + 1)) hb14 (hp5.same s14) (by omega) (hb5.free hpo hp5.some ((s1.trans s2).free hp4)) ((hp5.same (s1.trans s2)).ne hp4) upd_same ?_ flat (qok.out j) hr0
    rw [List.map_append, List.map_take, List.map_drop]
    exact ((hzs.take j).app (hzs.drop (j + 1))).same (gm_up hMp (up hb14))
  rintro _ H6 ⟨rfl, rfl⟩
  have butL : ∀ {Hx : Hp} {o : HO}, But p H Hx → But p H (upd Hx L o) := fun b c o nc e => by
    rw [upd_ne (ne_of_none e hL0)]
    exact b c o nc e
  have puL : ∀ {Hx : Hp} {c : Nat} {o : HO}, Purse Hx p c → Purse (upd Hx L o) p c := fun h => by
    obtain ⟨x1, x2, x3, e, r⟩ := h
    exact ⟨x1, x2, x3, by rw [upd_ne hLp.symm]; exact e, r⟩
  have naL : a ≠ L := ne_of_none (hM _ _ ha') hL0
  -- two exchanged
  refine ⟨fun σ' H' => H' = H6 ∧ σ' = [some (.ref p), some (.ref a), some (.int w), some (.ref L), some (.int (j : Int)), none, none, none, none, none], ?_, ?_⟩
  · refine ⟨_, rfl, rfl, _, rfl, ite2 (fun _ => ?_) (fun _ => ⟨rfl, rfl⟩)⟩
    refine ⟨fun σ' H' => ∃ i : Nat, i < qs.length ∧ But p H H' ∧ Purse H' p (n + 3) ∧ H' L = some (.lst zs) ∧ H' a = some (.tup [V.str (Str.ofString nm), V.ref l, xr]) ∧ σ' = [some (.ref p), some (.ref a), some (.int w), some (.ref L), some (.int (j : Int)), some (.int (i : Int)), none, none, none, none], ?_, ?_⟩
    · refine ⟨_, rfl, _, rfl, L, zs, rfl, .inl (SqL.of hL5), p, _, n + 2, rfl, hp5, by omega, by omega, by omega, fun d H7 d0 d1 hb7 hp7 => ?_⟩
      obtain ⟨i, rfl⟩ := Int.eq_ofNat_of_zero_le d0
      exact ⟨i, by omega, hb5.trans hb7, hp7, hb7 _ _ hLp hL5, hb7 _ _ nap ha5, rfl⟩
    rintro _ H7 ⟨i, hi, hb7, hp7, hL7, ha7, rfl⟩
    have hy := List.getElem?_eq_getElem (show i < zs.length by omega)
    generalize zs[i]'(by omega) = x2 at hy
    obtain ⟨dy, hdy, ry⟩ := hzs.item hy
    rw [List.getElem?_map] at hdy
    obtain ⟨q2, hqi, rfl⟩ : ∃ q2, qs[i]? = some q2 ∧ ent row q2 = dy := by
      cases e : qs[i]? with
      | none =>
        rw [e] at hdy
        cases hdy
      | some q2 =>
        rw [e] at hdy
        exact ⟨q2, rfl, Option.some.inj hdy⟩
    refine ⟨fun σ' H' => H' = H7 ∧ σ' = [some (.ref p), some (.ref a), some (.int w), some (.ref L), some (.int (j : Int)), some (.int (i : Int)), some x, some x2, none, none], ?_, ?_⟩
    · exact ⟨_, rfl, _, rfl, L, zs, _, x, rfl, rfl, SqL.of hL7, atI_nat hx, _, rfl, _, rfl, L, zs, _, x2, rfl, rfl, SqL.of hL7, atI_nat hy, _, _, rfl, rfl, rfl⟩
    rintro _ H8 ⟨rfl, rfl⟩
    refine ⟨fun σ' H' => H' = upd H8 L (.lst (zs.set j x2)) ∧ σ' = [some (.ref p), some (.ref a), some (.int w), some (.ref L), some (.int (j : Int)), some (.int (i : Int)), some x, some x2, none, none], ?_, ?_⟩
    · exact ⟨_, rfl, _, rfl, _, rfl, L, zs, _, j, rfl, rfl, hL7, Evl.ixN_nat (by omega), rfl, rfl⟩
    rintro _ H9 ⟨rfl, rfl⟩
    refine ⟨fun σ' H' => H' = upd (upd H8 L (.lst (zs.set j x2))) L (.lst ((zs.set j x2).set i x)) ∧ σ' = [some (.ref p), some (.ref a), some (.int w), some (.ref L), some (.int (j : Int)), some (.int (i : Int)), some x, some x2, none, none], ?_, ?_⟩
    · exact ⟨_, rfl, _, rfl, _, rfl, L, zs.set j x2, _, i, rfl, rfl, upd_same, Evl.ixN_nat (by rw [List.length_set]; omega), rfl, rfl⟩
    rintro _ H10 ⟨rfl, rfl⟩
    have ha10 : (upd (upd H8 L (.lst (zs.set j x2))) L (.lst ((zs.set j x2).set i x))) a = some (.tup [V.str (Str.ofString nm), V.ref l, xr]) := by
      rw [upd_ne naL, upd_ne naL]
      exact ha7
    have hb10 := butL (o := .lst ((zs.set j x2).set i x)) (butL (o := .lst (zs.set j x2)) hb7)
    refine ⟨_, rfl, a, _, 0, _, rfl, rfl, SqT.of ha10, atI_nat (j := 0) rfl, _, rfl, _, rfl, a, _, 2, _, rfl, rfl, SqT.of ha10, atI_nat (j := 2) rfl, by show 3 ≤ sizeLine; decide, ?_⟩
    refine out (qs' := (qs.set j q2).set i q) hb10 (puL (puL hp7)) (by omega) hL0 hLp upd_same ?_ flat (qok.swap hqj hqi) hr0
    have g := gm_up (H := H) hMp (up hb10)
    rw [List.map_set, List.map_set]
    exact RWs.put (rx.same g) i (RWs.put (ry.same g) j (hzs.same g))
  rintro _ H7 ⟨rfl, rfl⟩
  -- the names ahead
  refine ⟨fun σ' H' => ∃ (kn : Addr) (ns : List Str) (v9 : Option V), Same H7 H' ∧ H' kn = some (.lst (ns.map V.str)) ∧ kn ≠ p ∧ (row = false → ns = qs.map (·.1)) ∧ σ' = [some (.ref p), some (.ref a), some (.int w), some (.ref L), some (.int (j : Int)), none, none, none, some (.ref kn), v9], ?_, ?_⟩
  · refine ⟨_, rfl, a, _, 0, _, rfl, rfl, st, atI_nat (j := 0) rfl, rfl, _, rfl, ?_⟩
    rcases nmc with ⟨rfl, rfl⟩ | ⟨rfl, rfl⟩
    · refine ifF (so (by decide)) ⟨by show 0 ≤ sizeLine; decide, fun kn hkn => ?_⟩
      exact ⟨kn, [], _, same_new hkn _, upd_same, hp5.ne hkn, (fun h => nomatch h), rfl⟩
    · refine ifT (decide_eq_true rfl) ⟨_, rfl, L, rfl, ⟨_, SqL.of hL5⟩, fun D0 hD => ?_⟩
      have sD := same_new hD (.lst [])
      refine lc_list (K := K) (a := L) (xs := zs) (fun i H' => Same H7 H' ∧ H' D0 = some (.lst (((qs.take i).map (·.1)).map V.str))) ⟨sD, upd_same⟩ (fun i H' _ ⟨h, _⟩ => SqL.of (h _ _ hL5)) ?_ ?_
      · rintro i y H8 hi ⟨hs8, hD8⟩
        obtain ⟨dy, hdy, ry⟩ := hzs.item hi
        rw [List.getElem?_map] at hdy
        obtain ⟨q2, hqi, rfl⟩ : ∃ q2, qs[i]? = some q2 ∧ ent false q2 = dy := by
          cases e : qs[i]? with
          | none =>
            rw [e] at hdy
            cases hdy
          | some q2 =>
            rw [e] at hdy
            exact ⟨q2, rfl, Option.some.inj hdy⟩
        obtain ⟨b, y1, yd, rfl, hb0, _, _⟩ := rw_ent_of ry
        have hb8 : H8 b = some (.tup (preV false q2.1 ++ [y1, yd])) := hs8 _ _ (up hb5 _ _ hb0)
        refine ⟨rfl, ?_⟩
        unfold tYes
        refine iteT ⟨_, rfl, b, _, 0, _, rfl, rfl, SqT.of hb8, atI_nat (j := 0) rfl, ?_⟩
        refine ⟨_, hD8, ?_, same_put hs8 hD, ?_⟩
        · rw [List.length_map, List.length_map, List.length_take]
          exact Nat.lt_of_lt_of_le (show min i qs.length < 1000 by omega) (by decide)
        · rw [upd_same, List.take_add_one, hqi, List.map_append, List.map_append]
          rfl
      · rintro H8 ⟨hs8, hD8⟩
        rw [hlen, List.take_length] at hD8
        exact ⟨D0, _, _, hs8, hD8, hp5.ne hD, fun _ => rfl, rfl⟩
  rintro _ H8 ⟨kn, ns, v9, hs8, hkn8, nkp, hns, rfl⟩
  have hb8 := hb5.trans (.of hs8)
  have hp8 := hp5.same hs8
  have hL8 := hs8 _ _ hL5
  have ha8 := hs8 _ _ ha5
  -- one changed
  refine ⟨fun σ' H' => ∃ (u : V) (q' : Str × D × D), But p H H' ∧ Purse H' p (n + 2 + (60 * k + 30)) ∧ H' L = some (.lst (zs.set j u)) ∧ H' a = some (.tup [V.str (Str.ofString nm), V.ref l, xr]) ∧ RWs (gm p H M H') ((qs.set j q').map (ent row)) (zs.set j u) ∧ QsOk row m (qs.set j q') ∧ σ' = [some (.ref p), some (.ref a), some (.int w), some (.ref L), some (.int (j : Int)), none, none, none, some (.ref kn), v9], ?_, ?_⟩
  · have hit := qok.it q (List.mem_of_getElem? hqj)
    refine ⟨_, rfl, _, rfl, _, rfl, L, zs, _, x, rfl, rfl, SqL.of hL8, atI_nat hx, _, rfl, p, kn, M, x, row, q, ns, n + 2, m, rfl, hp8, by omega, up hb8, hMp, rx, hkn8, nkp, hit.1, hit.2, (fun e => (qok.nm e).2 q (List.mem_of_getElem? hqj)), by omega, by omega, fun u H9 q' hb9 hp9 ru ht' hd' hf' => ?_⟩
    have hL9 := hb9 _ _ hLp hL8
    have hb09 := hb8.trans hb9
    refine ⟨_, rfl, _, rfl, L, zs, _, j, rfl, rfl, hL9, Evl.ixN_nat (by omega), u, q', butL hb09, puL hp9, upd_same, (by rw [upd_ne naL]; exact hb9 _ _ nap ha8), ?_, qok.put hqj ht' hd' fun e => ?_, rfl⟩
    · rw [List.map_set]
      refine RWs.put (ru.same (gm_call (fun c e => hb8.free hpo hp8.some e) fun c o nc e => ?_)) j (hzs.same (gm_up hMp (up (butL hb09))))
      obtain ⟨_, c2, e2⟩ := gm_is e
      rw [upd_ne fun y => ?_]
      · exact e2
      · rw [y] at c2
        rcases c2 with c2 | ⟨o', c2⟩
        · rw [hL8] at c2
          cases c2
        · have := hM _ _ c2
          rw [hL0] at this
          cases this
    · have := hf' e
      rw [hns e] at this
      exact this
  rintro _ H9 ⟨u, q', hb9, hp9, hL9, ha9, hz9, hq9, rfl⟩
  refine ⟨_, rfl, a, _, 0, _, rfl, rfl, SqT.of ha9, atI_nat (j := 0) rfl, _, rfl, _, rfl, a, _, 2, _, rfl, rfl, SqT.of ha9, atI_nat (j := 2) rfl, by show 3 ≤ sizeLine; decide, ?_⟩
  exact out (qs' := qs.set j q') hb9 hp9 (by omega) hL0 hLp hL9 hz9 flat hq9 hr0
end
end K02
set_option Elab.async false
set_option linter.all false
set_option maxRecDepth 100000
set_option maxHeartbeats 4000000
namespace K02
open PySem L2 PyProof.Rows
/-! ### a step, whatever it is -/
def StX (nm : String) (x : D) : Prop := (nm = "set" ∧ TmOk 5 x) ∨ (nm = "take" ∧ PtOk 7 x) ∨ (nm = "cases" ∧ ∃ qs, qs.length ≤ 20 ∧ (∀ q ∈ qs, PtOk 7 q) ∧ x = .lst qs)
theorem StOk.x {d : D} (h : StOk d) : ∃ nm r x, d = .tup [S nm, r, x] ∧ Opt r ∧ (nm = "set" → r ≠ .leaf .non) ∧ StX nm x := by
  rcases h with ⟨z, t, hz, ht, rfl⟩ | ⟨r, q, hr, hq, rfl⟩ | ⟨r, qs, hr, hl, hq, rfl⟩
  · exact ⟨"set", _, t, rfl, .inr ⟨z, hz, rfl⟩, (fun _ e => nomatch e), .inl ⟨rfl, ht⟩⟩
  · exact ⟨"take", r, q, rfl, hr, (fun e => absurd e (by decide)), .inr (.inl ⟨rfl, hq⟩)⟩
  · exact ⟨"cases", r, _, rfl, hr, (fun e => absurd e (by decide)), .inr (.inr ⟨rfl, qs, hl, hq, rfl⟩)⟩
theorem st_of {nm : String} {r x : D} (hr : Opt r) (hs : nm = "set" → r ≠ .leaf .non) (hx : StX nm x) : StOk (.tup [S nm, r, x]) := by
  rcases hx with ⟨rfl, ht⟩ | ⟨rfl, hq⟩ | ⟨rfl, qs, hl, hq, rfl⟩
  · rcases hr with rfl | ⟨z, hz, rfl⟩
    · exact absurd rfl (hs rfl)
    · exact .inl ⟨z, x, hz, ht, rfl⟩
  · exact .inr (.inl ⟨r, x, hr, hq, rfl⟩)
  · exact .inr (.inr ⟨r, qs, hr, hl, hq, rfl⟩)
def spNrStep : Sp := fun vs H Q _ => ∃ (p : Addr) (M : Hp) (v : V) (d : D) (n : Nat), vs = [.ref p, v] ∧ Purse H p n ∧ n + 600 < 10 ^ 60 ∧ Same M H ∧ M p = none ∧ RW M d v ∧ StOk d ∧
  ∀ u H' d', But p H H' → Purse H' p (n + 600) → RW (gm p H M H') d' u → StOk d' → Q u H'
section
variable {P : Program} {w : World} {K : PySem.W.Frag} {mg : Str → Option Value} {base : Heap}
abbrev nNs : List Str := ["purse", "step", "way", "name", "lot", "at", "last", "first", "second"]
theorem scNs2 : FnScope nNs ["purse", "step"] (defScope sNrStep) := ⟨rfl, rfl, rfl, by decide +kernel, rfl, by decide +kernel, by decide +kernel⟩
theorem ok_nrstep {f fC fN fT fP : Addr} {fd fdC fdN fdT fdP : FuncData} (F : Fun K "_law_ta_near_step" "_law_ta_near_step" sNrStep f fd) (T : Txt K mg)
    (FC : Fun K "_law_coin" "_law_coin" sCoin fC fdC) (GC : FnOk P w K mg base CX0 1 fC fdC ["purse", "many"] spCoin) (bC : Binds K fdC ["purse", "many"] []) (mC : mg "_law_coin" = some (.ref fC))
    (FN : Fun K "_law_ta_near_name" "_law_ta_near_name" sNrName fN fdN) (GN : FnOk P w K mg base CX0 2 fN fdN ["purse", "name"] spNrName) (bN : Binds K fdN ["purse", "name"] []) (mN : mg "_law_ta_near_name" = some (.ref fN))
    (FT : Fun K "_law_ta_near_term" "_law_ta_near_term" sNrTerm fT fdT) (GT : FnOk P w K mg base CX0 7 fT fdT ["purse", "term"] (spNrTerm 5)) (bT : Binds K fdT ["purse", "term"] []) (mT : mg "_law_ta_near_term" = some (.ref fT))
    (FP : Fun K "_law_ta_near" "_law_ta_near" sNear fP fdP) (GP : FnOk P w K mg base CX0 22 fP fdP ["purse", "piece"] (spNear 7)) (bP : Binds K fdP ["purse", "piece"] []) (mP : mg "_law_ta_near" = some (.ref fP)) :
    FnOk P w K mg base CX0 23 f fd ["purse", "step"] spNrStep := by
  refine F.ok scNs2 (fun vs H Q E h => ?_) (fun cdv A outer s H vs Q E hr h => ?_)
  · obtain ⟨p, M, v, d, n, rfl, _⟩ := h
    rfl
  obtain ⟨p, M, v, d, n, rfl, hp, hn, hM, hMp, hR, hT, kk⟩ := h
  have hr1 := hr.mono (show 1 ≤ 22 by omega)
  have hr2 := hr.mono (show 2 ≤ 22 by omega)
  have hr7 := hr.mono (show 7 ≤ 22 by omega)
  refine ⟨_, Evl.pss_cut (ps_set (i := 2) scNs2.nd rfl (Or.inl rfl) (pe_call GC hr1 rfl mC FC.kp bC .nil pass0 (pa_cons (pv 0) (pa_cons pe_int pa_nil))))
    (Evl.pss_cut (ps_if (pt_cut (pw_or (pt_cmpR op_eq (pv 2) pe_int (nomark _)) (pw_or1 (PW.pt (pw_and (pt_cmpR op_eq (pe_ix ix_tup (pv 1) pe_int (fun _ _ => rfl)) pe_str (nomark _)) (pw_and1 (pt_cmpR op_lt (pv 2) pe_int (nomark _))))))).pt)
        (Evl.pss_cut (ps_set (i := 3) scNs2.nd rfl (Or.inl rfl) (pe_ifExp (pt_cmpR op_isN (pe_ix ix_tup (pv 1) pe_int (fun _ _ => rfl)) pe_non (nomark _)) pe_str (pe_call GN hr2 rfl mN FN.kp bN .nil pass0 (pa_cons (pv 0) (pa_cons (pe_ix ix_tup (pv 1) pe_int (fun _ _ => rfl)) pa_nil)))))
          (pss_one (ps_ret (pe_tup (pa_cons (pe_ix ix_tup (pv 1) pe_int (fun _ _ => rfl)) (pa_cons (pe_ifExp (PW.pt (pw_and (pt_cmpR op_ne (pe_ix ix_tup (pv 1) pe_int (fun _ _ => rfl)) pe_str (nomark _)) (pw_and1 (pt_cmpR op_eq (pe_call GC hr1 rfl mC FC.kp bC .nil pass0 (pa_cons (pv 0) (pa_cons pe_int pa_nil))) pe_int (nomark _))))) pe_non (pv 3))
            (pa_cons (pe_ix ix_tup (pv 1) pe_int (fun _ _ => rfl)) pa_nil))))))) pss_nil)
    (pss_cons (ps_if (pt_cmpR op_eq (pe_ix ix_tup (pv 1) pe_int (fun _ _ => rfl)) pe_str (nomark _)) (pss_one (ps_ret (pe_tup (pa_cons pe_str (pa_cons (pe_ix ix_tup (pv 1) pe_int (fun _ _ => rfl)) (pa_cons (pe_call GT hr7 rfl mT FT.kp bT .nil pass0 (pa_cons (pv 0) (pa_cons (pe_ix ix_tup (pv 1) pe_int (fun _ _ => rfl)) pa_nil))) pa_nil)))))) pss_nil)
    (pss_cons (ps_if (pt_cmpR op_eq (pe_ix ix_tup (pv 1) pe_int (fun _ _ => rfl)) pe_str (nomark _)) (pss_one (ps_ret (pe_ifExp (pt_cmpR op_eq (pv 2) pe_int (nomark _))
        (pe_tup (pa_cons pe_str (pa_cons (pe_ix ix_tup (pv 1) pe_int (fun _ _ => rfl)) (pa_cons (pe_lst (pa_cons (pe_ix ix_tup (pv 1) pe_int (fun _ _ => rfl)) pa_nil)) pa_nil))))
        (pe_tup (pa_cons pe_str (pa_cons (pe_ix ix_tup (pv 1) pe_int (fun _ _ => rfl)) (pa_cons (pe_call GP hr rfl mP FP.kp bP .nil pass0 (pa_cons (pv 0) (pa_cons (pe_ix ix_tup (pv 1) pe_int (fun _ _ => rfl)) pa_nil))) pa_nil))))))) pss_nil)
    (Evl.pss_cut (ps_set (i := 4) scNs2.nd rfl (Or.inl rfl) (pe_callTy call_list_of (by rfl) T.list boot_list (pa_cons (pe_ix ix_tup (pv 1) pe_int (fun _ _ => rfl)) pa_nil)))
    (Evl.pss_cut (ps_if (pt_cmpR (op_eqD hr.units) (pv 4) (pe_lst pa_nil) (nomark _)) (pss_one (ps_ret (pe_tup (pa_cons pe_str (pa_cons (pe_ix ix_tup (pv 1) pe_int (fun _ _ => rfl)) (pa_cons (pe_lst (pa_cons (pe_tup (pa_cons pe_str pa_nil)) pa_nil)) pa_nil)))))) pss_nil)
    (Evl.pss_cut (ps_par (i := 5) (j := 6) rfl scNs2.nd rfl rfl (by decide) rfl rfl (pa_cons (pe_call GC hr1 rfl mC FC.kp bC .nil pass0 (pa_cons (pv 0) (pa_cons (pe_callB call_len_seq (by rfl) T.len PySem.boot_len (pa_cons (pv 4) pa_nil)) pa_nil))) (pa_cons (pe_call GC hr1 rfl mC FC.kp bC .nil pass0 (pa_cons (pv 0) (pa_cons (pe_callB call_len_seq (by rfl) T.len PySem.boot_len (pa_cons (pv 4) pa_nil)) pa_nil))) pa_nil)) (by rfl))
    (Evl.pss_cut (ps_if (pt_cmpR op_eq (pv 2) pe_int (nomark _)) (pss_one (ps_ret (pe_tup (pa_cons pe_str (pa_cons (pe_ix ix_tup (pv 1) pe_int (fun _ _ => rfl)) (pa_cons (pe_op op_cat (pe_slice sl_list (pv 4) po_none (po_some (pv 5))) (pe_slice sl_list (pv 4) (po_some (pe_op op_add (pv 5) pe_int)) po_none)) pa_nil)))))) pss_nil)
    (Evl.pss_cut (ps_if (pt_cmpR op_eq (pv 2) pe_int (nomark _))
        (Evl.pss_cut (ps_par (i := 7) (j := 8) rfl scNs2.nd rfl rfl (by decide) rfl rfl (pa_cons (pe_ix ix_list (pv 4) (pv 5) (fun _ _ => rfl)) (pa_cons (pe_ix ix_list (pv 4) (pv 6) (fun _ _ => rfl)) pa_nil)) (by rfl))
        (Evl.pss_cut (ps_asg (pv 8) (pg_sub (pv 4) (pv 5) set_list)) (pss_one (ps_asg (pv 7) (pg_sub (pv 4) (pv 6) set_list)))))
        (pss_one (ps_if (pt_cut (PW.pt (pw_and (pt_cmpR op_eq (pv 2) pe_int (nomark _)) (pw_and (pt_cmpR op_in_seq (pe_ix ix_tup (pe_ix ix_list (pv 4) (pv 5) (fun _ _ => rfl)) pe_int (fun _ _ => rfl)) (pe_tup (pa_cons pe_str (pa_cons pe_str pa_nil))) (by rfl)) (pw_and1 (pt_cmpR op_lt (pe_callB call_len_seq (by rfl) T.len PySem.boot_len (pa_cons (pv 4) pa_nil)) pe_int (nomark _)))))))
          (pss_one (ps_expr (pe_bm PySem.F.plainAttrs_list PySem.F.slot_list_insert PySem.F.type_list_insert mt_insert (pv 4) (pa_cons (pv 6) (pa_cons (pe_ix ix_list (pv 4) (pv 5) (fun _ _ => rfl)) pa_nil)))))
          (pss_one (ps_asg (pe_call GP hr rfl mP FP.kp bP .nil pass0 (pa_cons (pv 0) (pa_cons (pe_ix ix_list (pv 4) (pv 5) (fun _ _ => rfl)) pa_nil))) (pg_sub (pv 4) (pv 5) set_list))))))
    (pss_one (ps_ret (pe_tup (pa_cons pe_str (pa_cons (pe_ix ix_tup (pv 1) pe_int (fun _ _ => rfl)) (pa_cons (pv 4) pa_nil)))))))))))))), ?_⟩
  obtain ⟨po, hpo⟩ := hp.some
  have up : ∀ {Hx : Hp}, But p H Hx → Same M Hx := fun b => same_but hM b hMp
  have ne_p : ∀ {b : Addr} {o : HO}, M b = some o → b ≠ p := fun e z => by
    rw [z, hMp] at e
    cases e
  have so : ∀ {s t : String}, ¬ Str.ofString s = Str.ofString t → decide (V.str (Str.ofString s) = V.str (Str.ofString t)) = false := fun h => decide_eq_false fun e => h (V.str.inj e)
  obtain ⟨nm, r, x, rfl, hro, hset, hX⟩ := hT.x
  obtain ⟨a, xs, rfl, ha', x0, _, rfl, h0, xr, _, rfl, h1, xx, _, rfl, h2, h3⟩ := hR
  obtain rfl : _ = [] := h3
  obtain ⟨rfl, _⟩ := h0
  have nap := ne_p ha'
  have ha0 := hM _ _ ha'
  have nmc : nm = "set" ∨ nm = "take" ∨ nm = "cases" := hX.imp And.left (Or.imp And.left And.left)
  have rv : (xr = .non ∧ r = .leaf .non) ∨ ∃ z, okName z ∧ xr = .str z ∧ r = .leaf (.str z) := by
    rcases hro with rfl | ⟨z, hz, rfl⟩
    · exact .inl ⟨h1.1, rfl⟩
    · exact .inr ⟨z, hz, h1.1, rfl⟩
  have flat : ∀ {Hx : Hp}, RW Hx r xr := fun {Hx} => by
    rcases rv with ⟨rfl, rfl⟩ | ⟨z, _, rfl, rfl⟩
    · exact rw_non
    · exact rw_str
  -- a new tuple behind
  have out : ∀ {Hx : Hp} {c : Nat} {nm' : String} {r' x' : D} {y z : V}, But p H Hx → Purse Hx p c → c ≤ n + 600 → (∀ {Hy : Hp}, RW Hy r' y) → RW (gm p H M Hx) x' z → Opt r' → (nm' = "set" → r' ≠ .leaf .non) → StX nm' x' →
      ∀ q, Hx q = none → Q (.ref q) (upd Hx q (.tup [V.str (Str.ofString nm'), y, z])) := fun {Hx c nm' r' x' y z} hb hpx hc hy hz hr' hs' hx' q hq => by
    have sq := same_new hq (.tup [V.str (Str.ofString nm'), y, z])
    exact kk _ _ _ (hb.trans (.of sq)) ((hpx.same sq).mono hc) (rw_tupG hp hb hpx hq (rws_cons rw_str (rws_cons hy (rws_cons (hz.same (gm_same sq)) rws_nil)))) (st_of hr' hs' hx')
  have carry : ∀ {Hx : Hp}, But p H Hx → RW (gm p H M Hx) x xx := fun b => h2.same (gm_up hMp (up b))
  -- the way
  refine ⟨fun σ' H' => ∃ w : Int, But p H H' ∧ Purse H' p (n + 1) ∧ σ' = [some (.ref p), some (.ref a), some (.int w), none, none, none, none, none, none], ?_, ?_⟩
  · exact ⟨_, rfl, p, 5, n, rfl, hp, by omega, by decide, by decide, fun w H1 w0 w1 hb1 hp1 => ⟨w, hb1, hp1, rfl⟩⟩
  rintro _ H1 ⟨w, hb1, hp1, rfl⟩
  have ha1 := hb1 _ _ nap ha0
  have st := SqT.of (K := K) ha1
  have at0 : atI [V.str (Str.ofString nm), xr, xx] 0 = some (.str (Str.ofString nm)) := atI_nat (j := 0) rfl
  have at1 : atI [V.str (Str.ofString nm), xr, xx] 1 = some xr := atI_nat (j := 1) rfl
  have at2 : atI [V.str (Str.ofString nm), xr, xx] 2 = some xx := atI_nat (j := 2) rfl
  -- another name
  refine ⟨fun σ' H' => H' = H1 ∧ σ' = [some (.ref p), some (.ref a), some (.int w), none, none, none, none, none, none], ?_, ?_⟩
  · refine ⟨fun _ H' => H1 = H', ?_, ?_⟩
    · refine ⟨_, rfl, rfl, _, rfl, ite2 (fun _ => rfl) (fun _ => ?_)⟩
      exact ⟨_, rfl, a, _, 0, _, rfl, rfl, st, at0, rfl, _, rfl, ite2 (fun _ => ⟨_, rfl, _, _, rfl, rfl, _, rfl, rfl⟩) (fun _ => rfl)⟩
    rintro bb _ rfl
    refine ite2 (fun _ => ?_) (fun _ => ⟨rfl, rfl⟩)
    refine ⟨fun σ' H' => ∃ y : Str, okName y ∧ But p H H' ∧ Purse H' p (n + 4) ∧ σ' = [some (.ref p), some (.ref a), some (.int w), some (.str y), none, none, none, none, none], ?_, ?_⟩
    · refine ⟨_, rfl, a, _, 1, _, rfl, rfl, st, at1, rfl, _, rfl, ?_⟩
      rcases rv with ⟨rfl, _⟩ | ⟨z, hz, rfl, _⟩
      · exact ifT (decide_eq_true rfl) ⟨_, menu_name (by decide +kernel), hb1, hp1.mono (by omega), rfl⟩
      · exact ifF (decide_eq_false fun z => nomatch z) ⟨_, rfl, _, rfl, a, _, 1, _, rfl, rfl, st, at1, p, z, n + 1, rfl, hp1, by omega, hz, fun y H2 hy hb2 hp2 => ⟨y, hy, hb1.trans hb2, hp2, rfl⟩⟩
    rintro _ H2 ⟨y, hy, hb2, hp2, rfl⟩
    have st2 := SqT.of (K := K) (hb2 _ _ nap ha0)
    refine ⟨_, rfl, a, _, 0, _, rfl, rfl, st2, at0, _, rfl, a, _, 0, _, rfl, rfl, st2, at0, rfl, _, rfl, ?_⟩
    have fin : ∀ (Hx : Hp) (c : Nat), But p H Hx → Purse Hx p c → c ≤ n + 600 → ∀ (r' : D) (v' : V), (∀ {Hy : Hp}, RW Hy r' v') → Opt r' → (nm = "set" → r' ≠ .leaf .non) → tOp (rIxT K) (tVar 1) (tC (.int 2)) [some (.ref p), some (.ref a), some (.int w), some (.str y), none, none, none, none, none] Hx fun z Hz => 3 ≤ sizeLine ∧ ∀ q, Hz q = none → Q (.ref q) (upd Hz q (.tup [V.str (Str.ofString nm), v', z])) := fun Hx c hb hpx hc r' v' hrv hopt hns =>
      ⟨_, rfl, a, _, 2, _, rfl, rfl, SqT.of (hb _ _ nap ha0), at2, by show 3 ≤ sizeLine; decide, out hb hpx hc hrv (carry hb) hopt hns hX⟩
    by_cases hs : nm = "set"
    · refine ifF (by rw [hs, decide_eq_true rfl]; rfl) (iteF ?_)
      exact ⟨_, rfl, fin H2 _ hb2 hp2 (by omega) (.leaf (.str y)) (.str y) rw_str (.inr ⟨y, hy, rfl⟩) fun _ e => nomatch e⟩
    · have hne : ¬ Str.ofString nm = Str.ofString "set" := by
        rcases nmc with rfl | rfl | rfl
        · exact absurd rfl hs
        · decide
        · decide
      refine ifT (by rw [so hne]; rfl) ⟨_, rfl, p, 3, n + 4, rfl, hp2, by omega, by decide, by decide, fun e H3 e0 e1 hb3 hp3 => ⟨rfl, _, rfl, ite2 (fun _ => ?_) (fun _ => ?_)⟩⟩
      · exact fin H3 _ (hb2.trans hb3) hp3 (by omega) (.leaf .non) .non rw_non (.inl rfl) fun e => absurd e hs
      · exact ⟨_, rfl, fin H3 _ (hb2.trans hb3) hp3 (by omega) (.leaf (.str y)) (.str y) rw_str (.inr ⟨y, hy, rfl⟩) fun _ e => nomatch e⟩
  rintro _ H2 ⟨rfl, rfl⟩
  refine ⟨_, rfl, a, _, 0, _, rfl, rfl, st, at0, rfl, _, rfl, ?_⟩
  rcases hX with ⟨rfl, ht⟩ | ⟨rfl, hq⟩ | ⟨rfl, qs, hl, hq, rfl⟩
  · -- set
    refine ifT (decide_eq_true rfl) ⟨_, rfl, a, _, 1, _, rfl, rfl, st, at1, _, rfl, _, rfl, a, _, 2, _, rfl, rfl, st, at2, p, M, xx, x, n + 1, 5, rfl, hp1, by omega, up hb1, hMp, h2, ht, by decide, by decide, fun u H3 d' hb3 hp3 ru hu => ⟨by show 3 ≤ sizeLine; decide, ?_⟩⟩
    exact out (nm' := "set") (hb1.trans hb3) hp3 (by omega) flat (ru.same (gm_call (fun c e => hb1.free hpo hp1.some e) fun c o _ e => gm_le _ _ e)) hro hset (.inl ⟨rfl, hu⟩)
  · -- take
    refine ifF (so (by decide)) ⟨_, rfl, a, _, 0, _, rfl, rfl, st, at0, rfl, _, rfl, ifT (decide_eq_true rfl) ⟨_, rfl, rfl, _, rfl, ite2 (fun _ => ?_) (fun _ => ?_)⟩⟩
    · refine ⟨_, rfl, a, _, 1, _, rfl, rfl, st, at1, _, rfl, a, _, 2, _, rfl, rfl, st, at2, by show 1 ≤ sizeLine; decide, fun l hl => ⟨by show 3 ≤ sizeLine; decide, ?_⟩⟩
      have sl := same_new hl (.lst [xx])
      have hbl := hb1.trans (.of sl)
      exact out (nm' := "cases") hbl (hp1.same sl) (by omega) flat (show RW _ (.lst [x]) (.ref l) from ⟨l, [xx], rfl, gm_new (hp1.ne hl) (hb1.free hpo hp1.some hl) upd_same, rws_cons (carry hbl) rws_nil⟩) hro (fun e => absurd e (by decide)) (.inr (.inr ⟨rfl, [x], by show 1 ≤ 20; decide, fun q m => by rw [List.mem_singleton.mp m]; exact hq, rfl⟩))
    · refine ⟨_, rfl, a, _, 1, _, rfl, rfl, st, at1, _, rfl, _, rfl, a, _, 2, _, rfl, rfl, st, at2, p, M, xx, x, n + 1, 7, rfl, hp1, by omega, up hb1, hMp, h2, hq, by decide, by decide, fun u H3 d' hb3 hp3 ru hu => ⟨by show 3 ≤ sizeLine; decide, ?_⟩⟩
      exact out (nm' := "take") (hb1.trans hb3) hp3 (by omega) flat (ru.same (gm_call (fun c e => hb1.free hpo hp1.some e) fun c o _ e => gm_le _ _ e)) hro hset (.inr (.inl ⟨rfl, hu⟩))
  -- cases
  refine ifF (so (by decide)) ⟨_, rfl, a, _, 0, _, rfl, rfl, st, at0, rfl, _, rfl, ifF (so (by decide)) ?_⟩
  obtain ⟨l0, zs, rfl, hl0', hzs⟩ := id h2
  have hlen : zs.length = qs.length := hzs.len
  have rets : ∀ {Hx : Hp} {c : Nat} {L : Addr} {ys : List V} {qs' : List D}, But p H Hx → Purse Hx p c → c ≤ n + 600 → H L = none → L ≠ p → Hx L = some (.lst ys) → RWs (gm p H M Hx) qs' ys → qs'.length ≤ 20 → (∀ q ∈ qs', PtOk 7 q) →
      ∀ q, Hx q = none → Q (.ref q) (upd Hx q (.tup [V.str (Str.ofString "cases"), xr, .ref L])) := fun {Hx c L ys qs'} hb hpx hc hL hLp hLx hys h20 hok =>
    out (nm' := "cases") hb hpx hc flat (show RW _ (.lst qs') (.ref L) from ⟨L, ys, rfl, gm_new hLp hL hLx, hys⟩) hro (fun e => absurd e (by decide)) (.inr (.inr ⟨rfl, qs', h20, hok, rfl⟩))
  refine ⟨fun σ' H' => ∃ L : Addr, But p H H' ∧ Purse H' p (n + 1) ∧ H L = none ∧ L ≠ p ∧ H' L = some (.lst zs) ∧ σ' = [some (.ref p), some (.ref a), some (.int w), none, some (.ref L), none, none, none, none], ?_, ?_⟩
  · refine ⟨_, rfl, a, _, 2, _, rfl, rfl, st, at2, l0, zs, rfl, .inl (SqL.of (up hb1 _ _ hl0')), fun L hL => ?_⟩
    have sL := same_new hL (.lst zs)
    exact ⟨L, hb1.trans (.of sL), hp1.same sL, hb1.free hpo hp1.some hL, hp1.ne hL, upd_same, rfl⟩
  rintro _ H3 ⟨L, hb3, hp3, hL0, hLp, hL3, rfl⟩
  have hpl : Pl 40 (.lst qs) := pl_lst (n := 39) (by omega) fun q m => (hq q m).pl.le (by decide)
  -- none
  refine ⟨fun σ' H' => qs ≠ [] ∧ Same H3 H' ∧ σ' = [some (.ref p), some (.ref a), some (.int w), none, some (.ref L), none, none, none, none], ?_, ?_⟩
  · refine ⟨_, rfl, by show 0 ≤ sizeLine; decide, fun l00 hl00 => ?_⟩
    have s0 := same_new hl00 (.lst [])
    have e0 : PyData.eqv (toP (.lst qs)) (toP (.lst [])) = qs.isEmpty := by
      rw [eqv_deq (m := 1) _ _ hpl (pl_lst (n := 0) (ds := []) (by decide) (by simp)), deq]
      cases qs with
      | nil => rw [deqs]; rfl
      | cons q qs => rw [deqs]; rfl
    refine ⟨toP (.lst qs), toP (.lst []), RW.dp (show RW _ (.lst _) (.ref L) from ⟨L, zs, rfl, s0 _ _ hL3, hzs.same (up (hb3.trans (.of s0)))⟩), RW.dp (show RW _ (.lst []) (.ref l00) from ⟨l00, [], rfl, upd_same, rfl⟩), shaped_of hpl (by omega), shaped_of (n := 1) (pl_lst (n := 0) (ds := []) (by decide) (by simp)) (by decide), _, rfl, ?_⟩
    rw [e0]
    cases qs with
    | cons q qs => exact iteF ⟨(fun h => nomatch h), s0, rfl⟩
    | nil =>
      refine iteT ?_
      have hb0 := hb3.trans (.of s0)
      have hp0 := hp3.same s0
      refine ⟨_, rfl, a, _, 1, _, rfl, rfl, SqT.of (hb0 _ _ nap ha0), at1, by show 1 ≤ sizeLine; decide, fun t ht => ⟨by show 1 ≤ sizeLine; decide, fun l1 hl1 => ⟨by show 3 ≤ sizeLine; decide, ?_⟩⟩⟩
      have s1 := same_new ht (.tup [V.str (Str.ofString "any")])
      have s2 := same_new hl1 (.lst [V.ref t])
      have hb2' := (hb0.trans (.of s1)).trans (.of s2)
      exact rets (qs' := [.tup [S "any"]]) hb2' ((hp0.same s1).same s2) (by omega) (hb0.free hpo hp0.some (s1.free hl1)) ((hp0.same s1).ne hl1) upd_same (rws_cons (show RW _ (.tup [S "any"]) (.ref t) from ⟨t, _, rfl, gm_new (hp0.ne ht) (hb0.free hpo hp0.some ht) (s2 _ _ upd_same), rws_cons rw_str rws_nil⟩) rws_nil) (by decide) (fun q m => by rw [List.mem_singleton.mp m]; exact .inl rfl)
  rintro _ H4 ⟨hne, hs4, rfl⟩
  have ql : 0 < qs.length := by
    cases qs with
    | nil => exact absurd rfl hne
    | cons q qs => exact Nat.succ_pos _
  have hb4 := hb3.trans (.of hs4)
  have hp4 := hp3.same hs4
  have hL4 := hs4 _ _ hL3
  -- places
  refine ⟨fun σ' H' => ∃ i j : Nat, i < qs.length ∧ j < qs.length ∧ But p H H' ∧ Purse H' p (n + 3) ∧ H' L = some (.lst zs) ∧ σ' = [some (.ref p), some (.ref a), some (.int w), none, some (.ref L), some (.int (i : Int)), some (.int (j : Int)), none, none], ?_, ?_⟩
  · refine ⟨_, rfl, _, rfl, L, zs, rfl, .inl (SqL.of hL4), p, _, n + 1, rfl, hp4, by omega, by omega, by omega, fun d H5 d0 d1 hb5 hp5 => ?_⟩
    obtain ⟨i, rfl⟩ := Int.eq_ofNat_of_zero_le d0
    refine ⟨_, rfl, _, rfl, L, zs, rfl, .inl (SqL.of (hb5 _ _ hLp hL4)), p, _, n + 2, rfl, hp5, by omega, by omega, by omega, fun e H6 e0 e1 hb6 hp6 => ?_⟩
    obtain ⟨j, rfl⟩ := Int.eq_ofNat_of_zero_le e0
    exact ⟨_, _, rfl, i, j, by omega, by omega, (hb4.trans hb5).trans hb6, hp6, hb6 _ _ hLp (hb5 _ _ hLp hL4), rfl⟩
  rintro _ H5 ⟨i, j, hi, hj, hb5, hp5, hL5, rfl⟩
  have st5 := SqT.of (K := K) (hb5 _ _ nap ha0)
  have sL5 := SqL.of (K := K) hL5
  have ei : ((i : Int) + 1) = ((i + 1 : Nat) : Int) := by omega
  have hx := List.getElem?_eq_getElem (show i < zs.length by omega)
  generalize zs[i]'(by omega) = x1 at hx
  obtain ⟨d1, hd1, r1⟩ := hzs.item hx
  have hy := List.getElem?_eq_getElem (show j < zs.length by omega)
  generalize zs[j]'(by omega) = x2 at hy
  obtain ⟨d2, hd2, r2⟩ := hzs.item hy
  have ok1 := hq d1 (List.mem_of_getElem? hd1)
  have ok2 := hq d2 (List.mem_of_getElem? hd2)
  -- one left out
  refine ⟨fun σ' H' => H' = H5 ∧ σ' = [some (.ref p), some (.ref a), some (.int w), none, some (.ref L), some (.int (i : Int)), some (.int (j : Int)), none, none], ?_, ?_⟩
  · refine ⟨_, rfl, rfl, _, rfl, ite2 (fun _ => ?_) (fun _ => ⟨rfl, rfl⟩)⟩
    refine ⟨_, rfl, a, _, 1, _, rfl, rfl, st5, at1, _, rfl, _, rfl, _, rfl, L, zs, rfl, sL5, fun p1 hp1 => ?_⟩
    rw [cutV_pre]
    have s1 := same_new hp1 (.lst (zs.take i))
    refine ⟨_, rfl, _, rfl, _, _, rfl, rfl, _, rfl, L, zs, rfl, SqL.of (s1 _ _ hL5), fun p2 hp2 => ?_⟩
    rw [ei, cutV_post]
    have s2 := same_new hp2 (.lst (zs.drop (i + 1)))
    have sz : (zs.take i).length + (zs.drop (i + 1)).length ≤ 1000 := by
      rw [List.length_take, List.length_drop]
      omega
    refine ⟨p1, p2, _, _, rfl, rfl, s2 _ _ upd_same, upd_same, Nat.le_trans sz (by decide), fun p4 hp4 => ⟨by show 3 ≤ sizeLine; decide, ?_⟩⟩
    have s4 := same_new hp4 (.lst (zs.take i ++ zs.drop (i + 1)))
    have s14 := (s1.trans s2).trans s4
    have hb14 := hb5.trans (.of s14)
    refine rets (qs' := qs.take i ++ qs.drop (i + 1)) hb14 (hp5.same s14) (by omega) (hb5.free hpo hp5.some ((s1.trans s2).free hp4)) ((hp5.same (s1.trans s2)).ne hp4) upd_same (((hzs.take i).app (hzs.drop (i + 1))).same (gm_up hMp (up hb14))) ?_ fun q m => ?_
    · rw [List.length_append, List.length_take, List.length_drop]
      omega
    · rcases List.mem_append.mp m with z | z
      · exact hq q (List.mem_of_mem_take z)
      · exact hq q (List.mem_of_mem_drop z)
  rintro _ H6 ⟨rfl, rfl⟩
  have butL : ∀ {Hx : Hp} {o : HO}, But p H Hx → But p H (upd Hx L o) := fun b c o nc e => by
    rw [upd_ne (ne_of_none e hL0)]
    exact b c o nc e
  have puL : ∀ {Hx : Hp} {c : Nat} {o : HO}, Purse Hx p c → Purse (upd Hx L o) p c := fun h => by
    obtain ⟨x1, x2, x3, e, r⟩ := h
    exact ⟨x1, x2, x3, by rw [upd_ne hLp.symm]; exact e, r⟩
  -- the lot changed
  refine ⟨fun σ' H' => ∃ (ys : List V) (qs' : List D) (v7 v8 : Option V), But p H H' ∧ Purse H' p (n + 600) ∧ H' L = some (.lst ys) ∧ RWs (gm p H M H') qs' ys ∧ qs'.length ≤ 20 ∧ (∀ q ∈ qs', PtOk 7 q) ∧ σ' = [some (.ref p), some (.ref a), some (.int w), none, some (.ref L), some (.int (i : Int)), some (.int (j : Int)), v7, v8], ?_, ?_⟩
  rotate_left
  · rintro _ H7 ⟨ys, qs', v7, v8, hb7, hp7, hL7, hy7, h20, hok, rfl⟩
    exact ⟨_, rfl, a, _, 1, _, rfl, rfl, SqT.of (hb7 _ _ nap ha0), at1, _, rfl, by show 3 ≤ sizeLine; decide, rets hb7 hp7 (Nat.le_refl _) hL0 hLp hL7 hy7 h20 hok⟩
  refine ⟨_, rfl, rfl, _, rfl, ite2 (fun _ => ?_) (fun _ => ?_)⟩
  · -- two exchanged
    refine ⟨fun σ' H' => H' = H6 ∧ σ' = [some (.ref p), some (.ref a), some (.int w), none, some (.ref L), some (.int (i : Int)), some (.int (j : Int)), some x1, some x2], ?_, ?_⟩
    · exact ⟨_, rfl, _, rfl, L, zs, _, x1, rfl, rfl, sL5, atI_nat hx, _, rfl, _, rfl, L, zs, _, x2, rfl, rfl, sL5, atI_nat hy, _, _, rfl, rfl, rfl⟩
    rintro _ H8 ⟨rfl, rfl⟩
    refine ⟨fun σ' H' => H' = upd H8 L (.lst (zs.set i x2)) ∧ σ' = [some (.ref p), some (.ref a), some (.int w), none, some (.ref L), some (.int (i : Int)), some (.int (j : Int)), some x1, some x2], ?_, ?_⟩
    · exact ⟨_, rfl, _, rfl, _, rfl, L, zs, _, i, rfl, rfl, hL5, Evl.ixN_nat (by omega), rfl, rfl⟩
    rintro _ H9 ⟨rfl, rfl⟩
    have hb10 := butL (o := .lst ((zs.set i x2).set j x1)) (butL (o := .lst (zs.set i x2)) hb5)
    have g := gm_up (H := H) hMp (up hb10)
    refine ⟨_, rfl, _, rfl, _, rfl, L, zs.set i x2, _, j, rfl, rfl, upd_same, Evl.ixN_nat (by rw [List.length_set]; omega), (zs.set i x2).set j x1, (qs.set i d2).set j d1, _, _, hb10, puL (puL (hp5.mono (by omega))), upd_same, RWs.put (r1.same g) j (RWs.put (r2.same g) i (hzs.same g)), by rw [List.length_set, List.length_set]; exact hl, fun q m => ?_, rfl⟩
    rcases List.mem_or_eq_of_mem_set m with m | rfl
    · rcases List.mem_or_eq_of_mem_set m with m | rfl
      · exact hq q m
      · exact ok2
    · exact ok1
  obtain ⟨a1, ws, rfl, ha1', hw⟩ : ∃ a1 ws, x1 = .ref a1 ∧ M a1 = some (.tup ws) ∧ ∃ (s : String) (ws' : List V), ws = V.str (Str.ofString s) :: ws' := by
    have z := r1
    rcases ok1 with rfl | ⟨y, _, rfl⟩ | ⟨row, qs1, rr, rfl, _⟩
    · obtain ⟨a1, ws, e, h, x, ys, rfl, hx0, _⟩ := z
      obtain ⟨rfl, _⟩ := hx0
      exact ⟨a1, _, e, h, _, _, rfl⟩
    · obtain ⟨a1, ws, e, h, x, ys, rfl, hx0, _⟩ := z
      obtain ⟨rfl, _⟩ := hx0
      exact ⟨a1, _, e, h, _, _, rfl⟩
    · obtain ⟨a1, ws, e, h, x, ys, rfl, hx0, _⟩ := z
      obtain ⟨rfl, _⟩ := hx0
      exact ⟨a1, _, e, h, _, _, rfl⟩
  obtain ⟨s1, ws', rfl⟩ := hw
  refine ⟨fun b H' => Same H6 H' ∧ (b = true → qs.length < 20), ?_, ?_⟩
  · refine ⟨_, rfl, rfl, _, rfl, ite2 (fun _ => ?_) (fun _ => ⟨Same.refl _, fun z => nomatch z⟩)⟩
    refine ⟨_, rfl, _, rfl, L, zs, _, _, rfl, rfl, sL5, atI_nat hx, a1, _, 0, _, rfl, rfl, SqT.of (up hb5 _ _ ha1'), atI_nat (j := 0) rfl, by show 2 ≤ sizeLine; decide, fun t ht => ⟨t, _, rfl, .inr (SqT.of upd_same), rfl, rfl, _, rfl, ?_⟩⟩
    have sT := same_new ht (.tup [V.str (Str.ofString "name"), V.str (Str.ofString "any")])
    refine ite2 (fun _ => ?_) (fun _ => ⟨sT, fun z => nomatch z⟩)
    exact ⟨_, rfl, L, zs, rfl, .inl (SqL.of (sT _ _ hL5)), _, _, rfl, rfl, _, rfl, sT, fun z => by
      have z' : (zs.length : Int) < 20 := of_decide_eq_true z
      omega⟩
  rintro bb H7 ⟨hs7, hbb⟩
  have hb7 := hb5.trans (.of hs7)
  have hp7 := hp5.same hs7
  have hL7 := hs7 _ _ hL5
  refine ite2 (fun c => ?_) (fun _ => ?_)
  · -- one told twice
    have l20 := hbb c
    have hbI := butL (o := .lst (zs.take j ++ [V.ref a1] ++ zs.drop j)) hb7
    have g := gm_up (H := H) hMp (up hbI)
    refine ⟨_, rfl, .inl ⟨rfl, _, SqL.of hL7⟩, _, rfl, _, rfl, _, rfl, L, zs, _, _, rfl, rfl, SqL.of hL7, atI_nat hx, L, zs, _, _, rfl, rfl, hL7, Nat.lt_of_le_of_lt (show zs.length ≤ 1000 by omega) (by decide), by omega, by omega, ?_⟩
    rw [Int.toNat_natCast]
    refine ⟨zs.take j ++ [V.ref a1] ++ zs.drop j, qs.take j ++ [d1] ++ qs.drop j, _, _, hbI, puL (hp7.mono (by omega)), upd_same, (((hzs.take j).same g).app (rws_cons (r1.same g) rws_nil)).app ((hzs.drop j).same g), ?_, fun q m => ?_, rfl⟩
    · rw [List.length_append, List.length_append, List.length_take, List.length_drop]
      show _ + 1 + _ ≤ 20
      omega
    · rcases List.mem_append.mp m with m | m
      · rcases List.mem_append.mp m with m | m
        · exact hq q (List.mem_of_mem_take m)
        · rw [List.mem_singleton.mp m]
          exact ok1
      · exact hq q (List.mem_of_mem_drop m)
  · -- one changed
    refine ⟨_, rfl, _, rfl, _, rfl, L, zs, _, _, rfl, rfl, SqL.of hL7, atI_nat hx, p, M, _, d1, n + 3, 7, rfl, hp7, by omega, up hb7, hMp, r1, ok1, by decide, by decide, fun u H8 d' hb8 hp8 ru hu => ?_⟩
    have hL8 := hb8 _ _ hLp hL7
    have hb08 := hb7.trans hb8
    refine ⟨_, rfl, _, rfl, L, zs, _, i, rfl, rfl, hL8, Evl.ixN_nat (by omega), zs.set i u, qs.set i d', _, _, butL hb08, puL (hp8.mono (by omega)), upd_same, RWs.put (ru.same (gm_call (fun c e => hb7.free hpo hp7.some e) fun c o nc e => ?_)) i (hzs.same (gm_up hMp (up (butL hb08)))), by rw [List.length_set]; exact hl, fun q m => ?_, rfl⟩
    · obtain ⟨_, c2, e2⟩ := gm_is e
      rw [upd_ne fun y => ?_]
      · exact e2
      · rw [y] at c2
        rcases c2 with c2 | ⟨o', c2⟩
        · rw [hL7] at c2
          cases c2
        · have := hM _ _ c2
          rw [hL0] at this
          cases this
    · rcases List.mem_or_eq_of_mem_set m with m | rfl
      · exact hq q m
      · exact hu
end
end K02
set_option Elab.async false
set_option linter.all false
set_option maxRecDepth 100000
set_option maxHeartbeats 2000000
/-! == and != of an own object with whatever, by its own __eq__, told both ways. -/
namespace FEq
open PySem PySem.W Builtin
section
variable {prog : Program} {w : World} {A : Around} {E : Value → Shared → Prop} {s : Shared} {K : PySem.W.Frag} {x C L f : Addr} {h₀ : Heap} {m : Str → Option Value} {ox : Obj} {od : Option Obj} {b tb : Value}
theorem ifBound_B {M : Model} {name : Str} {id : String} {args : List Value} {Q : Option Value → Shared → Prop} (X : K.In s.heap) (I : InstAt s.heap x ox C od) (S : Slot "object" name id) (hs : findIn K (.ref C) name = some (some (.builtin id)))
    (h : wpAny M A (call (.builtin id) (.ref x :: args)) (fun v => Q (some v)) E s) : wpAny M A (callSpecialIfBound? (.ref x) name args) Q E s := by
  simp only [callSpecialIfBound?, bindSpecialIfBound?]
  refine wpAny_holding (wpAny_bind (wpAny_bind (wpAny_bind (I.type.here ((looks_findIn X hs).here ?_)))))
  simp only [S.bind]
  refine wpAny_bind (wpAny_askSetting (wpAny_ite ?_))
  have fin : wpAny M A (call (.builtin id) ([.ref x] ++ args) >>= fun v => pure (some v)) Q E s := wpAny_bind (wpAny_mono h (fun v s' h' => wpAny_pure h') fun _ _ h' => h')
  split
  · exact wpAny_bind (wpAny_pure (wpAny_pure fin))
  · exact wpAny_tryCatch (wpAny_bind (wpAny_pure (wpAny_pure fin)))
theorem ne_entry (X : K.In s.heap) (I : InstAt s.heap x ox C od) (hs : findIn K (.ref C) "__eq__" = some (some (.ref f))) (hf : isFn K (.ref f) = true) (hu : A.units < cLine) {Q : Fin → Shared → Prop}
    (hcall : wpAny (model prog w) A (call (.ref f) [.ref x, b]) (fun v s' => ∃ c, v = .bool c ∧ Q (.done (.ret (.bool (!c)))) s') E s) :
    wpAny (model prog w) A (Builtin.«object.__ne__» ⟨[.ref x, b], []⟩) Q E s := by
  unfold Builtin.«object.__ne__»
  repeat (first
    | with_reducible refine wpAny_cRoomFor hu ?_
    | (refine wpAny_bind (m := callSpecialIfBound? (.ref x) (Str.ofString "__eq__") [b])
        (ifBound_K X I hs hf (wpAny_mono hcall (fun r s' hr => by
          obtain ⟨c, rfl, hq⟩ := hr
          repeat (first | exact hq | exact wpAny_pure hq | exact wpAny_truthy_bool hq | (refine wpAny_bind (m := truthy (.bool _)) (wpAny_truthy_bool ?_)) | wp_step)) fun _ _ e => e)))
    | wp_step)
theorem cmpNe_K {Q : Value → Shared → Prop} (hu : A.units + 1 < cLine) (X : K.In s.heap) (I : InstAt s.heap x ox C od) (hb : Looks (model prog w) s.heap (typeOf b) tb) (hn : notFirst K C tb = true)
    (hne : findIn K (.ref C) "__ne__" = some (some (.builtin "object.__ne__"))) (hm : mroIn K C (.type "object") = some true) (hs : findIn K (.ref C) "__eq__" = some (some (.ref f))) (hf : isFn K (.ref f) = true)
    (h : wpAny (model prog w) A.in1 (call (.ref f) [.ref x, b]) (fun v s' => ∃ c, v = .bool c ∧ Q (.bool (!c)) s') E s) : wpAny (model prog w) A (richCompare .NotEq (.ref x) b) Q E s := by
  have one : wpAny (model prog w) A (tryCompare (.ref x) (cmpInfo .NotEq).2.1 b) (fun r s' => ∃ v, r = some v ∧ Q v s') E s := by
    rw [cmpInfo_NotEq]
    unfold tryCompare
    have sub : Looks (model prog w) s.heap (isInstance (.ref x) (.type "object")) true := I.type.andThen (looks_mroIn X hm)
    refine wpAny_bind (ifBound_B X I F.cmp_object.ne hne (wpAny_call (codeAny_call_builtin F.cmp_object.ne.plain F.cmpEntry_ne (check_slot F.cmpKind_ne F.cmpSplit_ne sub (F.cmpArgs_ne _ _) (ne_entry (A := A.in1) X I hs hf hu (wpAny_mono h (fun v s' hv => ?_) fun _ _ e => e))))))
    obtain ⟨c, rfl, hq⟩ := hv
    first | exact ⟨c, rfl, wpAny_pure ⟨_, rfl, hq⟩⟩ | exact ⟨c, rfl, wpAny_pure (wpAny_pure ⟨_, rfl, hq⟩)⟩ | exact ⟨c, rfl, _, rfl, hq⟩
  unfold richCompare
  simp only [oneThing_ref]
  refine wpAny_holding (wpAny_bind (wpAny_cRoomFor (Nat.lt_of_succ_lt hu) ?_))
  refine wpAny_bind (I.type.here (wpAny_bind (hb.here ?_)))
  split
  · rename_i q
    have e : subIn K tb (.ref C) = some false := by
      rcases Bool.or_eq_true_iff.mp hn with e | e
      · rw [beq_iff_eq.mp e] at q; simp at q
      · exact beq_iff_eq.mp e
    refine wpAny_bind ((looks_subIn X e).here ?_)
    simp only [Bool.false_eq_true, if_false]
    refine wpAny_bind (wpAny_mono one (fun r s' z => ?_) fun _ _ e => e)
    obtain ⟨v, rfl, hq⟩ := z
    exact wpAny_pure hq
  · refine wpAny_bind (wpAny_pure ?_)
    simp only [Bool.false_eq_true, if_false]
    refine wpAny_bind (wpAny_mono one (fun r s' z => ?_) fun _ _ e => e)
    obtain ⟨v, rfl, hq⟩ := z
    exact wpAny_pure hq
end
end FEq
namespace L2
open PySem PySem.Spec PyProof.Rows
/-- what an own class with an own == has -/
structure EqC (K : PySem.W.Frag) (C f : Addr) : Prop where
  ne : PySem.W.findIn K (.ref C) "__ne__" = some (some (.builtin "object.__ne__"))
  eq : PySem.W.findIn K (.ref C) "__eq__" = some (some (.ref f))
  fn : PySem.W.isFn K (.ref f) = true
  mro : PySem.W.mroIn K C (.type "object") = some true
def rOwnEq (K : PySem.W.Frag) (C : Addr) (sp : Sp) (E : XK) : R2 := fun x y H Q => ∃ a dx fs t, x = .ref a ∧ H a = some (.ins C dx fs) ∧ TyX K H y t ∧ PySem.W.notFirst K C t = true ∧ sp [.ref a, y] H (fun v H' => ∃ c, v = .bl c ∧ Q (.bl c) H') E
def rOwnNe (K : PySem.W.Frag) (C : Addr) (sp : Sp) (E : XK) : R2 := fun x y H Q => ∃ a dx fs t, x = .ref a ∧ H a = some (.ins C dx fs) ∧ TyX K H y t ∧ PySem.W.notFirst K C t = true ∧ sp [.ref a, y] H (fun v H' => ∃ c, v = .bl c ∧ Q (.bl (!c)) H') E
section
variable {X : Cx} {CX : CXT} {k : Nat} {f C : Addr} {fd : FuncData} {ps : List Str} {sp : Sp} {E : XK}
theorem run_at {A : Around} {pins : List (Addr × Obj)} {σ : St} {H : Hp} {s : Shared} {Q : VK} {us : List Value} {vs : List V} (F : FnOk X.prog X.w X.K X.mg X.base CX k f fd ps sp) (sb : Sub X k A) (hb : Binds X.K fd ps []) (hx : Passes CX X E)
    (I : Inv X pins σ H s) (r : Vals vs us) (h : sp vs H Q E) : wpAny (model X.prog X.w) A (call (.ref f) us) (fun v s' => ∃ z H', Inv X pins σ H' s' ∧ RelV z v ∧ Q z H') X.xe s := by
  have hl := F.len _ _ _ _ h
  have e0 : Env0 X.prog X.w X.K X.mg X.base A X.stack s H := by
    have e := I.env0
    exact ⟨by rw [sb.fr]; exact e.frames, e.mod, e.bs, e.bsz, e.funs, e.frf, e.hok, e.bare⟩
  refine wpAny_call (codeAny_mono (F.run A X.stack s H ⟨us, []⟩ us vs Q E sb.room e0 (by
    have := hb s us I.kIn (by rw [List.append_nil, ← r.length]; exact hl)
    rw [List.append_nil] at this
    exact this) r h) fun r s' hq => ?_)
  cases r with
  | error e => exact hx pins σ H s e s' I hq
  | ok fl =>
    cases fl with
    | ret w =>
      obtain ⟨z, H', I', rz, q⟩ := I.after hq
      exact ⟨z, H', I', rz, q⟩
    | next => exact False.elim hq
    | brk => exact False.elim hq
    | cont => exact False.elim hq
theorem op_ownEq (Z : EqC X.K C f) (F : FnOk X.prog X.w X.K X.mg X.base CX k f fd ps sp) (hr : Room k X.A) (hb : Binds X.K fd ps []) (hx : Passes CX X E) : OpR X (compareOp .Eq) (rOwnEq X.K C sp E) := by
  intro pins s σ H x y v u Q I rx ry h
  obtain ⟨a, dx, fs, t, rfl, ha, ty, hn, h⟩ := h
  cases rx
  obtain ⟨P, kt, p, _⟩ := kit_of I ry ty
  obtain ⟨mA, J, _⟩ := ins_get I.hok ha
  obtain ⟨od, J, _⟩ := J.look
  obtain ⟨m, hF⟩ := I.fr
  show wpAny (model X.prog X.w) X.A (richCompare .Eq (.ref a) u) (EP X pins σ Q) X.xe s
  refine PySem.W.cmp_K (op := .Eq) hr.units0 hF I.ok.mod.kin J (kt.ty _ _ I.kIn p) hn Z.eq Z.fn (wpAny_mono (run_at F ⟨hr, rfl⟩ hb hx I (.cons (show RelV (V.ref a) (Value.ref a) from rfl) (.cons ry .nil)) h) (fun v s' q => ?_) fun _ _ e => e)
  obtain ⟨z, H', I', rz, c, rfl, q⟩ := q
  cases rz
  exact ⟨.bl c, H', I', rfl, q⟩
theorem op_ownNe (Z : EqC X.K C f) (F : FnOk X.prog X.w X.K X.mg X.base CX k f fd ps sp) (hr : Room (k + 1) X.A) (hb : Binds X.K fd ps []) (hx : Passes CX X E) : OpR X (compareOp .NotEq) (rOwnNe X.K C sp E) := by
  intro pins s σ H x y v u Q I rx ry h
  obtain ⟨a, dx, fs, t, rfl, ha, ty, hn, h⟩ := h
  cases rx
  obtain ⟨P, kt, p, _⟩ := kit_of I ry ty
  obtain ⟨mA, J, _⟩ := ins_get I.hok ha
  obtain ⟨od, J, _⟩ := J.look
  show wpAny (model X.prog X.w) X.A (richCompare .NotEq (.ref a) u) (EP X pins σ Q) X.xe s
  have hu : X.A.units + 1 < cLine := by
    have := hr.units
    omega
  refine FEq.cmpNe_K hu I.kIn J (kt.ty _ _ I.kIn p) hn Z.ne Z.mro Z.eq Z.fn (wpAny_mono (run_at (A := X.A.in1) F (Sub.in1 ⟨hr, rfl⟩) hb hx I (.cons (show RelV (V.ref a) (Value.ref a) from rfl) (.cons ry .nil)) h) (fun v s' q => ?_) fun _ _ e => e)
  obtain ⟨z, H', I', rz, c, rfl, q⟩ := q
  cases rz
  exact ⟨c, rfl, .bl (!c), H', I', rfl, q⟩
end
end L2
set_option Elab.async false
set_option linter.all false
set_option maxRecDepth 100000
set_option maxHeartbeats 4000000
namespace K02
open PySem L2 PyProof.Rows
abbrev sMEq : Stmt := inClass sPattern 9
/-! ### where None stands -/
mutual
def NoN : D → Prop
  | .leaf v => v ≠ .non
  | .lst ds => NoNs ds
  | .tup ds => NoNs ds
def NoNs : List D → Prop
  | [] => True
  | d :: ds => NoN d ∧ NoNs ds
end
mutual
theorem rb_noN : ∀ (d e : D), NoN e → Rb d e
  | d, .leaf v, h => by
    rw [NoN] at h
    cases d <;> (rw [Rb]; exact fun z => absurd z h)
  | .lst ds, .lst es, h => by
    rw [NoN] at h
    rw [Rb]
    exact fun _ => rbs_noN ds es h
  | .tup ds, .tup es, h => by
    rw [NoN] at h
    rw [Rb]
    exact fun _ => rbs_noN ds es h
  | .leaf _, .lst _, _ => by rw [Rb]; trivial
  | .leaf _, .tup _, _ => by rw [Rb]; trivial
  | .lst _, .tup _, _ => by rw [Rb]; trivial
  | .tup _, .lst _, _ => by rw [Rb]; trivial
theorem rbs_noN : ∀ (ds es : List D), NoNs es → Rbs ds es
  | [], _, _ => by rw [Rbs]; trivial
  | _ :: _, [], _ => by rw [Rbs]; trivial
  | d :: ds, e :: es, h => by
    rw [NoNs] at h
    rw [Rbs]
    exact ⟨rb_noN d e h.1, rbs_noN ds es h.2⟩
end
theorem nons_of : ∀ {ds : List D}, (∀ d ∈ ds, NoN d) → NoNs ds
  | [], _ => by rw [NoNs]; trivial
  | d :: ds, h => by
    rw [NoNs]
    exact ⟨h d List.mem_cons_self, nons_of fun x hx => h x (List.mem_cons_of_mem _ hx)⟩
theorem non_str {z : Str} : NoN (.leaf (.str z)) := by
  rw [NoN]
  exact fun e => nomatch e
theorem non_tup {ds : List D} (h : ∀ d ∈ ds, NoN d) : NoN (.tup ds) := by
  rw [NoN]
  exact nons_of h
theorem non_lst {ds : List D} (h : ∀ d ∈ ds, NoN d) : NoN (.lst ds) := by
  rw [NoN]
  exact nons_of h
theorem TmOk.non : ∀ {n : Nat} {d : D}, TmOk n d → NoN d
  | 0, _, h => h.elim
  | n + 1, d, h => by
    rcases h with ⟨i, hi, rfl⟩ | ⟨z, hz, rfl⟩ | ⟨z, ts, hz, rfl, hl, ht⟩
    · refine non_tup fun e he => ?_
      simp at he
      rcases he with rfl | rfl
      · exact non_str
      · rw [NoN]; exact fun e => nomatch e
    · refine non_tup fun e he => ?_
      simp at he
      rcases he with rfl | rfl <;> exact non_str
    · refine non_tup fun e he => ?_
      simp at he
      rcases he with rfl | rfl | rfl
      · exact non_str
      · exact non_str
      · exact non_lst fun t m => (ht t m).non
def tmW : Nat → Nat
  | 0 => 0
  | n + 1 => 1100 + 3 * (tmW n + 1)
theorem weights_le {c : Nat} : ∀ {ds : List D}, (∀ d ∈ ds, (toP d).weight ≤ c) → PyData.weightAll (toPs ds) ≤ ds.length * (c + 1)
  | [], _ => by
    rw [toPs, PyData.weightAll]
    exact Nat.zero_le _
  | d :: ds, h => by
    rw [toPs, PyData.weightAll, List.length_cons, Nat.succ_mul]
    have h1 := h d List.mem_cons_self
    have h2 := weights_le (ds := ds) fun x hx => h x (List.mem_cons_of_mem _ hx)
    omega
theorem w_str {z : Str} : (toP (.leaf (.str z))).weight = z.length := by
  rw [toP, toL, PyData.weight]
  rfl
theorem TmOk.wt : ∀ {n : Nat} {d : D}, TmOk n d → (toP d).weight ≤ tmW n
  | 0, _, h => h.elim
  | n + 1, d, h => by
    have s1 : (Str.ofString "number").length = 6 := rfl
    have s2 : (Str.ofString "read").length = 4 := rfl
    have s3 : (Str.ofString "call").length = 4 := rfl
    have e0 : tmW (n + 1) = 1100 + 3 * (tmW n + 1) := rfl
    rcases h with ⟨i, hi, rfl⟩ | ⟨z, hz, rfl⟩ | ⟨z, ts, hz, rfl, hl, ht⟩
    · have wi : (toP (.leaf (.int i))).weight ≤ 1001 := by
        rw [toP, toL, PyData.weight]
        split
        · exact Nat.zero_le _
        · have := Nat.log2_le_self i.natAbs
          omega
      rw [toP, toPs, toPs, toPs, PyData.weight, PyData.weightAll, PyData.weightAll, PyData.weightAll]
      have : (toP (S "number")).weight = 6 := w_str
      omega
    · rw [toP, toPs, toPs, toPs, PyData.weight, PyData.weightAll, PyData.weightAll, PyData.weightAll, w_str (z := z)]
      have : (toP (S "read")).weight = 4 := w_str
      have := hz.2.1
      omega
    · rw [toP, toPs, toPs, toPs, toPs, PyData.weight, PyData.weightAll, PyData.weightAll, PyData.weightAll, PyData.weightAll, w_str (z := z)]
      have : (toP (S "call")).weight = 4 := w_str
      have h8 := hz.2.1
      have hw := weights_le (c := tmW n) fun t m => (ht t m).wt
      have hw2 : ts.length * (tmW n + 1) ≤ 3 * (tmW n + 1) := Nat.mul_le_mul_right _ hl
      have e2 : (toP (.lst ts)).weight = PyData.weightAll (toPs ts) := by
        rw [toP, PyData.weight]
      omega
theorem not_int_of_tm {n : Nat} {d : D} (h : TmOk n d) (i : Int) : d ≠ .leaf (.int i) := fun e => by
  subst e
  cases n with
  | zero => exact h
  | succ n => rcases h with ⟨_, _, z⟩ | ⟨_, _, z⟩ | ⟨_, _, _, z, _⟩ <;> cases z
theorem rb_df {d e : D} (h1 : Df d) (h2 : Df e) : Rb d e := by
  rcases h2 with rfl | h2
  · have q : (toP d).weight ≤ 2 ^ 20 ∧ ∀ i, d ≠ .leaf (.int i) := by
      rcases h1 with rfl | h1
      · refine ⟨?_, fun i z => nomatch z⟩
        rw [toP]
        show (PyData.none).weight ≤ _
        rw [PyData.weight]
        exact Nat.zero_le _
      · exact ⟨Nat.le_trans h1.wt (by decide), not_int_of_tm h1⟩
    cases d <;> (rw [Rb]; exact fun _ => q)
  · exact rb_noN _ _ h2.non
theorem rb_opt {d e : D} (h1 : Opt d) (h2 : Opt e) : Rb d e := by
  rcases h2 with rfl | ⟨z, hz, rfl⟩
  · have q : (toP d).weight ≤ 2 ^ 20 ∧ ∀ i, d ≠ .leaf (.int i) := by
      rcases h1 with rfl | ⟨y, hy, rfl⟩
      · refine ⟨?_, fun i z => nomatch z⟩
        rw [toP]
        show (PyData.none).weight ≤ _
        rw [PyData.weight]
        exact Nat.zero_le _
      · refine ⟨?_, fun i z => nomatch z⟩
        rw [w_str]
        have := hy.2.1
        omega
    cases d <;> (rw [Rb]; exact fun _ => q)
  · exact rb_noN _ _ non_str
theorem rb_pt : ∀ {n m : Nat} {d e : D}, PtOk n d → PtOk m e → Rb d e
  | 0, _, _, _, h, _ => h.elim
  | _, 0, _, _, _, h => h.elim
  | n + 1, m + 1, d, e, h1, h2 => by
    rcases h2 with rfl | ⟨z, hz, rfl⟩ | ⟨row, qs, r, rfl, hr, hl, hq, hf⟩
    · exact rb_noN _ _ (non_tup fun e he => by
        simp at he
        rw [he]
        exact non_str)
    · exact rb_noN _ _ (non_tup fun e he => by
        simp at he
        rcases he with rfl | rfl <;> exact non_str)
    rcases h1 with rfl | ⟨z, hz, rfl⟩ | ⟨row2, qs2, r2, rfl, hr2, hl2, hq2, hf2⟩
    · rw [Rb]
      exact fun z => nomatch z
    · rw [Rb]
      exact fun z => nomatch z
    rw [Rb]
    refine fun _ => ?_
    rw [Rbs, Rbs, Rbs, Rbs]
    refine ⟨rb_noN _ _ non_str, ?_, rb_opt hr2 hr, trivial⟩
    rw [Rb]
    refine fun _ => ?_
    have go : ∀ (as bs : List (Str × D × D)), (∀ q ∈ as, q ∈ qs2) → (∀ q ∈ bs, q ∈ qs) → Rbs (as.map (ent row2)) (bs.map (ent row)) := fun as => by
      induction as with
      | nil => exact fun _ _ _ => by rw [List.map_nil, Rbs]; trivial
      | cons a as ih =>
        intro bs ha hb
        cases bs with
        | nil => rw [List.map_nil, List.map_cons, Rbs]; trivial
        | cons b bs =>
          rw [List.map_cons, List.map_cons, Rbs]
          refine ⟨?_, ih bs (fun q m => ha q (List.mem_cons_of_mem _ m)) fun q m => hb q (List.mem_cons_of_mem _ m)⟩
          have a1 := hq2 a (ha a List.mem_cons_self)
          have b1 := hq b (hb b List.mem_cons_self)
          have p1 := rb_pt a1.1 b1.1
          have p2 := rb_df a1.2 b1.2
          cases row2 <;> cases row
          · show Rb (.tup [_, _, _]) (.tup [_, _, _])
            rw [Rb]
            refine fun _ => ?_
            rw [Rbs, Rbs, Rbs, Rbs]
            exact ⟨rb_noN _ _ non_str, p1, p2, trivial⟩
          · show Rb (.tup [_, _, _]) (.tup [_, _])
            rw [Rb]
            exact fun z => nomatch z
          · show Rb (.tup [_, _]) (.tup [_, _, _])
            rw [Rb]
            exact fun z => nomatch z
          · show Rb (.tup [_, _]) (.tup [_, _])
            rw [Rb]
            refine fun _ => ?_
            rw [Rbs, Rbs, Rbs]
            exact ⟨p1, p2, trivial⟩
    exact go qs2 qs (fun _ m => m) fun _ m => m
mutual
theorem deq_comm : ∀ (d e : D), deq d e = deq e d
  | .leaf v, .leaf w => by
    rw [deq, deq, Bool.eq_iff_iff]
    simp only [decide_eq_true_eq]
    exact eq_comm
  | .lst ds, .lst es => by rw [deq, deq]; exact deqs_comm ds es
  | .tup ds, .tup es => by rw [deq, deq]; exact deqs_comm ds es
  | .leaf _, .lst _ => by rw [deq, deq]
  | .leaf _, .tup _ => by rw [deq, deq]
  | .lst _, .leaf _ => by rw [deq, deq]
  | .lst _, .tup _ => by rw [deq, deq]
  | .tup _, .leaf _ => by rw [deq, deq]
  | .tup _, .lst _ => by rw [deq, deq]
theorem deqs_comm : ∀ (ds es : List D), deqs ds es = deqs es ds
  | [], [] => rfl
  | d :: ds, e :: es => by rw [deqs, deqs, deq_comm d e, deqs_comm ds es]
  | [], _ :: _ => by rw [deqs, deqs]
  | _ :: _, [] => by rw [deqs, deqs]
end
/-! ### the own == -/
structure InsC (K : PySem.W.Frag) (C : Addr) : Prop where
  ha : PySem.W.findIn K (.ref C) "__class__" = some (some (.builtin "object.__class__"))
  hn : PySem.W.specialIn K (.builtin "object.__class__") "__get__" = some (some (.builtin "getset_descriptor.__get__"))
  htk : PySem.W.takesIn K (.builtin "object.__class__") = some true
  hm : PySem.W.mroIn K C (.type "object") = some true
  kit : PySem.W.kitOne K (.ref C) (.ref C) = some true
def peq (d : D) (r s : Str) (d2 : D) (r2 s2 : Str) : Bool := deq d d2 && (decide (V.str r = V.str r2) && decide (V.str s = V.str s2))
def spEqP (K : PySem.W.Frag) (C : Addr) : Sp := fun vs H Q _ => ∃ (o : Addr) (y : V) (d : D) (r s : Str) (G : List Addr), vs = [.ref o, y] ∧ PatAt C H o d r s G ∧ Pl 50 d ∧
  ((∃ (o2 : Addr) (d2 : D) (r2 s2 : Str) (G2 : List Addr), y = .ref o2 ∧ PatAt C H o2 d2 r2 s2 G2 ∧ Pl 50 d2 ∧ Q (.bl (peq d r s d2 r2 s2)) H) ∨ ∃ t : Value, TyX K H y t ∧ PySem.W.kitOne K t (.ref C) = some false ∧ Q (.bl false) H)
section
variable {P : Program} {w : World} {K : PySem.W.Frag} {mg : Str → Option Value} {base : Heap}
theorem scEq : FnScope ["self", "other"] ["self", "other"] (defScope sMEq) := ⟨rfl, rfl, rfl, by decide +kernel, rfl, by decide +kernel, by decide +kernel⟩
theorem ok_meq {f C : Addr} {fd : FuncData} (F : Fun K "__eq__" "Program.__eq__" sMEq f fd) (CC : PCls K C) (T : Txt K mg) (IC : InsC K C) (mP : mg "Program" = some (.ref C)) : FnOk P w K mg base CX0 1 f fd ["self", "other"] (spEqP K C) := by
  refine F.ok scEq (fun vs H Q E h => ?_) (fun cdv A outer s H vs Q E hr h => ?_)
  · obtain ⟨o, y, d, r, s, G, rfl, _⟩ := h
    rfl
  obtain ⟨o, y, d, r, s, G, rfl, ⟨dx, v, ho, hR⟩, hp, kk⟩ := h
  refine ⟨_, pss_one (ps_ret (pe_and (pe_callB call_isi (by rfl) T.isi boot_isinstance (pa_cons (pv 1) (pa_cons (pe_glob (v := .ref C) rfl mP rfl) pa_nil)))
    (pe_and (pe_cmpR (op_eqD hr.units) (pe_fld (pv 0) rfl) (pe_fld (pv 1) rfl) (nomark _)) (pe_and (pe_cmpR op_eq (pe_fld (pv 0) rfl) (pe_fld (pv 1) rfl) (nomark _)) (pe_one (pe_cmpR op_eq (pe_fld (pv 0) rfl) (pe_fld (pv 1) rfl) (nomark _))))))), ?_⟩
  rcases kk with ⟨o2, d2, r2, s2, G2, rfl, ⟨dx2, v2, ho2, hR2⟩, hp2, kk⟩ | ⟨t, ty, kt, kk⟩
  rotate_left
  · exact ⟨_, rfl, y, _, _, _, _, rfl, .own _, ty, kt, _, rfl, iteF kk⟩
  refine ⟨_, rfl, .ref o2, _, _, _, _, rfl, .own _, .base (.ins ho2 CC.cl IC.ha IC.hn IC.htk IC.hm), IC.kit, _, rfl, iteT ?_⟩
  refine ⟨_, rfl, o, C, dx, _, _, rfl, ho, CC.cl, CC.nP, pfs_part _ _ _, _, rfl, o2, C, dx2, _, _, rfl, ho2, CC.cl, CC.nP, pfs_part _ _ _, toP d, toP d2, hR.rw.dp, hR2.rw.dp, shaped_of hp (by decide), shaped_of hp2 (by decide), _, rfl, ?_⟩
  rw [eqv_deq d d2 hp hp2]
  unfold peq at kk
  cases q1 : deq d d2 with
  | false =>
    rw [q1, Bool.false_and] at kk
    exact iteF kk
  | true =>
    rw [q1, Bool.true_and] at kk
    refine iteT ⟨_, rfl, o, C, dx, _, _, rfl, ho, CC.cl, CC.nO, pfs_order _ _ _, _, rfl, o2, C, dx2, _, _, rfl, ho2, CC.cl, CC.nO, pfs_order _ _ _, rfl, _, rfl, ?_⟩
    cases q : decide (V.str r = V.str r2) with
    | false =>
      rw [q, Bool.false_and] at kk
      exact iteF kk
    | true =>
      rw [q, Bool.true_and] at kk
      exact iteT ⟨_, rfl, o, C, dx, _, _, rfl, ho, CC.cl, CC.nL, pfs_lacks _ _ _, _, rfl, o2, C, dx2, _, _, rfl, ho2, CC.cl, CC.nL, pfs_lacks _ _ _, rfl, kk⟩
end
end K02
set_option Elab.async false
set_option linter.all false
set_option maxRecDepth 100000
set_option maxHeartbeats 4000000
namespace K02
open PySem L2 PyProof.Rows
/-! ### the heap without the purse -/
def mk1 (p : Addr) (H : Hp) : Hp := fun b => if b = p then none else H b
section
variable {p b : Addr} {H H1 M : Hp} {o : HO}
theorem mk1_le : Same (mk1 p H) H := fun b o e => by
  unfold mk1 at e
  split at e
  · cases e
  · exact e
theorem mk1_at (h : b ≠ p) (e : H b = some o) : mk1 p H b = some o := by
  unfold mk1
  rw [if_neg h]
  exact e
theorem mk1_ne (e : mk1 p H b = some o) : b ≠ p := fun z => by
  unfold mk1 at e
  rw [if_pos z] at e
  cases e
theorem mk1_p : mk1 p H p = none := if_pos rfl
theorem mk1_but (k : But p H H1) : Same (mk1 p H) (mk1 p H1) := fun b o e => mk1_at (mk1_ne e) (k b o (mk1_ne e) (mk1_le _ _ e))
theorem mk1_of (h : Same M H) (hp : M p = none) : Same M (mk1 p H) := fun b o e => mk1_at (fun z => by
  rw [z, hp] at e
  cases e) (h _ _ e)
theorem mk1_kp {n : Nat} (hp : Purse H p n) : Kp (fun a => a = p) H (mk1 p H) := fun b o e h => mk1_at (fun z => by
  subst z
  obtain ⟨x, y, c, e2, _⟩ := hp
  rcases h with h | h
  · exact h rfl
  · exact h _ (Option.some.inj (e.symm.trans e2))) e
end
theorem rep_mk {p : Addr} {H : Hp} {n : Nat} {d : D} {v : V} {G : List Addr} (hp : Purse H p n) (h : Rep H d v G) (hG : p ∉ G) : RW (mk1 p H) d v := (h.kp (mk1_kp hp) fun a ha z => hG (z ▸ ha)).rw

structure PrR (ds : List D) : Prop where
  len : ds.length ≤ 20
  st : ∀ d ∈ ds, StOk d
theorem PgN.r {N : List Str} {ds : List D} (h : PgN N ds) : PrR ds := ⟨h.len, h.st⟩
theorem PrR.ok {ds : List D} (h : PrR ds) : PrOk ds := ⟨by have := h.len; omega, h.st⟩
theorem StOk.pl {d : D} (h : StOk d) : Pl 34 d := by
  obtain ⟨nm, r, x, rfl, hr, _, hx⟩ := h.x
  refine pl_tup (n := 33) (by show 3 ≤ 1000; decide) fun e he => ?_
  have he' : e = S nm ∨ e = r ∨ e = x := by simpa using he
  have hnm : Lf (.str (Str.ofString nm)) := by
    rcases hx with ⟨rfl, _⟩ | ⟨rfl, _⟩ | ⟨rfl, _⟩ <;> exact lf_S (by decide +kernel)
  rcases he' with rfl | rfl | rfl
  · exact pl_leaf hnm
  · exact hr.pl
  · rcases hx with ⟨_, h9⟩ | ⟨_, h9⟩ | ⟨_, qs, hl, h9, rfl⟩
    · exact h9.pl.le (by decide)
    · exact h9.pl.le (by decide)
    · exact pl_lst (n := 32) (by omega) fun q m => (h9 q m).pl.le (by decide)
theorem PrR.pl {ds : List D} (h : PrR ds) : Pl 35 (.lst ds) := pl_lst (n := 34) (by have := h.len; omega) fun d m => (h.st d m).pl
def cRv : Nat := cPl + 1000
def spRival : Sp := fun vs H Q _ => ∃ (p t : Addr) (v : V) (ds : List D) (r s : Str) (n : Nat), vs = [.ref p, .ref t] ∧ Purse H p n ∧ n + cRv < 10 ^ 60 ∧ H t = some (.tup [v, .str r, .str s]) ∧ RW (mk1 p H) (.lst ds) v ∧ PrR ds ∧ okOrd r ∧ okLck s ∧
  ∀ t' H' v' ds' r' s', But p H H' → Purse H' p (n + cRv) → H' t' = some (.tup [v', .str r', .str s']) → RW (mk1 p H') (.lst ds') v' → PrR ds' → okOrd r' → okLck s' → Q (.ref t') H'
section
variable {P : Program} {w : World} {K : PySem.W.Frag} {mg : Str → Option Value} {base : Heap}
abbrev nRv : List Str := ["purse", "plan", "way", "rows", "at", "last", "first", "second"]
theorem scRv : FnScope nRv ["purse", "plan"] (defScope sRival) := ⟨rfl, rfl, rfl, by decide +kernel, rfl, by decide +kernel, by decide +kernel⟩
theorem ok_rival {f fC fL fS : Addr} {fd fdC fdL fdS : FuncData} (F : Fun K "_law_ta_rival" "_law_ta_rival" sRival f fd) (T : Txt K mg)
    (FC : Fun K "_law_coin" "_law_coin" sCoin fC fdC) (GC : FnOk P w K mg base CX0 1 fC fdC ["purse", "many"] spCoin) (bC : Binds K fdC ["purse", "many"] []) (mC : mg "_law_coin" = some (.ref fC))
    (FL : Fun K "_law_tp_plan" "_law_tp_plan" sPlan fL fdL) (GL : FnOk P w K mg base CX0 16 fL fdL ["purse", "is_great"] spPlan) (bL : Binds K fdL ["purse", "is_great"] []) (mL : mg "_law_tp_plan" = some (.ref fL))
    (FS : Fun K "_law_ta_near_step" "_law_ta_near_step" sNrStep fS fdS) (GS : FnOk P w K mg base CX0 23 fS fdS ["purse", "step"] spNrStep) (bS : Binds K fdS ["purse", "step"] []) (mS : mg "_law_ta_near_step" = some (.ref fS)) :
    FnOk P w K mg base CX0 24 f fd ["purse", "plan"] spRival := by
  refine F.ok scRv (fun vs H Q E h => ?_) (fun cdv A outer s H vs Q E hr h => ?_)
  · obtain ⟨p, t, v, ds, r, s, n, rfl, _⟩ := h
    rfl
  obtain ⟨p, t, v, ds, r, s, n, rfl, hp, hn, ht, hR, hT, hro, hlo, kk⟩ := h
  have hr1 := hr.mono (show 1 ≤ 23 by decide)
  have hr16 := hr.mono (show 16 ≤ 23 by decide)
  have hc : cRv = cPl + 1000 := rfl
  refine ⟨_, Evl.pss_cut (ps_par (i := 2) (j := 3) rfl scRv.nd rfl rfl (by decide) rfl rfl (pa_cons (pe_call GC hr1 rfl mC FC.kp bC .nil pass0 (pa_cons (pv 0) (pa_cons pe_int pa_nil))) (pa_cons (pe_callTy call_list_of (by rfl) T.list boot_list (pa_cons (pe_ix ix_tup (pv 1) pe_int (fun _ _ => rfl)) pa_nil)) pa_nil)) (by rfl))
    (Evl.pss_cut (ps_if (pt_cmpR op_eq (pv 2) pe_int (nomark _)) (pss_one (ps_ret (pe_tup (pa_cons (pv 3) (pa_cons (pe_ifExp (pt_cmpR op_eq (pe_ix ix_tup (pv 1) pe_int (fun _ _ => rfl)) pe_str (nomark _)) pe_str pe_str) (pa_cons (pe_ix ix_tup (pv 1) pe_int (fun _ _ => rfl)) pa_nil)))))) pss_nil)
    (Evl.pss_cut (ps_if (pt_cmpR op_eq (pv 2) pe_int (nomark _)) (pss_one (ps_ret (pe_tup (pa_cons (pv 3) (pa_cons (pe_ix ix_tup (pv 1) pe_int (fun _ _ => rfl)) (pa_cons (pe_ifExp (pt_cmpR op_eq (pe_ix ix_tup (pv 1) pe_int (fun _ _ => rfl)) pe_str (nomark _)) pe_str pe_str) pa_nil)))))) pss_nil)
    (Evl.pss_cut (ps_if (pt_cut (pw_or (pt_cmpR op_eq (pv 2) pe_int (nomark _)) (pw_or1 (pt_cmpR (op_eqD hr.units) (pv 3) (pe_lst pa_nil) (nomark _)))).pt) (pss_one (ps_ret (pe_call GL hr16 rfl mL FL.kp bL .nil pass0 (pa_cons (pv 0) (pa_cons pe_bl pa_nil))))) pss_nil)
    (Evl.pss_cut (ps_par (i := 4) (j := 5) rfl scRv.nd rfl rfl (by decide) rfl rfl (pa_cons (pe_call GC hr1 rfl mC FC.kp bC .nil pass0 (pa_cons (pv 0) (pa_cons (pe_callB call_len_seq (by rfl) T.len PySem.boot_len (pa_cons (pv 3) pa_nil)) pa_nil))) (pa_cons (pe_call GC hr1 rfl mC FC.kp bC .nil pass0 (pa_cons (pv 0) (pa_cons (pe_callB call_len_seq (by rfl) T.len PySem.boot_len (pa_cons (pv 3) pa_nil)) pa_nil))) pa_nil)) (by rfl))
    (Evl.pss_cut (ps_if (pt_cmpR op_eq (pv 2) pe_int (nomark _)) (pss_one (ps_ret (pe_tup (pa_cons (pe_op op_cat (pe_slice sl_list (pv 3) po_none (po_some (pv 4))) (pe_slice sl_list (pv 3) (po_some (pe_op op_add (pv 4) pe_int)) po_none)) (pa_cons (pe_ix ix_tup (pv 1) pe_int (fun _ _ => rfl)) (pa_cons (pe_ix ix_tup (pv 1) pe_int (fun _ _ => rfl)) pa_nil)))))) pss_nil)
    (Evl.pss_cut (ps_if (pt_cmpR op_eq (pv 2) pe_int (nomark _))
        (Evl.pss_cut (ps_par (i := 6) (j := 7) rfl scRv.nd rfl rfl (by decide) rfl rfl (pa_cons (pe_ix ix_list (pv 3) (pv 4) (fun _ _ => rfl)) (pa_cons (pe_ix ix_list (pv 3) (pv 5) (fun _ _ => rfl)) pa_nil)) (by rfl))
        (Evl.pss_cut (ps_asg (pv 7) (pg_sub (pv 3) (pv 4) set_list)) (pss_one (ps_asg (pv 6) (pg_sub (pv 3) (pv 5) set_list)))))
        (pss_one (ps_if (pt_cmpR op_lt (pv 2) pe_int (nomark _))
          (pss_one (ps_asg (pe_call GS hr rfl mS FS.kp bS .nil pass0 (pa_cons (pv 0) (pa_cons (pe_ix ix_list (pv 3) (pv 4) (fun _ _ => rfl)) pa_nil))) (pg_sub (pv 3) (pv 4) set_list)))
          (pss_one (ps_if (pt_cut (PW.pt (pw_and (pt_cmpR op_eq (pv 2) pe_int (nomark _)) (pw_and (pt_cmpR op_eq (pe_ix ix_tup (pe_ix ix_list (pv 3) (pv 4) (fun _ _ => rfl)) pe_int (fun _ _ => rfl)) pe_str (nomark _)) (pw_and1 (pt_cmpR op_lt (pe_callB call_len_seq (by rfl) T.len PySem.boot_len (pa_cons (pv 3) pa_nil)) pe_int (nomark _)))))))
            (pss_one (ps_expr (pe_bm PySem.F.plainAttrs_list PySem.F.slot_list_insert PySem.F.type_list_insert mt_insert (pv 3) (pa_cons (pv 5) (pa_cons (pe_ix ix_list (pv 3) (pv 4) (fun _ _ => rfl)) pa_nil)))))
            pss_nil)))))
    (pss_one (ps_ret (pe_tup (pa_cons (pv 3) (pa_cons (pe_ix ix_tup (pv 1) pe_int (fun _ _ => rfl)) (pa_cons (pe_ix ix_tup (pv 1) pe_int (fun _ _ => rfl)) pa_nil)))))))))))), ?_⟩
  obtain ⟨po, hpo⟩ := hp.some
  have htp : t ≠ p := fun z => by
    obtain ⟨x, y, c, e, _⟩ := hp
    rw [z, e] at ht
    cases ht
  obtain ⟨l0, zs, rfl, hl0', hzs⟩ := id hR
  have hl0p := mk1_ne hl0'
  have hl0 := mk1_le _ _ hl0'
  have hlen : zs.length = ds.length := hzs.len
  have l20 := hT.len
  have up : ∀ {Hx : Hp}, But p H Hx → Same (mk1 p H) Hx := fun b => same_but mk1_le b mk1_p
  have t0 : atI [V.ref l0, V.str r, V.str s] 0 = some (.ref l0) := atI_nat (j := 0) rfl
  have t1 : atI [V.ref l0, V.str r, V.str s] 1 = some (.str r) := atI_nat (j := 1) rfl
  have t2 : atI [V.ref l0, V.str r, V.str s] 2 = some (.str s) := atI_nat (j := 2) rfl
  have so : ∀ {s t : String}, ¬ Str.ofString s = Str.ofString t → decide (V.str (Str.ofString s) = V.str (Str.ofString t)) = false := fun h => decide_eq_false fun e => h (V.str.inj e)
  have out : ∀ {Hx : Hp} {c : Nat} {L : Addr} {ys : List V} {ds' : List D} {r' s' : Str}, But p H Hx → Purse Hx p c → c ≤ n + cRv → L ≠ p → Hx L = some (.lst ys) → RWs (mk1 p Hx) ds' ys → PrR ds' → okOrd r' → okLck s' →
      ∀ q, Hx q = none → Q (.ref q) (upd Hx q (.tup [.ref L, V.str r', V.str s'])) := fun {Hx c L ys ds' r' s'} hb hpx hc hLp hLx hys hok hr' hs' q hq => by
    have sq := same_new hq (.tup [.ref L, V.str r', V.str s'])
    exact kk _ _ _ _ _ _ (hb.trans (.of sq)) ((hpx.same sq).mono hc) upd_same (show RW _ (.lst ds') (.ref L) from ⟨L, ys, rfl, mk1_at hLp (sq _ _ hLx), hys.same (mk1_but (.of sq))⟩) hok hr' hs'
  -- way and rows
  refine ⟨fun σ' H' => ∃ (w : Int) (L : Addr), But p H H' ∧ Purse H' p (n + 1) ∧ H L = none ∧ L ≠ p ∧ H' L = some (.lst zs) ∧ σ' = [some (.ref p), some (.ref t), some (.int w), some (.ref L), none, none, none, none], ?_, ?_⟩
  · refine ⟨_, rfl, p, 10, n, rfl, hp, by omega, by decide, by decide, fun w H1 w0 w1 hb1 hp1 => ?_⟩
    refine ⟨_, rfl, t, _, 0, _, rfl, rfl, SqT.of (hb1 _ _ htp ht), t0, l0, zs, rfl, .inl (SqL.of (hb1 _ _ hl0p hl0)), fun L hL => ?_⟩
    have sL := same_new hL (.lst zs)
    exact ⟨_, _, rfl, w, L, hb1.trans (.of sL), hp1.same sL, hb1.free hpo hp1.some hL, hp1.ne hL, upd_same, rfl⟩
  rintro _ H1 ⟨w, L, hb1, hp1, hL0, hLp, hL1, rfl⟩
  have st1 := SqT.of (K := K) (hb1 _ _ htp ht)
  have z1 : RWs (mk1 p H1) ds zs := hzs.same (mk1_but hb1)
  -- another order
  refine ⟨fun σ' H' => H' = H1 ∧ σ' = [some (.ref p), some (.ref t), some (.int w), some (.ref L), none, none, none, none], ?_, ?_⟩
  · refine ⟨_, rfl, rfl, _, rfl, ite2 (fun _ => ?_) (fun _ => ⟨rfl, rfl⟩)⟩
    refine ⟨_, rfl, _, rfl, t, _, 1, _, rfl, rfl, st1, t1, rfl, _, rfl, ite2 (fun _ => ?_) (fun _ => ?_)⟩
    · exact ⟨_, rfl, t, _, 2, _, rfl, rfl, st1, t2, by show 3 ≤ sizeLine; decide, out hb1 hp1 (by omega) hLp hL1 z1 hT (.inr rfl) hlo⟩
    · exact ⟨_, rfl, t, _, 2, _, rfl, rfl, st1, t2, by show 3 ≤ sizeLine; decide, out hb1 hp1 (by omega) hLp hL1 z1 hT (.inl rfl) hlo⟩
  rintro _ H2 ⟨rfl, rfl⟩
  refine ⟨fun σ' H' => H' = H2 ∧ σ' = [some (.ref p), some (.ref t), some (.int w), some (.ref L), none, none, none, none], ?_, ?_⟩
  · refine ⟨_, rfl, rfl, _, rfl, ite2 (fun _ => ?_) (fun _ => ⟨rfl, rfl⟩)⟩
    refine ⟨_, rfl, _, rfl, t, _, 1, _, rfl, rfl, st1, t1, _, rfl, t, _, 2, _, rfl, rfl, st1, t2, rfl, _, rfl, ite2 (fun _ => ?_) (fun _ => ?_)⟩
    · exact ⟨by show 3 ≤ sizeLine; decide, out hb1 hp1 (by omega) hLp hL1 z1 hT hro (.inl rfl)⟩
    · exact ⟨by show 3 ≤ sizeLine; decide, out hb1 hp1 (by omega) hLp hL1 z1 hT hro (.inr rfl)⟩
  rintro _ H3 ⟨rfl, rfl⟩
  -- any
  refine ⟨fun σ' H' => ds ≠ [] ∧ Same H3 H' ∧ σ' = [some (.ref p), some (.ref t), some (.int w), some (.ref L), none, none, none, none], ?_, ?_⟩
  · refine ⟨fun b H' => Same H3 H' ∧ (b = false → ds ≠ []), ?_, ?_⟩
    · refine ⟨_, rfl, rfl, _, rfl, ite2 (fun _ => ⟨Same.refl _, fun z => nomatch z⟩) (fun _ => ?_)⟩
      refine ⟨_, rfl, by show 0 ≤ sizeLine; decide, fun l1 hl1 => ?_⟩
      have s1 := same_new hl1 (.lst [])
      have e0 : PyData.eqv (toP (.lst ds)) (toP (.lst [])) = ds.isEmpty := by
        rw [eqv_deq (m := 1) _ _ hT.pl (pl_lst (n := 0) (ds := []) (by decide) (by simp)), deq]
        cases ds with
        | nil => rw [deqs]; rfl
        | cons q qs => rw [deqs]; rfl
      refine ⟨toP (.lst ds), toP (.lst []), RW.dp (show RW _ (.lst _) (.ref L) from ⟨L, zs, rfl, s1 _ _ hL1, hzs.same (up (hb1.trans (.of s1)))⟩), RW.dp (show RW _ (.lst []) (.ref l1) from ⟨l1, [], rfl, upd_same, rfl⟩), shaped_of hT.pl (by decide), shaped_of (n := 1) (pl_lst (n := 0) (ds := []) (by decide) (by simp)) (by decide), _, rfl, ?_⟩
      rw [e0]
      exact ⟨s1, fun z e => by rw [e] at z; cases z⟩
    rintro bb H4 ⟨hs4, hbb⟩
    refine ite2 (fun _ => ?_) (fun c => ⟨hbb (by simpa using c), hs4, rfl⟩)
    have hp4 := hp1.same hs4
    refine ⟨_, rfl, p, false, n + 1, rfl, hp4, by omega, fun t' ds' r' s' G N H5 hb5 hp5 ht5 hPl hG hok => ?_⟩
    obtain ⟨u, e, rp, hr', hs'⟩ := hPl
    exact kk _ _ _ _ _ _ ((hb1.trans (.of hs4)).trans hb5) (hp5.mono (by omega)) e (rep_mk hp5 rp fun z => by
      obtain ⟨o, eo⟩ := hp4.some
      rw [hG p z] at eo
      cases eo) hok.r hr' hs'
  rintro _ H4 ⟨hne, hs4, rfl⟩
  have ql : 0 < ds.length := by
    cases ds with
    | nil => exact absurd rfl hne
    | cons q qs => exact Nat.succ_pos _
  have hb4 := hb1.trans (.of hs4)
  have hp4 := hp1.same hs4
  have hL4 := hs4 _ _ hL1
  -- places
  refine ⟨fun σ' H' => ∃ i j : Nat, i < ds.length ∧ j < ds.length ∧ But p H H' ∧ Purse H' p (n + 3) ∧ H' L = some (.lst zs) ∧ σ' = [some (.ref p), some (.ref t), some (.int w), some (.ref L), some (.int (i : Int)), some (.int (j : Int)), none, none], ?_, ?_⟩
  · refine ⟨_, rfl, _, rfl, L, zs, rfl, .inl (SqL.of hL4), p, _, n + 1, rfl, hp4, by omega, by omega, by omega, fun d H5 d0 d1 hb5 hp5 => ?_⟩
    obtain ⟨i, rfl⟩ := Int.eq_ofNat_of_zero_le d0
    refine ⟨_, rfl, _, rfl, L, zs, rfl, .inl (SqL.of (hb5 _ _ hLp hL4)), p, _, n + 2, rfl, hp5, by omega, by omega, by omega, fun e H6 e0 e1 hb6 hp6 => ?_⟩
    obtain ⟨j, rfl⟩ := Int.eq_ofNat_of_zero_le e0
    exact ⟨_, _, rfl, i, j, by omega, by omega, (hb4.trans hb5).trans hb6, hp6, hb6 _ _ hLp (hb5 _ _ hLp hL4), rfl⟩
  rintro _ H5 ⟨i, j, hi, hj, hb5, hp5, hL5, rfl⟩
  have st5 := SqT.of (K := K) (hb5 _ _ htp ht)
  have sL5 := SqL.of (K := K) hL5
  have ei : ((i : Int) + 1) = ((i + 1 : Nat) : Int) := by omega
  have hx := List.getElem?_eq_getElem (show i < zs.length by omega)
  generalize zs[i]'(by omega) = x1 at hx
  obtain ⟨d1, hd1, r1⟩ := hzs.item hx
  have hy := List.getElem?_eq_getElem (show j < zs.length by omega)
  generalize zs[j]'(by omega) = x2 at hy
  obtain ⟨d2, hd2, r2⟩ := hzs.item hy
  have ok1 := hT.st d1 (List.mem_of_getElem? hd1)
  have ok2 := hT.st d2 (List.mem_of_getElem? hd2)
  -- one left out
  refine ⟨fun σ' H' => H' = H5 ∧ σ' = [some (.ref p), some (.ref t), some (.int w), some (.ref L), some (.int (i : Int)), some (.int (j : Int)), none, none], ?_, ?_⟩
  · refine ⟨_, rfl, rfl, _, rfl, ite2 (fun _ => ?_) (fun _ => ⟨rfl, rfl⟩)⟩
    refine ⟨_, rfl, _, rfl, _, rfl, L, zs, rfl, sL5, fun p1 hp1 => ?_⟩
    rw [cutV_pre]
    have s1 := same_new hp1 (.lst (zs.take i))
    refine ⟨_, rfl, _, rfl, _, _, rfl, rfl, _, rfl, L, zs, rfl, SqL.of (s1 _ _ hL5), fun p2 hp2 => ?_⟩
    rw [ei, cutV_post]
    have s2 := same_new hp2 (.lst (zs.drop (i + 1)))
    have sz : (zs.take i).length + (zs.drop (i + 1)).length ≤ 1000 := by
      rw [List.length_take, List.length_drop]
      omega
    refine ⟨p1, p2, _, _, rfl, rfl, s2 _ _ upd_same, upd_same, Nat.le_trans sz (by decide), fun p4 hp4 => ?_⟩
    have s4 := same_new hp4 (.lst (zs.take i ++ zs.drop (i + 1)))
    have s14 := (s1.trans s2).trans s4
    have hb14 := hb5.trans (.of s14)
    have st14 := SqT.of (K := K) (hb14 _ _ htp ht)
    refine ⟨_, rfl, t, _, 1, _, rfl, rfl, st14, t1, _, rfl, t, _, 2, _, rfl, rfl, st14, t2, by show 3 ≤ sizeLine; decide, ?_⟩
    refine out (ds' := ds.take i ++ ds.drop (i + 1)) hb14 (hp5.same s14) (by omega) ((hp5.same (s1.trans s2)).ne hp4) upd_same (((hzs.take i).app (hzs.drop (i + 1))).same (mk1_but hb14)) ⟨?_, fun q m => ?_⟩ hro hlo
    · rw [List.length_append, List.length_take, List.length_drop]
      omega
    · rcases List.mem_append.mp m with z | z
      · exact hT.st q (List.mem_of_mem_take z)
      · exact hT.st q (List.mem_of_mem_drop z)
  rintro _ H6 ⟨rfl, rfl⟩
  have butL : ∀ {Hx : Hp} {o : HO}, But p H Hx → But p H (upd Hx L o) := fun b c o nc e => by
    rw [upd_ne (ne_of_none e hL0)]
    exact b c o nc e
  have puL : ∀ {Hx : Hp} {c : Nat} {o : HO}, Purse Hx p c → Purse (upd Hx L o) p c := fun h => by
    obtain ⟨x1, x2, x3, e, r⟩ := h
    exact ⟨x1, x2, x3, by rw [upd_ne hLp.symm]; exact e, r⟩
  -- the rows changed
  refine ⟨fun σ' H' => ∃ (ys : List V) (ds' : List D) (v7 v8 : Option V), But p H H' ∧ Purse H' p (n + 700) ∧ H' L = some (.lst ys) ∧ RWs (mk1 p H') ds' ys ∧ PrR ds' ∧ σ' = [some (.ref p), some (.ref t), some (.int w), some (.ref L), some (.int (i : Int)), some (.int (j : Int)), v7, v8], ?_, ?_⟩
  rotate_left
  · rintro _ H7 ⟨ys, ds', v7, v8, hb7, hp7, hL7, hy7, hok, rfl⟩
    have st7 := SqT.of (K := K) (hb7 _ _ htp ht)
    exact ⟨_, rfl, _, rfl, t, _, 1, _, rfl, rfl, st7, t1, _, rfl, t, _, 2, _, rfl, rfl, st7, t2, by show 3 ≤ sizeLine; decide, out hb7 hp7 (by omega) hLp hL7 hy7 hok hro hlo⟩
  refine ⟨_, rfl, rfl, _, rfl, ite2 (fun _ => ?_) (fun _ => ?_)⟩
  · -- two exchanged
    refine ⟨fun σ' H' => H' = H6 ∧ σ' = [some (.ref p), some (.ref t), some (.int w), some (.ref L), some (.int (i : Int)), some (.int (j : Int)), some x1, some x2], ?_, ?_⟩
    · exact ⟨_, rfl, _, rfl, L, zs, _, x1, rfl, rfl, sL5, atI_nat hx, _, rfl, _, rfl, L, zs, _, x2, rfl, rfl, sL5, atI_nat hy, _, _, rfl, rfl, rfl⟩
    rintro _ H8 ⟨rfl, rfl⟩
    refine ⟨fun σ' H' => H' = upd H8 L (.lst (zs.set i x2)) ∧ σ' = [some (.ref p), some (.ref t), some (.int w), some (.ref L), some (.int (i : Int)), some (.int (j : Int)), some x1, some x2], ?_, ?_⟩
    · exact ⟨_, rfl, _, rfl, _, rfl, L, zs, _, i, rfl, rfl, hL5, Evl.ixN_nat (by omega), rfl, rfl⟩
    rintro _ H9 ⟨rfl, rfl⟩
    have hb10 := butL (o := .lst ((zs.set i x2).set j x1)) (butL (o := .lst (zs.set i x2)) hb5)
    have g := mk1_but hb10
    refine ⟨_, rfl, _, rfl, _, rfl, L, zs.set i x2, _, j, rfl, rfl, upd_same, Evl.ixN_nat (by rw [List.length_set]; omega), (zs.set i x2).set j x1, (ds.set i d2).set j d1, _, _, hb10, puL (puL (hp5.mono (by omega))), upd_same, RWs.put (r1.same g) j (RWs.put (r2.same g) i (hzs.same g)), ⟨by rw [List.length_set, List.length_set]; exact l20, fun q m => ?_⟩, rfl⟩
    rcases List.mem_or_eq_of_mem_set m with m | rfl
    · rcases List.mem_or_eq_of_mem_set m with m | rfl
      · exact hT.st q m
      · exact ok2
    · exact ok1
  refine ⟨_, rfl, _, _, rfl, rfl, _, rfl, ite2 (fun _ => ?_) (fun _ => ?_)⟩
  · -- one changed
    refine ⟨_, rfl, _, rfl, _, rfl, L, zs, _, _, rfl, rfl, sL5, atI_nat hx, p, mk1 p H, x1, d1, n + 3, rfl, hp5, by omega, up hb5, mk1_p, r1, ok1, fun u H8 d' hb8 hp8 ru hu => ?_⟩
    have hL8 := hb8 _ _ hLp hL5
    have hb08 := hb5.trans hb8
    refine ⟨_, rfl, _, rfl, L, zs, _, i, rfl, rfl, hL8, Evl.ixN_nat (by omega), zs.set i u, ds.set i d', _, _, butL hb08, puL (hp8.mono (by omega)), upd_same, RWs.put (ru.same fun c o e => ?_) i (hzs.same (mk1_but (butL hb08))), ⟨by rw [List.length_set]; exact l20, fun q m => ?_⟩, rfl⟩
    · obtain ⟨nc, c2, e2⟩ := gm_is e
      refine mk1_at nc ?_
      rw [upd_ne fun y => ?_]
      · exact e2
      · rw [y] at c2
        rcases c2 with c2 | ⟨o', c2⟩
        · rw [hL5] at c2
          cases c2
        · have := mk1_le _ _ c2
          rw [hL0] at this
          cases this
    · rcases List.mem_or_eq_of_mem_set m with m | rfl
      · exact hT.st q m
      · exact hu
  obtain ⟨nm, rr, xx, e1, _, _, _⟩ := ok1.x
  subst e1
  obtain ⟨a1, ws, rfl, ha1', w0, ws', rfl, hw0, _⟩ := id r1
  obtain ⟨rfl, _⟩ := hw0
  refine ⟨fun b H' => Same H6 H' ∧ (b = true → ds.length < 20), ?_, ?_⟩
  · refine ⟨_, rfl, rfl, _, rfl, ite2 (fun _ => ?_) (fun _ => ⟨Same.refl _, fun z => nomatch z⟩)⟩
    refine ⟨_, rfl, _, rfl, L, zs, _, _, rfl, rfl, sL5, atI_nat hx, a1, _, 0, _, rfl, rfl, SqT.of (up hb5 _ _ ha1'), atI_nat (j := 0) rfl, rfl, _, rfl, ?_⟩
    refine ite2 (fun _ => ?_) (fun _ => ⟨Same.refl _, fun z => nomatch z⟩)
    exact ⟨_, rfl, L, zs, rfl, .inl sL5, _, _, rfl, rfl, _, rfl, Same.refl _, fun z => by
      have z' : (zs.length : Int) < 20 := of_decide_eq_true z
      omega⟩
  rintro bb H7 ⟨hs7, hbb⟩
  have hb7 := hb5.trans (.of hs7)
  have hp7 := hp5.same hs7
  have hL7 := hs7 _ _ hL5
  refine ite2 (fun c => ?_) (fun _ => ⟨zs, ds, _, _, hb7, hp7.mono (by omega), hL7, hzs.same (mk1_but hb7), hT, rfl⟩)
  have lt := hbb c
  have hbI := butL (o := .lst (zs.take j ++ [V.ref a1] ++ zs.drop j)) hb7
  have g := mk1_but hbI
  refine ⟨_, rfl, .inl ⟨rfl, _, SqL.of hL7⟩, _, rfl, _, rfl, _, rfl, L, zs, _, _, rfl, rfl, SqL.of hL7, atI_nat hx, L, zs, _, _, rfl, rfl, hL7, Nat.lt_of_le_of_lt (show zs.length ≤ 1000 by omega) (by decide), by omega, by omega, ?_⟩
  rw [Int.toNat_natCast]
  refine ⟨zs.take j ++ [V.ref a1] ++ zs.drop j, ds.take j ++ [.tup [S nm, rr, xx]] ++ ds.drop j, _, _, hbI, puL (hp7.mono (by omega)), upd_same, (((hzs.take j).same g).app (rws_cons (r1.same g) rws_nil)).app ((hzs.drop j).same g), ⟨?_, fun q m => ?_⟩, rfl⟩
  · rw [List.length_append, List.length_append, List.length_take, List.length_drop]
    show _ + 1 + _ ≤ 20
    omega
  · rcases List.mem_append.mp m with m | m
    · rcases List.mem_append.mp m with m | m
      · exact hT.st q (List.mem_of_mem_take m)
      · rw [List.mem_singleton.mp m]
        exact ok1
    · exact hT.st q (List.mem_of_mem_drop m)
end
end K02
set_option Elab.async false
set_option linter.all false
set_option maxRecDepth 100000
set_option maxHeartbeats 2000000
/-! == with an own object on the right: told by its own __eq__ where the left one's type knows nothing of it. -/
namespace FEq
open PySem PySem.W Builtin PySem.SeqAt
open AutoSeq1 (wpAny_loadPart')
open MeetsSeq
section
variable {prog : Program} {w : World} {A : Around} {E : Value → Shared → Prop} {s : Shared} {K : PySem.W.Frag} {x C f : Addr} {ox : Obj} {od : Option Obj} {u : Value} {T id : String}
theorem cmpR_K {Q : Value → Shared → Prop} (hu : A.units < cLine) (X : K.In s.heap) (I : InstAt s.heap x ox C od) (hT : s.TypeIs u T) (hm : mroIn K C (.type T) = some false) (hS : Slot T "__eq__" id)
    (hs : findIn K (.ref C) "__eq__" = some (some (.ref f))) (hf : isFn K (.ref f) = true)
    (hd : ∀ Q' : Value → Shared → Prop, Q' .notImplemented s → wpAny (model prog w) A (call (.builtin id) [u, .ref x]) Q' E s)
    (h : wpAny (model prog w) A (call (.ref f) [.ref x, u]) (CmpBack Q) E s) : wpAny (model prog w) A (richCompare .Eq u (.ref x)) Q E s := by
  have one : wpAny (model prog w) A (tryCompare (.ref x) "__eq__" u) (fun r s' => ∃ v, r = some v ∧ Q v s') E s := by
    unfold tryCompare
    refine wpAny_bind (ifBound_K X I hs hf (wpAny_mono h (fun v s' hv => ?_) fun _ _ e => e))
    cases v <;> first | exact hv.elim | exact wpAny_pure ⟨_, rfl, hv⟩
  have hi : cmpInfo .Eq = (("==", "__eq__", "__eq__") : String × Str × Str) := rfl
  simp only [richCompare, hi, hT.oneThing_none]
  try with_reducible refine wpAny_holding ?_
  refine wpAny_bind (wpAny_cRoomFor hu ?_)
  refine wpAny_bind (wpAny_typeOf hT (wpAny_bind (I.type.here ?_)))
  have ne : (Value.type T != Value.ref C) = true := rfl
  simp only [ne, if_true]
  refine wpAny_bind ((looks_mroIn X hm).here ?_)
  simp only [Bool.false_eq_true, if_false, Bool.not_false, if_true]
  refine wpAny_bind (m := tryCompare u _ (.ref x)) (wpAny_tryCompare_declines hT hS (hd _ ⟨rfl, ?_⟩))
  refine wpAny_bind (wpAny_mono one (fun r s' z => ?_) fun _ _ e => e)
  obtain ⟨v, rfl, hq⟩ := z
  exact wpAny_pure hq
end
def NoSeq (T : String) (x : Addr) : PySem.Heap → Prop := fun h => ∀ M : Model, Looks M h (isInstance (.ref x) (.type T)) false
theorem list_eq_own (l x : Addr) : Meets (Builtin.«list.__eq__» ⟨[.ref l, .ref x], []⟩) (fun _ R s => NoSeq "list" x s.heap ∧ R (.ok (.ret .notImplemented)) s) :=
  .of_wp fun prog w A R s h => by
    obtain ⟨hl, h⟩ := h
    have f1 : ∀ {M : Model} {A : Around} {E : Value → Shared → Prop} {Q : Bool → Shared → Prop}, Q false s → wpAny M A (isInstance (.ref x) (.type "list")) Q E s := fun q => (hl _).here q
    wp_walk using f1
    exact ⟨_, rfl, h⟩
theorem tuple_eq_own (l x : Addr) : Meets (Builtin.«tuple.__eq__» ⟨[.ref l, .ref x], []⟩) (fun _ R s => NoSeq "tuple" x s.heap ∧ R (.ok (.ret .notImplemented)) s) :=
  .of_wp fun prog w A R s h => by
    obtain ⟨hl, h⟩ := h
    have f1 : ∀ {M : Model} {A : Around} {E : Value → Shared → Prop} {Q : Bool → Shared → Prop}, Q false s → wpAny M A (isInstance (.ref x) (.type "tuple")) Q E s := fun q => (hl _).here q
    wp_walk using f1
    exact ⟨_, rfl, h⟩
theorem int_eq_own (b : Int) (u : Tok) (x C dx : Addr) : Meets (Builtin.«int.__eq__» ⟨[.int b u, .ref x], []⟩) (fun _ R s => s.heap.get? x = some (PySem.W.instObj C dx) ∧ R (.ok (.ret .notImplemented)) s) :=
  .of_wp fun prog w A R s h => by obtain ⟨hp, g, d, tk, os⟩ := s; obtain ⟨hl, h⟩ := h; wp_walk using wpAny_loadPart' hl, wpAny_load hl; exact ⟨_, rfl, h⟩
theorem str_eq_own (b : Str) (u : Tok) (x C dx : Addr) : Meets (Builtin.«str.__eq__» ⟨[.str b u, .ref x], []⟩) (fun _ R s => s.heap.get? x = some (PySem.W.instObj C dx) ∧ R (.ok (.ret .notImplemented)) s) :=
  .of_wp fun prog w A R s h => by obtain ⟨hp, g, d, tk, os⟩ := s; obtain ⟨hl, h⟩ := h; wp_walk using wpAny_loadPart' hl, wpAny_load hl; exact ⟨_, rfl, h⟩
end FEq
namespace L2
open PySem PySem.Spec PyProof.Rows
/-- what the class does not come from -/
structure NotC (K : PySem.W.Frag) (C : Addr) : Prop where
  non : PySem.W.mroIn K C (.type "NoneType") = some false
  int : PySem.W.mroIn K C (.type "int") = some false
  str : PySem.W.mroIn K C (.type "str") = some false
  lst : PySem.W.mroIn K C (.type "list") = some false
  tup : PySem.W.mroIn K C (.type "tuple") = some false
/-- a value of a built-in type -/
def Blt (H : Hp) (y : V) : Prop := y = .non ∨ (∃ i, y = .int i) ∨ (∃ z, y = .str z) ∨ ∃ a xs, y = .ref a ∧ (H a = some (.lst xs) ∨ H a = some (.tup xs))
def rRefEq (C : Addr) (sp : Sp) (E : XK) : R2 := fun y x H Q => ∃ a dx fs, x = .ref a ∧ H a = some (.ins C dx fs) ∧ Blt H y ∧ sp [.ref a, y] H (fun v H' => ∃ c, v = .bl c ∧ Q (.bl c) H') E
section
variable {X : Cx} {CX : CXT} {k : Nat} {f C : Addr} {fd : FuncData} {ps : List Str} {sp : Sp} {E : XK}
theorem op_refEq (Z : EqC X.K C f) (N : NotC X.K C) (F : FnOk X.prog X.w X.K X.mg X.base CX k f fd ps sp) (hr : Room k X.A) (hb : Binds X.K fd ps []) (hx : Passes CX X E) : OpR X (compareOp .Eq) (rRefEq C sp E) := by
  intro pins s σ H y x u v Q I ry rx h
  obtain ⟨a, dx, fs, rfl, ha, ty, h⟩ := h
  cases rx
  obtain ⟨mA, J, _⟩ := ins_get I.hok ha
  have J0 := J
  obtain ⟨od, J, _⟩ := J.look
  show wpAny (model X.prog X.w) X.A (richCompare .Eq u (.ref a)) (EP X pins σ Q) X.xe s
  have hq := wpAny_mono (run_at F ⟨hr, rfl⟩ hb hx I (.cons (show RelV (V.ref a) (Value.ref a) from rfl) (.cons ry .nil)) h) (fun v s' q => (show PySem.W.CmpBack (EP X pins σ Q) v s' from by
    obtain ⟨z, H', I', rz, c, rfl, q⟩ := q
    cases rz
    exact ⟨.bl c, H', I', rfl, q⟩)) fun _ _ e => e
  have nos : ∀ {T : String}, PySem.W.mroIn X.K C (.type T) = some false → FEq.NoSeq T a s.heap := fun e M => J.type.andThen (PySem.W.looks_mroIn I.kIn e)
  rcases ty with rfl | ⟨i, rfl⟩ | ⟨z, rfl⟩ | ⟨l, xs, rfl, e | e⟩
  · cases (show u = Value.none from ry)
    exact FEq.cmpR_K (T := "NoneType") hr.units0 I.kIn J rfl N.non PySem.F.slot_NoneType_eq Z.eq Z.fn (fun _ q => call_gives PySem.F.slot_NoneType_eq rfl PySem.F.entry_NoneType_eq (PySem.F.args_NoneType_eq_2 _ _) (PySem.SeqAt.NoneType___eq___none_ref_0 a) q) hq
  · obtain ⟨t, q⟩ := (show ∃ t, u = Value.int i t from ry)
    cases q
    exact FEq.cmpR_K (T := "int") hr.units0 I.kIn J (typeIs_int _ _ _) N.int PySem.F.slot_int_eq Z.eq Z.fn (fun _ q => call_meets PySem.F.slot_int_eq (typeIs_int _ _ _) PySem.F.entry_int_eq (PySem.F.args_int_eq_2 _ _) (FEq.int_eq_own i t a C dx) ⟨J0.obj, q⟩) hq
  · obtain ⟨t, q⟩ := (show ∃ t, u = Value.str z t from ry)
    cases q
    exact FEq.cmpR_K (T := "str") hr.units0 I.kIn J (typeIs_str _ _ _) N.str PySem.F.slot_str_eq Z.eq Z.fn (fun _ q => call_meets PySem.F.slot_str_eq (typeIs_str _ _ _) PySem.F.entry_str_eq (PySem.F.args_str_eq_2 _ _) (FEq.str_eq_own z t a C dx) ⟨J0.obj, q⟩) hq
  · cases (show u = Value.ref l from ry)
    obtain ⟨_, _, n, _, h1⟩ := (show ObjOk X.prog X.w H s.heap l (.lst xs) from I.hok l _ e)
    exact FEq.cmpR_K (T := "list") hr.units0 I.kIn J ⟨_, h1, rfl⟩ N.lst PySem.F.slot_list_eq Z.eq Z.fn (fun _ q => call_meets PySem.F.slot_list_eq ⟨_, h1, rfl⟩ PySem.F.entry_list_eq (PySem.F.args_list_eq_2 _ _) (FEq.list_eq_own l a) ⟨nos N.lst, q⟩) hq
  · cases (show u = Value.ref l from ry)
    obtain ⟨_, _, _, o, h1, h2, _⟩ := (show ObjOk X.prog X.w H s.heap l (.tup xs) from I.hok l _ e)
    exact FEq.cmpR_K (T := "tuple") hr.units0 I.kIn J ⟨o, h1, h2⟩ N.tup PySem.F.slot_tuple_eq Z.eq Z.fn (fun _ q => call_meets PySem.F.slot_tuple_eq ⟨o, h1, h2⟩ PySem.F.entry_tuple_eq (PySem.F.args_tuple_eq_2 _ _) (FEq.tuple_eq_own l a) ⟨nos N.tup, q⟩) hq
end
end L2
set_option Elab.async false
set_option linter.all false
set_option maxRecDepth 100000
set_option maxHeartbeats 4000000
namespace K02
open PySem L2 PyProof.Rows
abbrev sPInit : Stmt := inClass sPat2 0
abbrev sPEq : Stmt := inClass sPat2 7
theorem rbs_all : ∀ {ds es : List D}, (∀ d ∈ ds, ∀ e ∈ es, Rb d e) → Rbs ds es
  | [], _, _ => by rw [Rbs]; trivial
  | _ :: _, [], _ => by rw [Rbs]; trivial
  | d :: ds, e :: es, h => by
    rw [Rbs]
    exact ⟨h d List.mem_cons_self e List.mem_cons_self, rbs_all fun x hx y hy => h x (List.mem_cons_of_mem _ hx) y (List.mem_cons_of_mem _ hy)⟩
theorem rb_tm_pt {n : Nat} {d e : D} (h1 : TmOk 5 d) (h2 : PtOk n e) : Rb d e := by
  cases n with
  | zero => exact h2.elim
  | succ m =>
  rcases h2 with rfl | ⟨z, hz, rfl⟩ | ⟨row, qs, r, rfl, hr, hl, hq, hf⟩
  · exact rb_noN _ _ (non_tup fun e he => by
      simp at he
      rw [he]
      exact non_str)
  · exact rb_noN _ _ (non_tup fun e he => by
      simp at he
      rcases he with rfl | rfl <;> exact non_str)
  rcases h1 with ⟨i, hi, rfl⟩ | ⟨z, hz, rfl⟩ | ⟨z, ts, hz, rfl, hl5, ht⟩
  · rw [Rb]; exact fun z => nomatch z
  · rw [Rb]; exact fun z => nomatch z
  rw [Rb]
  refine fun _ => ?_
  rw [Rbs, Rbs, Rbs, Rbs]
  refine ⟨rb_noN _ _ non_str, by rw [Rb]; trivial, ?_, trivial⟩
  rcases hr with rfl | ⟨y, hy, rfl⟩
  · rw [Rb]
    refine fun _ => ⟨?_, fun i z => nomatch z⟩
    have hw := weights_le (c := tmW 4) fun t m => (ht t m).wt
    have hw2 : ts.length * (tmW 4 + 1) ≤ 3 * (tmW 4 + 1) := Nat.mul_le_mul_right _ hl5
    rw [toP, PyData.weight]
    exact Nat.le_trans (Nat.le_trans hw hw2) (by decide)
  · exact rb_noN _ _ non_str
theorem pt_tup : ∀ {n : Nat} {d : D}, PtOk n d → ∃ ds, d = .tup ds
  | 0, _, h => h.elim
  | n + 1, d, h => by
    rcases h with rfl | ⟨z, hz, rfl⟩ | ⟨row, qs, r, rfl, _⟩ <;> exact ⟨_, rfl⟩
theorem tm_tup {n : Nat} {d : D} (h : TmOk n d) : ∃ ds, d = .tup ds := by
  cases n with
  | zero => exact h.elim
  | succ n => rcases h with ⟨_, _, rfl⟩ | ⟨_, _, rfl⟩ | ⟨_, _, _, rfl, _⟩ <;> exact ⟨_, rfl⟩
theorem rb_stx {nm nm2 : String} {x x2 : D} (h : StX nm x) (h2 : StX nm2 x2) : Rb x x2 := by
  rcases h2 with ⟨_, t2⟩ | ⟨_, q2⟩ | ⟨_, qs2, l2, q2, rfl⟩
  · exact rb_noN _ _ t2.non
  · rcases h with ⟨_, t⟩ | ⟨_, q⟩ | ⟨_, qs, l, q, rfl⟩
    · exact rb_tm_pt t q2
    · exact rb_pt q q2
    · obtain ⟨ds, rfl⟩ := pt_tup q2
      rw [Rb]; trivial
  · rcases h with ⟨_, t⟩ | ⟨_, q⟩ | ⟨_, qs, l, q, rfl⟩
    · obtain ⟨ds, rfl⟩ := tm_tup t
      rw [Rb]; trivial
    · obtain ⟨ds, rfl⟩ := pt_tup q
      rw [Rb]; trivial
    · rw [Rb]
      exact fun _ => rbs_all fun d hd e he => rb_pt (q d hd) (q2 e he)
theorem rb_st {d e : D} (h : StOk d) (h2 : StOk e) : Rb d e := by
  obtain ⟨nm, r, x, rfl, hr, _, hx⟩ := h.x
  obtain ⟨nm2, r2, x2, rfl, hr2, _, hx2⟩ := h2.x
  rw [Rb]
  refine fun _ => ?_
  rw [Rbs, Rbs, Rbs, Rbs]
  exact ⟨rb_noN _ _ non_str, rb_opt hr hr2, rb_stx hx hx2, trivial⟩
theorem peq_comm {d d2 : D} {r s r2 s2 : Str} : peq d r s d2 r2 s2 = peq d2 r2 s2 d r s := by
  unfold peq
  rw [deq_comm d d2, show decide (V.str r = V.str r2) = decide (V.str r2 = V.str r) from by rw [Bool.eq_iff_iff]; simp only [decide_eq_true_eq]; exact eq_comm, show decide (V.str s = V.str s2) = decide (V.str s2 = V.str s) from by rw [Bool.eq_iff_iff]; simp only [decide_eq_true_eq]; exact eq_comm]
theorem peq_self {d : D} {r s : Str} : peq d r s d r s = true := by
  unfold peq
  rw [deq_self, decide_eq_true rfl, decide_eq_true rfl]
  rfl
theorem deq_plan {d d2 : D} {r s r2 s2 : Str} : deq (.tup [d, .leaf (.str r), .leaf (.str s)]) (.tup [d2, .leaf (.str r2), .leaf (.str s2)]) = peq d r s d2 r2 s2 := by
  unfold peq
  rw [deq, deqs, deqs, deqs, deqs, deq, deq, Bool.and_true]
theorem lf_ord {r : Str} (h : okOrd r) : Lf (.str r) := by
  rcases h with rfl | rfl <;> exact lf_S (by decide +kernel)
theorem lf_lck {r : Str} (h : okLck r) : Lf (.str r) := by
  rcases h with rfl | rfl <;> exact lf_S (by decide +kernel)
theorem plan_pl {ds : List D} {r s : Str} (h : PrR ds) (hr : okOrd r) (hs : okLck s) : Pl 36 (.tup [.lst ds, .leaf (.str r), .leaf (.str s)]) := by
  refine pl_tup (n := 35) (by show 3 ≤ 1000; decide) fun e he => ?_
  simp at he
  rcases he with rfl | rfl | rfl
  · exact h.pl
  · exact pl_leaf (lf_ord hr)
  · exact pl_leaf (lf_lck hs)
theorem plan_rb {d d2 : List D} {r s r2 s2 : Str} (h : PrR d) (h2 : PrR d2) : Rb (.tup [.lst d, .leaf (.str r), .leaf (.str s)]) (.tup [.lst d2, .leaf (.str r2), .leaf (.str s2)]) := by
  rw [Rb]
  refine fun _ => ?_
  rw [Rbs, Rbs, Rbs, Rbs]
  refine ⟨?_, rb_noN _ _ non_str, rb_noN _ _ non_str, trivial⟩
  rw [Rb]
  exact fun _ => rbs_all fun d hd e he => rb_st (h.st d hd) (h2.st e he)
theorem PatAt.same {C o : Addr} {H H1 : Hp} {d : D} {r s : Str} {G : List Addr} (h : PatAt C H o d r s G) (sm : Same H H1) : PatAt C H1 o d r s G := by
  obtain ⟨dx, v, e, q⟩ := h
  exact ⟨dx, v, sm _ _ e, q.same sm⟩
theorem pat_mk {C p o : Addr} {H : Hp} {n : Nat} {d : D} {r s : Str} {G : List Addr} (hp : Purse H p n) (h : PatAt C H o d r s G) (hG : p ∉ G) : PatAt C (mk1 p H) o d r s G := by
  obtain ⟨dx, v, e, q⟩ := h
  exact ⟨dx, v, (mk1_kp hp).there e (fun _ z => nomatch z), q.kp (mk1_kp hp) fun a ha z => hG (z ▸ ha)⟩
/-- what is no program: of a type that does not come from the class -/
structure OthC (K : PySem.W.Frag) (C : Addr) : Prop where
  kit : ∀ t ∈ ["NoneType", "int", "str", "list", "tuple"], PySem.W.kitOne K (.type t) (.ref C) = some false
  nf : ∀ t ∈ ["NoneType", "int", "str", "list", "tuple"], PySem.W.notFirst K C (.type t) = true
theorem _root_.L2.Blt.ty {K : PySem.W.Frag} {H : Hp} {y : V} (h : Blt H y) : ∃ t ∈ ["NoneType", "int", "str", "list", "tuple"], TyX K H y (.type t) := by
  rcases h with rfl | ⟨i, rfl⟩ | ⟨z, rfl⟩ | ⟨l, xs, rfl, e | e⟩
  · exact ⟨"NoneType", by simp, .base .non⟩
  · exact ⟨"int", by simp, .base (.int i)⟩
  · exact ⟨"str", by simp, .base (.str _)⟩
  · exact ⟨"list", by simp, .base (.lst e)⟩
  · exact ⟨"tuple", by simp, .base (.tup e)⟩
theorem _root_.L2.Blt.same {H H1 : Hp} {y : V} (h : Blt H y) (s : Same H H1) : Blt H1 y := by
  rcases h with rfl | ⟨i, rfl⟩ | ⟨z, rfl⟩ | ⟨l, xs, rfl, e | e⟩
  · exact .inl rfl
  · exact .inr (.inl ⟨i, rfl⟩)
  · exact .inr (.inr (.inl ⟨z, rfl⟩))
  · exact .inr (.inr (.inr ⟨l, xs, rfl, .inl (s _ _ e)⟩))
  · exact .inr (.inr (.inr ⟨l, xs, rfl, .inr (s _ _ e)⟩))
section
variable {C o : Addr} {K : PySem.W.Frag} {H : Hp} {d : D} {r s : Str} {G : List Addr} {Q : VK}
theorem eq_at (CC : PCls K C) (IC : InsC K C) {o2 : Addr} {d2 : D} {r2 s2 : Str} {G2 : List Addr} (p1 : PatAt C H o d r s G) (p2 : PatAt C H o2 d2 r2 s2 G2) (h1 : Pl 50 d) (h2 : Pl 50 d2) (k : Q (.bl (peq d r s d2 r2 s2)) H) : rOwnEq K C (spEqP K C) E0 (.ref o) (.ref o2) H Q := by
  obtain ⟨dx, v, e, q⟩ := id p1
  obtain ⟨dx2, v2, e2, q2⟩ := id p2
  exact ⟨o, dx, _, _, rfl, e, .base (.ins e2 CC.cl IC.ha IC.hn IC.htk IC.hm), by simp [PySem.W.notFirst], o, _, d, r, s, G, rfl, p1, h1, .inl ⟨o2, d2, r2, s2, G2, rfl, p2, h2, _, rfl, k⟩⟩
theorem ne_at (CC : PCls K C) (IC : InsC K C) {o2 : Addr} {d2 : D} {r2 s2 : Str} {G2 : List Addr} (p1 : PatAt C H o d r s G) (p2 : PatAt C H o2 d2 r2 s2 G2) (h1 : Pl 50 d) (h2 : Pl 50 d2) (k : Q (.bl (!peq d r s d2 r2 s2)) H) : rOwnNe K C (spEqP K C) E0 (.ref o) (.ref o2) H Q := by
  obtain ⟨dx, v, e, q⟩ := id p1
  obtain ⟨dx2, v2, e2, q2⟩ := id p2
  exact ⟨o, dx, _, _, rfl, e, .base (.ins e2 CC.cl IC.ha IC.hn IC.htk IC.hm), by simp [PySem.W.notFirst], o, _, d, r, s, G, rfl, p1, h1, .inl ⟨o2, d2, r2, s2, G2, rfl, p2, h2, _, rfl, k⟩⟩
theorem eq_ot (OC : OthC K C) {y : V} (p1 : PatAt C H o d r s G) (h1 : Pl 50 d) (hy : Blt H y) (k : Q (.bl false) H) : rOwnEq K C (spEqP K C) E0 (.ref o) y H Q := by
  obtain ⟨dx, v, e, q⟩ := id p1
  obtain ⟨t, ht, ty⟩ := hy.ty (K := K)
  exact ⟨o, dx, _, _, rfl, e, ty, OC.nf t ht, o, _, d, r, s, G, rfl, p1, h1, .inr ⟨_, ty, OC.kit t ht, _, rfl, k⟩⟩
theorem ne_ot (OC : OthC K C) {y : V} (p1 : PatAt C H o d r s G) (h1 : Pl 50 d) (hy : Blt H y) (k : Q (.bl true) H) : rOwnNe K C (spEqP K C) E0 (.ref o) y H Q := by
  obtain ⟨dx, v, e, q⟩ := id p1
  obtain ⟨t, ht, ty⟩ := hy.ty (K := K)
  exact ⟨o, dx, _, _, rfl, e, ty, OC.nf t ht, o, _, d, r, s, G, rfl, p1, h1, .inr ⟨_, ty, OC.kit t ht, _, rfl, k⟩⟩
theorem ref_ot (OC : OthC K C) {y : V} (p1 : PatAt C H o d r s G) (h1 : Pl 50 d) (hy : Blt H y) (k : Q (.bl false) H) : rRefEq C (spEqP K C) E0 y (.ref o) H Q := by
  obtain ⟨dx, v, e, q⟩ := id p1
  obtain ⟨t, ht, ty⟩ := hy.ty (K := K)
  exact ⟨o, dx, _, rfl, e, hy, o, _, d, r, s, G, rfl, p1, h1, .inr ⟨_, ty, OC.kit t ht, _, rfl, k⟩⟩
end
/-! ### the other class -/
structure PCls2 (K : PySem.W.Frag) (C : Addr) : Prop where
  cl : Cls K C
  nP : NoAttr K C "_part"
  nO : NoAttr K C "_order"
  nL : NoAttr K C "_lacks"
def spPInit (C : Addr) : Sp := fun vs H Q _ => ∃ (x dx : Addr) (v : V) (r s : Str) (d : D), vs = [.ref x, v, .str r, .str s] ∧ H x = some (.ins C dx []) ∧ RW H d v ∧ PtOk 8 d ∧ okOrd r ∧ okLck s ∧
  ∀ H' fs, But x H H' → H' x = some (.ins C dx fs) → Q .non H'
/-- two classes apart -/
structure TwoC (K : PySem.W.Frag) (C C2 : Addr) : Prop where
  k12 : PySem.W.kitOne K (.ref C2) (.ref C) = some false
  k21 : PySem.W.kitOne K (.ref C) (.ref C2) = some false
  n12 : PySem.W.notFirst K C (.ref C2) = true
  n21 : PySem.W.notFirst K C2 (.ref C) = true
def spPEq (K : PySem.W.Frag) (C : Addr) : Sp := fun vs H Q _ => ∃ (o : Addr) (y : V) (t : Value), vs = [.ref o, y] ∧ TyX K H y t ∧ PySem.W.kitOne K t (.ref C) = some false ∧ Q (.bl false) H
theorem pe_never {X : Cx} {e : Expr} : PE X e (fun _ _ _ => False) := ⟨fun _ _ _ _ _ _ h => h.elim⟩
theorem op_either {X : Cx} {op : Value → Value → Sem Value} {R1 R2' : R2} (h1 : OpR X op R1) (h2 : OpR X op R2') : OpR X op (fun x y H Q => R1 x y H Q ∨ R2' x y H Q) := fun pins s σ H x y v u Q I rx ry h => by
  rcases h with h | h
  · exact h1 pins s σ H x y v u Q I rx ry h
  · exact h2 pins s σ H x y v u Q I rx ry h
section
variable {P : Program} {w : World} {K : PySem.W.Frag} {mg : Str → Option Value} {base : Heap}
theorem scPIn : FnScope ["self", "part", "order", "lacks"] ["self", "part", "order", "lacks"] (defScope sPInit) := ⟨rfl, rfl, rfl, by decide +kernel, rfl, by decide +kernel, by decide +kernel⟩
theorem ok_pinit {f C fP fU fF : Addr} {fd fdP fdU fdF : FuncData} (F : Fun K "__init__" "Pattern.__init__" sPInit f fd) (CC : PCls2 K C)
    (FP : Fun K "check_part" "check_part" sCkPart fP fdP) (GP : FnOk P w K mg base CX0 24 fP fdP ["part"] (spCkPart 24)) (bP : Binds K fdP ["part"] []) (mP : mg "check_part" = some (.ref fP))
    (FU : Fun K "check_rules" "check_rules" sCkRules fU fdU) (GU : FnOk P w K mg base CX0 1 fU fdU ["order", "lacks"] spCkRules) (bU : Binds K fdU ["order", "lacks"] []) (mU : mg "check_rules" = some (.ref fU))
    (FF : Fun K "fresh" "fresh" sFresh fF fdF) (GF : FnOk P w K mg base CX0 40 fF fdF ["thing"] (spCopy 40)) (bF : Binds K fdF ["thing"] []) (mF : mg "fresh" = some (.ref fF)) : FnOk P w K mg base CX0 41 f fd ["self", "part", "order", "lacks"] (spPInit C) := by
  refine F.ok scPIn (fun vs H Q E h => ?_) (fun cdv A outer s H vs Q E hr h => ?_)
  · obtain ⟨x, dx, v, r, s, d, rfl, _⟩ := h
    rfl
  obtain ⟨x, dx, v, r, s, d, rfl, hx, hR, hT, ho, hc, kk⟩ := h
  have hr1 := hr.mono (show 1 ≤ 40 by decide)
  have hr24 := hr.mono (show 24 ≤ 40 by decide)
  refine ⟨_, pss_cons (ps_expr (pe_call GP hr24 rfl mP FP.kp bP .nil pass0 (pa_cons (pv 1) pa_nil)))
    (pss_cons (ps_expr (pe_call GU hr1 rfl mU FU.kp bU .nil pass0 (pa_cons (pv 2) (pa_cons (pv 3) pa_nil))))
    (pss_cons (ps_fld (pv 0) (pe_call GF hr rfl mF FF.kp bF .nil pass0 (pa_cons (pv 1) pa_nil)) rfl)
    (pss_cons (ps_fld (pv 0) (pv 2) rfl) (pss_one (ps_fld (pv 0) (pv 3) rfl))))), ?_⟩
  refine ⟨_, rfl, v, d, 8, rfl, hR, hT, by decide, fun H1 hs1 => ⟨_, rfl, _, rfl, r, s, rfl, ho, hc, fun H2 hs2 => ?_⟩⟩
  have hs12 := hs1.trans hs2
  refine ⟨_, rfl, v, d, 34, rfl, by decide, hR.same hs12, hT.fits, fun u H3 G hs3 hr3 hG => ?_⟩
  have hs123 := hs12.trans hs3
  have hx3 := hs123 _ _ hx
  refine ⟨_, rfl, x, C, dx, [], rfl, hx3, CC.cl, CC.nP, (by show 0 < 1000; decide), _, rfl, _, rfl, x, C, dx, _, rfl, upd_same, CC.cl, CC.nO, (by show 1 < 1000; decide), _, rfl, _, rfl, x, C, dx, _, rfl, upd_same, CC.cl, CC.nL, (by show 2 < 1000; decide), ?_⟩
  refine kk _ _ ((But.of hs123).trans fun b o n e => ?_) upd_same
  rw [upd_ne n, upd_ne n, upd_ne n]
  exact e
theorem scPEq : FnScope ["self", "other"] ["self", "other"] (defScope sPEq) := ⟨rfl, rfl, rfl, by decide +kernel, rfl, by decide +kernel, by decide +kernel⟩
theorem ok_peq {f C : Addr} {fd : FuncData} (F : Fun K "__eq__" "Pattern.__eq__" sPEq f fd) (T : Txt K mg) (mP : mg "Pattern" = some (.ref C)) : FnOk P w K mg base CX0 1 f fd ["self", "other"] (spPEq K C) := by
  refine F.ok scPEq (fun vs H Q E h => ?_) (fun cdv A outer s H vs Q E hr h => ?_)
  · obtain ⟨o, y, t, rfl, _⟩ := h
    rfl
  obtain ⟨o, y, t, rfl, ty, kt, kk⟩ := h
  refine ⟨_, pss_one (ps_ret (pe_and (pe_callB call_isi (by rfl) T.isi boot_isinstance (pa_cons (pv 1) (pa_cons (pe_glob (v := .ref C) rfl mP rfl) pa_nil))) pe_never)), ?_⟩
  exact ⟨_, rfl, y, _, _, _, _, rfl, .own _, ty, kt, _, rfl, iteF kk⟩
end
end K02
set_option Elab.async false
set_option linter.all false
set_option maxRecDepth 100000
set_option maxHeartbeats 4000000
namespace K02
open PySem L2 PyProof.Rows
def cR : Nat := cPl + 4 * (cRv + 10) + 100
theorem cR_eq : cR = cPl + 4 * (cRv + 10) + 100 := rfl
def spRight : Sp := fun vs H Q _ => ∃ (p : Addr) (n : Nat), vs = [.ref p] ∧ Purse H p n ∧ n + cR < 10 ^ 60 ∧ ∀ H', But p H H' → Purse H' p (n + cR) → Q (.bl true) H'
/-- a plan in the heap -/
structure PlR (p : Addr) (H : Hp) (t : Addr) (v : V) (ds : List D) (r s : Str) : Prop where
  ne : t ≠ p
  at_ : H t = some (.tup [v, .str r, .str s])
  rw_ : RW (mk1 p H) (.lst ds) v
  ok : PrR ds
  ro : okOrd r
  lo : okLck s
theorem PlR.but {p t : Addr} {H H1 : Hp} {v : V} {ds : List D} {r s : Str} (h : PlR p H t v ds r s) (b : But p H H1) : PlR p H1 t v ds r s := ⟨h.ne, b _ _ h.ne h.at_, h.rw_.same (mk1_but b), h.ok, h.ro, h.lo⟩
theorem PlR.rwt {p t : Addr} {H : Hp} {v : V} {ds : List D} {r s : Str} (h : PlR p H t v ds r s) : RW H (.tup [.lst ds, .leaf (.str r), .leaf (.str s)]) (.ref t) := ⟨t, _, rfl, h.at_, rws_cons (h.rw_.same mk1_le) (rws_cons rw_str (rws_cons rw_str rws_nil))⟩
theorem parts_few {ds : List D} (h : PrR ds) : (ds.flatMap stParts).length ≤ 900 := by
  have one : ∀ d ∈ ds, (stParts d).length ≤ 20 := fun d hd => by
    rcases h.st d hd with ⟨z, t, hz, ht, rfl⟩ | ⟨r, q, hr, hq, rfl⟩ | ⟨r, qs, hr, hl, hq, rfl⟩
    · rw [parts_set]; exact Nat.zero_le _
    · rw [parts_take]; show 1 ≤ 20; decide
    · rw [parts_cases]; exact hl
  have go : ∀ es : List D, (∀ d ∈ es, (stParts d).length ≤ 20) → (es.flatMap stParts).length ≤ es.length * 20 := fun es => by
    induction es with
    | nil => exact fun _ => Nat.zero_le _
    | cons e es ih =>
      intro he
      rw [List.flatMap_cons, List.length_append, List.length_cons]
      have a := he e List.mem_cons_self
      have b := ih fun d hd => he d (List.mem_cons_of_mem _ hd)
      omega
  have := go ds one
  have := h.len
  omega
section
variable {P : Program} {w : World} {K : PySem.W.Frag} {mg : Str → Option Value} {base : Heap}
abbrev nRi : List Str := ["purse", "plan", "made", "turn", "rival", "other", "is_same", "first", "second", "things", "thing", "piece"]
theorem scRi : FnScope nRi ["purse"] (defScope sRight) := ⟨rfl, rfl, rfl, by decide +kernel, rfl, by decide +kernel, by decide +kernel⟩
theorem ok_right {f C C2 fC fL fD fO fS fE fG fQ fZ fI2 fE2 pP : Addr} {fd fdC fdL fdD fdO fdS fdE fdG fdQ fdZ fdI2 fdE2 : FuncData} (F : Fun K "_law_right" "_law_right" sRight f fd) (T : Txt K mg) (zSum : mg "sum" = none) (CC : PCls K C) (IC : InsC K C) (OC : OthC K C) (NC : NotC K C) (Z : EqC K C fE)
    (CC2 : PCls2 K C2) (IC2 : InsC K C2) (TC : TwoC K C C2) (Z2 : EqC K C2 fE2) (M2 : Mk K C2 fI2) (mP2 : mg "Pattern" = some (.ref C2))
    (FC : Fun K "_law_coin" "_law_coin" sCoin fC fdC) (GC : FnOk P w K mg base CX0 1 fC fdC ["purse", "many"] spCoin) (bC : Binds K fdC ["purse", "many"] []) (mC : mg "_law_coin" = some (.ref fC))
    (FL : Fun K "_law_tp_plan" "_law_tp_plan" sPlan fL fdL) (GL : FnOk P w K mg base CX0 16 fL fdL ["purse", "is_great"] spPlan) (bL : Binds K fdL ["purse", "is_great"] []) (mL : mg "_law_tp_plan" = some (.ref fL))
    (FD : Fun K "_law_tp_made" "_law_tp_made" sMade fD fdD) (GD : FnOk P w K mg base CX0 44 fD fdD ["purse", "plan"] (spMade C)) (bD : Binds K fdD ["purse", "plan"] []) (mD : mg "_law_tp_made" = some (.ref fD))
    (FO : Fun K "_law_ta_rival" "_law_ta_rival" sRival fO fdO) (GO : FnOk P w K mg base CX0 24 fO fdO ["purse", "plan"] spRival) (bO : Binds K fdO ["purse", "plan"] []) (mO : mg "_law_ta_rival" = some (.ref fO))
    (FQ : Fun K "_law_tp_parts" "_law_tp_parts" sTpParts fQ fdQ) (GQ : FnOk P w K mg base CX0 1 fQ fdQ ["steps_here"] spTpParts) (bQ : Binds K fdQ ["steps_here"] []) (mQ : mg "_law_tp_parts" = some (.ref fQ))
    (FZ : Fun K "_law_ta_size" "_law_ta_size" sSize fZ fdZ) (GZ : FnOk P w K mg base CX0 9 fZ fdZ ["piece"] (spSize 9)) (bZ : Binds K fdZ ["piece"] []) (mZ : mg "_law_ta_size" = some (.ref fZ))
    (FS : Fun K "_law_ta_same" "_law_ta_same" sSame fS fdS) (GS : FnG P w K mg base CX0 40 fS fdS ["told", "owed"] (spSame2 40)) (bS : Binds K fdS ["told", "owed"] []) (mS : mg "_law_ta_same" = some (.ref fS))
    (GE : FnOk P w K mg base CX0 1 fE fdE ["self", "other"] (spEqP K C)) (bE : Binds K fdE ["self", "other"] [])
    (GE2 : FnOk P w K mg base CX0 1 fE2 fdE2 ["self", "other"] (spPEq K C2)) (bE2 : Binds K fdE2 ["self", "other"] [])
    (GI2 : FnOk P w K mg base CX0 41 fI2 fdI2 ["self", "part", "order", "lacks"] (spPInit C2)) (bI2 : Binds K fdI2 ["self", "part", "order", "lacks"] [])
    (pg : PropOf K C "steps" pP fG) (GG : FnOk P w K mg base CX0 41 fG fdG ["self"] (spGPart C)) (bG : Binds K fdG ["self"] []) :
    FnG P w K mg base CX0 46 f fd ["purse"] spRight := by
  refine F.okG scRi (fun vs H Q E h => ?_) (fun cdv A outer s H vs Q E fr hr h => ?_)
  · obtain ⟨p, n, rfl, _⟩ := h
    rfl
  obtain ⟨p, n, rfl, hp, hn, kk⟩ := h
  have hr1 := hr.mono (show 1 ≤ 45 by decide)
  have hr2 := hr.mono (show 1 + 1 ≤ 45 by decide)
  have hr9 := hr.mono (show 9 ≤ 45 by decide)
  have hr16 := hr.mono (show 16 ≤ 45 by decide)
  have hr24 := hr.mono (show 24 ≤ 45 by decide)
  have hr40 := hr.mono (show 40 ≤ 45 by decide)
  have hr42 := hr.mono (show 41 + 1 ≤ 45 by decide)
  have hr44 := hr.mono (show 44 ≤ 45 by decide)
  refine ⟨_, (pss_cons (ps_set (i := 1) scRi.nd rfl (Or.inl rfl) (pe_call GL hr16 rfl mL FL.kp bL .nil pass0 (pa_cons (pv 0) (pa_cons (pe_cmpR op_eq (pe_call GC hr1 rfl mC FC.kp bC .nil pass0 (pa_cons (pv 0) (pa_cons pe_int pa_nil))) pe_int (nomark _)) pa_nil))))
    (pss_cons (ps_set (i := 2) scRi.nd rfl (Or.inl rfl) (pe_call GD hr44 rfl mD FD.kp bD .nil pass0 (pa_cons (pv 0) (pa_cons (pv 1) pa_nil))))
    (Evl.pss_cut (ps_for PassesOwn.never rfl (pi_range1 rfl T.range (pa_cons pe_int pa_nil)) (pg_name (i := 3) scRi.nd rfl (Or.inl rfl))
      (pss_cons (ps_set (i := 4) scRi.nd rfl (Or.inl rfl) (pe_call GO hr24 rfl mO FO.kp bO .nil pass0 (pa_cons (pv 0) (pa_cons (pv 1) pa_nil))))
      (Evl.pss_cut (ps_if (pt_cut (pt_cmpR op_gt (pe_callB (cr_sum rfl) (by rfl) zSum (by decide +kernel) (pa_cons (pe_lc (own := [("piece", 11)]) (g := gName 11) (tt := tYes) rfl scRi.nd (pi_list (pe_call GQ hr1 rfl mQ FQ.kp bQ .nil pass0 (pa_cons (pe_ix ix_tup (pv 4) pe_int (fun _ _ => rfl)) pa_nil))) (blkOk_by (N := nRi) (sc := defScope sRight) (by decide +kernel)) (fun _ _ _ _ _ => pg_name (i := 11) scRi.nd rfl (Or.inl rfl)) (fun _ _ _ _ _ => pts_nil)
            (fun _ _ _ _ _ => pe_call GZ hr9 rfl mZ FZ.kp bZ .nil pass0 (pa_cons (pv 11) pa_nil))) pa_nil)) pe_int (nomark _)))
          (pss_one (ps_set (i := 4) scRi.nd rfl (Or.inl rfl) (pv 1))) pss_nil)
      (Evl.pss_cut (ps_par (i := 5) (j := 6) rfl scRi.nd rfl rfl (by decide) rfl rfl (pa_cons (pe_call GD hr44 rfl mD FD.kp bD .nil pass0 (pa_cons (pv 0) (pa_cons (pv 4) pa_nil))) (pa_cons (pe_callG GS fr hr40 rfl mS FS.kp bS pass0 (pa_cons (pv 4) (pa_cons (pv 1) pa_nil))) pa_nil)) (by rfl))
      (pss_one (ps_for PassesOwn.never rfl (pi_tup (pe_tup (pa_cons (pe_tup (pa_cons (pv 2) (pa_cons (pv 5) pa_nil))) (pa_cons (pe_tup (pa_cons (pv 5) (pa_cons (pv 2) pa_nil))) pa_nil)))) (pg_tup rfl (pgs_cons (pg_name (i := 7) scRi.nd rfl (Or.inl rfl)) (pgs_cons (pg_name (i := 8) scRi.nd rfl (Or.inl rfl)) pgs_nil)))
        (pss_one (ps_if (PW.pt (pw_or (pt_cmpR op_ne (pe_cmpR (op_ownEq Z GE hr1 bE pass0) (pv 7) (pv 8) (nomark _)) (pv 6) (nomark _)) (pw_or1 (pt_cmpR op_eq (pe_cmpR (op_ownNe Z GE hr2 bE pass0) (pv 7) (pv 8) (nomark _)) (pv 6) (nomark _))))) pss_never pss_nil))))))))
    (Evl.pss_cut (ps_set (i := 9) scRi.nd rfl (Or.inl rfl) (pe_lst (pa_cons (pe_ix ix_tup (pv 1) pe_int (fun _ _ => rfl)) (pa_cons (pe_prop (pv 2) CC.cl pg GG hr42 bG .nil pass0 rfl) (pa_cons (pv 1) (pa_cons pe_non (pa_cons pe_int (pa_cons pe_str (pa_cons (pe_lst pa_nil) (pa_cons (pe_lst (pa_cons (pv 2) pa_nil)) pa_nil))))))))))
    (Evl.pss_cut (ps_expr (pe_bm PySem.F.plainAttrs_list PySem.F.slot_list_append PySem.F.type_list_append mt_append (pv 9) (pa_cons (pe_make M2 GI2 hr42 rfl mP2 bI2 .nil pass0 (pa_cons
        (pe_ifExp (pt_cut (PW.pt (pw_and (pt_cmpR (op_neD hr.units) (pe_ix ix_tup (pv 1) pe_int (fun _ _ => rfl)) (pe_lst pa_nil) (nomark _)) (pw_and1 (pt_cmpR op_eq (pe_ix ix_tup (pe_ix ix_list (pe_ix ix_tup (pv 1) pe_int (fun _ _ => rfl)) pe_int (fun _ _ => rfl)) pe_int (fun _ _ => rfl)) pe_str (nomark _))))))
          (pe_ix ix_tup (pe_ix ix_list (pe_ix ix_tup (pv 1) pe_int (fun _ _ => rfl)) pe_int (fun _ _ => rfl)) pe_int (fun _ _ => rfl)) (pe_tup (pa_cons pe_str pa_nil)))
        (pa_cons (pe_ix ix_tup (pv 1) pe_int (fun _ _ => rfl)) (pa_cons (pe_ix ix_tup (pv 1) pe_int (fun _ _ => rfl)) pa_nil)))) pa_nil)))
    (Evl.pss_cut (ps_for PassesOwn.never rfl (pi_list (pv 9)) (pg_name (i := 10) scRi.nd rfl (Or.inl rfl))
      (pss_one (ps_if (PW.pt (pw_or (pt_cmpR (op_ownEq Z GE hr1 bE pass0) (pv 2) (pv 10) (nomark _)) (pw_or (pt_not (pt_cmpR (op_ownNe Z GE hr2 bE pass0) (pv 2) (pv 10) (nomark _))) (pw_or1 (pt_cmpR (op_either (op_refEq Z NC GE hr1 bE pass0) (op_ownEq Z2 GE2 hr1 bE2 pass0)) (pv 10) (pv 2) (nomark _)))))) pss_never pss_nil)))
    (pss_one (ps_ret (pe_cmpR (op_ownEq Z GE hr1 bE pass0) (pv 2) (pe_call GD hr44 rfl mD FD.kp bD .nil pass0 (pa_cons (pv 0) (pa_cons (pv 1) pa_nil))) (nomark _)))))))))), ?_⟩
  have hcR := cR_eq
  have hcv : cRv = cPl + 1000 := rfl
  have new_p : ∀ {Hx : Hp} {m : Nat} {G : List Addr}, Purse Hx p m → (∀ a ∈ G, Hx a = none) → p ∉ G := fun hpx h z => by
    obtain ⟨o, e⟩ := hpx.some
    rw [h p z] at e
    cases e
  -- the plan and the program
  refine ⟨_, rfl, _, rfl, p, 3, n, rfl, hp, by omega, by decide, by decide, fun d0 H1 a1 a2 hb1 hp1 => ⟨rfl, ?_⟩⟩
  refine ⟨p, _, n + 1, rfl, hp1, by omega, fun t ds r s0 G N H3 hb3 hp3 ht0 hPl hG hok => ?_⟩
  obtain ⟨v, ht, hR, hro, hlo⟩ := hPl
  have pnG := new_p hp1 hG
  have htp : t ≠ p := hp1.ne ht0
  refine ⟨_, rfl, _, rfl, p, t, n + 1 + cPl, v, ds, r, s0, rfl, hp3, by omega, ht, hR.rw, hok.ok, hro, hlo, fun o H4 Go hb4 hp4 ho0 pat hGo => ?_⟩
  have hb04 := (hb1.trans hb3).trans hb4
  have L4 : PlR p H4 t v ds r s0 := (PlR.mk htp ht (rep_mk hp3 hR pnG) hok.r hro hlo).but hb4
  have P4 : PatAt C (mk1 p H4) o (.lst ds) r s0 Go := pat_mk hp4 pat (new_p hp3 hGo)
  clear hb1 hb3 hp3 ht0 hG ht hR pnG hb4 ho0 pat hGo
  obtain ⟨n1, hn1⟩ : ∃ n1, n + 1 + cPl + 2 = n1 := ⟨_, rfl⟩
  replace hp4 : Purse H4 p n1 := hn1 ▸ hp4
  have pl1 : Pl 50 (.lst ds) := hok.r.pl.le (by decide)
  have t0 : ∀ {v : V} {r s : Str}, atI [v, V.str r, V.str s] 0 = some v := atI_nat (j := 0) rfl
  have t1 : ∀ {v : V} {r s : Str}, atI [v, V.str r, V.str s] 1 = some (.str r) := atI_nat (j := 1) rfl
  have t2 : ∀ {v : V} {r s : Str}, atI [v, V.str r, V.str s] 2 = some (.str s) := atI_nat (j := 2) rfl
  -- rivals
  refine ⟨fun σ' H' => But p H4 H' ∧ Purse H' p (n1 + 4 * (cRv + 10)) ∧ ∃ v3 v4 v5 v6 v7 v8 v9 v10 v11 : Option V, σ' = [some (.ref p), some (.ref t), some (.ref o), v3, v4, v5, v6, v7, v8, v9, v10, v11], ?_, ?_⟩
  · refine ⟨4, rfl, by decide, by decide, ?_⟩
    refine for_range (lo := 0) (n := 4) (fun i σ' H' => But p H4 H' ∧ Purse H' p (n1 + i * (cRv + 10)) ∧ ∃ v3 v4 v5 v6 v7 v8 v9 v10 v11 : Option V, σ' = [some (.ref p), some (.ref t), some (.ref o), v3, v4, v5, v6, v7, v8, v9, v10, v11]) ⟨.refl _ _, by rw [Nat.zero_mul]; exact hp4, _, _, _, _, _, _, _, _, _, rfl⟩ ?_ ?_
    · rintro i σ' H5 hi ⟨hb5, hp5, v3, v4, v5, v6, v7, v8, v9, v10, v11, rfl⟩
      have i4 : i < 4 := by
        have z : (4 : Int).toNat = 4 := rfl
        omega
      have ci : i * (cRv + 10) ≤ 3 * (cRv + 10) := Nat.mul_le_mul_right _ (by omega)
      have cs : (i + 1) * (cRv + 10) = i * (cRv + 10) + (cRv + 10) := Nat.succ_mul _ _
      obtain ⟨c, hc⟩ : ∃ c, n1 + i * (cRv + 10) = c := ⟨_, rfl⟩
      replace hp5 : Purse H5 p c := hc ▸ hp5
      have L5 := L4.but hb5
      refine ⟨_, rfl, _, rfl, p, t, v, ds, r, s0, c, rfl, hp5, by omega, L5.at_, L5.rw_, L5.ok, hro, hlo, fun t2' H6 v2 ds2 r2 s2 hb6 hp6 ht2 hR2 hT2 hro2 hlo2 => ?_⟩
      have nt2 : t2' ≠ p := fun z => by
        obtain ⟨x1, x2, x3, e, _⟩ := hp6
        rw [z, e] at ht2
        cases ht2
      have L6 : PlR p H6 t2' v2 ds2 r2 s2 := ⟨nt2, ht2, hR2, hT2, hro2, hlo2⟩
      have M6 := L5.but hb6
      clear ht2 hR2 hT2 hro2 hlo2
      refine ⟨fun σ' H' => Same H6 H' ∧ ∃ (t2 : Addr) (v2 : V) (ds2 : List D) (r2 s2 : Str), PlR p H' t2 v2 ds2 r2 s2 ∧ σ' = [some (.ref p), some (.ref t), some (.ref o), some (.int (0 + (i : Int))), some (.ref t2), v5, v6, v7, v8, v9, v10, v11], ?_, ?_⟩
      · refine ⟨fun b H' => Same H6 H', ?_, ?_⟩
        · refine ⟨_, rfl, t2', _, 0, _, rfl, rfl, SqT.of L6.at_, t0, v2, ds2, mk1 p H6, rfl, L6.rw_, mk1_le, L6.ok.st, parts_few L6.ok, fun l xs H7 hs7 hl0 hl7 hxs => ⟨l, rfl, ⟨_, SqL.of hl7⟩, fun D0 hD => ?_⟩⟩
          have hlx := hxs.len
          have few := parts_few L6.ok
          refine lc_list (K := K) (a := l) (xs := xs) (fun i H' => Same H7 H' ∧ H' D0 = some (.lst ((((ds2.flatMap stParts).take i).map fun k => (((pre 7 k).length : Nat) : Int)).map V.int))) ⟨same_new hD _, upd_same⟩ (fun i H' _ ⟨h, _⟩ => SqL.of (h _ _ hl7)) ?_ ?_
          · rintro i x H8 hi ⟨hs8, hD8⟩
            refine ⟨rfl, ?_⟩
            have hil := (List.getElem?_eq_some_iff.mp hi).1
            obtain ⟨q, hqi, hq⟩ := hxs.item hi
            obtain ⟨d, hd, hqd⟩ := List.mem_flatMap.mp (List.mem_of_getElem? hqi)
            show tCall (spSize 9) [] E0 (tCons (tVar 11) tNil) _ H8 _
            refine ⟨_, rfl, x, q, 7, rfl, hq.same ((mk1_le.trans hs7).trans hs8), step_parts (L6.ok.st d hd) q hqd, by decide, fun H9 hs9 => ⟨_, hs9 _ _ hD8, ?_, same_put (hs8.trans hs9) hD, ?_⟩⟩
            · rw [List.length_map, List.length_map]
              exact Nat.lt_of_le_of_lt (Nat.le_trans (List.length_take_le _ _) (show i ≤ 1000 by omega)) (by decide)
            · rw [upd_same, List.take_add_one, hqi]
              simp
          · rintro H8 ⟨hs8, hD8⟩
            exact ⟨D0, _, rfl, SqL.of hD8, _, _, rfl, rfl, _, rfl, hs7.trans hs8⟩
        · rintro bb H7 hs7
          exact ite2 (fun _ => ⟨_, rfl, hs7, t, v, ds, r, s0, M6.but (.of hs7), rfl⟩) (fun _ => ⟨hs7, t2', v2, ds2, r2, s2, L6.but (.of hs7), rfl⟩)
      clear L6 nt2
      rintro _ H7 ⟨hs7, t2, v2, ds2, r2, s2, L7, rfl⟩
      have M7 := M6.but (.of hs7)
      have hp7 := hp6.same hs7
      have hb57 := (hb5.trans hb6).trans (.of hs7)
      have pl2 : Pl 50 (.lst ds2) := L7.ok.pl.le (by decide)
      clear hb6 hp6 hs7 M6 L5
      -- the other one; the same, or not
      generalize hbb : peq (.lst ds2) r2 s2 (.lst ds) r s0 = bb
      have hbb2 : peq (.lst ds) r s0 (.lst ds2) r2 s2 = bb := by rw [peq_comm]; exact hbb
      refine ⟨fun σ' H' => But p H7 H' ∧ Purse H' p (c + cRv + 2) ∧ ∃ (o2 : Addr) (G2 : List Addr), PatAt C H' o2 (.lst ds2) r2 s2 G2 ∧ σ' = [some (.ref p), some (.ref t), some (.ref o), some (.int (0 + (i : Int))), some (.ref t2), some (.ref o2), some (.bl bb), v7, v8, v9, v10, v11], ?_, ?_⟩
      · refine ⟨_, rfl, _, rfl, p, t2, c + cRv, v2, ds2, r2, s2, rfl, hp7, by omega, L7.at_, L7.rw_.same mk1_le, L7.ok.ok, L7.ro, L7.lo, fun o2 H8 G2 hb8 hp8 ho2 pat2 hG2 => ?_⟩
        refine ⟨_, rfl, _, rfl, .ref t2, .ref t, .tup [.lst ds2, .leaf (.str r2), .leaf (.str s2)], .tup [.lst ds, .leaf (.str r), .leaf (.str s0)], 36, rfl, by decide, by decide, (L7.but hb8).rwt, (M7.but hb8).rwt, plan_pl L7.ok L7.ro L7.lo, plan_pl M7.ok hro hlo, plan_rb L7.ok M7.ok, fun H9 hs9 => ?_⟩
        rw [deq_plan, hbb]
        exact ⟨_, _, rfl, hb8.trans (.of hs9), hp8.same hs9, o2, G2, pat2.same hs9, rfl⟩
      rintro _ H8 ⟨hb8, hp8, o2, G2, pat2, rfl⟩
      have hb58 := hb57.trans hb8
      have P8 : PatAt C H8 o (.lst ds) r s0 Go := (P4.same (mk1_but hb58)).same mk1_le
      -- one against the other
      refine ⟨_, rfl, _, rfl, by show 2 ≤ sizeLine; decide, fun q1 hq1 => ⟨_, rfl, _, rfl, by show 2 ≤ sizeLine; decide, fun q2 hq2 => ⟨by show 2 ≤ sizeLine; decide, fun q3 hq3 => ⟨q3, rfl, ⟨_, SqT.of upd_same⟩, ?_⟩⟩⟩⟩
      have s1 := same_new hq1 (.tup [V.ref o, V.ref o2])
      have s2' := same_new hq2 (.tup [V.ref o2, V.ref o])
      have s3 := same_new hq3 (.tup [V.ref q1, V.ref q2])
      have e1 := s3 _ _ (s2' _ _ (upd_same (a := q1) (H := H8) (o := HO.tup [V.ref o, V.ref o2])))
      have e2 := s3 _ _ (upd_same (a := q2) (H := upd H8 q1 (.tup [V.ref o, V.ref o2])) (o := HO.tup [V.ref o2, V.ref o]))
      have e3 : (upd (upd (upd H8 q1 (.tup [V.ref o, V.ref o2])) q2 (.tup [V.ref o2, V.ref o])) q3 (.tup [V.ref q1, V.ref q2])) q3 = some (.tup [V.ref q1, V.ref q2]) := upd_same
      have s9 := (s1.trans s2').trans s3
      generalize upd (upd (upd H8 q1 (.tup [V.ref o, V.ref o2])) q2 (.tup [V.ref o2, V.ref o])) q3 (.tup [V.ref q1, V.ref q2]) = H9 at e1 e2 e3 s9 ⊢
      refine for_tup (K := K) (a := q3) (xs := [V.ref q1, V.ref q2]) (fun i' σ' H' => H' = H9 ∧ ∃ v7 v8 : Option V, σ' = [some (.ref p), some (.ref t), some (.ref o), some (.int (0 + (i : Int))), some (.ref t2), some (.ref o2), some (.bl bb), v7, v8, v9, v10, v11]) ⟨rfl, _, _, rfl⟩ (fun i' σ' H' _ ⟨h, _⟩ => by rw [h]; exact SqT.of e3) ?_ ?_
      · rintro i' x σ' H10 hi' ⟨rfl, w7, w8, rfl⟩
        have n1' : decide (V.bl bb = V.bl bb) = true := decide_eq_true rfl
        have n2' : decide (V.bl (!bb) = V.bl bb) = false := by cases bb <;> decide
        have P9 := P8.same s9
        have Q9 := pat2.same s9
        match i', hi' with
        | 0, hi' =>
          obtain rfl : V.ref q1 = x := Option.some.inj hi'
          refine ⟨q1, _, rfl, SqT.of e1, rfl, _, _, rfl, _, _, rfl, rfl, ?_⟩
          refine ⟨_, rfl, _, rfl, eq_at CC IC P9 Q9 pl1 pl2 ?_⟩
          rw [hbb2]
          refine ⟨_, rfl, rfl, _, rfl, ifF (by rw [n1']; rfl) ⟨_, rfl, _, rfl, ne_at CC IC P9 Q9 pl1 pl2 ?_⟩⟩
          rw [hbb2]
          exact ⟨_, rfl, rfl, _, rfl, ifF n2' ⟨rfl, _, _, rfl⟩⟩
        | 1, hi' =>
          obtain rfl : V.ref q2 = x := Option.some.inj hi'
          refine ⟨q2, _, rfl, SqT.of e2, rfl, _, _, rfl, _, _, rfl, rfl, ?_⟩
          refine ⟨_, rfl, _, rfl, eq_at CC IC Q9 P9 pl2 pl1 ?_⟩
          rw [hbb]
          refine ⟨_, rfl, rfl, _, rfl, ifF (by rw [n1']; rfl) ⟨_, rfl, _, rfl, ne_at CC IC Q9 P9 pl2 pl1 ?_⟩⟩
          rw [hbb]
          exact ⟨_, rfl, rfl, _, rfl, ifF n2' ⟨rfl, _, _, rfl⟩⟩
      · rintro σ' H10 ⟨rfl, w7, w8, rfl⟩
        exact ⟨hb58.trans (.of s9), (hp8.same s9).mono (by omega), _, _, _, _, _, _, _, _, _, rfl⟩
    · rintro σ' H5 ⟨hb5, hp5, v3, v4, v5, v6, v7, v8, v9, v10, v11, rfl⟩
      exact ⟨hb5, hp5, v3, v4, v5, v6, v7, v8, v9, v10, v11, rfl⟩
  rintro _ H5 ⟨hb5, hp5, v3, v4, v5, v6, v7, v8, v9, v10, v11, rfl⟩
  -- what is no program
  have L5 := L4.but hb5
  have P5 : PatAt C H5 o (.lst ds) r s0 Go := (P4.same (mk1_but hb5)).same mk1_le
  have hb05 := hb04.trans hb5
  clear hb04 L4
  obtain ⟨l0, zs, rfl, hl0, hzs⟩ := L5.rw_
  have hl0' := mk1_le _ _ hl0
  refine ⟨fun σ' H' => ∃ (l9 : Addr) (H8 : Hp) (xs : List V), Same H5 H8 ∧ H8 l9 = none ∧ Same H8 H' ∧ H' l9 = some (.lst xs) ∧ xs.length = 8 ∧ (∀ x ∈ xs, Blt H8 x) ∧ σ' = [some (.ref p), some (.ref t), some (.ref o), v3, v4, v5, v6, v7, v8, some (.ref l9), v10, v11], ?_, ?_⟩
  · obtain ⟨dx, w0, eo, _⟩ := id P5
    refine ⟨_, rfl, t, _, 0, _, rfl, rfl, SqT.of L5.at_, t0, _, rfl, o, dx, _, rfl, eo, o, _, r, s0, Go, rfl, P5, hok.ok.fits, fun u H6 G' hs6 hru hG' => ?_⟩
    refine ⟨_, rfl, by show 0 ≤ sizeLine; decide, fun l1 hl1 => ⟨_, rfl, by show 1 ≤ sizeLine; decide, fun l2 hl2 => ⟨by show 8 ≤ sizeLine; decide, fun l9 hl9 => ?_⟩⟩⟩
    have s1 := same_new hl1 (.lst [])
    have s2 := same_new hl2 (.lst [V.ref o])
    have sA := (hs6.trans s1).trans s2
    refine ⟨l9, _, _, sA, hl9, same_new hl9 _, upd_same, rfl, fun x hx => ?_, rfl⟩
    simp only [List.mem_cons, List.not_mem_nil, or_false] at hx
    rcases hx with rfl | rfl | rfl | rfl | rfl | rfl | rfl | rfl
    · exact .inr (.inr (.inr ⟨_, _, rfl, .inl (sA _ _ hl0')⟩))
    · obtain ⟨a, xs, e, ha, _⟩ := hru.rw
      exact .inr (.inr (.inr ⟨a, xs, e, .inl ((s1.trans s2) _ _ ha)⟩))
    · exact .inr (.inr (.inr ⟨_, _, rfl, .inr (sA _ _ L5.at_)⟩))
    · exact .inl rfl
    · exact .inr (.inl ⟨_, rfl⟩)
    · exact .inr (.inr (.inl ⟨_, rfl⟩))
    · exact .inr (.inr (.inr ⟨_, _, rfl, .inl (s2 _ _ upd_same)⟩))
    · exact .inr (.inr (.inr ⟨_, _, rfl, .inl upd_same⟩))
  rintro _ H6 ⟨l9, H8, xs, s58, hl98, s86, hl9, hx8, hbl, rfl⟩
  -- a pattern
  refine ⟨fun σ' H' => Same H8 H' ∧ ∃ (x2 dx2 : Addr) (fs2 : List (Str × V)), H' x2 = some (.ins C2 dx2 fs2) ∧ H' l9 = some (.lst (xs ++ [V.ref x2])) ∧ σ' = [some (.ref p), some (.ref t), some (.ref o), v3, v4, v5, v6, v7, v8, some (.ref l9), v10, v11], ?_, ?_⟩
  · have s56 := s58.trans s86
    have L6 := L5.but (.of s56)
    have st6 := SqT.of (K := K) L6.at_
    refine ⟨_, rfl, .inl ⟨rfl, _, SqL.of hl9⟩, ?_⟩
    -- its part, once it is known
    have fin : ∀ (H7 : Hp) (y : V) (d : D), Same H6 H7 → RW H7 d y → PtOk 8 d → ∀ x dx, H7 x = none → H7 dx = none → dx ≠ x → spPInit C2 [.ref x, y, .str r, .str s0] (upd (upd H7 dx (.own x)) x (.ins C2 dx [])) (fun v H' => v = .non ∧ ∃ l ys z, V.ref l9 = .ref l ∧ [V.ref x] = [z] ∧ H' l = some (.lst ys) ∧ ys.length < sizeLine ∧ (Same H8 (upd H' l (.lst (ys ++ [z]))) ∧ ∃ (x2 dx2 : Addr) (fs2 : List (Str × V)), (upd H' l (.lst (ys ++ [z]))) x2 = some (.ins C2 dx2 fs2) ∧ (upd H' l (.lst (ys ++ [z]))) l9 = some (.lst (xs ++ [V.ref x2])) ∧ [some (V.ref p), some (.ref t), some (.ref o), v3, v4, v5, v6, v7, v8, some (.ref l9), v10, v11] = [some (.ref p), some (.ref t), some (.ref o), v3, v4, v5, v6, v7, v8, some (.ref l9), v10, v11])) E0 := fun H7 y d hs7 hy hd x dx hx hdx hne => by
      have st := same_ins (C := C2) hx hdx
      refine ⟨x, dx, y, r, s0, d, rfl, upd_same, hy.same st, hd, hro, hlo, fun H' fs hb hx' => ⟨rfl, l9, xs, _, rfl, rfl, ?_, by rw [hx8]; decide, ?_⟩⟩
      · exact (But.same st hb hx) _ _ (hs7 _ _ hl9)
      · have sH := But.same st hb hx
        have nx : x ≠ l9 := fun z => by
          have e := hs7 _ _ hl9
          rw [← z, hx] at e
          cases e
        exact ⟨same_put ((s86.trans hs7).trans sH) hl98, x, dx, fs, by rw [upd_ne nx]; exact hx', upd_same, rfl⟩
    refine ⟨fun b H' => Same H6 H' ∧ (b = true → ∃ (x1 xs1 : V) (q : D) (rr : D) (a1 : Addr), zs[0]? = some (.ref a1) ∧ H6 a1 = some (.tup [V.str (Str.ofString "take"), xs1, x1]) ∧ RW H6 q x1 ∧ PtOk 7 q), ?_, ?_⟩
    · refine ⟨_, rfl, t, _, 0, _, rfl, rfl, st6, t0, by show 0 ≤ sizeLine; decide, fun le hle => ?_⟩
      have se := same_new hle (.lst [])
      have e0 : PyData.eqv (toP (.lst ds)) (toP (.lst [])) = ds.isEmpty := by
        rw [eqv_deq (m := 1) _ _ pl1 (pl_lst (n := 0) (ds := []) (by decide) (by simp)), deq]
        cases ds with
        | nil => rw [deqs]; rfl
        | cons q qs => rw [deqs]; rfl
      have hz6 : RWs (upd H6 le (.lst [])) ds zs := hzs.same ((mk1_le.trans s56).trans se)
      refine ⟨toP (.lst ds), toP (.lst []), RW.dp (show RW _ (.lst _) (.ref l0) from ⟨l0, zs, rfl, (s56.trans se) _ _ hl0', hz6⟩), RW.dp (show RW _ (.lst []) (.ref le) from ⟨le, [], rfl, upd_same, rfl⟩), shaped_of pl1 (by decide), shaped_of (n := 1) (pl_lst (n := 0) (ds := []) (by decide) (by simp)) (by decide), _, rfl, ?_⟩
      rw [e0]
      cases ds with
      | nil => exact iteF ⟨se, fun z => nomatch z⟩
      | cons d1 ds1 =>
        obtain ⟨x1, ys, rfl, r1, _⟩ := hzs
        have ok1 := L5.ok.st d1 List.mem_cons_self
        obtain ⟨nm, rr, xx, rfl, _, _, hX⟩ := ok1.x
        obtain ⟨a1, ws, rfl, ha1, w0, _, rfl, hw0, w1, _, rfl, hw1, w2, _, rfl, hw2, hw3⟩ := r1
        obtain rfl : _ = [] := hw3
        obtain ⟨rfl, _⟩ := hw0
        have ha6 := s56 _ _ (mk1_le _ _ ha1)
        refine iteT ⟨_, rfl, t, _, 0, _, rfl, rfl, SqT.of (se _ _ L6.at_), t0, l0, _, 0, _, rfl, rfl, SqL.of ((s56.trans se) _ _ hl0'), atI_nat (j := 0) rfl, a1, _, 0, _, rfl, rfl, SqT.of (se _ _ ha6), atI_nat (j := 0) rfl, rfl, _, rfl, se, fun z => ?_⟩
        have e : nm = "take" ∧ PtOk 7 xx := by
          have z' := V.str.inj (of_decide_eq_true z)
          rcases hX with ⟨rfl, _⟩ | ⟨rfl, h⟩ | ⟨rfl, _⟩
          · exact absurd z' (by decide)
          · exact ⟨rfl, h⟩
          · exact absurd z' (by decide)
        obtain ⟨rfl, h7⟩ := e
        exact ⟨w2, w1, xx, rr, a1, rfl, ha6, hw2.same (mk1_le.trans s56), h7⟩
    rintro bb H7 ⟨hs7, hbb⟩
    have st7 := SqT.of (K := K) (hs7 _ _ L6.at_)
    have hl7 := SqL.of (K := K) ((s56.trans hs7) _ _ hl0')
    refine ite2 (fun c => ?_) (fun _ => ?_)
    · obtain ⟨x1, xs1, q, rr, a1, hz0, ha1, rq, h7⟩ := hbb c
      exact ⟨_, rfl, t, _, 0, _, rfl, rfl, st7, t0, l0, _, 0, _, rfl, rfl, hl7, atI_nat hz0, a1, _, 2, _, rfl, rfl, SqT.of (hs7 _ _ ha1), atI_nat (j := 2) rfl, _, rfl, t, _, 1, _, rfl, rfl, st7, t1, _, rfl, t, _, 2, _, rfl, rfl, st7, t2, fin H7 x1 q hs7 (rq.same hs7) h7.succ⟩
    · refine ⟨by show 1 ≤ sizeLine; decide, fun ta hta => ?_⟩
      have sa := same_new hta (.tup [V.str (Str.ofString "any")])
      have st8 := SqT.of (K := K) ((hs7.trans sa) _ _ L6.at_)
      exact ⟨_, rfl, t, _, 1, _, rfl, rfl, st8, t1, _, rfl, t, _, 2, _, rfl, rfl, st8, t2, fin _ (.ref ta) (.tup [S "any"]) (hs7.trans sa) ⟨ta, _, rfl, upd_same, rws_cons rw_str rws_nil⟩ (.inl rfl)⟩
  clear s86 hl9
  rintro _ H9 ⟨s89, x2, dx2, fs2, hx2, hl9, rfl⟩
  have s59 := s58.trans s89
  have P9 := P5.same s59
  have TX : TyX K H9 (.ref x2) (.ref C2) := .base (.ins hx2 CC2.cl IC2.ha IC2.hn IC2.htk IC2.hm)
  obtain ⟨dx, w0, eo, _⟩ := id P9
  have TM : TyX K H9 (.ref o) (.ref C) := .base (.ins eo CC.cl IC.ha IC.hn IC.htk IC.hm)
  refine ⟨fun σ' H' => H' = H9 ∧ ∃ v10 : Option V, σ' = [some (.ref p), some (.ref t), some (.ref o), v3, v4, v5, v6, v7, v8, some (.ref l9), v10, v11], ?_, ?_⟩
  · refine ⟨_, rfl, l9, rfl, ⟨_, SqL.of hl9⟩, ?_⟩
    refine for_list (K := K) (a := l9) (xs := xs ++ [V.ref x2]) (fun i' σ' H' => H' = H9 ∧ ∃ v10 : Option V, σ' = [some (.ref p), some (.ref t), some (.ref o), v3, v4, v5, v6, v7, v8, some (.ref l9), v10, v11]) ⟨rfl, _, rfl⟩ (fun i' σ' H' _ ⟨h, _⟩ => by rw [h]; exact SqL.of hl9) ?_ ?_
    · rintro i' x σ' H10 hi' ⟨rfl, w9, rfl⟩
      rcases List.mem_append.mp (List.mem_of_getElem? hi') with hx | hx
      · have ox := (hbl x hx).same s89
        exact ⟨_, rfl, _, rfl, eq_ot OC P9 pl1 ox ⟨_, rfl, iteF ⟨_, rfl, _, rfl, ne_ot OC P9 pl1 ox ⟨_, rfl, iteF ⟨_, rfl, _, rfl, .inl (ref_ot OC P9 pl1 ox ⟨_, rfl, iteF ⟨rfl, _, rfl⟩⟩)⟩⟩⟩⟩⟩
      · rw [List.mem_singleton.mp hx]
        refine ⟨_, rfl, _, rfl, ⟨o, dx, _, _, rfl, eo, TX, TC.n12, o, _, _, r, s0, Go, rfl, P9, pl1, .inr ⟨_, TX, TC.k12, _, rfl, _, rfl, iteF ?_⟩⟩⟩
        refine ⟨_, rfl, _, rfl, ⟨o, dx, _, _, rfl, eo, TX, TC.n12, o, _, _, r, s0, Go, rfl, P9, pl1, .inr ⟨_, TX, TC.k12, _, rfl, _, rfl, iteF ?_⟩⟩⟩
        exact ⟨_, rfl, _, rfl, .inr ⟨x2, dx2, fs2, _, rfl, hx2, TM, TC.n21, x2, _, _, rfl, TM, TC.k21, _, rfl, _, rfl, iteF ⟨rfl, _, rfl⟩⟩⟩
    · rintro σ' H10 ⟨rfl, w9, rfl⟩
      exact ⟨rfl, _, rfl⟩
  rintro _ H10 ⟨rfl, w9, rfl⟩
  -- itself, made anew
  have hp9 := hp5.same s59
  have L9 := L5.but (.of s59)
  have fin1 : ∀ x y c n n1 z : Nat, c = x + 4 * (y + 10) + 100 → n + 1 + x + 2 = n1 → n + c < z → n1 + 4 * (y + 10) + 2 < z := fun x y c n n1 z h1 h2 h3 => by omega
  have fin2 : ∀ x y c n n1 : Nat, c = x + 4 * (y + 10) + 100 → n + 1 + x + 2 = n1 → n1 + 4 * (y + 10) + 2 ≤ n + c := fun x y c n n1 h1 h2 => by omega
  refine ⟨_, rfl, _, rfl, _, rfl, p, t, n1 + 4 * (cRv + 10), .ref l0, ds, r, s0, rfl, hp9, fin1 cPl cRv cR n n1 _ hcR hn1 hn, L9.at_, L9.rw_.same mk1_le, hok.ok, hro, hlo, fun o3 H11 G3 hb11 hp11 ho3 pat3 hG3 => ?_⟩
  have P11 : PatAt C H11 o (.lst ds) r s0 Go := (P4.same (mk1_but ((hb5.trans (.of s59)).trans hb11))).same mk1_le
  refine eq_at CC IC P11 pat3 pl1 pl1 ?_
  rw [peq_self]
  exact kk _ ((hb05.trans (.of s59)).trans hb11) (hp11.mono (fin2 cPl cRv cR n n1 hcR hn1))
end
end K02
set_option Elab.async false
set_option linter.all false
set_option maxRecDepth 100000
set_option maxHeartbeats 2000000
/-! A law whose promise is one of FnG. -/
namespace L2
open PySem PySem.Spec PyProof.Rows
section
variable {P : Program} {w : World} {K : PySem.W.Frag} {mg mb : Str → Option Value} {k : Nat} {fa a : Addr} {fd : FuncData} {x : Str} {sp : Sp} {z : Shared} {vs : List Value} {ns : List Int}
/-- from a heap in which nothing but the script may be told of -/
theorem law_coreG (inK : K.In z.heap) (hns : z.heap.Ns mainGlobals mg) (hb : z.heap.Ns builtinsNs mb) (hbb : ∀ y : Str, y ≠ "__name__" → mb y = bootBuiltins y) (noL : z.heap.NoLimit) (ng : z.gens = #[])
    (ha : z.heap.get? a = some { cls := .type "list", data := .seq vs.toArray }) (hr : Room k callerA)
    (F : ∀ base : Heap, K.In base → base.Ns mainGlobals mg → FnG P w K mg base CX0 k fa fd [x] sp) (bd : ∀ (s : Shared) (u : Value), BindsTo s fd ⟨[u], []⟩ [(x, u)])
    (H : Hp) (only : Only H) (q0 : sp [.ref a] H (fun v _ => v = .bl true) fun _ _ _ => False) (ok : HOk P w H z.heap) (hA : ∀ b, H b ≠ none → b = a) (hK : H a ≠ none → K.lookup a = none) :
    codeAny (model P w) callerA (.call (.ref fa) ⟨[.ref a], []⟩) (fun r z2 => r = .ok (.ret (.bool true)) ∧ OldK z.heap z2.heap ∧ z2.os = z.os ∧ AllBare z2.gens) z := by
  have at0 : ∀ {b : Addr}, H b = none ∨ b = a := fun {b} => by
    cases q : H b with
    | none => exact .inl rfl
    | some u => exact .inr (hA b (by rw [q]; exact fun e => nomatch e))
  have stays : ∀ {b : Addr} {o : Obj}, z.heap.get? b = some o → H b = none → (hidT z.heap H).get? b = some o := fun e n => hidT_get e n
  have noDict : ∀ {b : Addr} {o : Obj} {es : Array DictEntry} {m : Nat}, z.heap.get? b = some o → o.data = .dict es m → H b = none := fun {b o es m} e d => by
    rcases at0 (b := b) with q | rfl
    · exact q
    · have e2 := Option.some.inj (ha.symm.trans e)
      subst e2
      exact nomatch (show Data.seq vs.toArray _ = Data.dict es m from d)
  have nsT : ∀ {b : Addr} {m : Str → Option Value}, z.heap.Ns b m → (hidT z.heap H).Ns b m := fun {b m} ⟨o, es, n, e, d, r⟩ => ⟨o, es, n, stays e (noDict e d), d, r⟩
  have inT : K.In (hidT z.heap H) := fun b o e => by
    refine stays (inK b o e) ?_
    rcases at0 (b := b) with q | rfl
    · exact q
    · cases q : H b with
      | none => rfl
      | some u =>
        rw [hK (by rw [q]; exact fun e => nomatch e)] at e
        exact nomatch e
  have md : Mod K mg (hidT z.heap H) := ⟨inT, nsT hns, ⟨mb, nsT hb, hbb⟩, noL.elim fun mc h => ⟨mc, nsT h.1, h.2⟩⟩
  have e0 : Env0 P w K mg (hidT z.heap H) callerA [] z H := ⟨rfl, md, fun _ _ e => of_hidT e, Nat.le_of_eq (hidT_size _ _), trivial, (fun b m => nomatch (show b ∈ ([] : List Addr) from m)), ok, .of_eq ng⟩
  refine codeAny_mono ((F _ inT (nsT hns)).run callerA [] z H ⟨[.ref a], []⟩ [.ref a] [.ref a] _ _ Free.caller hr e0 (bd z (.ref a)) (.cons rfl .nil) q0) fun r z2 h => ?_
  cases r with
  | error e =>
    obtain ⟨_, _, _, _, _, _, _, _, _, _, _, _, no⟩ := h
  | ok fl =>
    cases fl with
    | next => exact False.elim h
    | brk => exact False.elim h
    | cont => exact False.elim h
    | ret u =>
      obtain ⟨v, H2, os, bare, un, ok2, rr, hv⟩ := h
      have hv' : v = .bl true := hv
      subst hv'
      obtain rfl : u = Value.bool true := rr
      refine ⟨rfl, OldK.of_keep fun b o e => ?_, os, bare⟩
      cases q : H b with
      | none => exact un.keep b o e q (fun m => nomatch (show b ∈ ([] : List Addr) from m)) (by simp)
      | some u =>
        rcases only b with n | ⟨ob, xs, n⟩
        · rw [q] at n
          exact nomatch n
        · have e1 := (ok b _ n).1
          have e2 := (ok2 b _ (un.frzs b ob _ n)).1
          rw [e] at e1
          rw [Option.some.inj e1]
          exact e2
theorem law_callG (inK : K.In z.heap) (hns : z.heap.Ns mainGlobals mg) (hb : z.heap.Ns builtinsNs mb) (hbb : ∀ y : Str, y ≠ "__name__" → mb y = bootBuiltins y) (noL : z.heap.NoLimit) (ng : z.gens = #[])
    (ha : z.heap.get? a = some { cls := .type "list", data := .seq vs.toArray }) (hi : IntsAre vs ns) (hl : ns.length ≤ sizeLine) (hr : Room k callerA)
    (F : ∀ base : Heap, K.In base → base.Ns mainGlobals mg → FnG P w K mg base CX0 k fa fd [x] sp) (bd : ∀ (s : Shared) (u : Value), BindsTo s fd ⟨[u], []⟩ [(x, u)])
    (hsp : ∀ H : Hp, Only H → SqL K H a (ns.map V.int) → sp [.ref a] H (fun v _ => v = .bl true) fun _ _ _ => False) :
    codeAny (model P w) callerA (.call (.ref fa) ⟨[.ref a], []⟩) (fun r z2 => r = .ok (.ret (.bool true)) ∧ OldK z.heap z2.heap ∧ z2.os = z.os ∧ AllBare z2.gens) z := by
  have rv := vals_ints hi
  have lv := hi.length
  have go := law_coreG inK hns hb hbb noL ng ha hr F bd
  cases hk : K.lookup a with
  | some o =>
    have e := inK a o hk
    rw [ha] at e
    have e' := Option.some.inj e
    subst e'
    have on : Only fun _ => none := fun _ => .inl rfl
    exact go _ on (hsp _ on (.inr ⟨_, vs.toArray, _, hk, rfl, rfl, rfl, by rw [List.size_toArray, lv]; exact hl, by simpa using rv⟩)) (fun b u n => nomatch (show (none : Option HO) = some u from n)) (fun b n => absurd rfl n) fun n => absurd rfl n
  | none =>
    have on : Only fun b => if b = a then some (HO.frz { cls := .type "list", data := .seq vs.toArray } (.lst (ns.map V.int))) else none := fun b => by
      by_cases hb : b = a
      · exact .inr ⟨_, _, if_pos hb⟩
      · exact .inl (if_neg hb)
    refine go _ on (hsp _ on (.inl (.inr ⟨{ cls := .type "list", data := .seq vs.toArray }, if_pos rfl⟩))) (fun b u n => ?_) (fun b n => ?_) fun _ => hk
    · by_cases hb : b = a
      · have e := (if_pos hb).symm.trans n
        cases e
        subst hb
        exact ⟨ha, by rw [List.length_map]; exact hl, vs, _, rv, ha⟩
      · exact nomatch (if_neg hb).symm.trans n
    · by_cases hb : b = a
      · exact hb
      · exact absurd (if_neg hb) n
end
theorem walk_ofG {l : PySem.W.OpenLaw} {n k : Nat} {q : Program} {loose : List Str} {XP : (Str → Option Value) → Heap → Prop} {YP : World → Heap → Prop} {d : DefRec} {K : Params → PySem.W.Frag} {sp : World → Sp} {x : Str}
    (hn : l.most = some n) (hn2 : n ≤ sizeLine) (hdf : d.params.defaults = []) (hr : Room k callerA) (hY : ∀ (w : World) (h : Heap), YP w h → (K w.params).In h)
    (F : ∀ (w : World) (mg : Str → Option Value) (fa : Addr) (h : Heap), (K w.params).In h → h.Ns mainGlobals mg → mg d.name = some (.ref fa) →
      ∃ fd : FuncData, (∀ (s : Shared) (u : Value), BindsTo s fd ⟨[u], []⟩ [(x, u)]) ∧ ∀ base : Heap, (K w.params).In base → base.Ns mainGlobals mg → FnG l.prog w (K w.params) mg base CX0 k fa fd [x] (sp w))
    (hsp : ∀ (w : World) (H : Hp) (a : Addr) (ns : List Int), ns.length ≤ n → Only H → SqL (K w.params) H a (ns.map V.int) → sp w [.ref a] H (fun v _ => v = .bl true) fun _ _ _ => False) :
    PySem.W.WalkO q loose XP YP l.row.toRowW d [] (fun f vs => PySem.call f vs) := by
  refine Att.attach_call hn hdf fun w s₀ z mg mb fa o pm cd doc a vs ns G Y ho hd hcd hmg hobj hi hlen hg => ?_
  have inK := hY w _ Y
  obtain ⟨fd, hb, hF⟩ := F w mg fa _ inK G.T.g hmg
  exact law_callG inK G.T.g G.T.b G.T.builtins G.T.nolimit hg hobj hi (Nat.le_trans hlen hn2) hr hF hb fun H on hS => hsp w H a ns hlen on hS
end L2
set_option Elab.async false
set_option linter.all false
set_option maxRecDepth 100000
set_option maxHeartbeats 4000000
namespace K02
open PySem L2 PyProof.Rows
/-! ### the law -/
def spLaw (K : PySem.W.Frag) : Sp := fun vs H Q _ => ∃ (a : Addr) (ns : List Int), vs = [.ref a] ∧ SqL K H a (ns.map V.int) ∧ ns.length ≤ 63 ∧ ∀ H', Q (.bl true) H'
section
variable {P : Program} {w : World} {K : PySem.W.Frag} {mg : Str → Option Value} {base : Heap}
theorem scL : FnScope ["script", "spot", "purse", "turn"] ["script"] (defScope sLaw) := ⟨rfl, rfl, rfl, by decide +kernel, rfl, by decide +kernel, by decide +kernel⟩
theorem ok_law {f fP fR : Addr} {fd fdP fdR : FuncData} (F : Fun K "law" "law" sLaw f fd) (T : Txt K mg) (GP : FnOk P w K mg base CX0 1 fP fdP ["script", "place"] (spPurse K)) (bP : Binds K fdP ["script", "place"] []) (mP : mg "_law_purse" = some (.ref fP)) (kP : PySem.W.keepIn K (.ref fP) = true)
    (GR : FnG P w K mg base CX0 46 fR fdR ["purse"] spRight) (bR : Binds K fdR ["purse"] []) (mR : mg "_law_right" = some (.ref fR)) (kR : PySem.W.keepIn K (.ref fR) = true) : FnG P w K mg base CX0 47 f fd ["script"] (spLaw K) := by
  refine F.okG scL (fun vs H Q E h => ?_) (fun cdv A outer s H vs Q E fr hr h => ?_)
  · obtain ⟨a, ns, rfl, _⟩ := h
    rfl
  obtain ⟨a, ns, rfl, hS, hl, kk⟩ := h
  have hr1 : Room 1 (A.deeper (envOfC "law" (defScope sLaw) s.heap.objs.size f cdv)) := hr.mono (by decide)
  refine ⟨_, pss_cons (ps_for PassesOwn.never rfl (pi_range1 rfl T.range (pa_cons (pe_callB (call_max2 rfl) (by rfl) T.max boot_max (pa_cons pe_int (pa_cons (pe_callB (call_min2 rfl) (by rfl) T.min boot_min (pa_cons pe_int (pa_cons (pe_callB call_len_seq (by rfl) T.len PySem.boot_len (pa_cons (pv 0) pa_nil)) pa_nil))) pa_nil))) pa_nil)) (pg_name (i := 1) scL.nd rfl (Or.inl rfl))
      (pss_cons (ps_set (i := 2) scL.nd rfl (Or.inl rfl) (pe_call GP hr1 rfl mP kP bP .nil pass0 (pa_cons (pv 0) (pa_cons (pv 1) pa_nil))))
      (pss_one (ps_for PassesOwn.never rfl (pi_range1 rfl T.range (pa_cons pe_int pa_nil)) (pg_name (i := 3) scL.nd rfl (Or.inl rfl))
        (pss_one (ps_if (pt_not (pt_val (pe_callG GR fr hr rfl mR kR bR pass0 (pa_cons (pv 2) pa_nil)))) pss_never pss_nil))))))
    (pss_one (ps_ret pe_bl)), ?_⟩
  refine ⟨_, rfl, a, _, rfl, .inl hS, _, _, rfl, _, _, rfl, _, rfl, ?_, ?_, ?_⟩
  · split <;> split <;> omega
  · split <;> split <;> omega
  refine for_range (lo := 0) (fun i σ' H' => Same H H' ∧ ∃ v1 v2 v3 : Option V, σ' = [some (.ref a), v1, v2, v3]) ⟨Same.refl _, _, _, _, rfl⟩ ?_ ?_
  · rintro i σ' H1 hi ⟨hs1, v1, v2, v3, rfl⟩
    have hi6 : i ≤ 100 := by
      revert hi
      split <;> split <;> omega
    refine ⟨_, rfl, _, rfl, a, ns, i, by rw [Int.zero_add]; rfl, hs1.seq hS, hl, hi6, fun p H2 hp hs2 hpu => ?_⟩
    refine ⟨2, rfl, by decide, by decide, ?_⟩
    refine for_range (lo := 0) (n := 2) (fun j σ' H' => (But p H1 H' ∧ Purse H' p (j * cR)) ∧ ∃ v1 v3 : Option V, σ' = [some (.ref a), v1, some (.ref p), v3]) ⟨⟨.of hs2, by rw [Nat.zero_mul]; exact hpu⟩, _, _, rfl⟩ ?_ ?_
    · rintro j σ' H3 hj ⟨hA3, w1, w3, rfl⟩
      have hc : cR < 10 ^ 50 := by decide
      have hj3 : j * cR ≤ 1 * cR := Nat.mul_le_mul_right cR (by omega)
      refine ⟨_, rfl, p, j * cR, rfl, hA3.2, by omega, fun H4 hb4 hp4 => ⟨true, rfl, ?_⟩⟩
      refine ⟨⟨hA3.1.trans hb4, ?_⟩, _, _, rfl⟩
      rw [Nat.succ_mul]
      exact hp4
    · rintro σ' H3 ⟨hA3, w1, w3, rfl⟩
      refine ⟨fun b o e => ?_, _, _, _, rfl⟩
      have e1 := hs1 b o e
      exact hA3.1 b o (ne_of_none e1 hp) e1
  · rintro σ' H1 _
    exact kk H1
end
end K02
set_option Elab.async false
set_option linter.all false
set_option maxRecDepth 100000
set_option maxHeartbeats 4000000
namespace K02
open PySem L2 PyProof.Rows
theorem all_mk {l : PySem.W.OpenLaw} {w : World} {K : PySem.W.Frag} {h : Heap} {mg : Str → Option Value} {fa : Addr} (X : K.In h) (G : h.Ns mainGlobals mg) (hfa : mg "law" = some (.ref fa))
    {C C2 pP pO pL dT dP dS : Addr} {rP rO rL : List Value} {t8 t9 u0 u1 u2 v0 v1 v2 v3 w0 w1 w2 : Tok} {f_fresh : Addr} {od_fresh an_fresh : Option Addr} {sl_fresh : Array (Option Value)}
    {oc_fresh kV_fresh dc_fresh pm_fresh cd_fresh ct_fresh : Value} {f_pos : Addr} {od_pos an_pos : Option Addr} {sl_pos : Array (Option Value)} {oc_pos kV_pos dc_pos pm_pos cd_pos ct_pos : Value} {f_fil : Addr}
    {od_fil an_fil : Option Addr} {sl_fil : Array (Option Value)} {oc_fil kV_fil dc_fil pm_fil cd_fil ct_fil : Value} {f_ckn : Addr} {od_ckn an_ckn : Option Addr} {sl_ckn : Array (Option Value)}
    {oc_ckn kV_ckn dc_ckn pm_ckn cd_ckn ct_ckn : Value} {f_cko : Addr} {od_cko an_cko : Option Addr} {sl_cko : Array (Option Value)} {oc_cko kV_cko dc_cko pm_cko cd_cko ct_cko : Value} {f_ckt : Addr}
    {od_ckt an_ckt : Option Addr} {sl_ckt : Array (Option Value)} {oc_ckt kV_ckt dc_ckt pm_ckt cd_ckt ct_ckt : Value} {f_ckd : Addr} {od_ckd an_ckd : Option Addr} {sl_ckd : Array (Option Value)}
    {oc_ckd kV_ckd dc_ckd pm_ckd cd_ckd ct_ckd : Value} {f_ckp : Addr} {od_ckp an_ckp : Option Addr} {sl_ckp : Array (Option Value)} {oc_ckp kV_ckp dc_ckp pm_ckp cd_ckp ct_ckp : Value} {f_ckr : Addr}
    {od_ckr an_ckr : Option Addr} {sl_ckr : Array (Option Value)} {oc_ckr kV_ckr dc_ckr pm_ckr cd_ckr ct_ckr : Value} {f_cke : Addr} {od_cke an_cke : Option Addr} {sl_cke : Array (Option Value)}
    {oc_cke kV_cke dc_cke pm_cke cd_cke ct_cke : Value} {f_cks : Addr} {od_cks an_cks : Option Addr} {sl_cks : Array (Option Value)} {oc_cks kV_cks dc_cks pm_cks cd_cks ct_cks : Value} {f_cku : Addr}
    {od_cku an_cku : Option Addr} {sl_cku : Array (Option Value)} {oc_cku kV_cku dc_cku pm_cku cd_cku ct_cku : Value} {f_purse : Addr} {od_purse an_purse : Option Addr} {sl_purse : Array (Option Value)}
    {oc_purse kV_purse dc_purse pm_purse cd_purse ct_purse : Value} {f_coin : Addr} {od_coin an_coin : Option Addr} {sl_coin : Array (Option Value)} {oc_coin kV_coin dc_coin pm_coin cd_coin ct_coin : Value} {f_mark : Addr}
    {od_mark an_mark : Option Addr} {sl_mark : Array (Option Value)} {oc_mark kV_mark dc_mark pm_mark cd_mark ct_mark : Value} {f_copied : Addr} {od_copied an_copied : Option Addr} {sl_copied : Array (Option Value)}
    {oc_copied kV_copied dc_copied pm_copied cd_copied ct_copied : Value} {f_same : Addr} {od_same an_same : Option Addr} {sl_same : Array (Option Value)} {oc_same kV_same dc_same pm_same cd_same ct_same : Value} {f_size : Addr}
    {od_size an_size : Option Addr} {sl_size : Array (Option Value)} {oc_size kV_size dc_size pm_size cd_size ct_size : Value} {f_nrname : Addr} {od_nrname an_nrname : Option Addr} {sl_nrname : Array (Option Value)}
    {oc_nrname kV_nrname dc_nrname pm_nrname cd_nrname ct_nrname : Value} {f_nrterm : Addr} {od_nrterm an_nrterm : Option Addr} {sl_nrterm : Array (Option Value)} {oc_nrterm kV_nrterm dc_nrterm pm_nrterm cd_nrterm ct_nrterm : Value} {f_nrtak : Addr}
    {od_nrtak an_nrtak : Option Addr} {sl_nrtak : Array (Option Value)} {oc_nrtak kV_nrtak dc_nrtak pm_nrtak cd_nrtak ct_nrtak : Value} {f_near : Addr} {od_near an_near : Option Addr} {sl_near : Array (Option Value)}
    {oc_near kV_near dc_near pm_near cd_near ct_near : Value} {f_term : Addr} {od_term an_term : Option Addr} {sl_term : Array (Option Value)} {oc_term kV_term dc_term pm_term cd_term ct_term : Value} {f_part : Addr}
    {od_part an_part : Option Addr} {sl_part : Array (Option Value)} {oc_part kV_part dc_part pm_part cd_part ct_part : Value} {f_stems : Addr} {od_stems an_stems : Option Addr} {sl_stems : Array (Option Value)}
    {oc_stems kV_stems dc_stems pm_stems cd_stems ct_stems : Value} {f_plan : Addr} {od_plan an_plan : Option Addr} {sl_plan : Array (Option Value)} {oc_plan kV_plan dc_plan pm_plan cd_plan ct_plan : Value} {f_tparts : Addr}
    {od_tparts an_tparts : Option Addr} {sl_tparts : Array (Option Value)} {oc_tparts kV_tparts dc_tparts pm_tparts cd_tparts ct_tparts : Value} {f_made : Addr} {od_made an_made : Option Addr} {sl_made : Array (Option Value)}
    {oc_made kV_made dc_made pm_made cd_made ct_made : Value} {f_nrstep : Addr} {od_nrstep an_nrstep : Option Addr} {sl_nrstep : Array (Option Value)} {oc_nrstep kV_nrstep dc_nrstep pm_nrstep cd_nrstep ct_nrstep : Value} {f_rival : Addr}
    {od_rival an_rival : Option Addr} {sl_rival : Array (Option Value)} {oc_rival kV_rival dc_rival pm_rival cd_rival ct_rival : Value} {f_right : Addr} {od_right an_right : Option Addr} {sl_right : Array (Option Value)}
    {oc_right kV_right dc_right pm_right cd_right ct_right : Value} {f_law : Addr} {od_law an_law : Option Addr} {sl_law : Array (Option Value)} {oc_law kV_law dc_law pm_law cd_law ct_law : Value} {f_init : Addr}
    {od_init an_init : Option Addr} {sl_init : Array (Option Value)} {oc_init kV_init dc_init pm_init cd_init ct_init : Value} {f_gpart : Addr} {od_gpart an_gpart : Option Addr} {sl_gpart : Array (Option Value)}
    {oc_gpart kV_gpart dc_gpart pm_gpart cd_gpart ct_gpart : Value} {f_gord : Addr} {od_gord an_gord : Option Addr} {sl_gord : Array (Option Value)} {oc_gord kV_gord dc_gord pm_gord cd_gord ct_gord : Value} {f_glck : Addr}
    {od_glck an_glck : Option Addr} {sl_glck : Array (Option Value)} {oc_glck kV_glck dc_glck pm_glck cd_glck ct_glck : Value} {f_mwith : Addr} {od_mwith an_mwith : Option Addr} {sl_mwith : Array (Option Value)}
    {oc_mwith kV_mwith dc_mwith pm_mwith cd_mwith ct_mwith : Value} {f_mwout : Addr} {od_mwout an_mwout : Option Addr} {sl_mwout : Array (Option Value)} {oc_mwout kV_mwout dc_mwout pm_mwout cd_mwout ct_mwout : Value} {f_mexch : Addr}
    {od_mexch an_mexch : Option Addr} {sl_mexch : Array (Option Value)} {oc_mexch kV_mexch dc_mexch pm_mexch cd_mexch ct_mexch : Value} {f_meq : Addr} {od_meq an_meq : Option Addr} {sl_meq : Array (Option Value)}
    {oc_meq kV_meq dc_meq pm_meq cd_meq ct_meq : Value} {f_pinit : Addr} {od_pinit an_pinit : Option Addr} {sl_pinit : Array (Option Value)} {oc_pinit kV_pinit dc_pinit pm_pinit cd_pinit ct_pinit : Value} {f_peq : Addr}
    {od_peq an_peq : Option Addr} {sl_peq : Array (Option Value)} {oc_peq kV_peq dc_peq pm_peq cd_peq ct_peq : Value}
    (a_fresh : PySem.W.nsIn K mainGlobals "fresh" = some (some (.ref f_fresh)))
    (l_fresh : K.lookup f_fresh = some ⟨oc_fresh, od_fresh, .func (PySem.W.fnOf "fresh" "fresh" (defArgs sFresh) (defBody sFresh) (defScope sFresh) .none kV_fresh dc_fresh pm_fresh an_fresh cd_fresh ct_fresh), sl_fresh⟩)
    (c_fresh : PySem.W.codeIn K cd_fresh "fresh" = true)
    (k_fresh : PySem.W.keepIn K (.ref f_fresh) = true)
    (a_pos : PySem.W.nsIn K mainGlobals "parts_of_step" = some (some (.ref f_pos)))
    (l_pos : K.lookup f_pos = some ⟨oc_pos, od_pos, .func (PySem.W.fnOf "parts_of_step" "parts_of_step" (defArgs sPoS) (defBody sPoS) (defScope sPoS) .none kV_pos dc_pos pm_pos an_pos cd_pos ct_pos), sl_pos⟩)
    (c_pos : PySem.W.codeIn K cd_pos "parts_of_step" = true)
    (k_pos : PySem.W.keepIn K (.ref f_pos) = true)
    (a_fil : PySem.W.nsIn K mainGlobals "is_filled" = some (some (.ref f_fil)))
    (l_fil : K.lookup f_fil = some ⟨oc_fil, od_fil, .func (PySem.W.fnOf "is_filled" "is_filled" (defArgs sFilled) (defBody sFilled) (defScope sFilled) .none kV_fil dc_fil pm_fil an_fil cd_fil ct_fil), sl_fil⟩)
    (c_fil : PySem.W.codeIn K cd_fil "is_filled" = true)
    (k_fil : PySem.W.keepIn K (.ref f_fil) = true)
    (a_ckn : PySem.W.nsIn K mainGlobals "check_name" = some (some (.ref f_ckn)))
    (l_ckn : K.lookup f_ckn = some ⟨oc_ckn, od_ckn, .func (PySem.W.fnOf "check_name" "check_name" (defArgs sCkName) (defBody sCkName) (defScope sCkName) .none kV_ckn dc_ckn pm_ckn an_ckn cd_ckn ct_ckn), sl_ckn⟩)
    (c_ckn : PySem.W.codeIn K cd_ckn "check_name" = true)
    (k_ckn : PySem.W.keepIn K (.ref f_ckn) = true)
    (a_cko : PySem.W.nsIn K mainGlobals "check_optional_name" = some (some (.ref f_cko)))
    (l_cko : K.lookup f_cko = some ⟨oc_cko, od_cko, .func (PySem.W.fnOf "check_optional_name" "check_optional_name" (defArgs sCkOpt) (defBody sCkOpt) (defScope sCkOpt) .none kV_cko dc_cko pm_cko an_cko cd_cko ct_cko), sl_cko⟩)
    (c_cko : PySem.W.codeIn K cd_cko "check_optional_name" = true)
    (k_cko : PySem.W.keepIn K (.ref f_cko) = true)
    (a_ckt : PySem.W.nsIn K mainGlobals "check_term" = some (some (.ref f_ckt)))
    (l_ckt : K.lookup f_ckt = some ⟨oc_ckt, od_ckt, .func (PySem.W.fnOf "check_term" "check_term" (defArgs sCkTerm) (defBody sCkTerm) (defScope sCkTerm) .none kV_ckt dc_ckt pm_ckt an_ckt cd_ckt ct_ckt), sl_ckt⟩)
    (c_ckt : PySem.W.codeIn K cd_ckt "check_term" = true)
    (k_ckt : PySem.W.keepIn K (.ref f_ckt) = true)
    (a_ckd : PySem.W.nsIn K mainGlobals "check_default" = some (some (.ref f_ckd)))
    (l_ckd : K.lookup f_ckd = some ⟨oc_ckd, od_ckd, .func (PySem.W.fnOf "check_default" "check_default" (defArgs sCkDef) (defBody sCkDef) (defScope sCkDef) .none kV_ckd dc_ckd pm_ckd an_ckd cd_ckd ct_ckd), sl_ckd⟩)
    (c_ckd : PySem.W.codeIn K cd_ckd "check_default" = true)
    (k_ckd : PySem.W.keepIn K (.ref f_ckd) = true)
    (a_ckp : PySem.W.nsIn K mainGlobals "check_part" = some (some (.ref f_ckp)))
    (l_ckp : K.lookup f_ckp = some ⟨oc_ckp, od_ckp, .func (PySem.W.fnOf "check_part" "check_part" (defArgs sCkPart) (defBody sCkPart) (defScope sCkPart) .none kV_ckp dc_ckp pm_ckp an_ckp cd_ckp ct_ckp), sl_ckp⟩)
    (c_ckp : PySem.W.codeIn K cd_ckp "check_part" = true)
    (k_ckp : PySem.W.keepIn K (.ref f_ckp) = true)
    (a_ckr : PySem.W.nsIn K mainGlobals "check_row" = some (some (.ref f_ckr)))
    (l_ckr : K.lookup f_ckr = some ⟨oc_ckr, od_ckr, .func (PySem.W.fnOf "check_row" "check_row" (defArgs sCkRow) (defBody sCkRow) (defScope sCkRow) .none kV_ckr dc_ckr pm_ckr an_ckr cd_ckr ct_ckr), sl_ckr⟩)
    (c_ckr : PySem.W.codeIn K cd_ckr "check_row" = true)
    (k_ckr : PySem.W.keepIn K (.ref f_ckr) = true)
    (a_cke : PySem.W.nsIn K mainGlobals "check_record" = some (some (.ref f_cke)))
    (l_cke : K.lookup f_cke = some ⟨oc_cke, od_cke, .func (PySem.W.fnOf "check_record" "check_record" (defArgs sCkRec) (defBody sCkRec) (defScope sCkRec) .none kV_cke dc_cke pm_cke an_cke cd_cke ct_cke), sl_cke⟩)
    (c_cke : PySem.W.codeIn K cd_cke "check_record" = true)
    (k_cke : PySem.W.keepIn K (.ref f_cke) = true)
    (a_cks : PySem.W.nsIn K mainGlobals "check_step" = some (some (.ref f_cks)))
    (l_cks : K.lookup f_cks = some ⟨oc_cks, od_cks, .func (PySem.W.fnOf "check_step" "check_step" (defArgs sCkStep) (defBody sCkStep) (defScope sCkStep) .none kV_cks dc_cks pm_cks an_cks cd_cks ct_cks), sl_cks⟩)
    (c_cks : PySem.W.codeIn K cd_cks "check_step" = true)
    (k_cks : PySem.W.keepIn K (.ref f_cks) = true)
    (a_cku : PySem.W.nsIn K mainGlobals "check_rules" = some (some (.ref f_cku)))
    (l_cku : K.lookup f_cku = some ⟨oc_cku, od_cku, .func (PySem.W.fnOf "check_rules" "check_rules" (defArgs sCkRules) (defBody sCkRules) (defScope sCkRules) .none kV_cku dc_cku pm_cku an_cku cd_cku ct_cku), sl_cku⟩)
    (c_cku : PySem.W.codeIn K cd_cku "check_rules" = true)
    (k_cku : PySem.W.keepIn K (.ref f_cku) = true)
    (a_purse : PySem.W.nsIn K mainGlobals "_law_purse" = some (some (.ref f_purse)))
    (l_purse : K.lookup f_purse = some ⟨oc_purse, od_purse, .func (PySem.W.fnOf "_law_purse" "_law_purse" (defArgs sPurse) (defBody sPurse) (defScope sPurse) .none kV_purse dc_purse pm_purse an_purse cd_purse ct_purse), sl_purse⟩)
    (c_purse : PySem.W.codeIn K cd_purse "_law_purse" = true)
    (k_purse : PySem.W.keepIn K (.ref f_purse) = true)
    (a_coin : PySem.W.nsIn K mainGlobals "_law_coin" = some (some (.ref f_coin)))
    (l_coin : K.lookup f_coin = some ⟨oc_coin, od_coin, .func (PySem.W.fnOf "_law_coin" "_law_coin" (defArgs sCoin) (defBody sCoin) (defScope sCoin) .none kV_coin dc_coin pm_coin an_coin cd_coin ct_coin), sl_coin⟩)
    (c_coin : PySem.W.codeIn K cd_coin "_law_coin" = true)
    (k_coin : PySem.W.keepIn K (.ref f_coin) = true)
    (a_mark : PySem.W.nsIn K mainGlobals "_law_ta_mark" = some (some (.ref f_mark)))
    (l_mark : K.lookup f_mark = some ⟨oc_mark, od_mark, .func (PySem.W.fnOf "_law_ta_mark" "_law_ta_mark" (defArgs sMark) (defBody sMark) (defScope sMark) .none kV_mark dc_mark pm_mark an_mark cd_mark ct_mark), sl_mark⟩)
    (c_mark : PySem.W.codeIn K cd_mark "_law_ta_mark" = true)
    (k_mark : PySem.W.keepIn K (.ref f_mark) = true)
    (a_copied : PySem.W.nsIn K mainGlobals "_law_ta_copy" = some (some (.ref f_copied)))
    (l_copied : K.lookup f_copied = some ⟨oc_copied, od_copied, .func (PySem.W.fnOf "_law_ta_copy" "_law_ta_copy" (defArgs sCopied) (defBody sCopied) (defScope sCopied) .none kV_copied dc_copied pm_copied an_copied cd_copied ct_copied), sl_copied⟩)
    (c_copied : PySem.W.codeIn K cd_copied "_law_ta_copy" = true)
    (k_copied : PySem.W.keepIn K (.ref f_copied) = true)
    (a_same : PySem.W.nsIn K mainGlobals "_law_ta_same" = some (some (.ref f_same)))
    (l_same : K.lookup f_same = some ⟨oc_same, od_same, .func (PySem.W.fnOf "_law_ta_same" "_law_ta_same" (defArgs sSame) (defBody sSame) (defScope sSame) .none kV_same dc_same pm_same an_same cd_same ct_same), sl_same⟩)
    (c_same : PySem.W.codeIn K cd_same "_law_ta_same" = true)
    (k_same : PySem.W.keepIn K (.ref f_same) = true)
    (a_size : PySem.W.nsIn K mainGlobals "_law_ta_size" = some (some (.ref f_size)))
    (l_size : K.lookup f_size = some ⟨oc_size, od_size, .func (PySem.W.fnOf "_law_ta_size" "_law_ta_size" (defArgs sSize) (defBody sSize) (defScope sSize) .none kV_size dc_size pm_size an_size cd_size ct_size), sl_size⟩)
    (c_size : PySem.W.codeIn K cd_size "_law_ta_size" = true)
    (k_size : PySem.W.keepIn K (.ref f_size) = true)
    (a_nrname : PySem.W.nsIn K mainGlobals "_law_ta_near_name" = some (some (.ref f_nrname)))
    (l_nrname : K.lookup f_nrname = some ⟨oc_nrname, od_nrname, .func (PySem.W.fnOf "_law_ta_near_name" "_law_ta_near_name" (defArgs sNrName) (defBody sNrName) (defScope sNrName) .none kV_nrname dc_nrname pm_nrname an_nrname cd_nrname ct_nrname), sl_nrname⟩)
    (c_nrname : PySem.W.codeIn K cd_nrname "_law_ta_near_name" = true)
    (k_nrname : PySem.W.keepIn K (.ref f_nrname) = true)
    (a_nrterm : PySem.W.nsIn K mainGlobals "_law_ta_near_term" = some (some (.ref f_nrterm)))
    (l_nrterm : K.lookup f_nrterm = some ⟨oc_nrterm, od_nrterm, .func (PySem.W.fnOf "_law_ta_near_term" "_law_ta_near_term" (defArgs sNrTerm) (defBody sNrTerm) (defScope sNrTerm) .none kV_nrterm dc_nrterm pm_nrterm an_nrterm cd_nrterm ct_nrterm), sl_nrterm⟩)
    (c_nrterm : PySem.W.codeIn K cd_nrterm "_law_ta_near_term" = true)
    (k_nrterm : PySem.W.keepIn K (.ref f_nrterm) = true)
    (a_nrtak : PySem.W.nsIn K mainGlobals "_law_ta_near_taking" = some (some (.ref f_nrtak)))
    (l_nrtak : K.lookup f_nrtak = some ⟨oc_nrtak, od_nrtak, .func (PySem.W.fnOf "_law_ta_near_taking" "_law_ta_near_taking" (defArgs sNrTak) (defBody sNrTak) (defScope sNrTak) .none kV_nrtak dc_nrtak pm_nrtak an_nrtak cd_nrtak ct_nrtak), sl_nrtak⟩)
    (c_nrtak : PySem.W.codeIn K cd_nrtak "_law_ta_near_taking" = true)
    (k_nrtak : PySem.W.keepIn K (.ref f_nrtak) = true)
    (a_near : PySem.W.nsIn K mainGlobals "_law_ta_near" = some (some (.ref f_near)))
    (l_near : K.lookup f_near = some ⟨oc_near, od_near, .func (PySem.W.fnOf "_law_ta_near" "_law_ta_near" (defArgs sNear) (defBody sNear) (defScope sNear) .none kV_near dc_near pm_near an_near cd_near ct_near), sl_near⟩)
    (c_near : PySem.W.codeIn K cd_near "_law_ta_near" = true)
    (k_near : PySem.W.keepIn K (.ref f_near) = true)
    (a_term : PySem.W.nsIn K mainGlobals "_law_tk_term" = some (some (.ref f_term)))
    (l_term : K.lookup f_term = some ⟨oc_term, od_term, .func (PySem.W.fnOf "_law_tk_term" "_law_tk_term" (defArgs sTerm) (defBody sTerm) (defScope sTerm) .none kV_term dc_term pm_term an_term cd_term ct_term), sl_term⟩)
    (c_term : PySem.W.codeIn K cd_term "_law_tk_term" = true)
    (k_term : PySem.W.keepIn K (.ref f_term) = true)
    (a_part : PySem.W.nsIn K mainGlobals "_law_tk_part" = some (some (.ref f_part)))
    (l_part : K.lookup f_part = some ⟨oc_part, od_part, .func (PySem.W.fnOf "_law_tk_part" "_law_tk_part" (defArgs sPart) (defBody sPart) (defScope sPart) .none kV_part dc_part pm_part an_part cd_part ct_part), sl_part⟩)
    (c_part : PySem.W.codeIn K cd_part "_law_tk_part" = true)
    (k_part : PySem.W.keepIn K (.ref f_part) = true)
    (a_stems : PySem.W.nsIn K mainGlobals "_law_tk_stems" = some (some (.ref f_stems)))
    (l_stems : K.lookup f_stems = some ⟨oc_stems, od_stems, .func (PySem.W.fnOf "_law_tk_stems" "_law_tk_stems" (defArgs sStems) (defBody sStems) (defScope sStems) .none kV_stems dc_stems pm_stems an_stems cd_stems ct_stems), sl_stems⟩)
    (c_stems : PySem.W.codeIn K cd_stems "_law_tk_stems" = true)
    (k_stems : PySem.W.keepIn K (.ref f_stems) = true)
    (a_plan : PySem.W.nsIn K mainGlobals "_law_tp_plan" = some (some (.ref f_plan)))
    (l_plan : K.lookup f_plan = some ⟨oc_plan, od_plan, .func (PySem.W.fnOf "_law_tp_plan" "_law_tp_plan" (defArgs sPlan) (defBody sPlan) (defScope sPlan) .none kV_plan dc_plan pm_plan an_plan cd_plan ct_plan), sl_plan⟩)
    (c_plan : PySem.W.codeIn K cd_plan "_law_tp_plan" = true)
    (k_plan : PySem.W.keepIn K (.ref f_plan) = true)
    (a_tparts : PySem.W.nsIn K mainGlobals "_law_tp_parts" = some (some (.ref f_tparts)))
    (l_tparts : K.lookup f_tparts = some ⟨oc_tparts, od_tparts, .func (PySem.W.fnOf "_law_tp_parts" "_law_tp_parts" (defArgs sTpParts) (defBody sTpParts) (defScope sTpParts) .none kV_tparts dc_tparts pm_tparts an_tparts cd_tparts ct_tparts), sl_tparts⟩)
    (c_tparts : PySem.W.codeIn K cd_tparts "_law_tp_parts" = true)
    (k_tparts : PySem.W.keepIn K (.ref f_tparts) = true)
    (a_made : PySem.W.nsIn K mainGlobals "_law_tp_made" = some (some (.ref f_made)))
    (l_made : K.lookup f_made = some ⟨oc_made, od_made, .func (PySem.W.fnOf "_law_tp_made" "_law_tp_made" (defArgs sMade) (defBody sMade) (defScope sMade) .none kV_made dc_made pm_made an_made cd_made ct_made), sl_made⟩)
    (c_made : PySem.W.codeIn K cd_made "_law_tp_made" = true)
    (k_made : PySem.W.keepIn K (.ref f_made) = true)
    (a_nrstep : PySem.W.nsIn K mainGlobals "_law_ta_near_step" = some (some (.ref f_nrstep)))
    (l_nrstep : K.lookup f_nrstep = some ⟨oc_nrstep, od_nrstep, .func (PySem.W.fnOf "_law_ta_near_step" "_law_ta_near_step" (defArgs sNrStep) (defBody sNrStep) (defScope sNrStep) .none kV_nrstep dc_nrstep pm_nrstep an_nrstep cd_nrstep ct_nrstep), sl_nrstep⟩)
    (c_nrstep : PySem.W.codeIn K cd_nrstep "_law_ta_near_step" = true)
    (k_nrstep : PySem.W.keepIn K (.ref f_nrstep) = true)
    (a_rival : PySem.W.nsIn K mainGlobals "_law_ta_rival" = some (some (.ref f_rival)))
    (l_rival : K.lookup f_rival = some ⟨oc_rival, od_rival, .func (PySem.W.fnOf "_law_ta_rival" "_law_ta_rival" (defArgs sRival) (defBody sRival) (defScope sRival) .none kV_rival dc_rival pm_rival an_rival cd_rival ct_rival), sl_rival⟩)
    (c_rival : PySem.W.codeIn K cd_rival "_law_ta_rival" = true)
    (k_rival : PySem.W.keepIn K (.ref f_rival) = true)
    (a_right : PySem.W.nsIn K mainGlobals "_law_right" = some (some (.ref f_right)))
    (l_right : K.lookup f_right = some ⟨oc_right, od_right, .func (PySem.W.fnOf "_law_right" "_law_right" (defArgs sRight) (defBody sRight) (defScope sRight) .none kV_right dc_right pm_right an_right cd_right ct_right), sl_right⟩)
    (c_right : PySem.W.codeIn K cd_right "_law_right" = true)
    (k_right : PySem.W.keepIn K (.ref f_right) = true)
    (a_law : PySem.W.nsIn K mainGlobals "law" = some (some (.ref f_law)))
    (l_law : K.lookup f_law = some ⟨oc_law, od_law, .func (PySem.W.fnOf "law" "law" (defArgs sLaw) (defBody sLaw) (defScope sLaw) .none kV_law dc_law pm_law an_law cd_law ct_law), sl_law⟩)
    (c_law : PySem.W.codeIn K cd_law "law" = true)
    (k_law : PySem.W.keepIn K (.ref f_law) = true)
    (aC : PySem.W.nsIn K mainGlobals "Program" = some (some (.ref C)))
    (cPg : PySem.W.plainGet K C Str.empty = true)
    (cHd : PySem.W.hasDictIn K C = true)
    (cPo : PySem.W.plainOver K C = true)
    (cSa : PySem.W.findIn K (.ref C) "__setattr__" = some (some (.builtin "object.__setattr__")))
    (nP : PySem.W.findIn K (.ref C) "_steps" = some none)
    (nO : PySem.W.findIn K (.ref C) "_order" = some none)
    (nL : PySem.W.findIn K (.ref C) "_lacks" = some none)
    (mkM : PySem.W.makesIn K C = true)
    (mkI : PySem.W.findIn K (.ref C) "__init__" = some (some (.ref f_init)))
    (mkK : PySem.W.keepIn K (.ref C) = true)
    (aC2 : PySem.W.nsIn K mainGlobals "Pattern" = some (some (.ref C2)))
    (cPg2 : PySem.W.plainGet K C2 Str.empty = true)
    (cHd2 : PySem.W.hasDictIn K C2 = true)
    (cPo2 : PySem.W.plainOver K C2 = true)
    (cSa2 : PySem.W.findIn K (.ref C2) "__setattr__" = some (some (.builtin "object.__setattr__")))
    (nP2 : PySem.W.findIn K (.ref C2) "_part" = some none)
    (nO2 : PySem.W.findIn K (.ref C2) "_order" = some none)
    (nL2 : PySem.W.findIn K (.ref C2) "_lacks" = some none)
    (nne : PySem.W.findIn K (.ref C) "__ne__" = some (some (.builtin "object.__ne__")))
    (hmo : PySem.W.mroIn K C (.type "object") = some true)
    (ica : PySem.W.findIn K (.ref C) "__class__" = some (some (.builtin "object.__class__")))
    (ick : PySem.W.kitOne K (.ref C) (.ref C) = some true)
    (nne2 : PySem.W.findIn K (.ref C2) "__ne__" = some (some (.builtin "object.__ne__")))
    (hmo2 : PySem.W.mroIn K C2 (.type "object") = some true)
    (ica2 : PySem.W.findIn K (.ref C2) "__class__" = some (some (.builtin "object.__class__")))
    (ick2 : PySem.W.kitOne K (.ref C2) (.ref C2) = some true)
    (icn : PySem.W.specialIn K (.builtin "object.__class__") "__get__" = some (some (.builtin "getset_descriptor.__get__")))
    (ict : PySem.W.takesIn K (.builtin "object.__class__") = some true)
    (ok_NoneType : PySem.W.kitOne K (.type "NoneType") (.ref C) = some false)
    (on_NoneType : PySem.W.notFirst K C (.type "NoneType") = true)
    (om_NoneType : PySem.W.mroIn K C (.type "NoneType") = some false)
    (ok_int : PySem.W.kitOne K (.type "int") (.ref C) = some false)
    (on_int : PySem.W.notFirst K C (.type "int") = true)
    (om_int : PySem.W.mroIn K C (.type "int") = some false)
    (ok_str : PySem.W.kitOne K (.type "str") (.ref C) = some false)
    (on_str : PySem.W.notFirst K C (.type "str") = true)
    (om_str : PySem.W.mroIn K C (.type "str") = some false)
    (ok_list : PySem.W.kitOne K (.type "list") (.ref C) = some false)
    (on_list : PySem.W.notFirst K C (.type "list") = true)
    (om_list : PySem.W.mroIn K C (.type "list") = some false)
    (ok_tuple : PySem.W.kitOne K (.type "tuple") (.ref C) = some false)
    (on_tuple : PySem.W.notFirst K C (.type "tuple") = true)
    (om_tuple : PySem.W.mroIn K C (.type "tuple") = some false)
    (k12 : PySem.W.kitOne K (.ref C2) (.ref C) = some false)
    (k21 : PySem.W.kitOne K (.ref C) (.ref C2) = some false)
    (n12 : PySem.W.notFirst K C (.ref C2) = true)
    (n21 : PySem.W.notFirst K C2 (.ref C) = true)
    (mkM2 : PySem.W.makesIn K C2 = true)
    (mkI2 : PySem.W.findIn K (.ref C2) "__init__" = some (some (.ref f_pinit)))
    (mkK2 : PySem.W.keepIn K (.ref C2) = true)
    (w_peq : PySem.W.findIn K (.ref C2) "__eq__" = some (some (.ref f_peq)))
    (i_init : PySem.W.isFn K (.ref f_init) = true)
    (w_mwith : PySem.W.findIn K (.ref C) "with_order" = some (some (.ref f_mwith)))
    (i_mwith : PySem.W.isFn K (.ref f_mwith) = true)
    (w_mwout : PySem.W.findIn K (.ref C) "without" = some (some (.ref f_mwout)))
    (i_mwout : PySem.W.isFn K (.ref f_mwout) = true)
    (w_mexch : PySem.W.findIn K (.ref C) "exchanged" = some (some (.ref f_mexch)))
    (i_mexch : PySem.W.isFn K (.ref f_mexch) = true)
    (w_meq : PySem.W.findIn K (.ref C) "__eq__" = some (some (.ref f_meq)))
    (i_meq : PySem.W.isFn K (.ref f_meq) = true)
    (i_pinit : PySem.W.isFn K (.ref f_pinit) = true)
    (i_peq : PySem.W.isFn K (.ref f_peq) = true)
    (p1_gpart : PySem.W.findIn K (.ref C) "steps" = some (some (.ref pP)))
    (p2_gpart : PySem.W.specialIn K (.ref pP) "__get__" = some (some (.builtin "property.__get__")))
    (p3_gpart : PySem.W.takesIn K (.ref pP) = some true)
    (p4_gpart : PySem.W.recIn K pP "property" = some (.ref f_gpart :: rP))
    (p1_gord : PySem.W.findIn K (.ref C) "order" = some (some (.ref pO)))
    (p2_gord : PySem.W.specialIn K (.ref pO) "__get__" = some (some (.builtin "property.__get__")))
    (p3_gord : PySem.W.takesIn K (.ref pO) = some true)
    (p4_gord : PySem.W.recIn K pO "property" = some (.ref f_gord :: rO))
    (p1_glck : PySem.W.findIn K (.ref C) "lacks" = some (some (.ref pL)))
    (p2_glck : PySem.W.specialIn K (.ref pL) "__get__" = some (some (.builtin "property.__get__")))
    (p3_glck : PySem.W.takesIn K (.ref pL) = some true)
    (p4_glck : PySem.W.recIn K pL "property" = some (.ref f_glck :: rL))
    (l_init : K.lookup f_init = some ⟨oc_init, od_init, .func (PySem.W.fnOf "__init__" "Program.__init__" (defArgs sInit) (defBody sInit) (defScope sInit) .none kV_init dc_init pm_init an_init cd_init ct_init), sl_init⟩)
    (c_init : PySem.W.codeIn K cd_init "Program.__init__" = true)
    (k_init : PySem.W.keepIn K (.ref f_init) = true)
    (l_gpart : K.lookup f_gpart = some ⟨oc_gpart, od_gpart, .func (PySem.W.fnOf "steps" "Program.steps" (defArgs sGPart) (defBody sGPart) (defScope sGPart) .none kV_gpart dc_gpart pm_gpart an_gpart cd_gpart ct_gpart), sl_gpart⟩)
    (c_gpart : PySem.W.codeIn K cd_gpart "Program.steps" = true)
    (k_gpart : PySem.W.keepIn K (.ref f_gpart) = true)
    (l_gord : K.lookup f_gord = some ⟨oc_gord, od_gord, .func (PySem.W.fnOf "order" "Program.order" (defArgs sGOrd) (defBody sGOrd) (defScope sGOrd) .none kV_gord dc_gord pm_gord an_gord cd_gord ct_gord), sl_gord⟩)
    (c_gord : PySem.W.codeIn K cd_gord "Program.order" = true)
    (k_gord : PySem.W.keepIn K (.ref f_gord) = true)
    (l_glck : K.lookup f_glck = some ⟨oc_glck, od_glck, .func (PySem.W.fnOf "lacks" "Program.lacks" (defArgs sGLck) (defBody sGLck) (defScope sGLck) .none kV_glck dc_glck pm_glck an_glck cd_glck ct_glck), sl_glck⟩)
    (c_glck : PySem.W.codeIn K cd_glck "Program.lacks" = true)
    (k_glck : PySem.W.keepIn K (.ref f_glck) = true)
    (l_mwith : K.lookup f_mwith = some ⟨oc_mwith, od_mwith, .func (PySem.W.fnOf "with_order" "Program.with_order" (defArgs sMWith) (defBody sMWith) (defScope sMWith) .none kV_mwith dc_mwith pm_mwith an_mwith cd_mwith ct_mwith), sl_mwith⟩)
    (c_mwith : PySem.W.codeIn K cd_mwith "Program.with_order" = true)
    (k_mwith : PySem.W.keepIn K (.ref f_mwith) = true)
    (l_mwout : K.lookup f_mwout = some ⟨oc_mwout, od_mwout, .func (PySem.W.fnOf "without" "Program.without" (defArgs sMWout) (defBody sMWout) (defScope sMWout) .none kV_mwout dc_mwout pm_mwout an_mwout cd_mwout ct_mwout), sl_mwout⟩)
    (c_mwout : PySem.W.codeIn K cd_mwout "Program.without" = true)
    (k_mwout : PySem.W.keepIn K (.ref f_mwout) = true)
    (l_mexch : K.lookup f_mexch = some ⟨oc_mexch, od_mexch, .func (PySem.W.fnOf "exchanged" "Program.exchanged" (defArgs sMExch) (defBody sMExch) (defScope sMExch) .none kV_mexch dc_mexch pm_mexch an_mexch cd_mexch ct_mexch), sl_mexch⟩)
    (c_mexch : PySem.W.codeIn K cd_mexch "Program.exchanged" = true)
    (k_mexch : PySem.W.keepIn K (.ref f_mexch) = true)
    (l_meq : K.lookup f_meq = some ⟨oc_meq, od_meq, .func (PySem.W.fnOf "__eq__" "Program.__eq__" (defArgs sMEq) (defBody sMEq) (defScope sMEq) .none kV_meq dc_meq pm_meq an_meq cd_meq ct_meq), sl_meq⟩)
    (c_meq : PySem.W.codeIn K cd_meq "Program.__eq__" = true)
    (k_meq : PySem.W.keepIn K (.ref f_meq) = true)
    (l_pinit : K.lookup f_pinit = some ⟨oc_pinit, od_pinit, .func (PySem.W.fnOf "__init__" "Pattern.__init__" (defArgs sPInit) (defBody sPInit) (defScope sPInit) .none kV_pinit dc_pinit pm_pinit an_pinit cd_pinit ct_pinit), sl_pinit⟩)
    (c_pinit : PySem.W.codeIn K cd_pinit "Pattern.__init__" = true)
    (k_pinit : PySem.W.keepIn K (.ref f_pinit) = true)
    (l_peq : K.lookup f_peq = some ⟨oc_peq, od_peq, .func (PySem.W.fnOf "__eq__" "Pattern.__eq__" (defArgs sPEq) (defBody sPEq) (defScope sPEq) .none kV_peq dc_peq pm_peq an_peq cd_peq ct_peq), sl_peq⟩)
    (c_peq : PySem.W.codeIn K cd_peq "Pattern.__eq__" = true)
    (k_peq : PySem.W.keepIn K (.ref f_peq) = true)
    (aT : PySem.W.nsIn K mainGlobals "TERM_SIZES" = some (some (.ref dT)))
    (aP : PySem.W.nsIn K mainGlobals "PART_SIZES" = some (some (.ref dP)))
    (aS : PySem.W.nsIn K mainGlobals "STEP_SIZES" = some (some (.ref dS)))
    (aN : PySem.W.nsIn K mainGlobals "LONGEST_NAME" = some (some (.int 8 t8)))
    (aL : PySem.W.nsIn K mainGlobals "LETTERS" = some (some (.str LT t9)))
    (kT : He.dicW K dT = some (He.keysIn w.params ["read", "number", "call"]))
    (kP : He.dicW K dP = some (He.keysIn w.params ["name", "any", "row", "record"]))
    (kS : He.dicW K dS = some (He.keysIn w.params ["take", "set", "cases"]))
    (eT0 : PySem.W.nsIn K dT "read" = some (some (.int 2 u0)))
    (eT1 : PySem.W.nsIn K dT "number" = some (some (.int 2 u1)))
    (eT2 : PySem.W.nsIn K dT "call" = some (some (.int 3 u2)))
    (eP0 : PySem.W.nsIn K dP "name" = some (some (.int 2 v0)))
    (eP1 : PySem.W.nsIn K dP "any" = some (some (.int 1 v1)))
    (eP2 : PySem.W.nsIn K dP "row" = some (some (.int 3 v2)))
    (eP3 : PySem.W.nsIn K dP "record" = some (some (.int 3 v3)))
    (eS0 : PySem.W.nsIn K dS "take" = some (some (.int 3 w0)))
    (eS1 : PySem.W.nsIn K dS "set" = some (some (.int 3 w1)))
    (eS2 : PySem.W.nsIn K dS "cases" = some (some (.int 3 w2)))
    (z_len : PySem.W.nsIn K mainGlobals "len" = some none)
    (z_max : PySem.W.nsIn K mainGlobals "max" = some none)
    (z_min : PySem.W.nsIn K mainGlobals "min" = some none)
    (z_abs : PySem.W.nsIn K mainGlobals "abs" = some none)
    (z_int : PySem.W.nsIn K mainGlobals "int" = some none)
    (z_range : PySem.W.nsIn K mainGlobals "range" = some none)
    (z_set : PySem.W.nsIn K mainGlobals "set" = some none)
    (z_list : PySem.W.nsIn K mainGlobals "list" = some none)
    (z_tuple : PySem.W.nsIn K mainGlobals "tuple" = some none)
    (z_all : PySem.W.nsIn K mainGlobals "all" = some none)
    (z_repr : PySem.W.nsIn K mainGlobals "repr" = some none)
    (z_isinstance : PySem.W.nsIn K mainGlobals "isinstance" = some none)
    (z_dict : PySem.W.nsIn K mainGlobals "dict" = some none)
    (z_bool : PySem.W.nsIn K mainGlobals "bool" = some none)
    (z_str : PySem.W.nsIn K mainGlobals "str" = some none)
    (z_sum : PySem.W.nsIn K mainGlobals "sum" = some none)
    : ∃ fd : FuncData, (∀ (s : Shared) (v : Value), BindsTo s fd ⟨[v], []⟩ [("script", v)]) ∧ ∀ base : Heap, K.In base → base.Ns mainGlobals mg → FnG l.prog w K mg base CX0 47 fa fd ["script"] (spLaw K) := by
  have e := hfa.symm.trans (PySem.W.mg_of X G a_law)
  cases e
  have m_fresh := PySem.W.mg_of X G a_fresh
  have m_pos := PySem.W.mg_of X G a_pos
  have m_fil := PySem.W.mg_of X G a_fil
  have m_ckn := PySem.W.mg_of X G a_ckn
  have m_cko := PySem.W.mg_of X G a_cko
  have m_ckt := PySem.W.mg_of X G a_ckt
  have m_ckd := PySem.W.mg_of X G a_ckd
  have m_ckp := PySem.W.mg_of X G a_ckp
  have m_ckr := PySem.W.mg_of X G a_ckr
  have m_cke := PySem.W.mg_of X G a_cke
  have m_cks := PySem.W.mg_of X G a_cks
  have m_cku := PySem.W.mg_of X G a_cku
  have m_purse := PySem.W.mg_of X G a_purse
  have m_coin := PySem.W.mg_of X G a_coin
  have m_mark := PySem.W.mg_of X G a_mark
  have m_copied := PySem.W.mg_of X G a_copied
  have m_same := PySem.W.mg_of X G a_same
  have m_size := PySem.W.mg_of X G a_size
  have m_nrname := PySem.W.mg_of X G a_nrname
  have m_nrterm := PySem.W.mg_of X G a_nrterm
  have m_nrtak := PySem.W.mg_of X G a_nrtak
  have m_near := PySem.W.mg_of X G a_near
  have m_term := PySem.W.mg_of X G a_term
  have m_part := PySem.W.mg_of X G a_part
  have m_stems := PySem.W.mg_of X G a_stems
  have m_plan := PySem.W.mg_of X G a_plan
  have m_tparts := PySem.W.mg_of X G a_tparts
  have m_made := PySem.W.mg_of X G a_made
  have m_nrstep := PySem.W.mg_of X G a_nrstep
  have m_rival := PySem.W.mg_of X G a_rival
  have m_right := PySem.W.mg_of X G a_right
  have m_law := PySem.W.mg_of X G a_law
  have y_len := PySem.W.mg_none_of X G z_len
  have y_max := PySem.W.mg_none_of X G z_max
  have y_min := PySem.W.mg_none_of X G z_min
  have y_abs := PySem.W.mg_none_of X G z_abs
  have y_int := PySem.W.mg_none_of X G z_int
  have y_range := PySem.W.mg_none_of X G z_range
  have y_set := PySem.W.mg_none_of X G z_set
  have y_list := PySem.W.mg_none_of X G z_list
  have y_tuple := PySem.W.mg_none_of X G z_tuple
  have y_all := PySem.W.mg_none_of X G z_all
  have y_repr := PySem.W.mg_none_of X G z_repr
  have y_isinstance := PySem.W.mg_none_of X G z_isinstance
  have y_dict := PySem.W.mg_none_of X G z_dict
  have y_bool := PySem.W.mg_none_of X G z_bool
  have y_str := PySem.W.mg_none_of X G z_str
  have y_sum := PySem.W.mg_none_of X G z_sum
  have T : Txt K mg := ⟨y_len, y_max, y_min, y_abs, y_int, y_range, y_set, y_list, y_tuple, y_all, y_repr, y_isinstance⟩
  have F_fresh := fun_mk (st := sFresh) l_fresh c_fresh k_fresh
  have b_fresh := F_fresh.binds (ps := ["thing"]) fun _ _ _ _ _ _ us hl => match us, hl with | [_], _ => rfl
  have F_pos := fun_mk (st := sPoS) l_pos c_pos k_pos
  have b_pos := F_pos.binds (ps := ["step"]) fun _ _ _ _ _ _ us hl => match us, hl with | [_], _ => rfl
  have F_fil := fun_mk (st := sFilled) l_fil c_fil k_fil
  have b_fil := F_fil.binds (ps := ["thing"]) fun _ _ _ _ _ _ us hl => match us, hl with | [_], _ => rfl
  have F_ckn := fun_mk (st := sCkName) l_ckn c_ckn k_ckn
  have b_ckn := F_ckn.binds (ps := ["name"]) fun _ _ _ _ _ _ us hl => match us, hl with | [_], _ => rfl
  have F_cko := fun_mk (st := sCkOpt) l_cko c_cko k_cko
  have b_cko := F_cko.binds (ps := ["name"]) fun _ _ _ _ _ _ us hl => match us, hl with | [_], _ => rfl
  have F_ckt := fun_mk (st := sCkTerm) l_ckt c_ckt k_ckt
  have b_ckt := F_ckt.binds (ps := ["term"]) fun _ _ _ _ _ _ us hl => match us, hl with | [_], _ => rfl
  have F_ckd := fun_mk (st := sCkDef) l_ckd c_ckd k_ckd
  have b_ckd := F_ckd.binds (ps := ["default"]) fun _ _ _ _ _ _ us hl => match us, hl with | [_], _ => rfl
  have F_ckp := fun_mk (st := sCkPart) l_ckp c_ckp k_ckp
  have b_ckp := F_ckp.binds (ps := ["part"]) fun _ _ _ _ _ _ us hl => match us, hl with | [_], _ => rfl
  have F_ckr := fun_mk (st := sCkRow) l_ckr c_ckr k_ckr
  have b_ckr := F_ckr.binds (ps := ["part"]) fun _ _ _ _ _ _ us hl => match us, hl with | [_], _ => rfl
  have F_cke := fun_mk (st := sCkRec) l_cke c_cke k_cke
  have b_cke := F_cke.binds (ps := ["part"]) fun _ _ _ _ _ _ us hl => match us, hl with | [_], _ => rfl
  have F_cks := fun_mk (st := sCkStep) l_cks c_cks k_cks
  have b_cks := F_cks.binds (ps := ["step"]) fun _ _ _ _ _ _ us hl => match us, hl with | [_], _ => rfl
  have F_cku := fun_mk (st := sCkRules) l_cku c_cku k_cku
  have b_cku := F_cku.binds (ps := ["order", "lacks"]) fun _ _ _ _ _ _ us hl => match us, hl with | [_, _], _ => rfl
  have F_purse := fun_mk (st := sPurse) l_purse c_purse k_purse
  have b_purse := F_purse.binds (ps := ["script", "place"]) fun _ _ _ _ _ _ us hl => match us, hl with | [_, _], _ => rfl
  have F_coin := fun_mk (st := sCoin) l_coin c_coin k_coin
  have b_coin := F_coin.binds (ps := ["purse", "many"]) fun _ _ _ _ _ _ us hl => match us, hl with | [_, _], _ => rfl
  have F_mark := fun_mk (st := sMark) l_mark c_mark k_mark
  have b_mark := F_mark.binds (ps := ["thing", "tally"]) fun _ _ _ _ _ _ us hl => match us, hl with | [_, _], _ => rfl
  have F_copied := fun_mk (st := sCopied) l_copied c_copied k_copied
  have b_copied := F_copied.binds (ps := ["thing"]) fun _ _ _ _ _ _ us hl => match us, hl with | [_], _ => rfl
  have F_same := fun_mk (st := sSame) l_same c_same k_same
  have b_same := F_same.binds (ps := ["told", "owed"]) fun _ _ _ _ _ _ us hl => match us, hl with | [_, _], _ => rfl
  have F_size := fun_mk (st := sSize) l_size c_size k_size
  have b_size := F_size.binds (ps := ["piece"]) fun _ _ _ _ _ _ us hl => match us, hl with | [_], _ => rfl
  have F_nrname := fun_mk (st := sNrName) l_nrname c_nrname k_nrname
  have b_nrname := F_nrname.binds (ps := ["purse", "name"]) fun _ _ _ _ _ _ us hl => match us, hl with | [_, _], _ => rfl
  have F_nrterm := fun_mk (st := sNrTerm) l_nrterm c_nrterm k_nrterm
  have b_nrterm := F_nrterm.binds (ps := ["purse", "term"]) fun _ _ _ _ _ _ us hl => match us, hl with | [_, _], _ => rfl
  have F_nrtak := fun_mk (st := sNrTak) l_nrtak c_nrtak k_nrtak
  have b_nrtak := F_nrtak.binds (ps := ["purse", "one", "known"]) fun _ _ _ _ _ _ us hl => match us, hl with | [_, _, _], _ => rfl
  have F_near := fun_mk (st := sNear) l_near c_near k_near
  have b_near := F_near.binds (ps := ["purse", "piece"]) fun _ _ _ _ _ _ us hl => match us, hl with | [_, _], _ => rfl
  have F_term := fun_mk (st := sTerm) l_term c_term k_term
  have b_term := F_term.binds (ps := ["purse", "labels", "left", "deep"]) fun _ _ _ _ _ _ us hl => match us, hl with | [_, _, _, _], _ => rfl
  have F_part := fun_mk (st := sPart) l_part c_part k_part
  have b_part := F_part.binds (ps := ["purse", "labels", "left", "deep"]) fun _ _ _ _ _ _ us hl => match us, hl with | [_, _, _, _], _ => rfl
  have F_stems := fun_mk (st := sStems) l_stems c_stems k_stems
  have b_stems := F_stems.binds (ps := ["purse", "many"]) fun _ _ _ _ _ _ us hl => match us, hl with | [_, _], _ => rfl
  have F_plan := fun_mk (st := sPlan) l_plan c_plan k_plan
  have b_plan := F_plan.binds (ps := ["purse", "is_great"]) fun _ _ _ _ _ _ us hl => match us, hl with | [_, _], _ => rfl
  have F_tparts := fun_mk (st := sTpParts) l_tparts c_tparts k_tparts
  have b_tparts := F_tparts.binds (ps := ["steps_here"]) fun _ _ _ _ _ _ us hl => match us, hl with | [_], _ => rfl
  have F_made := fun_mk (st := sMade) l_made c_made k_made
  have b_made := F_made.binds (ps := ["purse", "plan"]) fun _ _ _ _ _ _ us hl => match us, hl with | [_, _], _ => rfl
  have F_nrstep := fun_mk (st := sNrStep) l_nrstep c_nrstep k_nrstep
  have b_nrstep := F_nrstep.binds (ps := ["purse", "step"]) fun _ _ _ _ _ _ us hl => match us, hl with | [_, _], _ => rfl
  have F_rival := fun_mk (st := sRival) l_rival c_rival k_rival
  have b_rival := F_rival.binds (ps := ["purse", "plan"]) fun _ _ _ _ _ _ us hl => match us, hl with | [_, _], _ => rfl
  have F_right := fun_mk (st := sRight) l_right c_right k_right
  have b_right := F_right.binds (ps := ["purse"]) fun _ _ _ _ _ _ us hl => match us, hl with | [_], _ => rfl
  have F_law := fun_mk (st := sLaw) l_law c_law k_law
  have F_init := fun_mk (st := sInit) l_init c_init k_init
  have b_init := F_init.binds (ps := ["self", "steps", "order", "lacks"]) fun _ _ _ _ _ _ us hl => match us, hl with | [_, _, _, _], _ => rfl
  have F_gpart := fun_mk (st := sGPart) l_gpart c_gpart k_gpart
  have b_gpart := F_gpart.binds (ps := ["self"]) fun _ _ _ _ _ _ us hl => match us, hl with | [_], _ => rfl
  have F_gord := fun_mk (st := sGOrd) l_gord c_gord k_gord
  have b_gord := F_gord.binds (ps := ["self"]) fun _ _ _ _ _ _ us hl => match us, hl with | [_], _ => rfl
  have F_glck := fun_mk (st := sGLck) l_glck c_glck k_glck
  have b_glck := F_glck.binds (ps := ["self"]) fun _ _ _ _ _ _ us hl => match us, hl with | [_], _ => rfl
  have F_mwith := fun_mk (st := sMWith) l_mwith c_mwith k_mwith
  have b_mwith := F_mwith.binds (ps := ["self", "order"]) fun _ _ _ _ _ _ us hl => match us, hl with | [_, _], _ => rfl
  have F_mwout := fun_mk (st := sMWout) l_mwout c_mwout k_mwout
  have b_mwout := F_mwout.binds (ps := ["self", "index"]) fun _ _ _ _ _ _ us hl => match us, hl with | [_, _], _ => rfl
  have F_mexch := fun_mk (st := sMExch) l_mexch c_mexch k_mexch
  have b_mexch := F_mexch.binds (ps := ["self", "index"]) fun _ _ _ _ _ _ us hl => match us, hl with | [_, _], _ => rfl
  have F_meq := fun_mk (st := sMEq) l_meq c_meq k_meq
  have b_meq := F_meq.binds (ps := ["self", "other"]) fun _ _ _ _ _ _ us hl => match us, hl with | [_, _], _ => rfl
  have F_pinit := fun_mk (st := sPInit) l_pinit c_pinit k_pinit
  have b_pinit := F_pinit.binds (ps := ["self", "part", "order", "lacks"]) fun _ _ _ _ _ _ us hl => match us, hl with | [_, _, _, _], _ => rfl
  have F_peq := fun_mk (st := sPEq) l_peq c_peq k_peq
  have b_peq := F_peq.binds (ps := ["self", "other"]) fun _ _ _ _ _ _ us hl => match us, hl with | [_, _], _ => rfl
  have mC := PySem.W.mg_of X G aC
  have mT := PySem.W.mg_of X G aT
  have mP := PySem.W.mg_of X G aP
  have mS := PySem.W.mg_of X G aS
  have mN := PySem.W.mg_of X G aN
  have mL := PySem.W.mg_of X G aL
  have CC : PCls K C := ⟨⟨cPg, cHd, cPo, cSa⟩, nP, nO, nL⟩
  have M : Mk K C f_init := ⟨mkM, mkI, i_init, mkK⟩
  have TT : Tab K w dT szT := ⟨He.dicW_ok kT, fun q hq => by
    simp at hq
    rcases hq with rfl | rfl | rfl
    · exact ⟨_, eT0, _, rfl⟩
    · exact ⟨_, eT1, _, rfl⟩
    · exact ⟨_, eT2, _, rfl⟩⟩
  have TP : Tab K w dP szP := ⟨He.dicW_ok kP, fun q hq => by
    simp at hq
    rcases hq with rfl | rfl | rfl | rfl
    · exact ⟨_, eP0, _, rfl⟩
    · exact ⟨_, eP1, _, rfl⟩
    · exact ⟨_, eP2, _, rfl⟩
    · exact ⟨_, eP3, _, rfl⟩⟩
  have TS : Tab K w dS szS := ⟨He.dicW_ok kS, fun q hq => by
    simp at hq
    rcases hq with rfl | rfl | rfl
    · exact ⟨_, eS0, _, rfl⟩
    · exact ⟨_, eS1, _, rfl⟩
    · exact ⟨_, eS2, _, rfl⟩⟩
  have qP : PropOf K C "steps" pP f_gpart := ⟨p1_gpart, p2_gpart, p3_gpart, _, p4_gpart⟩
  have qO : PropOf K C "order" pO f_gord := ⟨p1_gord, p2_gord, p3_gord, _, p4_gord⟩
  have qL : PropOf K C "lacks" pL f_glck := ⟨p1_glck, p2_glck, p3_glck, _, p4_glck⟩
  have CC2 : PCls2 K C2 := ⟨⟨cPg2, cHd2, cPo2, cSa2⟩, nP2, nO2, nL2⟩
  have M2 : Mk K C2 f_pinit := ⟨mkM2, mkI2, i_pinit, mkK2⟩
  have EZ : EqC K C f_meq := ⟨nne, w_meq, i_meq, hmo⟩
  have EZ2 : EqC K C2 f_peq := ⟨nne2, w_peq, i_peq, hmo2⟩
  have IC : InsC K C := ⟨ica, icn, ict, hmo, ick⟩
  have IC2 : InsC K C2 := ⟨ica2, icn, ict, hmo2, ick2⟩
  have TC : TwoC K C C2 := ⟨k12, k21, n12, n21⟩
  have NC : NotC K C := ⟨om_NoneType, om_int, om_str, om_list, om_tuple⟩
  have OC : OthC K C := ⟨fun t ht => by
    simp only [List.mem_cons, List.not_mem_nil, or_false] at ht
    rcases ht with rfl | rfl | rfl | rfl | rfl
    · exact ok_NoneType
    · exact ok_int
    · exact ok_str
    · exact ok_list
    · exact ok_tuple, fun t ht => by
    simp only [List.mem_cons, List.not_mem_nil, or_false] at ht
    rcases ht with rfl | rfl | rfl | rfl | rfl
    · exact on_NoneType
    · exact on_int
    · exact on_str
    · exact on_list
    · exact on_tuple⟩
  have mP2 := PySem.W.mg_of X G aC2
  have wW : Meth K C "with_order" f_mwith := ⟨w_mwith, i_mwith, k_mwith⟩
  have wU : Meth K C "without" f_mwout := ⟨w_mwout, i_mwout, k_mwout⟩
  have wX : Meth K C "exchanged" f_mexch := ⟨w_mexch, i_mexch, k_mexch⟩
  refine ⟨PySem.W.fnOf "law" "law" (defArgs sLaw) (defBody sLaw) (defScope sLaw) .none kV_law dc_law pm_law an_law cd_law ct_law, fun s v => .of_eq rfl, fun base _ _ => ?_⟩
  have GC := ok_coin (P := l.prog) (w := w) (base := base) F_coin T
  have GFr : ∀ n, FnOk l.prog w K mg base CX0 n f_fresh _ ["thing"] (spCopy n) := fun n => Nat.rec copy_none (fun n ih => ok_fresh F_fresh T ih b_fresh m_fresh y_dict) n
  have GCo : ∀ n, FnOk l.prog w K mg base CX0 n f_copied _ ["thing"] (spCopy n) := fun n => Nat.rec copy_none (fun n ih => ok_tcopy F_copied T ih b_copied m_copied y_dict) n
  have GMa : ∀ n, FnOk l.prog w K mg base CX0 n f_mark _ ["thing", "tally"] (spMark n) := fun n => Nat.rec mark_none (fun n ih => ok_mark F_mark T ih b_mark m_mark y_dict) n
  have GSa : ∀ n, FnG l.prog w K mg base CX0 n f_same _ ["told", "owed"] (spSame2 n) := fun n => Nat.rec same2_none (fun n ih => ok_same2 F_same T ih b_same m_same y_dict y_bool y_str) n
  have GTm : ∀ n, FnOk l.prog w K mg base CX0 n f_term _ ["purse", "labels", "left", "deep"] (spTerm n) := fun n => Nat.rec term_none (fun n ih => ok_term F_term T F_coin GC b_coin m_coin ih b_term m_term) n
  have GPt : ∀ n, FnOk l.prog w K mg base CX0 n f_part _ ["purse", "labels", "left", "deep"] (spPart n) := fun n => Nat.rec part_none (fun n ih => ok_part F_part T F_coin GC b_coin m_coin F_term (GTm 7) b_term m_term ih b_part m_part) n
  have GSt := ok_stems (P := l.prog) (w := w) (base := base) F_stems T F_coin GC b_coin m_coin
  have GPl := ok_plan (P := l.prog) (w := w) (base := base) F_plan T F_coin GC b_coin m_coin F_stems GSt b_stems m_stems F_term (GTm 7) b_term m_term F_part (GPt 15) b_part m_part
  have GFi := ok_filled (P := l.prog) (w := w) (base := base) F_fil T
  have GKn := ok_ckname (P := l.prog) (w := w) (base := base) F_ckn T y_str mN mL
  have GKo := ok_ckopt (P := l.prog) (w := w) (base := base) F_cko F_ckn GKn b_ckn m_ckn
  have GKt : ∀ n, FnOk l.prog w K mg base CX0 n f_ckt _ ["term"] (spCkTerm n) := fun n => Nat.rec ckterm_none (fun n ih => ok_ckterm F_ckt T F_fil GFi b_fil m_fil F_ckn GKn b_ckn m_ckn TT mT ih b_ckt m_ckt) n
  have GKd := ok_ckdef (P := l.prog) (w := w) (base := base) F_ckd F_ckt (GKt 7) b_ckt m_ckt
  have GKp : ∀ n, FnOk l.prog w K mg base CX0 n f_ckp _ ["part"] (spCkPart n) ∧ FnOk l.prog w K mg base CX0 n f_ckr _ ["part"] (spCkIn true n) ∧ FnOk l.prog w K mg base CX0 n f_cke _ ["part"] (spCkIn false n) := fun n => Nat.rec ⟨ckpart_none, ckin_none, ckin_none⟩
    (fun n ih => ⟨ok_ckpart F_ckp T F_fil GFi b_fil m_fil F_ckn GKn b_ckn m_ckn TP mP F_ckr ih.2.1 b_ckr m_ckr F_cke ih.2.2 b_cke m_cke,
      ok_ckrow F_ckr F_cko GKo b_cko m_cko F_ckd GKd b_ckd m_ckd F_ckp ih.1 b_ckp m_ckp, ok_ckrec F_cke F_cko GKo b_cko m_cko F_ckn GKn b_ckn m_ckn F_ckd GKd b_ckd m_ckd F_ckp ih.1 b_ckp m_ckp⟩) n
  have GKu := ok_ckrules (P := l.prog) (w := w) (mg := mg) (base := base) F_cku
  have GPo := ok_pos (P := l.prog) (w := w) (base := base) F_pos T
  have GKs := ok_ckstep (P := l.prog) (w := w) (base := base) F_cks T F_fil GFi b_fil m_fil TS mS F_ckn GKn b_ckn m_ckn F_ckt (GKt 7) b_ckt m_ckt F_cko GKo b_cko m_cko F_pos GPo b_pos m_pos F_ckp (GKp 24).1 b_ckp m_ckp
  have GIn := ok_init (P := l.prog) (w := w) (base := base) F_init CC F_cks GKs b_cks m_cks F_cku GKu b_cku m_cku F_fresh (GFr 40) b_fresh m_fresh
  have GGp := ok_gpart (P := l.prog) (w := w) (base := base) F_gpart CC F_fresh (GFr 40) b_fresh m_fresh
  have GGo := ok_gord (P := l.prog) (w := w) (mg := mg) (base := base) F_gord CC
  have GGl := ok_glck (P := l.prog) (w := w) (mg := mg) (base := base) F_glck CC
  have GMw := ok_mwith (P := l.prog) (w := w) (base := base) F_mwith CC M mC GIn b_init
  have GMo := ok_mwout (P := l.prog) (w := w) (base := base) F_mwout CC T M mC GIn b_init
  have GMx := ok_mexch (P := l.prog) (w := w) (base := base) F_mexch CC T M mC GIn b_init
  have GMd := ok_made (P := l.prog) (w := w) (base := base) F_made T CC M mC F_coin GC b_coin m_coin F_copied (GCo 40) b_copied m_copied F_init GIn b_init wW GMw b_mwith wU GMo b_mwout wX GMx b_mexch qP GGp b_gpart qO GGo b_gord qL GGl b_glck F_mark (GMa 40) b_mark m_mark
  have GTp := ok_tparts (P := l.prog) (w := w) (mg := mg) (base := base) F_tparts T
  have GSz : ∀ n, FnOk l.prog w K mg base CX0 n f_size _ ["piece"] (spSize n) := fun n => Nat.rec size_none (fun n ih => ok_size F_size T y_sum ih b_size m_size) n
  have GNn := ok_nrname (P := l.prog) (w := w) (base := base) F_nrname T F_coin GC b_coin m_coin
  have GNt : ∀ n, FnOk l.prog w K mg base CX0 (n + 2) f_nrterm _ ["purse", "term"] (spNrTerm n) := fun n => Nat.rec (nrterm_none.mono (Nat.zero_le _)) (fun n ih => ok_nrterm (k := n) F_nrterm T F_coin GC b_coin m_coin F_nrname GNn b_nrname m_nrname ih b_nrterm m_nrterm) n
  have GNe : ∀ n, FnOk l.prog w K mg base CX0 (2 * n + 8) f_near _ ["purse", "piece"] (spNear n) := fun n => Nat.rec near_none (fun n ih => ok_near (k := n) F_near T F_coin GC b_coin m_coin F_nrname GNn b_nrname m_nrname F_nrtak (ok_nrtak (k := n) F_nrtak T F_coin GC b_coin m_coin F_nrname GNn b_nrname m_nrname F_nrterm (GNt 5) b_nrterm m_nrterm F_near ih b_near m_near) b_nrtak m_nrtak) n
  have GNs := ok_nrstep (P := l.prog) (w := w) (base := base) F_nrstep T F_coin GC b_coin m_coin F_nrname GNn b_nrname m_nrname F_nrterm (GNt 5) b_nrterm m_nrterm F_near (GNe 7) b_near m_near
  have GRv := ok_rival (P := l.prog) (w := w) (base := base) F_rival T F_coin GC b_coin m_coin F_plan GPl b_plan m_plan F_nrstep GNs b_nrstep m_nrstep
  have GMe := ok_meq (P := l.prog) (w := w) (base := base) F_meq CC T IC mC
  have GPi := ok_pinit (P := l.prog) (w := w) (base := base) F_pinit CC2 F_ckp (GKp 24).1 b_ckp m_ckp F_cku GKu b_cku m_cku F_fresh (GFr 40) b_fresh m_fresh
  have GPe := ok_peq (P := l.prog) (w := w) (base := base) F_peq T mP2
  have GR := ok_right (P := l.prog) (w := w) (base := base) F_right T y_sum CC IC OC NC EZ CC2 IC2 TC EZ2 M2 mP2 F_coin GC b_coin m_coin F_plan GPl b_plan m_plan F_made GMd b_made m_made F_rival GRv b_rival m_rival F_tparts GTp b_tparts m_tparts F_size (GSz 9) b_size m_size F_same (GSa 40) b_same m_same GMe b_meq GPe b_peq GPi b_pinit qP GGp b_gpart
  exact ok_law F_law T (ok_purse F_purse T) b_purse m_purse k_purse GR b_right m_right k_right
end K02
set_option Elab.async false
set_option maxRecDepth 100000
namespace K02
open PySem L2 PyProof.Rows
theorem walk {l : PySem.W.OpenLaw} {q : Program} {loose : List Str} {XP : (Str → Option Value) → Heap → Prop} {YP : World → Heap → Prop} {d : DefRec} {K : Params → PySem.W.Frag} (hn : l.most = some 63) (hdf : d.params.defaults = [])
    (hY : ∀ (w : World) (h : Heap), YP w h → (K w.params).In h)
    (F : ∀ (w : World) (mg : Str → Option Value) (fa : Addr) (h : Heap), (K w.params).In h → h.Ns mainGlobals mg → mg d.name = some (.ref fa) →
      ∃ fd : FuncData, (∀ (s : Shared) (u : Value), BindsTo s fd ⟨[u], []⟩ [("script", u)]) ∧ ∀ base : Heap, (K w.params).In base → base.Ns mainGlobals mg → FnG l.prog w (K w.params) mg base CX0 47 fa fd ["script"] (spLaw (K w.params))) :
    PySem.W.WalkO q loose XP YP l.row.toRowW d [] (fun f vs => PySem.call f vs) :=
  L2.walk_ofG (n := 63) (k := 47) (x := "script") (sp := fun w => spLaw (K w.params)) hn (by decide) hdf ⟨rfl, by decide, by decide⟩ hY F (fun _ _ a ns hl _ hS => ⟨a, ns, rfl, hS, hl, fun _ => rfl⟩)
end K02
open PySem PySem.W PyProof.Rows
set_option maxRecDepth 100000 in
set_option maxHeartbeats 0 in
theorem PySem.Challenge.cw_partedvalues_k59_programs_equal_holds : PySem.Challenge.rw_partedvalues_k59_programs_equal.Holds := by
  w_on; o_law; k_head; (case hw => w_witness2)
  k_fill
  refine K02.walk (l := PySem.Challenge.rw_partedvalues_k59_programs_equal) rfl rfl (fun w h Y => PySem.W.kIn_of Y) ?F
  case F =>
    intro w mg fa h KX G hmg
    refine' K02.all_mk KX G hmg ?a_fresh ?l_fresh ?c_fresh ?k_fresh ?a_pos ?l_pos ?c_pos ?k_pos ?a_fil ?l_fil ?c_fil ?k_fil ?a_ckn ?l_ckn ?c_ckn ?k_ckn ?a_cko ?l_cko ?c_cko ?k_cko ?a_ckt ?l_ckt ?c_ckt ?k_ckt ?a_ckd ?l_ckd ?c_ckd ?k_ckd ?a_ckp ?l_ckp ?c_ckp ?k_ckp ?a_ckr ?l_ckr ?c_ckr ?k_ckr ?a_cke ?l_cke ?c_cke ?k_cke ?a_cks ?l_cks ?c_cks ?k_cks ?a_cku ?l_cku ?c_cku ?k_cku ?a_purse ?l_purse ?c_purse ?k_purse ?a_coin ?l_coin ?c_coin ?k_coin ?a_mark ?l_mark ?c_mark ?k_mark ?a_copied ?l_copied ?c_copied ?k_copied ?a_same ?l_same ?c_same ?k_same ?a_size ?l_size ?c_size ?k_size ?a_nrname ?l_nrname ?c_nrname ?k_nrname ?a_nrterm ?l_nrterm ?c_nrterm ?k_nrterm ?a_nrtak ?l_nrtak ?c_nrtak ?k_nrtak ?a_near ?l_near ?c_near ?k_near ?a_term ?l_term ?c_term ?k_term ?a_part ?l_part ?c_part ?k_part ?a_stems ?l_stems ?c_stems ?k_stems ?a_plan ?l_plan ?c_plan ?k_plan ?a_tparts ?l_tparts ?c_tparts ?k_tparts ?a_made ?l_made ?c_made ?k_made ?a_nrstep ?l_nrstep ?c_nrstep ?k_nrstep ?a_rival ?l_rival ?c_rival ?k_rival ?a_right ?l_right ?c_right ?k_right ?a_law ?l_law ?c_law ?k_law ?aC ?cPg ?cHd ?cPo ?cSa ?nP ?nO ?nL ?mkM ?mkI ?mkK ?aC2 ?cPg2 ?cHd2 ?cPo2 ?cSa2 ?nP2 ?nO2 ?nL2 ?nne ?hmo ?ica ?ick ?nne2 ?hmo2 ?ica2 ?ick2 ?icn ?ict ?ok_NoneType ?on_NoneType ?om_NoneType ?ok_int ?on_int ?om_int ?ok_str ?on_str ?om_str ?ok_list ?on_list ?om_list ?ok_tuple ?on_tuple ?om_tuple ?k12 ?k21 ?n12 ?n21 ?mkM2 ?mkI2 ?mkK2 ?w_peq ?i_init ?w_mwith ?i_mwith ?w_mwout ?i_mwout ?w_mexch ?i_mexch ?w_meq ?i_meq ?i_pinit ?i_peq ?p1_gpart ?p2_gpart ?p3_gpart ?p4_gpart ?p1_gord ?p2_gord ?p3_gord ?p4_gord ?p1_glck ?p2_glck ?p3_glck ?p4_glck ?l_init ?c_init ?k_init ?l_gpart ?c_gpart ?k_gpart ?l_gord ?c_gord ?k_gord ?l_glck ?c_glck ?k_glck ?l_mwith ?c_mwith ?k_mwith ?l_mwout ?c_mwout ?k_mwout ?l_mexch ?c_mexch ?k_mexch ?l_meq ?c_meq ?k_meq ?l_pinit ?c_pinit ?k_pinit ?l_peq ?c_peq ?k_peq ?aT ?aP ?aS ?aN ?aL ?kT ?kP ?kS ?eT0 ?eT1 ?eT2 ?eP0 ?eP1 ?eP2 ?eP3 ?eS0 ?eS1 ?eS2 ?z_len ?z_max ?z_min ?z_abs ?z_int ?z_range ?z_set ?z_list ?z_tuple ?z_all ?z_repr ?z_isinstance ?z_dict ?z_bool ?z_str ?z_sum
    (case a_fresh => k_is)
    (case l_fresh => k_is)
    (case c_fresh => k_is)
    (case k_fresh => k_is)
    (case a_pos => k_is)
    (case l_pos => k_is)
    (case c_pos => k_is)
    (case k_pos => k_is)
    (case a_fil => k_is)
    (case l_fil => k_is)
    (case c_fil => k_is)
    (case k_fil => k_is)
    (case a_ckn => k_is)
    (case l_ckn => k_is)
    (case c_ckn => k_is)
    (case k_ckn => k_is)
    (case a_cko => k_is)
    (case l_cko => k_is)
    (case c_cko => k_is)
    (case k_cko => k_is)
    (case a_ckt => k_is)
    (case l_ckt => k_is)
    (case c_ckt => k_is)
    (case k_ckt => k_is)
    (case a_ckd => k_is)
    (case l_ckd => k_is)
    (case c_ckd => k_is)
    (case k_ckd => k_is)
    (case a_ckp => k_is)
    (case l_ckp => k_is)
    (case c_ckp => k_is)
    (case k_ckp => k_is)
    (case a_ckr => k_is)
    (case l_ckr => k_is)
    (case c_ckr => k_is)
    (case k_ckr => k_is)
    (case a_cke => k_is)
    (case l_cke => k_is)
    (case c_cke => k_is)
    (case k_cke => k_is)
    (case a_cks => k_is)
    (case l_cks => k_is)
    (case c_cks => k_is)
    (case k_cks => k_is)
    (case a_cku => k_is)
    (case l_cku => k_is)
    (case c_cku => k_is)
    (case k_cku => k_is)
    (case a_purse => k_is)
    (case l_purse => k_is)
    (case c_purse => k_is)
    (case k_purse => k_is)
    (case a_coin => k_is)
    (case l_coin => k_is)
    (case c_coin => k_is)
    (case k_coin => k_is)
    (case a_mark => k_is)
    (case l_mark => k_is)
    (case c_mark => k_is)
    (case k_mark => k_is)
    (case a_copied => k_is)
    (case l_copied => k_is)
    (case c_copied => k_is)
    (case k_copied => k_is)
    (case a_same => k_is)
    (case l_same => k_is)
    (case c_same => k_is)
    (case k_same => k_is)
    (case a_size => k_is)
    (case l_size => k_is)
    (case c_size => k_is)
    (case k_size => k_is)
    (case a_nrname => k_is)
    (case l_nrname => k_is)
    (case c_nrname => k_is)
    (case k_nrname => k_is)
    (case a_nrterm => k_is)
    (case l_nrterm => k_is)
    (case c_nrterm => k_is)
    (case k_nrterm => k_is)
    (case a_nrtak => k_is)
    (case l_nrtak => k_is)
    (case c_nrtak => k_is)
    (case k_nrtak => k_is)
    (case a_near => k_is)
    (case l_near => k_is)
    (case c_near => k_is)
    (case k_near => k_is)
    (case a_term => k_is)
    (case l_term => k_is)
    (case c_term => k_is)
    (case k_term => k_is)
    (case a_part => k_is)
    (case l_part => k_is)
    (case c_part => k_is)
    (case k_part => k_is)
    (case a_stems => k_is)
    (case l_stems => k_is)
    (case c_stems => k_is)
    (case k_stems => k_is)
    (case a_plan => k_is)
    (case l_plan => k_is)
    (case c_plan => k_is)
    (case k_plan => k_is)
    (case a_tparts => k_is)
    (case l_tparts => k_is)
    (case c_tparts => k_is)
    (case k_tparts => k_is)
    (case a_made => k_is)
    (case l_made => k_is)
    (case c_made => k_is)
    (case k_made => k_is)
    (case a_nrstep => k_is)
    (case l_nrstep => k_is)
    (case c_nrstep => k_is)
    (case k_nrstep => k_is)
    (case a_rival => k_is)
    (case l_rival => k_is)
    (case c_rival => k_is)
    (case k_rival => k_is)
    (case a_right => k_is)
    (case l_right => k_is)
    (case c_right => k_is)
    (case k_right => k_is)
    (case a_law => k_is)
    (case l_law => k_is)
    (case c_law => k_is)
    (case k_law => k_is)
    (case aC => k_is)
    (case cPg => k_is)
    (case cHd => k_is)
    (case cPo => k_is)
    (case cSa => k_is)
    (case nP => k_is)
    (case nO => k_is)
    (case nL => k_is)
    (case mkM => k_is)
    (case mkI => k_is)
    (case mkK => k_is)
    (case aC2 => k_is)
    (case cPg2 => k_is)
    (case cHd2 => k_is)
    (case cPo2 => k_is)
    (case cSa2 => k_is)
    (case nP2 => k_is)
    (case nO2 => k_is)
    (case nL2 => k_is)
    (case nne => k_is)
    (case hmo => k_is)
    (case ica => k_is)
    (case ick => first | kernel_rfl | rfl)
    (case nne2 => k_is)
    (case hmo2 => k_is)
    (case ica2 => k_is)
    (case ick2 => first | kernel_rfl | rfl)
    (case icn => k_is)
    (case ict => k_is)
    (case ok_NoneType => first | kernel_rfl | rfl)
    (case on_NoneType => k_is)
    (case om_NoneType => k_is)
    (case ok_int => first | kernel_rfl | rfl)
    (case on_int => k_is)
    (case om_int => k_is)
    (case ok_str => first | kernel_rfl | rfl)
    (case on_str => k_is)
    (case om_str => k_is)
    (case ok_list => first | kernel_rfl | rfl)
    (case on_list => k_is)
    (case om_list => k_is)
    (case ok_tuple => first | kernel_rfl | rfl)
    (case on_tuple => k_is)
    (case om_tuple => k_is)
    (case k12 => first | kernel_rfl | rfl)
    (case k21 => first | kernel_rfl | rfl)
    (case n12 => k_is)
    (case n21 => k_is)
    (case mkM2 => k_is)
    (case mkI2 => k_is)
    (case mkK2 => k_is)
    (case w_peq => k_is)
    (case i_init => k_is)
    (case w_mwith => k_is)
    (case i_mwith => k_is)
    (case w_mwout => k_is)
    (case i_mwout => k_is)
    (case w_mexch => k_is)
    (case i_mexch => k_is)
    (case w_meq => k_is)
    (case i_meq => k_is)
    (case i_pinit => k_is)
    (case i_peq => k_is)
    (case p1_gpart => k_is)
    (case p2_gpart => k_is)
    (case p3_gpart => k_is)
    (case p4_gpart => k_is)
    (case p1_gord => k_is)
    (case p2_gord => k_is)
    (case p3_gord => k_is)
    (case p4_gord => k_is)
    (case p1_glck => k_is)
    (case p2_glck => k_is)
    (case p3_glck => k_is)
    (case p4_glck => k_is)
    (case l_init => k_is)
    (case c_init => k_is)
    (case k_init => k_is)
    (case l_gpart => k_is)
    (case c_gpart => k_is)
    (case k_gpart => k_is)
    (case l_gord => k_is)
    (case c_gord => k_is)
    (case k_gord => k_is)
    (case l_glck => k_is)
    (case c_glck => k_is)
    (case k_glck => k_is)
    (case l_mwith => k_is)
    (case c_mwith => k_is)
    (case k_mwith => k_is)
    (case l_mwout => k_is)
    (case c_mwout => k_is)
    (case k_mwout => k_is)
    (case l_mexch => k_is)
    (case c_mexch => k_is)
    (case k_mexch => k_is)
    (case l_meq => k_is)
    (case c_meq => k_is)
    (case k_meq => k_is)
    (case l_pinit => k_is)
    (case c_pinit => k_is)
    (case k_pinit => k_is)
    (case l_peq => k_is)
    (case c_peq => k_is)
    (case k_peq => k_is)
    (case aT => k_is)
    (case aP => k_is)
    (case aS => k_is)
    (case aN => k_is)
    (case aL => k_is)
    (case kT => first | k_is | rfl | kernel_rfl)
    (case kP => first | k_is | rfl | kernel_rfl)
    (case kS => first | k_is | rfl | kernel_rfl)
    (case eT0 => k_is)
    (case eT1 => k_is)
    (case eT2 => k_is)
    (case eP0 => k_is)
    (case eP1 => k_is)
    (case eP2 => k_is)
    (case eP3 => k_is)
    (case eS0 => k_is)
    (case eS1 => k_is)
    (case eS2 => k_is)
    (case z_len => k_is)
    (case z_max => k_is)
    (case z_min => k_is)
    (case z_abs => k_is)
    (case z_int => k_is)
    (case z_range => k_is)
    (case z_set => k_is)
    (case z_list => k_is)
    (case z_tuple => k_is)
    (case z_all => k_is)
    (case z_repr => k_is)
    (case z_isinstance => k_is)
    (case z_dict => k_is)
    (case z_bool => k_is)
    (case z_str => k_is)
    (case z_sum => k_is)
#print axioms PySem.Challenge.cw_partedvalues_k59_programs_equal_holds
