import PyProof.Rows.All
import Wide.All
import OpenK.AllK
import Wide.FinOn
import HandS.ExcInit
import HandS.IsInst
import HandS.Wide
import HandS.Defaults
import KE.KExcIs
import HandS.ForMost
import HandS.Strs
import HandS.Evl
import PySem.Challenge.RW_partedvalues_k01_errors_constructed
set_option Elab.async false
set_option linter.all false
set_option maxRecDepth 100000
set_option maxHeartbeats 2000000
/-! An own exception made as a value, with positional or keyword arguments. -/
namespace PySem
namespace KwX
open PySem.W PySem.Calls PyProof.Rows PySem.HandSPX
section
variable {M : Model} {A : Around} {E : Value → Shared → Prop} {hh : Heap} {gg : Array GenState} {dr : Drawn} {tt : Nat} {oss : OsState}
variable {nm q : Str} {C N : Addr} {bs bm mb : List Value} {hdct : Bool} {sn : List Str} {sub : List Value} {ab : Bool} {col : Option Bool} {dd : Option Addr} {k0 k1 k2 k3 k5 : Option Value} {B newId initId : String}
/-- the look at the arguments of the maker, whatever the keywords -/
theorem chk_new (F : ExcBaseFacts B newId initId mb) (hT : ∀ Y : String, bm.contains (.type Y) = mb.contains (.type Y)) {ps : List Value} {kws : List (Str × Value)} {Q : Unit → Shared → Prop}
    (hC : hh.get? C = some (excClassObj nm q C N bs bm hdct sn sub ab col dd k0 k1 k2 k3 k5 newId)) (hq : Q () ⟨hh, gg, dr, tt, oss⟩) :
    wpAny M A (checkBuiltinCall newId ⟨.ref C :: ps, kws⟩) Q E ⟨hh, gg, dr, tt, oss⟩ := by
  have w1 : (Value.ref C :: bm).contains (.type B) = true := by
    rw [List.contains_cons, hT, F.hasB, Bool.or_true]
  have w2 := F.noStar
  simp only [checkBuiltinCall, F.newKind, F.newSplit, F.newRow]
  repeat
    first
      | refine wpAny_loadPart_at hC ?_
      | (refine wpAny_isSubtype_exc hC ?_; rw [w1])
      | refine wpAny_staticBase_exc hC ?_
      | refine wpAny_madeBy_exc hC ?_
      | simp only [bne_self_eq_false, Bool.false_eq_true, if_false]
      | wp_step
  exact hq
end

section
variable {prog : Program} {w : World} {A : Around} {E : Value → Shared → Prop} {R : Result → Shared → Prop} {hh : Heap} {gg : Array GenState} {dr : Drawn} {tt : Nat} {oss : OsState}
variable {nm q : Str} {C N : Addr} {bs bm mb : List Value} {hdct : Bool} {sn : List Str} {sub : List Value} {ab : Bool} {col : Option Bool} {dd : Option Addr} {k0 k1 k2 k3 k5 : Option Value} {B newId initId : String}
/-- the maker's own run -/
theorem made_kw (F : ExcBaseFacts B newId initId mb) (hT : ∀ Y : String, bm.contains (.type Y) = mb.contains (.type Y)) {ps : List Value} {kws : List (Str × Value)}
    (hC : hh.get? C = some (excClassObj nm q C N bs bm hdct sn sub ab col dd k0 k1 k2 k3 k5 newId)) (hz : ps.length ≤ sizeLine)
    (hq : R (.ok (.ret (.ref (hh.objs.size + 1)))) ⟨(hh.push (W.kdv_tup ps)).push (excO C hh.objs.size), gg, dr, tt, oss⟩) :
    codeAny (model prog w) A (.builtin newId ⟨.ref C :: ps, kws⟩) R ⟨hh, gg, dr, tt, oss⟩ := by
  have w0 := F.ends
  have wB : (Value.ref C :: bm).contains (.type B) = true := by
    rw [List.contains_cons, hT, F.hasB, Bool.or_true]
  have wA : (Value.ref C :: bm).contains (.type "AttributeError") = false := by
    rw [List.contains_cons, hT, F.noAttr]
    rfl
  have wN : (Value.ref C :: bm).contains (.type "NameError") = false := by
    rw [List.contains_cons, hT, F.noName]
    rfl
  refine codeAny_builtinAt F.entry ?_
  unfold Builtin.«BaseException.__new__»
  refine wpAt_bind ?_
  show wpAt _ _ _ (stack >>= _) _ _ _
  refine wpAt_bind (wpAt_stack fun p below => wpAt_of_wpAny ?_)
  wp_walk
  refine wpAt_of_wpAny ?_
  rw [F.owner]
  repeat
    first
      | with_reducible refine wpAny_madeHere_exc F.canon hC ?_
      | with_reducible refine wpAny_loadPart_at hC ?_
      | (with_reducible refine wpAny_isSubtype_exc hC ?_; first | rw [wB] | rw [wA] | rw [wN])
      | wp_step
  show R _ _
  rw [Heap.size_push]
  exact hq
/-- type.__call__ of such a class: the maker, then its own __init__ -/
theorem called_kw (F : ExcBaseFacts B newId initId mb) (hT : ∀ Y : String, bm.contains (.type Y) = mb.contains (.type Y)) {ps : List Value} {kws : List (Str × Value)} {fI : Addr} {Q : Fin → Shared → Prop}
    (hC : hh.get? C = some (excClassObj nm q C N bs bm hdct sn sub ab col dd k0 k1 k2 k3 k5 newId))
    (hi : W.Looks (model prog w) hh (typeLookup (.ref C) "__init__") (some (.ref fI))) (hb : ∀ me, W.Looks (model prog w) hh (bindSpecial (.ref fI) me) (.ref fI, [me])) (hz : ps.length ≤ sizeLine)
    (hq : codeAny (model prog w) A (.call (.ref fI) ⟨.ref (hh.objs.size + 1) :: ps, kws⟩)
      (fun r z => match r with | .ok (.ret v) => v = .none ∧ Q (.done (.ret (.ref (hh.objs.size + 1)))) z | .ok _ => False | .error e => E e z)
      ⟨(hh.push (W.kdv_tup ps)).push (excO C hh.objs.size), gg, dr, tt, oss⟩) :
    wpAny (model prog w) A (Builtin.«type.__call__» ⟨.ref C :: ps, kws⟩) Q E ⟨hh, gg, dr, tt, oss⟩ := by
  repeat
    first
      | with_reducible refine wpAny_loadPart_at hC ?_
      | with_reducible refine wpAny_madeBy_exc hC ?_
      | wp_step
  refine codeAny_call_builtin_code (Code.quiet_builtin _ F.quiet) (chk_new F hT hC ?_)
  refine made_kw F hT hC hz ?_
  show wpAny _ _ _ _ _ _
  have kp : ∀ b o, hh.get? b = some o → ((hh.push (W.kdv_tup ps)).push (excO C hh.objs.size)).get? b = some o := fun b o e =>
    Heap.get?_push_of_some _ (Heap.get?_push_of_some _ e)
  have hC1 := kp _ _ hC
  have hx : ((hh.push (W.kdv_tup ps)).push (excO C hh.objs.size)).get? (hh.objs.size + 1) = some (excO C hh.objs.size) := by heap_get
  have wC : (Value.ref C :: bm).contains (.ref C) = true := by simp
  have i1 := hi.keeps kp
  have b1 := (hb (.ref (hh.objs.size + 1))).keeps kp
  unfold isInstance
  repeat
    first
      | with_reducible refine wpAny_loadPart_at hx ?_
      | (with_reducible refine wpAny_isSubtype_exc hC1 ?_; rw [wC])
      | wp_step
  show wpAny _ _ (typeLookup (.ref C) _) _ _ _
  refine i1.at ?_
  refine wpAny_holding (wpAny_bind (b1.at ?_))
  refine wpAny_bind (wpAny_call (codeAny_mono hq fun r z hz => ?_))
  rcases r with e | (v | _ | _ | _) <;> first | exact hz | exact hz.elim | skip
  obtain ⟨rfl, hz⟩ := hz
  first
    | exact wpAny_pure (wpAny_pure hz)
    | (wp_walk; exact hz)
theorem call_kw (F : ExcBaseFacts B newId initId mb) (hT : ∀ Y : String, bm.contains (.type Y) = mb.contains (.type Y)) {ps : List Value} {kws : List (Str × Value)} {fI : Addr}
    (hC : hh.get? C = some (excClassObj nm q C N bs bm hdct sn sub ab col dd k0 k1 k2 k3 k5 newId))
    (hi : W.Looks (model prog w) hh (typeLookup (.ref C) "__init__") (some (.ref fI))) (hb : ∀ me, W.Looks (model prog w) hh (bindSpecial (.ref fI) me) (.ref fI, [me])) (hz : ps.length ≤ sizeLine)
    (hq : codeAny (model prog w) (A.under (.builtin "type.__call__" ⟨.ref C :: ps, kws⟩)) (.call (.ref fI) ⟨.ref (hh.objs.size + 1) :: ps, kws⟩) (W.InitBack (hh.objs.size + 1) R)
      ⟨(hh.push (W.kdv_tup ps)).push (excO C hh.objs.size), gg, dr, tt, oss⟩) :
    codeAny (model prog w) A (.call (.ref C) ⟨ps, kws⟩) R ⟨hh, gg, dr, tt, oss⟩ := by
  have f1 := tc_lookup
  have f2 := tc_bind (.ref C)
  have hTy : (⟨hh, gg, dr, tt, oss⟩ : Shared).TypeIs (.ref C) "type" := ⟨_, hC, rfl⟩
  refine codeAny_of_tree ?_
  show wpAny _ _ (callAny (.ref C) _) _ _ _
  repeat
    any_goals
      first
        | assumption
        | with_reducible refine wpAny_loadPart_at hC ?_
        | wp_step
  refine ⟨rfl, ?_⟩
  refine codeAny_call_builtin_at (Code.quiet_builtin _ (by decide +kernel)) entry_typeCall (wpAny_check_type_call_sub hC (called_kw F hT hC hi hb hz ?_))
  refine codeAny_mono hq fun r z hz => ?_
  rcases r with e | (v | _ | _ | _) <;> exact hz
end
end KwX
end PySem

namespace L2
open PySem PySem.Spec PyProof.Rows
/-- at a: an exception of the class at C whose dict at d holds fs -/
def ExcAt (H : Hp) (a C : Addr) (fs : List (Str × V)) : Prop := ∃ d : Addr, H a = some (exo a C (some d)) ∧ H d = some (exd d fs)
/-- C(.., k = v, ..), C an own error class with an own (or inherited) __init__: a value -/
def tExcN (C : Addr) (n m : Nat) (sp : Sp) (gV : List V → List V → List V) (t tk : TA) : TE := fun σ H Q => t σ H fun vs H1 => tk σ H1 fun zs H2 => vs.length = n ∧ zs.length = m ∧ vs.length ≤ 1000 ∧
  ∀ x, H2 x = none → sp (gV (.ref x :: vs) zs) (upd H2 x (exo x C none)) (fun v H3 => v = .non ∧ Q (.ref x) H3) (fun _ _ _ => False)
section
variable {X : Cx} {CX : CXT} {k n : Nat} {fI C : Addr} {fd : FuncData} {ps ks : List Str} {sp : Sp} {x : Str} {p pos : Pos} {e : Expr} {es : List Expr} {kws : List Keyword} {t tk : TA}
variable {g : List Value → List Value → List Value} {gV : List V → List V → List V}
theorem run_excN {pins : List (Addr × Obj)} {σ : St} {H : Hp} {s : Shared} {Q : VK} {us ws : List Value} {vs zs : List V} (T : OexC X.K C) (iC : PySem.W.findIn X.K (.ref C) "__init__" = some (some (.ref fI)))
    (tI : PySem.W.typeIn X.K (.ref fI) = some (.type "function")) (F1 : FnOk X.prog X.w X.K X.mg X.base CX k fI fd ps sp) (hr : Room (k + 1) X.A) (hb : KBn X.K fd ps (n + 1) ks g gV)
    (hx : Passes CX X (fun _ _ _ => False)) (I : Inv X pins σ H s) (r : Vals vs us) (rz : Vals zs ws) (l1 : vs.length = n) (l2 : zs.length = ks.length) (l3 : vs.length ≤ 1000)
    (h : ∀ x, H x = none → sp (gV (.ref x :: vs) zs) (upd H x (exo x C none)) (fun v H3 => v = .non ∧ Q (.ref x) H3) (fun _ _ _ => False)) :
    wpAny (model X.prog X.w) X.A (call (.ref C) us (ks.zip ws)) (EP X pins σ Q) X.xe s := by
  obtain ⟨nm, q, N, bs, bm, sn, sub, ab, col, dd, k0, k1, k2, k3, k5, hC, hbm⟩ := T.cls
  obtain ⟨hp, gg, dr, tk', os⟩ := s
  have hsz : hp.objs.size ≤ hp.objs.size + 1 := Nat.le_succ _
  have hq := h (hp.objs.size + 1) (I.hok.fresh hsz)
  have kp : ∀ b o, hp.get? b = some o → ((hp.push (PySem.W.kdv_tup us)).push (PySem.HandSPX.excO C hp.objs.size)).get? b = some o := fun b o e =>
    Heap.get?_push_of_some _ (Heap.get?_push_of_some _ e)
  have hget : ((hp.push (PySem.W.kdv_tup us)).push (PySem.HandSPX.excO C hp.objs.size)).get? (hp.objs.size + 1) = some (PySem.HandSPX.excO C hp.objs.size) := by heap_get
  have I2 : Inv X pins σ (upd H (hp.objs.size + 1) (exo (hp.objs.size + 1) C none)) ⟨(hp.push (PySem.W.kdv_tup us)).push (PySem.HandSPX.excO C hp.objs.size), gg, dr, tk', os⟩ :=
    I.laid (t' := tk') kp hsz (exo_ok hget)
  have r1 : Vals (V.ref (hp.objs.size + 1) :: vs) (Value.ref (hp.objs.size + 1) :: us) := .cons rfl r
  have r2 := hb.rel r1 rz
  have e1 : (Value.ref (hp.objs.size + 1) :: us).length = n + 1 := by
    rw [List.length_cons, ← Paired.length r, l1]
  have e2 : ws.length = ks.length := (Paired.length rz).symm.trans l2
  have e3 : us.length ≤ sizeLine := by
    rw [← Paired.length r, sizeLine_eq]
    omega
  refine wpAny_call (PySem.KwX.call_kw F.excBase_ValueError (fun Y => PySem.HandSPX.refsVE_contains Y bm hbm) (I.kIn _ _ hC) (PySem.W.looks_findIn I.kIn iC) (fun me => PySem.W.bind_fn I.kIn me tI) e3
    (codeAny_mono (F1.run _ X.stack _ _ ⟨Value.ref (hp.objs.size + 1) :: us, ks.zip ws⟩ (g (Value.ref (hp.objs.size + 1) :: us) ws) _ _ (fun _ _ _ => False) (hr.make C us (ks.zip ws))
      (I2.env0.make C us (ks.zip ws)) (hb.to _ (Value.ref (hp.objs.size + 1) :: us) ws I2.kIn e1 e2) r2 hq) fun r z hz => ?_))
  cases r with
  | error er => exact hx pins σ _ _ er z I2 hz
  | ok fl =>
    cases fl with
    | ret u =>
      obtain ⟨v, H3, I3, rv, ev, q3⟩ := I2.after hz
      subst ev
      exact ⟨rv, ⟨V.ref (hp.objs.size + 1), H3, I3, rfl, q3⟩⟩
    | next => exact False.elim hz
    | brk => exact False.elim hz
    | cont => exact False.elim hz
/-- C(k = v, ..) -/
theorem pe_excK (T : OexC X.K C) (iC : PySem.W.findIn X.K (.ref C) "__init__" = some (some (.ref fI))) (tI : PySem.W.typeIn X.K (.ref fI) = some (.type "function"))
    (F1 : FnOk X.prog X.w X.K X.mg X.base CX k fI fd ps sp) (hr : Room (k + 1) X.A) (hg : Gl X x) (hm : X.mg x = some (.ref C)) (hb : KBn X.K fd ps 1 ks g gV) (hx : Passes CX X (fun _ _ _ => False)) (hkw : PK X kws tk)
    (hall : (backToKw pos (keywordEach kws X.env)).all (·.1.isSome) = true := by rfl) (hks : (backToKw pos (keywordEach kws X.env)).filterMap (·.1) = ks := by rfl)
    (hdb : (x == ("__debug__" : Str)) = false := by decide)
    (hpl : ((backTo pos (starEach [] X.env)).any (·.1) || (backToKw pos (keywordEach kws X.env)).any (·.1.isNone)) = false := by rfl) :
    PE X (.Call (.Name x p) [] kws pos) (tExcN C 0 ks.length sp gV tNil tk) := by
  refine ⟨fun pins s σ H Q I h => ?_⟩
  refine wpAny_Call_Name_kw (ld_glob I hg hm ?_ hdb)
  refine PySem.W.callWith_KW0 (h₀ := X.base) I.ok.mod.kin T.kC hall ?_ hpl
  refine thn (hkw.run pos pins s σ H _ I h) fun ws s2 ⟨zs, H2, I2, rz, l1, l2, l3, q2⟩ => ⟨I2.kIn, ?_⟩
  rw [hks]
  exact run_excN (us := []) (vs := []) T iC tI F1 hr hb hx I2 .nil rz rfl l2 l3 q2
/-- C(e, ..) -/
theorem pe_excP (T : OexC X.K C) (iC : PySem.W.findIn X.K (.ref C) "__init__" = some (some (.ref fI))) (tI : PySem.W.typeIn X.K (.ref fI) = some (.type "function"))
    (F1 : FnOk X.prog X.w X.K X.mg X.base CX k fI fd ps sp) (hr : Room (k + 1) X.A) (hg : Gl X x) (hm : X.mg x = some (.ref C)) (hb : KBn X.K fd ps (n + 1) [] g gV) (hx : Passes CX X (fun _ _ _ => False)) (ha : PA X (e :: es) t)
    (hdb : (x == ("__debug__" : Str)) = false := by decide) (he : starEach (e :: es) X.env = (false, eval e X.env) :: starEach es X.env := by rfl) (hpl : (backTo pos (starEach es X.env)).any (·.1) = false := by rfl) :
    PE X (.Call (.Name x p) (e :: es) [] pos) (tExcN C n 0 sp gV t tNil) := by
  refine ⟨fun pins s σ H Q I h => ?_⟩
  refine wpAny_Call_Name_kw (ld_glob I hg hm ?_ hdb)
  refine PySem.W.callWith_K (h₀ := X.base) I.ok.mod.kin T.kC (thn (ha.run pos pins s σ H _ I h) fun us s1 ⟨vs, H1, I1, r, l1, l2, l3, q⟩ => ⟨I1.kIn, ?_⟩) he hpl
  exact run_excN (ws := []) (zs := []) (ks := []) T iC tI F1 hr hb hx I1 r .nil l1 rfl l3 q
end

/-! ### a field of such an exception, its class -/
/-- what an own error class says, so that isinstance and the fields of its instances are told -/
structure ExcW (K : PySem.W.Frag) (C : Addr) : Prop where
  is1 : (PySem.W.clsIn K C).isSome = true
  ga : PySem.W.findIn K (.ref C) "__getattribute__" = some (some (.builtin "BaseException.__getattribute__"))
  gg : PySem.W.findIn K (.ref C) "__getattr__" = some none
  ex : PySem.W.subIn K (.ref C) (.type "BaseException") = some true
  hd : PySem.W.hasDictIn K C = true
  ca : PySem.W.findIn K (.ref C) "__class__" = some (some (.builtin "object.__class__"))
  sg : PySem.W.specialIn K (.builtin "object.__class__") "__get__" = some (some (.builtin "getset_descriptor.__get__"))
  tk : PySem.W.takesIn K (.builtin "object.__class__") = some true
  ob : PySem.W.mroIn K C (.type "object") = some true
def tExF (K : PySem.W.Frag) (f : Str) (to : TE) : TE := fun σ H Q => to σ H fun x H1 => ∃ (a C : Addr) (fs : List (Str × V)) (v : V), x = .ref a ∧ ExcAt H1 a C fs ∧ ExcW K C ∧ PySem.W.findIn K (.ref C) f = some none ∧ fs.lookup f = some v ∧ Q v H1
section
variable {X : Cx} {o : Expr} {to : TE} {f : Str} {pos : Pos}
theorem Inv.excAt {pins : List (Addr × Obj)} {σ : St} {H : Hp} {s : Shared} {a C : Addr} {fs : List (Str × V)} (I : Inv X pins σ H s) (h : ExcAt H a C fs) :
    ∃ (ox od : Obj), PySem.W.InstAt s.heap a ox C (some od) ∧ ∀ (f : Str) (v : V), fs.lookup f = some v → ∃ u, PySem.W.lookIn f od = some (some u) ∧ RelV v u := by
  obtain ⟨d, ha, hd⟩ := h
  obtain ⟨t1, e1⟩ := exo_at I.hok ha
  obtain ⟨mA, hns, rel⟩ := exd_at I.hok hd
  obtain ⟨od, ho, hl⟩ := lookIn_ns hns
  refine ⟨_, od, ⟨e1, rfl, rfl, ho⟩, fun f v e => ?_⟩
  obtain ⟨u, hu, ru⟩ := RelO.some_of (v := v) (o := mA f) (by rw [← e]; exact rel f)
  exact ⟨u, by rw [hl, hu], ru⟩
/-- error.f -/
theorem pe_exF (ho : PE X o to) (hb : attributeBase o f X.env (eval o X.env) = eval o X.env := by rfl) : PE X (.Attribute o f pos) (tExF X.K f to) := by
  refine ⟨fun pins s σ H Q I h => ?_⟩
  refine attr_of hb (thn (ho.run pins s σ H _ I h) fun u s1 ⟨x, H1, I1, rx, a, C, fs, v, ex, ha, T, hno, hl, q⟩ => ?_)
  subst ex
  obtain rfl : u = Value.ref a := rx
  obtain ⟨ox, od, J, hf⟩ := I1.excAt ha
  obtain ⟨w', hu, ru⟩ := hf f v hl
  exact HandSPX.exc_get I1.kIn J T.ga T.gg T.ex (PySem.W.findObj_own T.hd hno rfl hu) (handed_of ru) ⟨v, H1, I1.tok _, ru, q⟩
/-- isinstance(error, c) -/
def rIsX (K : PySem.W.Frag) : List V → Hp → VK → Prop := fun xs H Q => ∃ (a C : Addr) (fs : List (Str × V)) (c : V) (u : Value) (b : Bool), xs = [.ref a, c] ∧ ClsV c u ∧ ExcAt H a C fs ∧ ExcW K C ∧
  PySem.W.kitOne K (.ref C) u = some b ∧ Q (.bl b) H
theorem call_isX : CallR X (.builtin "isinstance") (rIsX X.K) := by
  intro pins s σ H xs us Q I r h
  obtain ⟨a, C, fs, c, u, b, rfl, k, ha, T, e, q⟩ := h
  obtain ⟨u1, u2, rfl, r1, r2⟩ := vals2 r
  have e2 := k.eq r2
  subst e2
  obtain rfl : u1 = Value.ref a := r1
  obtain ⟨ox, od, J, _⟩ := I.excAt ha
  exact PySem.W.kia_one (PySem.W.kitx_exc T.is1 T.ga T.gg T.ex T.ca T.sg T.tk T.ob) I.kIn J e (fun z => nomatch z) fun tk' => ⟨.bl b, H, I.tok tk', rfl, q⟩
end

/-! ### powers of great numbers, repr of None and of truths -/
def CPowW (i j : Int) : Prop := 0 ≤ j ∧ j ≤ 3 ∧ i.natAbs < 2 ^ 10000
theorem op_powW {X : Cx} : OpR X (binaryOp .Pow) (rI CPowW fun i j => .int (i ^ j.toNat)) := opI fun i j _ _ _ _ _ hc q => by
  obtain ⟨h0, h1, h2⟩ := hc
  refine pow_int h0 ?_ q
  have b1 : Builtin.Int.intBits i ≤ i.natAbs.log2 + 1 := by
    unfold Builtin.Int.intBits
    split <;> omega
  have b2 : i.natAbs.log2 < 10000 := PySem.Flt.log2_lt_of (by decide) h2
  have b3 : (Builtin.Int.intBits i : Int) ≤ 10000 := by omega
  have b4 : (Builtin.Int.intBits i : Int) * j ≤ 10000 * 3 := Int.mul_le_mul b3 h1 h0 (by decide)
  exact Int.le_trans b4 (by decide)
def rRepr : List V → Hp → VK → Prop := fun xs H Q => (xs = [.non] ∧ Q (.str "None") H) ∨ ∃ b, xs = [.bl b] ∧ Q (.str (if b then "True" else "False")) H
theorem call_reprNB {X : Cx} : CallR X (.builtin "repr") rRepr := by
  intro pins s σ H xs us Q I r h
  rcases h with ⟨rfl, q⟩ | ⟨b, rfl, q⟩
  · obtain ⟨u, rfl, r1⟩ := vals1 r
    obtain rfl : u = Value.none := r1
    exact PySem.P.repr_of_none ⟨.str _, H, I.tok _, ⟨_, rfl⟩, q⟩
  · obtain ⟨u, rfl, r1⟩ := vals1 r
    obtain rfl : u = Value.bool b := r1
    exact PySem.P.repr_of_bool ⟨.str _, H, I.tok _, ⟨_, rfl⟩, q⟩
end L2
set_option Elab.async false
set_option linter.all false
set_option maxRecDepth 100000
set_option maxHeartbeats 2000000
namespace K01
open PySem L2 PyProof.Rows
def top (i : Nat) : Stmt := PySem.Challenge.pw_partedvalues_k01_errors_constructed.main.body.getD i (.Pass ⟨0, 0, 0, 0⟩)
abbrev sInit : Stmt := inClass (top 1) 0
abbrev sPurse : Stmt := top 13
abbrev sCoin : Stmt := top 14
abbrev sWords : Stmt := top 15
abbrev sMark : Stmt := top 16
abbrev sSame : Stmt := top 17
abbrev sThing : Stmt := top 18
abbrev sByPos : Stmt := top 19
abbrev sByName : Stmt := top 20
abbrev sFlags : Stmt := top 21
abbrev sRight : Stmt := top 22
abbrev sLaw : Stmt := top 23

/-! ### heaps -/
/-- what was tracked stands, but at p -/
def But (p : Addr) (H H' : Hp) : Prop := ∀ b o, b ≠ p → H b = some o → H' b = some o
theorem But.refl (p : Addr) (H : Hp) : But p H H := fun _ _ _ h => h
theorem But.trans {p : Addr} {H H1 H2 : Hp} (a : But p H H1) (b : But p H1 H2) : But p H H2 := fun c o n h => b c o n (a c o n h)
theorem But.of {p : Addr} {H H' : Hp} (s : Same H H') : But p H H' := fun c o _ h => s c o h
theorem But.upd {p : Addr} {H : Hp} {o : HO} : But p H (upd H p o) := fun c o n h => by
  rw [upd_ne n]
  exact h
theorem But.new {p q : Addr} {H : Hp} {o : HO} (h : H q = none) : But p H (L2.upd H q o) := fun c u _ e => by
  rw [upd_ne (ne_of_none e h)]
  exact e
theorem same_new {H : Hp} {p : Addr} (h : H p = none) (o : HO) : Same H (upd H p o) := fun b u q => by
  rw [upd_ne (ne_of_none q h)]
  exact q
/-- a purse: three numbers, the last one the number of draws -/
def Purse (H : Hp) (p : Addr) (n : Nat) : Prop := ∃ a b c : Int, H p = some (.lst [.int a, .int b, .int c]) ∧ 0 ≤ b ∧ b < 10 ^ 25 ∧ 0 ≤ c ∧ c ≤ (n : Int)
theorem Purse.mono {H : Hp} {p : Addr} {m n : Nat} (h : Purse H p m) (hm : m ≤ n) : Purse H p n := by
  obtain ⟨a, b, c, e, h1, h2, h3, h4⟩ := h
  exact ⟨a, b, c, e, h1, h2, h3, by omega⟩
theorem Purse.same {H H' : Hp} {p : Addr} {n : Nat} (h : Purse H p n) (s : Same H H') : Purse H' p n := by
  obtain ⟨a, b, c, e, r⟩ := h
  exact ⟨a, b, c, s _ _ e, r⟩
theorem Purse.some {H : Hp} {p : Addr} {n : Nat} (h : Purse H p n) : ∃ o, H p = some o := by
  obtain ⟨a, b, c, e, r⟩ := h
  exact ⟨_, e⟩
/-- free behind But is free before (away from p) -/
theorem But.free {p q : Addr} {H H' : Hp} {o : HO} (s : But p H H') (hp : H p = some o) (hp' : ∃ o', H' p = some o') (h : H' q = none) : H q = none := by
  cases e : H q with
  | none => rfl
  | some u =>
    by_cases hq : q = p
    · obtain ⟨o', ho'⟩ := hp'
      rw [hq, ho'] at h
      cases h
    · rw [s q u hq e] at h
      cases h

theorem at3_0 {x y z : V} : atI [x, y, z] 0 = some x := atI_nat (j := 0) rfl
theorem at3_1 {x y z : V} : atI [x, y, z] 1 = some y := atI_nat (j := 1) rfl
theorem at3_2 {x y z : V} : atI [x, y, z] 2 = some z := atI_nat (j := 2) rfl
theorem pos_nat {a b : Int} {n : Nat} (h0 : 0 ≤ a) (h : a < b) (hb : b.toNat ≤ n) : a.natAbs < n := by omega
/-! ### the promises -/
def spPurse (K : PySem.W.Frag) : Sp := fun vs H Q _ => ∃ (a : Addr) (ns : List Int) (i : Nat), vs = [.ref a, .int (i : Int)] ∧ SqL K H a (ns.map V.int) ∧ ns.length ≤ 63 ∧ i ≤ 100 ∧
  ∀ p H', H p = none → Same H H' → Purse H' p 0 → Q (.ref p) H'
def spCoin : Sp := fun vs H Q _ => ∃ (p : Addr) (m : Int) (n : Nat), vs = [.ref p, .int m] ∧ Purse H p n ∧ n < 10 ^ 9 ∧ 0 < m ∧ m ≤ 10 ^ 12 ∧
  ∀ d H', 0 ≤ d → d < m → But p H H' → Purse H' p (n + 1) → Q (.int d) H'
structure Txt (K : PySem.W.Frag) (mg : Str → Option Value) : Prop where
  len : mg "len" = none
  max : mg "max" = none
  min : mg "min" = none
  abs : mg "abs" = none
  int : mg "int" = none
  range : mg "range" = none
  set : mg "set" = none
  list : mg "list" = none
  tuple : mg "tuple" = none
  all : mg "all" = none
  repr : mg "repr" = none
  isi : mg "isinstance" = none
section
variable {P : Program} {w : World} {K : PySem.W.Frag} {mg : Str → Option Value} {base : Heap}
theorem scP : FnScope ["script", "place", "cell"] ["script", "place"] (defScope sPurse) := ⟨rfl, rfl, rfl, by decide +kernel, rfl, by decide +kernel, by decide +kernel⟩
theorem ok_purse {f : Addr} {fd : FuncData} (F : Fun K "_law_purse" "_law_purse" sPurse f fd) (T : Txt K mg) : FnOk P w K mg base CX0 1 f fd ["script", "place"] (spPurse K) := by
  refine F.ok scP (fun vs H Q E h => ?_) (fun cdv A outer s H vs Q E hr h => ?_)
  · obtain ⟨a, ns, i, rfl, _⟩ := h
    rfl
  obtain ⟨a, ns, i, rfl, hS, hl, hi, k⟩ := h
  refine ⟨_, Evl.pss_cut (ps_set (i := 2) scP.nd rfl (Or.inl rfl) (pe_ifExp (pt_cmpR op_lt (pv 1) (pe_callB call_len_seq (by rfl) T.len PySem.boot_len (pa_cons (pv 0) pa_nil)) (nomark _)) (pe_ix ix_list (pv 0) (pv 1) (fun _ _ => rfl)) pe_int))
    (pss_one (ps_ret (pe_lst (pa_cons (pe_callB (call_max2 rfl) (by rfl) T.max boot_max (pa_cons pe_int (pa_cons (pe_op op_sub (pe_callB call_abs (by rfl) T.abs boot_abs (pa_cons (pv 2) pa_nil)) (pe_op op_pow pe_int pe_int)) pa_nil)))
      (pa_cons (pe_op op_mod (pe_callTy call_int1 (by rfl) T.int boot_int (pa_cons (pe_op op_add (pe_op op_add (pe_op op_mul (pv 2) pe_int) (pe_op op_mul (pv 1) pe_int)) pe_int) pa_nil)) (pe_op op_add (pe_op op_pow pe_int pe_int) pe_int))
      (pa_cons pe_int pa_nil)))))), ?_⟩
  refine ⟨fun σ' H' => H' = H ∧ ∃ c : Int, σ' = [some (.ref a), some (.int (i : Int)), some (.int c)], ?_, ?_⟩
  · refine ⟨_, rfl, _, rfl, a, _, rfl, .inl hS, _, _, rfl, rfl, _, rfl, ?_⟩
    refine ite2 (fun c => ?_) (fun c => ⟨rfl, 0, rfl⟩)
    have c' : (i : Int) < (((ns.map V.int).length : Nat) : Int) := of_decide_eq_true c
    rw [List.length_map] at c'
    have hi' : i < ns.length := by omega
    refine ⟨_, rfl, _, rfl, a, _, _, _, rfl, rfl, hS, atI_nat (v := .int ns[i]) (by rw [List.getElem?_map, List.getElem?_eq_getElem hi']; rfl), ?_⟩
    exact ⟨rfl, _, rfl⟩
  · rintro σ' H' ⟨rfl, c, rfl⟩
    refine ⟨_, rfl, _, rfl, _, _, rfl, rfl, ⟨by decide, by decide, by decide⟩, _, _, rfl, rfl, _, _, rfl, ?_⟩
    refine ⟨_, rfl, _, _, rfl, rfl, .inr ⟨by decide, by decide⟩, _, rfl, _, _, rfl, rfl, .inr ⟨by decide, by decide⟩, _, _, rfl, rfl, _, _, rfl, rfl, .inl ⟨_, rfl, ?_⟩⟩
    refine ⟨_, _, rfl, rfl, ⟨by decide, by decide, by decide⟩, _, _, rfl, rfl, _, _, rfl, rfl, (by show (0 : Int) < 10 ^ (24 : Nat) + 7; decide), ?_⟩
    refine ⟨(by show 3 ≤ sizeLine; decide), fun p hp => ?_⟩
    refine k p _ hp (same_new hp _) ⟨_, _, _, upd_same, ?_, ?_, Int.le_refl 0, Int.le_refl 0⟩
    · exact Int.emod_nonneg _ (by show (10 ^ (24 : Nat) + 7 : Int) ≠ 0; decide)
    · refine Int.lt_trans (Int.emod_lt_of_pos _ (by show (0 : Int) < 10 ^ (24 : Nat) + 7; decide)) ?_
      show (10 ^ (24 : Nat) + 7 : Int) < 10 ^ 25
      decide
theorem scC : FnScope ["purse", "many", "drawn", "stirred"] ["purse", "many"] (defScope sCoin) := ⟨rfl, rfl, rfl, by decide +kernel, rfl, by decide +kernel, by decide +kernel⟩
theorem ok_coin {f : Addr} {fd : FuncData} (F : Fun K "_law_coin" "_law_coin" sCoin f fd) (T : Txt K mg) : FnOk P w K mg base CX0 1 f fd ["purse", "many"] spCoin := by
  refine F.ok scC (fun vs H Q E h => ?_) (fun cdv A outer s H vs Q E hr h => ?_)
  · obtain ⟨p, m, n, rfl, _⟩ := h
    rfl
  obtain ⟨p, m, n, rfl, ⟨a, b, c, hp, hb0, hb1, hc0, hc1⟩, hn, hm0, hm1, k⟩ := h
  refine ⟨_, pss_cons (ps_if (pt_cmpR op_gt (pe_ix ix_list (pv 0) pe_int (fun _ _ => rfl)) pe_int (nomark _))
      (pss_cons (ps_set (i := 2) scC.nd rfl (Or.inl rfl) (pe_op op_mod (pe_callTy call_int1 (by rfl) T.int boot_int (pa_cons (pe_ix ix_list (pv 0) pe_int (fun _ _ => rfl)) pa_nil)) (pv 1)))
      (pss_cons (ps_asg (pe_op op_fdivW (pe_ix ix_list (pv 0) pe_int (fun _ _ => rfl)) (pv 1)) (pg_sub (pv 0) pe_int set_list))
      (pss_one (ps_ret (pv 2))))) pss_nil)
    (pss_cons (ps_asg (pe_op op_add (pe_ix ix_list (pv 0) pe_int (fun _ _ => rfl)) pe_int) (pg_sub (pv 0) pe_int set_list))
    (pss_cons (ps_set (i := 3) scC.nd rfl (Or.inl rfl) (pe_op op_mod (pe_op op_powW (pe_callTy call_int1 (by rfl) T.int boot_int (pa_cons (pe_op op_add (pe_ix ix_list (pv 0) pe_int (fun _ _ => rfl)) (pe_op op_mul pe_int (pe_ix ix_list (pv 0) pe_int (fun _ _ => rfl)))) pa_nil)) pe_int) (pe_op op_add (pe_op op_pow pe_int pe_int) pe_int)))
    (pss_cons (ps_set (i := 3) scC.nd rfl (Or.inl rfl) (pe_op op_mod (pe_op op_powW (pe_callTy call_int1 (by rfl) T.int boot_int (pa_cons (pe_op op_add (pv 3) (pe_op op_mul pe_int (pe_ix ix_list (pv 0) pe_int (fun _ _ => rfl)))) pa_nil)) pe_int) (pe_op op_add (pe_op op_pow pe_int pe_int) pe_int)))
    (pss_one (ps_ret (pe_op op_mod (pe_callTy call_int1 (by rfl) T.int boot_int (pa_cons (pe_op op_fdivW (pv 3) pe_int) pa_nil)) (pv 1))))))), ?_⟩
  refine ⟨_, rfl, p, _, _, _, rfl, rfl, SqL.of hp, at3_0, _, _, rfl, rfl, _, rfl, ?_⟩
  have m2 : m.natAbs < 2 ^ 50 := Nat.lt_of_le_of_lt (show m.natAbs ≤ 10 ^ 12 by omega) (by decide)
  refine ite2 (fun h1 => ?_) (fun h1 => ?_)
  · refine ⟨_, rfl, p, _, _, _, rfl, rfl, SqL.of hp, at3_0, .inl ⟨_, rfl, _, rfl, _, _, rfl, rfl, hm0, ?_⟩⟩
    refine ⟨_, rfl, p, _, _, _, rfl, rfl, SqL.of hp, at3_0, _, rfl, _, _, rfl, rfl, wide_div hm0 m2 (by decide) (by decide), ?_⟩
    refine ⟨_, rfl, p, _, _, 0, rfl, rfl, hp, rfl, ?_⟩
    refine ⟨_, rfl, k _ _ (Int.emod_nonneg _ (by omega)) (Int.emod_lt_of_pos _ hm0) But.upd ⟨_, _, _, upd_same, hb0, hb1, hc0, by omega⟩⟩
  · have c1 : c + 1 < 2 ^ 40 := by omega
    refine ⟨_, rfl, p, _, _, _, rfl, rfl, SqL.of hp, at3_2, _, _, rfl, rfl, ?_⟩
    refine ⟨_, rfl, p, _, _, 2, rfl, rfl, hp, rfl, ?_⟩
    have hp1 : (upd H p (.lst [.int a, .int b, .int (c + 1)])) p = some (.lst [.int a, .int b, .int (c + 1)]) := upd_same
    refine ⟨_, rfl, p, _, _, _, rfl, rfl, SqL.of hp1, at3_1, _, rfl, p, _, _, _, rfl, rfl, SqL.of hp1, at3_2, ?_⟩
    refine ⟨_, _, rfl, rfl, .inl ⟨by decide, by decide⟩, _, _, rfl, rfl, .inl ⟨_, rfl, _, _, rfl, rfl, ⟨by decide, by decide, ?_⟩, ?_⟩⟩
    · exact Nat.lt_of_lt_of_le (pos_nat (b := 10 ^ 25 + 2038074743 * 2 ^ 40) (n := 2 ^ 100) (by omega) (by omega) (by decide)) (Nat.pow_le_pow_right (by decide) (by decide))
    refine ⟨_, _, rfl, rfl, ⟨by decide, by decide, by decide⟩, _, _, rfl, rfl, _, _, rfl, rfl, (by show (0 : Int) < 10 ^ (25 : Nat) + 13; decide), ?_⟩
    generalize hd : (b + 2038074743 * (c + 1)) ^ (3 : Int).toNat % (10 ^ (25 : Int).toNat + 13) = d
    have d0 : 0 ≤ d := by
      rw [← hd]
      exact Int.emod_nonneg _ (by decide)
    have d1 : d < 10 ^ 26 := by
      rw [← hd]
      exact Int.lt_trans (Int.emod_lt_of_pos _ (by decide)) (by decide)
    refine ⟨_, rfl, _, rfl, p, _, _, _, rfl, rfl, SqL.of hp1, at3_2, ?_⟩
    refine ⟨_, _, rfl, rfl, .inl ⟨by decide, by decide⟩, _, _, rfl, rfl, .inl ⟨_, rfl, _, _, rfl, rfl, ⟨by decide, by decide, ?_⟩, ?_⟩⟩
    · exact Nat.lt_of_lt_of_le (pos_nat (b := 10 ^ 26 + 982451653 * 2 ^ 40) (n := 2 ^ 100) (by omega) (by omega) (by decide)) (Nat.pow_le_pow_right (by decide) (by decide))
    refine ⟨_, _, rfl, rfl, ⟨by decide, by decide, by decide⟩, _, _, rfl, rfl, _, _, rfl, rfl, (by show (0 : Int) < 10 ^ (24 : Nat) + 7; decide), ?_⟩
    refine ⟨_, rfl, _, _, rfl, rfl, wide_div (b := 11) (by decide) (by decide) (by decide) (by decide), .inl ⟨_, rfl, _, rfl, _, _, rfl, rfl, hm0, ?_⟩⟩
    exact k _ _ (Int.emod_nonneg _ (by omega)) (Int.emod_lt_of_pos _ hm0) But.upd ⟨_, _, _, upd_same, hb0, hb1, by omega, by omega⟩
end
end K01
set_option Elab.async false
set_option linter.all false
set_option maxRecDepth 100000
set_option maxHeartbeats 4000000
namespace K01
open PySem L2 PyProof.Rows
abbrev nW : List Str := ["purse", "many", "letters", "sort_here", "menu", "stem", "start", "rank", "found", "size", "base", "word", "tail", "at", "turn"]
/-- one word: a list of one text -/
def spWord : Sp := fun vs H Q _ => ∃ (p : Addr) (n : Nat), vs = [.ref p, .int 1] ∧ Purse H p n ∧ n + 100 < 10 ^ 9 ∧
  ∀ (r : Addr) (z : Str) H', But p H H' → Purse H' p (n + 100) → H' r = some (.lst [.str z]) → z.length ≤ 100 → Q (.ref r) H'
abbrev LT : Str := Str.ofString "abcdefghijklmnopqrstuvwxyz"
def menuT : List Str := ["soon", "late", "absent", "nothing", "name", "any", "row", "record", "a", "b", "f", "read", "call", "known"].map Str.ofString
theorem menu_small : ∀ z ∈ menuT, z.length ≤ 8 := by decide +kernel
theorem at_ofN {α : Type} {xs : List α} {z : Int} {j : Nat} {v : α} (e : z = (j : Int)) (h : xs[j]? = some v) : atI xs z = some v := by
  rw [e]
  exact atI_nat h
theorem sum_ones : ∀ {ys : List Str}, (∀ y ∈ ys, y.length = 1) → (ys.map (·.length)).sum = ys.length
  | [], _ => rfl
  | y :: ys, h => by
    rw [List.map_cons, List.sum_cons, sum_ones fun z hz => h z (List.mem_cons_of_mem _ hz), h y List.mem_cons_self, List.length_cons]
    exact Nat.add_comm _ _
theorem join_room {ys : List Str} (h : ∀ y ∈ ys, y.length = 1) (hl : ys.length ≤ 1000) : (ys.map (·.length)).sum + ys.length * (Str.ofString "").length ≤ 16777216 := by
  rw [sum_ones h, show (Str.ofString "").length = 0 by decide]
  omega
theorem lt_at {d : Int} (h0 : 0 ≤ d) (h1 : d < 26) : ∃ c, atI LT.cps.toList d = some c := by
  have hl : LT.cps.toList.length = 26 := by decide +kernel
  have hd : d.toNat < LT.cps.toList.length := by omega
  refine ⟨LT.cps.toList[d.toNat], ?_⟩
  exact at_ofN (show d = ((d.toNat : Nat) : Int) by omega) (List.getElem?_eq_getElem hd)
theorem menu_at {d : Int} (h0 : 0 ≤ d) (h1 : d < 14) : ∃ z, atI (menuT.map V.str) d = some (.str z) ∧ z.length ≤ 8 := by
  have hl : menuT.length = 14 := rfl
  have hd : d.toNat < menuT.length := by omega
  refine ⟨menuT[d.toNat], at_ofN (show d = ((d.toNat : Nat) : Int) by omega) ?_, menu_small _ (List.getElem_mem hd)⟩
  rw [List.getElem?_map, List.getElem?_eq_getElem hd]
  rfl
theorem same_put {H H' : Hp} {a : Addr} {o : HO} (s : Same H H') (ha : H a = none) : Same H (upd H' a o) := fun b u e => by
  rw [upd_ne (ne_of_none e ha)]
  exact s b u e
/-- one more text behind a list of texts -/
theorem more_str {H : Hp} {D : Addr} {ys : List Str} {z : Str} : (upd H D (.lst (ys.map V.str ++ [.str z]))) D = some (.lst ((ys ++ [z]).map V.str)) := by
  rw [upd_same, List.map_append]
  rfl
theorem all_more {ys : List Str} {z : Str} {n : Nat} (h : ∀ y ∈ ys, y.length ≤ n) (hz : z.length ≤ n) : ∀ y ∈ ys ++ [z], y.length ≤ n := fun y hy => by
  rcases List.mem_append.mp hy with hy | hy
  · exact h y hy
  · rw [List.mem_singleton.mp hy]
    exact hz
theorem len_more {ys : List Str} {z : Str} {i : Nat} (h : ys.length = i) : (ys ++ [z]).length = i + 1 := by
  rw [List.length_append, h]
  rfl
theorem room_more {ys : List Str} {n : Nat} (h : ys.length ≤ n) (hn : n ≤ 1000) : (ys.map V.str).length < sizeLine := by
  rw [List.length_map]
  exact Nat.lt_of_lt_of_le (show ys.length < 1001 by omega) (by decide)
theorem only_one {ys : List Str} (h : ys.length = 1) : ∃ z, ys = [z] := by
  match ys, h with
  | [z], _ => exact ⟨z, rfl⟩
theorem two_at {x y : Str} {d : Int} {n : Nat} (h0 : 0 ≤ d) (h1 : d < 2) (hx : x.length ≤ n) (hy : y.length ≤ n) : ∃ z : Str, atI [V.str x, V.str y] d = some (.str z) ∧ z.length ≤ n := by
  have e : d = ((0 : Nat) : Int) ∨ d = ((1 : Nat) : Int) := by omega
  rcases e with e | e
  · exact ⟨x, at_ofN e rfl, hx⟩
  · exact ⟨y, at_ofN e rfl, hy⟩
theorem cut_one (ys : List Str) : cutV (ys.map V.str) none (some 1) = (ys.take 1).map V.str := by
  have e : cutV (ys.map V.str) none (some ((1 : Nat) : Int)) = (ys.take 1).map V.str := by
    unfold cutV
    rw [HT.sIx_none, HT.sIx_nat, List.drop_zero, Nat.sub_zero, List.map_take]
    cases ys with
    | nil => rfl
    | cons y r => rfl
  exact e
theorem small100 {n : Nat} (h : n ≤ 1000) : n ≤ sizeLine := Nat.le_trans h (by decide)
theorem lst_ne {xs ys : List V} (h : xs ≠ ys) : HO.lst xs ≠ HO.lst ys := fun e => h (HO.lst.inj e)
/-- what stands around: the purse drawn from c times at most, all else kept, a list of texts apart -/
def Around1 (H : Hp) (p : Addr) (c : Nat) (H' : Hp) : Prop := But p H H' ∧ Purse H' p c
theorem Around1.same {H H1 H2 : Hp} {p : Addr} {c : Nat} (h : Around1 H p c H1) (s : Same H1 H2) : Around1 H p c H2 := ⟨h.1.trans (.of s), h.2.same s⟩
theorem Around1.mono {H H1 : Hp} {p : Addr} {c d : Nat} (h : Around1 H p c H1) (hd : c ≤ d) : Around1 H p d H1 := ⟨h.1, h.2.mono hd⟩
theorem Around1.draw {H H1 H2 : Hp} {p : Addr} {c : Nat} (h : Around1 H p c H1) (b : But p H1 H2) (q : Purse H2 p (c + 1)) : Around1 H p (c + 1) H2 := ⟨h.1.trans b, q⟩
theorem Around1.new {H H1 : Hp} {p a : Addr} {c : Nat} {o : HO} (h : Around1 H p c H1) (ha : H1 a = none) : Around1 H p c (upd H1 a o) := h.same (same_new ha o)
theorem Around1.trans {H H1 H2 : Hp} {p : Addr} {c d : Nat} (h : Around1 H p c H1) (k : Around1 H1 p d H2) : Around1 H p d H2 := ⟨h.1.trans k.1, k.2⟩
/-- an object that is not the purse may change -/
theorem Around1.put {H H1 : Hp} {p a : Addr} {c : Nat} {o : HO} (h : Around1 H p c H1) (ha : H a = none) (hp : a ≠ p) : Around1 H p c (upd H1 a o) := by
  refine ⟨fun b u n e => ?_, ?_⟩
  · rw [upd_ne (ne_of_none e ha)]
    exact h.1 b u n e
  · obtain ⟨x, y, z, e, r⟩ := h.2
    exact ⟨x, y, z, by rw [upd_ne hp.symm]; exact e, r⟩
theorem Around1.free {H H1 : Hp} {p a : Addr} {c n : Nat} (h : Around1 H p c H1) (h0 : Purse H p n) (ha : H1 a = none) : H a = none := by
  obtain ⟨o, e⟩ := h0.some
  exact h.1.free e h.2.some ha
theorem Purse.ne {H : Hp} {p a : Addr} {n : Nat} (h : Purse H p n) (ha : H a = none) : a ≠ p := fun e => by
  obtain ⟨o, q⟩ := h.some
  rw [e, q] at ha
  cases ha
/-- [letters[_law_coin(purse, 26)] for turn in range(m)], the loop alone -/
theorem letters_go {σ : L2.St} {H0 H : Hp} {p D : Addr} {c m : Nat} {Qd : Hp → Prop} (h0 : ∀ v, ((wipe σ [14]).set 14 (some v))[0]? = some (some (.ref p))) (h2 : ∀ v, ((wipe σ [14]).set 14 (some v))[2]? = some (some (.str LT)))
    (hw : ∀ v, wipe ((wipe σ [14]).set 14 (some v)) [14] = wipe σ [14]) (hA : Around1 H0 p c H) (hc : c + m < 10 ^ 9) (hm : m ≤ 1000) (hD : H D = none)
    (hd : ∀ (ys : List Str) H', Around1 H p (c + m) H' → H' D = some (.lst (ys.map V.str)) → ys.length = m → (∀ y ∈ ys, y.length = 1) → Qd H') :
    ∃ W : Nat → Nat → Hp → Prop, (∃ m, W 0 m (upd H D (.lst []))) ∧ ∀ i k H1, W i k H1 →
      ((Itr 0 m).stop i H1 ∧ Qd H1) ∨ ((Itr 0 m).go i H1 ∧ ∃ Nx : Hp → Prop, (∀ H', Nx H' → ∃ m', m' < k ∧ W (i + 1) m' H') ∧ ∀ x H', (Itr 0 m).yld i H1 x H' → gName 14 x (wipe σ [14]) H' fun σ2 H2 => wipe σ2 [14] = wipe σ [14] ∧ tYes σ2 H2 fun b H3 =>
        if b = true then tOp rIxS (tVar 2) (tCall spCoin [] E0 (tCons (tVar 0) (tCons (tC (.int 26)) tNil))) σ2 H3 fun y H4 => ∃ acc, H4 D = some (.lst acc) ∧ acc.length < sizeLine ∧ Nx (upd H4 D (.lst (acc ++ [y]))) else Nx H3) := by
  have hDp : D ≠ p := hA.2.ne hD
  refine lc_range (lo := 0) (n := m) (fun i H' => ∃ ys : List Str, Around1 H p (c + i) H' ∧ H' D = some (.lst (ys.map V.str)) ∧ ys.length = i ∧ ∀ y ∈ ys, y.length = 1)
    ⟨[], ⟨.of (same_new hD _), hA.2.same (same_new hD _)⟩, upd_same, rfl, fun _ h => nomatch h⟩ ?_ ?_
  · rintro i H1 hi ⟨ys, hA1, hD1, hl, h1⟩
    refine ⟨hw _, ?_⟩
    show tOp rIxS (tVar 2) (tCall spCoin [] E0 (tCons (tVar 0) (tCons (tC (.int 26)) tNil))) _ H1 _
    refine ⟨_, h2 _, _, h0 _, p, 26, c + i, rfl, hA1.2, by omega, by decide, by decide, fun d H2 d0 d1 hb hp2 => ?_⟩
    obtain ⟨ch, hch⟩ := lt_at d0 d1
    refine ⟨LT, d, ch, rfl, rfl, by decide +kernel, hch, ?_⟩
    have hD2 : H2 D = some (.lst (ys.map V.str)) := hb _ _ hDp hD1
    refine ⟨_, hD2, by rw [List.length_map]; exact Nat.lt_of_lt_of_le (show ys.length < 1000 by omega) (by decide), ys ++ [⟨#[ch]⟩], ?_, ?_, ?_, ?_⟩
    · exact (hA1.draw hb hp2).put hD hDp
    · rw [upd_same, List.map_append]
      rfl
    · rw [List.length_append, hl]
      rfl
    · intro y hy
      rcases List.mem_append.mp hy with hy | hy
      · exact h1 y hy
      · rw [List.mem_singleton.mp hy]
        rfl
  · rintro H1 ⟨ys, hA1, hD1, hl, h1⟩
    exact hd ys H1 hA1 hD1 hl h1
section
variable {P : Program} {w : World} {K : PySem.W.Frag} {mg : Str → Option Value} {base : Heap}
theorem scW : FnScope nW ["purse", "many"] (defScope sWords) := ⟨rfl, rfl, rfl, by decide +kernel, rfl, by decide +kernel, by decide +kernel⟩
theorem ok_words {f fC : Addr} {fd fdC : FuncData} (F : Fun K "_law_words" "_law_words" sWords f fd) (T : Txt K mg) (FC : Fun K "_law_coin" "_law_coin" sCoin fC fdC) (bC : Binds K fdC ["purse", "many"] []) (mC : mg "_law_coin" = some (.ref fC)) :
    FnOk P w K mg base CX0 2 f fd ["purse", "many"] spWord := by
  have GC : FnOk P w K mg base CX0 1 fC fdC ["purse", "many"] spCoin := ok_coin FC T
  refine F.ok scW (fun vs H Q E h => ?_) (fun cdv A outer s H vs Q E hr h => ?_)
  · obtain ⟨p, n, rfl, _⟩ := h
    rfl
  obtain ⟨p, n, rfl, hp, hn, k⟩ := h
  refine ⟨_, Evl.pss_cut (ps_asg (pe_tup (pa_cons pe_str (pa_cons (pe_call GC hr rfl mC FC.kp bC .nil pass0 (pa_cons (pv 0) (pa_cons pe_int pa_nil))) pa_nil))) (pg_tup rfl (pgs_cons (pg_name (i := 2) scW.nd rfl (.inr rfl)) (pgs_cons (pg_name (i := 3) scW.nd rfl (.inl rfl)) pgs_nil))))
    (Evl.pss_cut (ps_set (i := 4) scW.nd rfl (Or.inr rfl) (pe_lst (pa_cons pe_str (pa_cons pe_str (pa_cons pe_str (pa_cons pe_str (pa_cons pe_str (pa_cons pe_str (pa_cons pe_str pa_nil)))))))))
    (Evl.pss_cut (ps_set (i := 4) scW.nd rfl (Or.inr rfl) (pe_op op_cat (pv 4) (pe_lst (pa_cons pe_str (pa_cons pe_str (pa_cons pe_str (pa_cons pe_str (pa_cons pe_str (pa_cons pe_str (pa_cons pe_str pa_nil))))))))))
    (Evl.pss_cut (ps_set (i := 5) scW.nd rfl (Or.inr rfl) (pe_bm PySem.F.plainAttrs_str PySem.F.slot_str_join PySem.F.type_str_join mt_join pe_str (pa_cons (pe_lc (own := [("turn", 14)]) (g := gName 14) (tt := tYes) rfl scW.nd (pi_range1 rfl T.range (pa_cons pe_int pa_nil)) (blkOk_by (N := nW) (sc := defScope sWords) (by decide +kernel)) (fun _ _ _ _ _ => pg_name (i := 14) scW.nd rfl (Or.inl rfl)) (fun _ _ _ _ _ => pts_nil)
        (fun _ _ _ _ _ => pe_ix ix_str (pv 2) (pe_call GC hr rfl mC FC.kp bC .nil pass0 (pa_cons (pv 0) (pa_cons pe_int pa_nil))) (fun _ _ => rfl))) pa_nil)))
    (Evl.pss_cut (ps_if (pw_and (pt_cmpR op_eq (pv 3) pe_int (nomark _)) (pw_and1 (pt_cmpR op_lt (pv 1) pe_int (nomark _)))).pt
        (pss_cons (ps_set (i := 6) scW.nd rfl (Or.inr rfl) (pe_call GC hr rfl mC FC.kp bC .nil pass0 (pa_cons (pv 0) (pa_cons pe_int pa_nil))))
        (pss_one (ps_ret (pe_lc (own := [("rank", 7)]) (g := gName 7) (tt := tYes) rfl scW.nd (pi_range1 rfl T.range (pa_cons (pv 1) pa_nil)) (blkOk_by (N := nW) (sc := defScope sWords) (by decide +kernel)) (fun _ _ _ _ _ => pg_name (i := 7) scW.nd rfl (Or.inl rfl)) (fun _ _ _ _ _ => pts_nil)
          (fun _ _ _ _ _ => pe_ix (show IxR _ (rIxL K) from ix_list) (pv 4) (pe_op op_mod (pe_callTy call_int1 (by rfl) T.int boot_int (pa_cons (pe_op op_add (pv 6) (pe_op op_mul pe_int (pv 7))) pa_nil)) pe_int) (fun _ _ => rfl)))))) pss_nil)
    (Evl.pss_cut (ps_if (pw_and (pt_cmpR op_eq (pv 3) pe_int (nomark _)) (pw_and1 (pt_cmpR op_lt (pv 1) pe_int (nomark _)))).pt
        (pss_cons (ps_set (i := 6) scW.nd rfl (Or.inr rfl) (pe_call GC hr rfl mC FC.kp bC .nil pass0 (pa_cons (pv 0) (pa_cons (pe_op op_sub pe_int (pv 1)) pa_nil))))
        (pss_one (ps_ret (pe_lc (own := [("rank", 7)]) (g := gName 7) (tt := tYes) rfl scW.nd (pi_range1 rfl T.range (pa_cons (pv 1) pa_nil)) (blkOk_by (N := nW) (sc := defScope sWords) (by decide +kernel)) (fun _ _ _ _ _ => pg_name (i := 7) scW.nd rfl (Or.inl rfl)) (fun _ _ _ _ _ => pts_nil)
          (fun _ _ _ _ _ => pe_slice sl_str (pv 5) po_none (po_some (pe_op op_add (pe_op op_add (pv 6) (pv 7)) pe_int))))))) pss_nil)
    (Evl.pss_cut (ps_set (i := 8) scW.nd rfl (Or.inl rfl) (pe_lst pa_nil))
    (Evl.pss_cut (ps_if (pt_cmpR op_eq (pv 3) pe_int (nomark _)) (pss_one (ps_for PassesOwn.never rfl (pi_range1 rfl T.range (pa_cons (pv 1) pa_nil)) (pg_name (i := 7) scW.nd rfl (Or.inl rfl))
        (pss_cons (ps_set (i := 9) scW.nd rfl (Or.inl rfl) (pe_op op_add pe_int (pe_call GC hr rfl mC FC.kp bC .nil pass0 (pa_cons (pv 0) (pa_cons pe_int pa_nil)))))
        (pss_one (ps_expr (pe_bm PySem.F.plainAttrs_list PySem.F.slot_list_append PySem.F.type_list_append mt_append (pv 8) (pa_cons
          (pe_bm PySem.F.plainAttrs_str PySem.F.slot_str_join PySem.F.type_str_join mt_join pe_str (pa_cons (pe_lc (own := [("turn", 14)]) (g := gName 14) (tt := tYes) rfl scW.nd (pi_range1 rfl T.range (pa_cons (pv 9) pa_nil)) (blkOk_by (N := nW) (sc := defScope sWords) (by decide +kernel)) (fun _ _ _ _ _ => pg_name (i := 14) scW.nd rfl (Or.inl rfl)) (fun _ _ _ _ _ => pts_nil)
            (fun _ _ _ _ _ => pe_ix ix_str (pv 2) (pe_call GC hr rfl mC FC.kp bC .nil pass0 (pa_cons (pv 0) (pa_cons pe_int pa_nil))) (fun _ _ => rfl))) pa_nil)) pa_nil))))))) pss_nil)
    (Evl.pss_cut (ps_if (pt_cmpR op_eq (pv 3) pe_int (nomark _))
        (pss_cons (ps_set (i := 10) scW.nd rfl (Or.inl rfl) (pe_slice sl_str (pv 5) po_none (po_some (pe_op op_add pe_int (pe_call GC hr rfl mC FC.kp bC .nil pass0 (pa_cons (pv 0) (pa_cons pe_int pa_nil)))))))
        (pss_cons (ps_set (i := 8) scW.nd rfl (Or.inl rfl) (pe_lst (pa_cons (pv 10) pa_nil)))
        (pss_cons (ps_for PassesOwn.never rfl (pi_list (pv 4)) (pg_name (i := 11) scW.nd rfl (Or.inl rfl))
          (pss_one (ps_expr (pe_bm PySem.F.plainAttrs_list PySem.F.slot_list_append PySem.F.type_list_append mt_append (pv 8) (pa_cons
            (pe_ix ix_list (pe_lst (pa_cons (pe_op op_add_str (pe_slice sl_str (pv 11) po_none (po_some pe_int)) (pv 10)) (pa_cons (pe_op op_add_str (pv 10) (pe_slice sl_str (pv 11) po_none (po_some pe_int))) pa_nil)))
              (pe_call GC hr rfl mC FC.kp bC .nil pass0 (pa_cons (pv 0) (pa_cons pe_int pa_nil))) (fun _ _ => rfl)) pa_nil)))))
        (pss_one (ps_set (i := 8) scW.nd rfl (Or.inl rfl) (pe_slice sl_list (pv 8) po_none (po_some (pv 1)))))))) pss_nil)
    (Evl.pss_cut (ps_if (pt_cmpR op_eq (pe_lenSet rfl (by rfl) T.len (by rfl) T.set (pv 8)) (pv 1) (nomark _)) (pss_one (ps_ret (pv 8))) pss_nil)
    (Evl.pss_cut (ps_asg (pe_tup (pa_cons (pe_call GC hr rfl mC FC.kp bC .nil pass0 (pa_cons (pv 0) (pa_cons pe_int pa_nil))) (pa_cons (pe_slice sl_str (pv 5) po_none (po_some (pe_call GC hr rfl mC FC.kp bC .nil pass0 (pa_cons (pv 0) (pa_cons pe_int pa_nil))))) pa_nil)))
        (pg_tup rfl (pgs_cons (pg_name (i := 6) scW.nd rfl (.inr rfl)) (pgs_cons (pg_name (i := 12) scW.nd rfl (.inl rfl)) pgs_nil))))
    (Evl.pss_cut (ps_par (i := 13) (j := 8) rfl scW.nd rfl rfl (by decide) rfl rfl (pa_cons (pe_call GC hr rfl mC FC.kp bC .nil pass0 (pa_cons (pv 0) (pa_cons (pe_op op_add (pe_callB call_len (by rfl) T.len PySem.boot_len (pa_cons (pv 12) pa_nil)) pe_int) pa_nil))) (pa_cons (pe_lst pa_nil) pa_nil)) (by rfl))
    (Evl.pss_cut (ps_for PassesOwn.never rfl (pi_range1 rfl T.range (pa_cons (pv 1) pa_nil)) (pg_name (i := 7) scW.nd rfl (Or.inl rfl))
        (pss_one (ps_expr (pe_bm PySem.F.plainAttrs_list PySem.F.slot_list_append PySem.F.type_list_append mt_append (pv 8) (pa_cons
          (pe_op op_add_str (pe_op op_add_str (pe_slice sl_str (pv 12) po_none (po_some (pv 13))) (pe_ix ix_str (pv 2) (pe_op op_mod (pe_callTy call_int1 (by rfl) T.int boot_int (pa_cons (pe_op op_add (pv 6) (pv 7)) pa_nil)) pe_int) (fun _ _ => rfl)))
            (pe_slice sl_str (pv 12) (po_some (pv 13)) po_none)) pa_nil)))))
    (pss_one (ps_ret (pv 8))))))))))))))), ?_⟩
  -- letters, sort_here
  refine ⟨fun σ' H' => Around1 H p (n + 1) H' ∧ ∃ sh : Int, σ' = [some (.ref p), some (.int 1), some (.str LT), some (.int sh), none, none, none, none, none, none, none, none, none, none, none], ?_, ?_⟩
  · refine ⟨_, rfl, p, 5, n, rfl, hp, by omega, by decide, by decide, fun d H1 d0 d1 hb hp1 => ?_⟩
    refine ⟨by show 2 ≤ sizeLine; decide, fun t ht => ?_⟩
    refine ⟨t, _, rfl, SqT.of upd_same, rfl, _, _, rfl, _, _, rfl, rfl, ?_⟩
    exact ⟨Around1.same ⟨hb, hp1⟩ (same_new ht _), d, rfl⟩
  rintro _ H1 ⟨hA1, sh, rfl⟩
  -- menu
  refine ⟨fun σ' H' => Around1 H p (n + 1) H' ∧ ∃ m : Addr, H' m = some (.lst ((menuT.take 7).map V.str)) ∧ σ' = [some (.ref p), some (.int 1), some (.str LT), some (.int sh), some (.ref m), none, none, none, none, none, none, none, none, none, none], ?_, ?_⟩
  · refine ⟨by show 7 ≤ sizeLine; decide, fun m hm => ?_⟩
    exact ⟨hA1.new hm, m, upd_same, rfl⟩
  rintro _ H2 ⟨hA2, m, hm, rfl⟩
  refine ⟨fun σ' H' => Around1 H p (n + 1) H' ∧ ∃ m : Addr, m ≠ p ∧ H' m = some (.lst (menuT.map V.str)) ∧ σ' = [some (.ref p), some (.int 1), some (.str LT), some (.int sh), some (.ref m), none, none, none, none, none, none, none, none, none, none], ?_, ?_⟩
  · refine ⟨_, rfl, by show 7 ≤ sizeLine; decide, fun m2 hm2 => ?_⟩
    refine ⟨m, m2, _, _, rfl, rfl, same_new hm2 _ _ _ hm, upd_same, by show 7 + 7 ≤ sizeLine; decide, fun m3 hm3 => ?_⟩
    have hA3 := (hA2.new (o := .lst ((menuT.drop 7).map V.str)) hm2)
    exact ⟨hA3.new hm3, m3, hA3.2.ne hm3, upd_same, rfl⟩
  clear hm m
  rintro _ H3 ⟨hA3, m, hmp, hm, rfl⟩
  -- stem
  refine ⟨fun σ' H' => Around1 H p (n + 9) H' ∧ H' m = some (.lst (menuT.map V.str)) ∧ ∃ st : Str, st.length ≤ 8 ∧ σ' = [some (.ref p), some (.int 1), some (.str LT), some (.int sh), some (.ref m), some (.str st), none, none, none, none, none, none, none, none, none], ?_, ?_⟩
  · refine ⟨rfl, 8, rfl, by decide, by decide, fun D hD => ?_⟩
    refine letters_go (m := 8) (fun _ => rfl) (fun _ => rfl) (fun _ => rfl) hA3 (by omega) (by decide) hD fun ys H' hA hys hl h1 => ?_
    have hj : (Txt.join (Str.ofString "") ys).length = 8 := (PySem.W.KT.join_ones ys h1).trans hl
    refine ⟨_, D, ys, rfl, rfl, .inl (SqL.of hys), ?_, ?_⟩
    · exact join_room h1 (by omega)
    · exact ⟨hA3.trans hA, hA.1 m _ hmp hm, _, Nat.le_of_eq hj, rfl⟩
  clear hm hA1 hA2 hA3
  rintro _ H4 ⟨hA4, hm4, st, hst, rfl⟩
  -- the menu's words
  refine ⟨fun σ' H' => Around1 H p (n + 9) H' ∧ H' m = some (.lst (menuT.map V.str)) ∧ σ' = [some (.ref p), some (.int 1), some (.str LT), some (.int sh), some (.ref m), some (.str st), none, none, none, none, none, none, none, none, none], ?_, ?_⟩
  · refine ⟨_, rfl, rfl, _, rfl, ?_⟩
    refine ite2 (fun c0 => ?_) (fun _ => ⟨hA4, hm4, rfl⟩)
    refine ⟨_, rfl, _, _, rfl, rfl, _, rfl, ?_⟩
    refine ite2 (fun _ => ?_) (fun _ => ⟨hA4, hm4, rfl⟩)
    refine ⟨_, rfl, p, 14, n + 9, rfl, hA4.2, by omega, by decide, by decide, fun d H5 d0 d1 hb hp5 => ?_⟩
    have hA5 := hA4.draw hb hp5
    have hm5 := hb m _ hmp hm4
    refine ⟨_, rfl, 1, rfl, by decide, by decide, fun D hD => ?_⟩
    refine lc_range (lo := 0) (n := 1) (fun i H' => ∃ ys : List Str, Same H5 H' ∧ H' D = some (.lst (ys.map V.str)) ∧ ys.length = i ∧ ∀ y ∈ ys, y.length ≤ 100) ⟨[], same_new hD _, upd_same, rfl, fun _ h => nomatch h⟩ ?_ ?_
    · rintro i H6 hi ⟨ys, hs6, hD6, hl, h1⟩
      refine ⟨rfl, ?_⟩
      show tOp (rIxL K) (tVar 4) _ _ H6 _
      refine ⟨_, rfl, _, rfl, _, rfl, _, _, rfl, rfl, .inl ⟨by decide, by decide⟩, _, _, rfl, rfl, .inl ⟨_, rfl, _, _, rfl, rfl, (by show (0 : Int) < 14; decide), ?_⟩⟩
      obtain ⟨z, hz, hz8⟩ := menu_at (d := (d + 3 * (0 + (i : Int))) % 14) (Int.emod_nonneg _ (by decide)) (Int.emod_lt_of_pos _ (by decide))
      refine ⟨m, _, _, _, rfl, rfl, SqL.of (hs6 m _ hm5), hz, _, hD6, room_more (n := 1) (by omega) (by decide), ys ++ [z], same_put hs6 hD, more_str, len_more hl, all_more h1 (by omega)⟩
    · rintro H6 ⟨ys, hs6, hD6, hl, h1⟩
      obtain ⟨z, rfl⟩ := only_one hl
      have hA6 := (hA5.same hs6).mono (show n + 9 + 1 ≤ n + 100 by omega)
      exact k D z H6 hA6.1 hA6.2 hD6 (h1 z List.mem_cons_self)
  clear hA4 hm4
  rintro _ H4 ⟨hA4, hm4, rfl⟩
  -- the stem's beginnings
  refine ⟨fun σ' H' => Around1 H p (n + 9) H' ∧ H' m = some (.lst (menuT.map V.str)) ∧ σ' = [some (.ref p), some (.int 1), some (.str LT), some (.int sh), some (.ref m), some (.str st), none, none, none, none, none, none, none, none, none], ?_, ?_⟩
  · refine ⟨_, rfl, rfl, _, rfl, ?_⟩
    refine ite2 (fun c0 => ?_) (fun _ => ⟨hA4, hm4, rfl⟩)
    refine ⟨_, rfl, _, _, rfl, rfl, _, rfl, ?_⟩
    refine ite2 (fun _ => ?_) (fun _ => ⟨hA4, hm4, rfl⟩)
    refine ⟨_, rfl, _, rfl, _, _, rfl, rfl, p, 8, n + 9, rfl, hA4.2, by omega, by decide, by decide, fun d H5 d0 d1 hb hp5 => ?_⟩
    have hA5 := hA4.draw hb hp5
    refine ⟨_, rfl, 1, rfl, by decide, by decide, fun D hD => ?_⟩
    refine lc_range (lo := 0) (n := 1) (fun i H' => ∃ ys : List Str, Same H5 H' ∧ H' D = some (.lst (ys.map V.str)) ∧ ys.length = i ∧ ∀ y ∈ ys, y.length ≤ 100) ⟨[], same_new hD _, upd_same, rfl, fun _ h => nomatch h⟩ ?_ ?_
    · rintro i H6 hi ⟨ys, hs6, hD6, hl, h1⟩
      refine ⟨rfl, ?_⟩
      show tSl rSlS (tVar 5) _ _ _ H6 _
      refine ⟨_, rfl, _, rfl, _, rfl, _, _, rfl, rfl, _, _, rfl, rfl, _, rfl, _, rfl, small100 (by omega), _, hD6, room_more (n := 1) (by omega) (by decide), ys ++ [cutS st none (some _)], same_put hs6 hD, more_str, len_more hl, all_more h1 (Nat.le_trans (cutS_length _ _ _) (by omega))⟩
    · rintro H6 ⟨ys, hs6, hD6, hl, h1⟩
      obtain ⟨z, rfl⟩ := only_one hl
      have hA6 := (hA5.same hs6).mono (show n + 9 + 1 ≤ n + 100 by omega)
      exact k D z H6 hA6.1 hA6.2 hD6 (h1 z List.mem_cons_self)
  clear hA4 hm4
  rintro _ H4 ⟨hA4, hm4, rfl⟩
  -- found = []
  refine ⟨fun σ' H' => Around1 H p (n + 9) H' ∧ H' m = some (.lst (menuT.map V.str)) ∧ ∃ fd : Addr, fd ≠ p ∧ fd ≠ m ∧ H fd = none ∧ H' fd = some (.lst []) ∧ σ' = [some (.ref p), some (.int 1), some (.str LT), some (.int sh), some (.ref m), some (.str st), none, none, some (.ref fd), none, none, none, none, none, none], ?_, ?_⟩
  · refine ⟨by show 0 ≤ sizeLine; decide, fun fd hfd => ?_⟩
    exact ⟨hA4.new hfd, same_new hfd _ _ _ hm4, fd, hA4.2.ne hfd, (ne_of_none hm4 hfd).symm, hA4.free hp hfd, upd_same, rfl⟩
  clear hA4 hm4
  rintro _ H4 ⟨hA4, hm4, fd, hfp, hfm, hf0, hf4, rfl⟩
  -- any words
  refine ⟨fun σ' H' => Around1 H p (n + 30) H' ∧ H' m = some (.lst (menuT.map V.str)) ∧ ∃ (ys : List Str) (v7 v9 : Option V), H' fd = some (.lst (ys.map V.str)) ∧ ys.length ≤ 1 ∧ (∀ y ∈ ys, y.length ≤ 100) ∧ σ' = [some (.ref p), some (.int 1), some (.str LT), some (.int sh), some (.ref m), some (.str st), none, v7, some (.ref fd), v9, none, none, none, none, none], ?_, ?_⟩
  · refine ⟨_, rfl, rfl, _, rfl, ?_⟩
    refine ite2 (fun c0 => ?_) (fun _ => ⟨hA4.mono (by omega), hm4, [], none, none, hf4, by decide, (fun _ h => nomatch h), rfl⟩)
    refine ⟨_, rfl, 1, rfl, by decide, by decide, ?_⟩
    refine for_range (lo := 0) (n := 1) (fun i σ' H' => Around1 H p (n + 9 + i * 20) H' ∧ H' m = some (.lst (menuT.map V.str)) ∧ ∃ (ys : List Str) (v7 v9 : Option V), H' fd = some (.lst (ys.map V.str)) ∧ ys.length = i ∧ (∀ y ∈ ys, y.length ≤ 100) ∧ σ' = [some (.ref p), some (.int 1), some (.str LT), some (.int sh), some (.ref m), some (.str st), none, v7, some (.ref fd), v9, none, none, none, none, none])
      ⟨hA4, hm4, [], none, none, hf4, rfl, (fun _ h => nomatch h), rfl⟩ ?_ ?_
    · rintro i σ' H5 hi ⟨hA5, hm5, ys, v7, v9, hf5, hl, h1, rfl⟩
      have i0 : i = 0 := by omega
      subst i0
      refine ⟨_, rfl, p, 8, n + 9, rfl, hA5.2, by omega, by decide, by decide, fun d H6 d0 d1 hb hp6 => ?_⟩
      have hA6 := hA5.draw hb hp6
      have hm6 := hb m _ hmp hm5
      have hf6 := hb fd _ hfp hf5
      refine ⟨_, _, rfl, rfl, ?_⟩
      refine ⟨_, rfl, .inl ⟨rfl, _, SqL.of hf6⟩, rfl, _, rfl, 1 + d, rfl, by omega, by omega, fun D hD => ?_⟩
      refine letters_go (m := (1 + d).toNat) (fun _ => rfl) (fun _ => rfl) (fun _ => rfl) hA6 (by omega) (by omega) hD fun zs H7 hA7 hzs hl7 h17 => ?_
      have hj : (Txt.join (Str.ofString "") zs).length = (1 + d).toNat := (PySem.W.KT.join_ones zs h17).trans hl7
      refine ⟨_, D, zs, rfl, rfl, .inl (SqL.of hzs), join_room h17 (by omega), ?_⟩
      have hm7 := hA7.1 m _ hmp hm6
      have hf7 := hA7.1 fd _ hfp hf6
      refine ⟨fd, _, _, rfl, rfl, hf7, room_more (n := 1) (by omega) (by decide), ?_⟩
      refine ⟨?_, (by rw [upd_ne hfm.symm]; exact hm7), ys ++ [Txt.join (Str.ofString "") zs], _, _, more_str, len_more hl, all_more h1 (by omega), rfl⟩
      exact ((hA6.trans hA7).mono (by omega)).put hf0 hfp
    · rintro σ' H5 ⟨hA5, hm5, ys, v7, v9, hf5, hl, h1, rfl⟩
      exact ⟨hA5.mono (by omega), hm5, ys, v7, v9, hf5, Nat.le_of_eq hl, h1, rfl⟩
  clear hA4 hm4 hf4
  rintro _ H4 ⟨hA4, hm4, ys4, v7, v9, hf4, hl4, h14, rfl⟩
  -- a beginning with the menu's words
  refine ⟨fun σ' H' => Around1 H p (n + 60) H' ∧ ∃ (fe : Addr) (ys : List Str) (v10 v11 : Option V), H' fe = some (.lst (ys.map V.str)) ∧ ys.length ≤ 1 ∧ (∀ y ∈ ys, y.length ≤ 100) ∧ σ' = [some (.ref p), some (.int 1), some (.str LT), some (.int sh), some (.ref m), some (.str st), none, v7, some (.ref fe), v9, v10, v11, none, none, none], ?_, ?_⟩
  · refine ⟨_, rfl, rfl, _, rfl, ?_⟩
    refine ite2 (fun c0 => ?_) (fun _ => ⟨hA4.mono (by omega), fd, ys4, none, none, hf4, hl4, h14, rfl⟩)
    refine ⟨_, rfl, _, rfl, p, 5, n + 30, rfl, hA4.2, by omega, by decide, by decide, fun d H5 d0 d1 hb hp5 => ?_⟩
    have hA5 := hA4.draw hb hp5
    have hm5 := hb m _ hmp hm4
    refine ⟨_, _, rfl, rfl, _, rfl, st, rfl, small100 (by omega), ?_⟩
    generalize hbase : cutS st none (some (1 + d)) = base
    have hb8 : base.length ≤ 8 := by
      rw [← hbase]
      exact Nat.le_trans (cutS_length _ _ _) hst
    refine ⟨_, rfl, by show 1 ≤ sizeLine; decide, fun fe hfe => ?_⟩
    have hfe0 : H fe = none := hA5.free hp hfe
    have hfep : fe ≠ p := hA5.2.ne hfe
    have hfem : m ≠ fe := ne_of_none hm5 hfe
    refine ⟨_, rfl, m, rfl, ⟨_, SqL.of (same_new hfe _ _ _ hm5)⟩, ?_⟩
    refine for_list (K := K) (a := m) (xs := menuT.map V.str) (fun i σ' H' => Around1 H p (n + 31 + i) H' ∧ H' m = some (.lst (menuT.map V.str)) ∧ ∃ (ys : List Str) (v11 : Option V), H' fe = some (.lst (ys.map V.str)) ∧ ys.length = i + 1 ∧ (∀ y ∈ ys, y.length ≤ 100) ∧ σ' = [some (.ref p), some (.int 1), some (.str LT), some (.int sh), some (.ref m), some (.str st), none, v7, some (.ref fe), v9, some (.str base), v11, none, none, none])
      ⟨hA5.new hfe, same_new hfe _ _ _ hm5, [base], none, upd_same, rfl, (fun y hy => by rw [List.mem_singleton.mp hy]; omega), rfl⟩ (fun i σ' H' _ ⟨_, h, _⟩ => SqL.of h) ?_ ?_
    · rintro i y σ' H6 hi ⟨hA6, hm6, ys, v11, hf6, hl, h1, rfl⟩
      have hi14 : i < 14 := by
        have q := (List.getElem?_eq_some_iff.mp hi).1
        rw [List.length_map] at q
        exact q
      obtain ⟨z, rfl, hz8⟩ : ∃ z, y = V.str z ∧ z.length ≤ 8 := by
        rw [List.getElem?_map] at hi
        cases e : menuT[i]? with
        | none =>
          rw [e] at hi
          cases hi
        | some z =>
          rw [e] at hi
          exact ⟨z, (Option.some.inj hi).symm, menu_small z (List.mem_of_getElem? e)⟩
      have hz3 : (cutS z none (some 3)).length ≤ 8 := Nat.le_trans (cutS_length _ _ _) hz8
      refine ⟨_, rfl, .inl ⟨rfl, _, SqL.of hf6⟩, _, rfl, _, rfl, z, rfl, small100 (by omega), _, rfl, _, _, rfl, rfl, small100 (by omega), ?_⟩
      refine ⟨_, rfl, _, rfl, _, rfl, z, rfl, small100 (by omega), _, _, rfl, rfl, small100 (by omega), by show 2 ≤ sizeLine; decide, fun q hq => ?_⟩
      have hA7 := hA6.new (o := .lst [.str (cutS z none (some 3) ++ base), .str (base ++ cutS z none (some 3))]) hq
      refine ⟨_, rfl, p, 2, n + 31 + i, rfl, hA7.2, by omega, by decide, by decide, fun d H8 d0 d1 hb hp8 => ?_⟩
      have hA8 := hA7.draw hb hp8
      have hm8 := hb m _ hmp (same_new hq _ _ _ hm6)
      have hf8 := hb fe _ hfep (same_new hq _ _ _ hf6)
      have hqp : q ≠ p := hA6.2.ne hq
      obtain ⟨t, ht, ht16⟩ := two_at (x := cutS z none (some 3) ++ base) (y := base ++ cutS z none (some 3)) (n := 16) d0 d1 (by rw [Str.length_append]; omega) (by rw [Str.length_append]; omega)
      refine ⟨q, _, _, _, rfl, rfl, SqL.of (hb q _ hqp upd_same), ht, fe, _, _, rfl, rfl, hf8, room_more (n := 20) (by omega) (by decide), ?_⟩
      refine ⟨hA8.put hfe0 hfep, (by rw [upd_ne hfem]; exact hm8), ys ++ [t], _, more_str, len_more hl, all_more h1 (by omega), rfl⟩
    · rintro σ' H6 ⟨hA6, hm6, ys, v11, hf6, hl, h1, rfl⟩
      refine ⟨_, rfl, _, rfl, _, rfl, fe, _, rfl, SqL.of hf6, fun fg hfg => ?_⟩
      refine ⟨(hA6.new hfg).mono (by rw [List.length_map]; show n + 31 + 14 ≤ n + 60; omega), fg, ys.take 1, _, _, (by rw [upd_same, cut_one]), List.length_take_le 1 ys, (fun y hy => h1 y (List.mem_of_mem_take hy)), rfl⟩
  clear hA4 hm4 hf4
  rintro _ H4 ⟨hA4, fe, ys, v10, v11, hf4, hl4, h14, rfl⟩
  -- is it one?
  refine ⟨fun σ' H' => Around1 H p (n + 60) H' ∧ σ' = [some (.ref p), some (.int 1), some (.str LT), some (.int sh), some (.ref m), some (.str st), none, v7, some (.ref fe), v9, v10, v11, none, none, none], ?_, ?_⟩
  · refine ⟨_, rfl, fe, ys, rfl, .inl (SqL.of hf4), hl4, _, rfl, rfl, _, rfl, ?_⟩
    refine ite2 (fun c => ?_) (fun _ => ⟨hA4, rfl⟩)
    have c1 : V.int ((ys.length : Nat) : Int) = V.int 1 := of_decide_eq_true c
    have c2 : ys.length = 1 := by
      have z := V.int.inj c1
      omega
    obtain ⟨z, rfl⟩ := only_one c2
    have hA6 := hA4.mono (show n + 60 ≤ n + 100 by omega)
    exact ⟨_, rfl, k fe z H4 hA6.1 hA6.2 hf4 (h14 z List.mem_cons_self)⟩
  clear hA4 hf4
  rintro _ H4 ⟨hA4, rfl⟩
  -- start, tail
  refine ⟨fun σ' H' => Around1 H p (n + 62) H' ∧ ∃ (i0 : Int) (tl : Str), 0 ≤ i0 ∧ i0 < 26 ∧ tl.length ≤ 8 ∧ σ' = [some (.ref p), some (.int 1), some (.str LT), some (.int sh), some (.ref m), some (.str st), some (.int i0), v7, some (.ref fe), v9, v10, v11, some (.str tl), none, none], ?_, ?_⟩
  · refine ⟨_, rfl, p, 26, n + 60, rfl, hA4.2, by omega, by decide, by decide, fun d H5 d0 d1 hb hp5 => ?_⟩
    have hA5 := hA4.draw hb hp5
    refine ⟨_, rfl, _, rfl, p, 8, n + 61, rfl, hA5.2, by omega, by decide, by decide, fun d2 H6 d20 d21 hb6 hp6 => ?_⟩
    have hA6 := hA5.draw hb6 hp6
    refine ⟨_, rfl, st, rfl, small100 (by omega), by show 2 ≤ sizeLine; decide, fun t ht => ?_⟩
    refine ⟨t, _, rfl, SqT.of upd_same, rfl, _, _, rfl, _, _, rfl, rfl, ?_⟩
    exact ⟨hA6.new ht, d, _, d0, d1, Nat.le_trans (cutS_length _ _ _) hst, rfl⟩
  clear hA4
  rintro _ H4 ⟨hA4, i0, tl, hi0, hi1, htl, rfl⟩
  -- at, found
  refine ⟨fun σ' H' => Around1 H p (n + 63) H' ∧ ∃ (at' : Int) (ff : Addr), H ff = none ∧ H' ff = some (.lst []) ∧ σ' = [some (.ref p), some (.int 1), some (.str LT), some (.int sh), some (.ref m), some (.str st), some (.int i0), v7, some (.ref ff), v9, v10, v11, some (.str tl), some (.int at'), none], ?_, ?_⟩
  · refine ⟨_, rfl, _, rfl, .str tl, tl.length, rfl, ⟨small100 (by omega), rfl⟩, _, _, rfl, rfl, p, _, n + 62, rfl, hA4.2, by omega, by omega, by omega, fun d H5 d0 d1 hb hp5 => ?_⟩
    have hA5 := hA4.draw hb hp5
    refine ⟨by show 0 ≤ sizeLine; decide, fun ff hff => ?_⟩
    refine ⟨_, _, rfl, hA5.new hff, d, ff, hA5.free hp hff, upd_same, rfl⟩
  clear hA4
  rintro _ H4 ⟨hA4, at', ff, hff0, hff, rfl⟩
  have hfp' := hp.ne hff0
  -- the last loop
  refine ⟨fun σ' H' => Around1 H p (n + 63) H' ∧ ∃ (z : Str) (v7' : Option V), H' ff = some (.lst [.str z]) ∧ z.length ≤ 100 ∧ σ' = [some (.ref p), some (.int 1), some (.str LT), some (.int sh), some (.ref m), some (.str st), some (.int i0), v7', some (.ref ff), v9, v10, v11, some (.str tl), some (.int at'), none], ?_, ?_⟩
  · refine ⟨_, rfl, 1, rfl, by decide, by decide, ?_⟩
    refine for_range (lo := 0) (n := 1) (fun i σ' H' => Around1 H p (n + 63) H' ∧ ∃ (zs : List Str) (v7' : Option V), H' ff = some (.lst (zs.map V.str)) ∧ zs.length = i ∧ (∀ y ∈ zs, y.length ≤ 100) ∧ σ' = [some (.ref p), some (.int 1), some (.str LT), some (.int sh), some (.ref m), some (.str st), some (.int i0), v7', some (.ref ff), v9, v10, v11, some (.str tl), some (.int at'), none])
      ⟨hA4, [], v7, hff, rfl, (fun _ h => nomatch h), rfl⟩ ?_ ?_
    · rintro i σ' H5 hi ⟨hA5, zs, v7', hf5, hl, h1, rfl⟩
      refine ⟨_, rfl, .inl ⟨rfl, _, SqL.of hf5⟩, _, rfl, _, rfl, _, rfl, tl, rfl, small100 (by omega), _, rfl, _, rfl, _, rfl, _, _, rfl, rfl, .inl ⟨_, rfl, _, _, rfl, rfl, (by show (0 : Int) < 26; decide), ?_⟩⟩
      obtain ⟨ch, hch⟩ := lt_at (d := (i0 + (0 + (i : Int))) % 26) (Int.emod_nonneg _ (by decide)) (Int.emod_lt_of_pos _ (by decide))
      have b1 : (cutS tl none (some at')).length ≤ 8 := Nat.le_trans (cutS_length _ _ _) htl
      have b2 : (cutS tl (some at') none).length ≤ 8 := Nat.le_trans (cutS_length _ _ _) htl
      refine ⟨LT, _, ch, rfl, rfl, by decide +kernel, hch, _, _, rfl, rfl, small100 (show _ + 1 ≤ 1000 by omega), _, rfl, _, rfl, _, rfl, tl, rfl, small100 (by omega), _, _, rfl, rfl, ?_, ?_⟩
      · rw [Str.length_append]
        exact small100 (show _ + 1 + _ ≤ 1000 by omega)
      refine ⟨ff, _, _, rfl, rfl, hf5, room_more (n := 1) (by omega) (by decide), hA5.put hff0 hfp', zs ++ [_], _, more_str, len_more hl, all_more h1 ?_, rfl⟩
      rw [Str.length_append, Str.length_append]
      show _ + 1 + _ ≤ 100
      omega
    · rintro σ' H5 ⟨hA5, zs, v7', hf5, hl, h1, rfl⟩
      obtain ⟨z, rfl⟩ := only_one hl
      exact ⟨hA5, z, v7', hf5, h1 z List.mem_cons_self, rfl⟩
  clear hA4
  rintro _ H4 ⟨hA4, z, v7', hf4, hz, rfl⟩
  have hA6 := hA4.mono (show n + 63 ≤ n + 100 by omega)
  exact ⟨_, rfl, k ff z H4 hA6.1 hA6.2 hf4 hz⟩
end
end K01
set_option Elab.async false
set_option linter.all false
set_option maxRecDepth 100000
set_option maxHeartbeats 4000000
namespace K01
open PySem L2 PyProof.Rows
/-! ### values within values -/
def Leaf (v : V) : Prop := v = .non ∨ (∃ b, v = .bl b) ∨ (∃ i, v = .int i) ∨ ∃ z, v = .str z
/-- at v: a value at most d deep, its rows and tuples at places of R, of at most c items -/
def Wf (R : Addr → Prop) (H : Hp) (c : Nat) : Nat → V → Prop
  | 0, v => Leaf v
  | d + 1, v => Leaf v ∨ ∃ a xs, v = .ref a ∧ R a ∧ (H a = some (.lst xs) ∨ H a = some (.tup xs)) ∧ xs.length ≤ c ∧ ∀ x ∈ xs, Wf R H c d x
theorem Wf.leaf {R : Addr → Prop} {H : Hp} {c : Nat} {v : V} (h : Leaf v) : ∀ d, Wf R H c d v
  | 0 => h
  | _ + 1 => .inl h
theorem Wf.mono {R R' : Addr → Prop} {H H' : Hp} {c c' : Nat} (hR : ∀ a, R a → R' a) (hH : ∀ a o, R a → H a = some o → H' a = some o) (hc : c ≤ c') : ∀ {d d' : Nat} {v : V}, d ≤ d' → Wf R H c d v → Wf R' H' c' d' v
  | 0, d', v, _, h => Wf.leaf h d'
  | d + 1, 0, v, hd, _ => absurd hd (Nat.not_succ_le_zero d)
  | d + 1, d' + 1, v, hd, h => by
    rcases h with h | ⟨a, xs, e, ra, ha, hl, hx⟩
    · exact .inl h
    · refine .inr ⟨a, xs, e, hR a ra, ?_, Nat.le_trans hl hc, fun x m => Wf.mono hR hH hc (Nat.le_of_succ_le_succ hd) (hx x m)⟩
      rcases ha with ha | ha
      · exact .inl (hH a _ ra ha)
      · exact .inr (hH a _ ra ha)
/-- lists of R may have got up to g further numbers; t may be anything -/
def Grow (R : Addr → Prop) (t : Addr) (g : Nat) (H H' : Hp) : Prop :=
  ∀ b o, b ≠ t → H b = some o → H' b = some o ∨ (R b ∧ ∃ xs ys, o = .lst xs ∧ H' b = some (.lst (xs ++ ys)) ∧ ys.length ≤ g ∧ ∀ y ∈ ys, ∃ i, y = V.int i)
section
variable {R : Addr → Prop} {t : Addr} {H H1 H2 : Hp} {g g' : Nat}
theorem Grow.same (s : Same H H1) : Grow R t g H H1 := fun b o _ e => .inl (s b o e)
theorem Grow.le (h : Grow R t g H H1) (hg : g ≤ g') : Grow R t g' H H1 := fun b o n e => by
  rcases h b o n e with h | ⟨r, xs, ys, e1, e2, hl, hy⟩
  · exact .inl h
  · exact .inr ⟨r, xs, ys, e1, e2, Nat.le_trans hl hg, hy⟩
theorem Grow.trans (h : Grow R t g H H1) (k : Grow R t g' H1 H2) : Grow R t (g + g') H H2 := fun b o n e => by
  rcases h b o n e with h | ⟨r, xs, ys, e1, e2, hl, hy⟩
  · rcases k b o n h with k | ⟨r, xs, ys, e1, e2, hl, hy⟩
    · exact .inl k
    · exact .inr ⟨r, xs, ys, e1, e2, by omega, hy⟩
  · rcases k b _ n e2 with k | ⟨r', xs', ys', e1', e2', hl', hy'⟩
    · exact .inr ⟨r, xs, ys, e1, k, by omega, hy⟩
    · have z := HO.lst.inj e1'
      subst z
      refine .inr ⟨r, xs, ys ++ ys', e1, by rw [e2', List.append_assoc], by rw [List.length_append]; omega, fun y m => ?_⟩
      rcases List.mem_append.mp m with m | m
      · exact hy y m
      · exact hy' y m
theorem Grow.keep {b : Addr} {o : HO} (h : Grow R t g H H1) (hb : ¬ R b) (n : b ≠ t) (e : H b = some o) : H1 b = some o := by
  rcases h b o n e with h | ⟨r, _⟩
  · exact h
  · exact absurd r hb
theorem Grow.there {b : Addr} {o : HO} (h : Grow R t g H H1) (n : b ≠ t) (e : H b = some o) : ∃ o', H1 b = some o' := by
  rcases h b o n e with h | ⟨_, xs, ys, _, e2, _⟩
  · exact ⟨_, h⟩
  · exact ⟨_, e2⟩
/-- t is set anew -/
theorem Grow.setT {o : HO} (h : Grow R t g H H1) : Grow R t g H (upd H1 t o) := fun b u n e => by
  rw [upd_ne n]
  exact h b u n e
theorem Wf.grow {c : Nat} (hR : ¬ R t) (h : Grow R t g H H1) : ∀ {d : Nat} {v : V}, Wf R H c d v → Wf R H1 (c + g) d v
  | 0, _, k => k
  | d + 1, v, k => by
    rcases k with k | ⟨a, xs, e, ra, ha, hl, hx⟩
    · exact .inl k
    · have nt : a ≠ t := fun z => hR (z ▸ ra)
      have old : ∀ x ∈ xs, Wf R H1 (c + g) d x := fun x m => Wf.grow hR h (hx x m)
      rcases ha with ha | ha
      · rcases h a _ nt ha with q | ⟨_, xs', ys, e1, e2, hl2, hy⟩
        · exact .inr ⟨a, xs, e, ra, .inl q, by omega, old⟩
        · have z := HO.lst.inj e1
          subst z
          refine .inr ⟨a, xs ++ ys, e, ra, .inl e2, by rw [List.length_append]; omega, fun x m => ?_⟩
          rcases List.mem_append.mp m with m | m
          · exact old x m
          · obtain ⟨i, rfl⟩ := hy x m
            exact Wf.leaf (.inr (.inr (.inl ⟨i, rfl⟩))) d
      · rcases h a _ nt ha with q | ⟨_, xs', ys, e1, _⟩
        · exact .inr ⟨a, xs, e, ra, .inr q, by omega, old⟩
        · cases e1
end
/-- how many marks a row gets at most -/
def gl (f : Nat → Nat) (c : Nat) : Nat → Nat
  | 0 => 0
  | i + 1 => gl f c i + f (c + gl f c i)
def gm : Nat → Nat → Nat
  | 0, _ => 0
  | d + 1, c => gl (gm d) c c + 1
theorem gl_le (f : Nat → Nat) (c : Nat) {i j : Nat} (h : i ≤ j) : gl f c i ≤ gl f c j := by
  induction h with
  | refl => exact Nat.le_refl _
  | step _ ih => exact Nat.le_trans ih (Nat.le_add_right _ _)
theorem Same.there {H H' : Hp} {b : Addr} (s : Same H H') (h : ∃ o, H b = some o) : ∃ o, H' b = some o := by
  obtain ⟨o, e⟩ := h
  exact ⟨o, s b o e⟩

/-! ### the promises, with n calls allowed -/
def spMark (n : Nat) : Sp := fun vs H Q _ => ∃ (v : V) (t : Addr) (R : Addr → Prop) (d c : Nat) (k : Int), vs = [v, .ref t] ∧ d + 1 ≤ n ∧ Wf R H c d v ∧ (∀ a, R a → ∃ o, H a = some o) ∧ ¬ R t ∧ H t = some (.lst [.int k]) ∧ c + gm d c ≤ 1000 ∧
  ∀ H' k', Grow R t (gm d c) H H' → H' t = some (.lst [.int k']) → Q .non H'
def spSame (n : Nat) : Sp := fun vs H Q _ => ∃ (v : V) (R : Addr → Prop) (d c : Nat), vs = [v, v] ∧ d + 1 ≤ n ∧ Wf R H c d v ∧ c ≤ 1000 ∧ ∀ H', Same H H' → Q (.bl true) H'
def cost (d : Nat) : Nat := 200 * 4 ^ d
def spThing (n : Nat) : Sp := fun vs H Q _ => ∃ (p : Addr) (m d : Nat), vs = [.ref p, .int (d : Int)] ∧ d + 1 ≤ n ∧ Purse H p m ∧ m + cost d < 10 ^ 9 ∧
  ∀ v H', Around1 H p (m + cost d) H' → Wf (fun a => H a = none) H' 3 d v → Q v H'
theorem cost_pos (d : Nat) : 200 ≤ cost d := Nat.le_mul_of_pos_right 200 (Nat.pow_pos (by decide))
theorem cost_succ (d : Nat) : 102 + 3 * cost d ≤ cost (d + 1) := by
  have h := cost_pos d
  unfold cost at h ⊢
  rw [Nat.pow_succ]
  omega
/-! ### what stands of a value's type -/
def IsSeq (H : Hp) (v : V) : Prop := ∃ a xs, v = .ref a ∧ (H a = some (.lst xs) ∨ H a = some (.tup xs))
theorem leaf_ty {K : PySem.W.Frag} {H : Hp} {v : V} (h : Leaf v) : ∃ s : String, TyX K H v (.type s) ∧ (s = "NoneType" ∧ v = .non ∨ s = "bool" ∧ (∃ b, v = .bl b) ∨ s = "int" ∧ (∃ i, v = .int i) ∨ s = "str" ∧ ∃ z, v = .str z) := by
  rcases h with rfl | ⟨b, rfl⟩ | ⟨i, rfl⟩ | ⟨z, rfl⟩
  · exact ⟨_, .base .non, .inl ⟨rfl, rfl⟩⟩
  · exact ⟨_, .base (.bl b), .inr (.inl ⟨rfl, b, rfl⟩)⟩
  · exact ⟨_, .base (.int i), .inr (.inr (.inl ⟨rfl, i, rfl⟩))⟩
  · exact ⟨_, .base (.str z), .inr (.inr (.inr ⟨rfl, z, rfl⟩))⟩
/-- isinstance of one of four kinds of leaves, of a list, of a tuple -/
theorem kit_all {K : PySem.W.Frag} {s c : String} {r : Bool} (h : kitB s c = some r) : PySem.W.kitOne K (.type s) (.type c) = some r := kit_ty h
theorem leaf_kit {s : String} (hs : s = "NoneType" ∨ s = "bool" ∨ s = "int" ∨ s = "str") : kitB s "list" = some false ∧ kitB s "tuple" = some false ∧ kitB s "dict" = some false := by
  rcases hs with rfl | rfl | rfl | rfl <;> decide +kernel
end K01
set_option Elab.async false
set_option linter.all false
set_option maxRecDepth 100000
set_option maxHeartbeats 4000000
namespace K01
open PySem L2 PyProof.Rows
/-- a leaf, a list of its, a tuple of its -/
inductive Shape (H : Hp) : V → List V → Bool → Bool → Prop where
  | leaf {v : V} (h : Leaf v) : Shape H v [] false false
  | lst {a : Addr} {xs : List V} (h : H a = some (.lst xs)) : Shape H (.ref a) xs true false
  | tup {a : Addr} {xs : List V} (h : H a = some (.tup xs)) : Shape H (.ref a) xs false true
theorem Shape.same {H H' : Hp} {v : V} {its : List V} {x y : Bool} (h : Shape H v its x y) (s : Same H H') : Shape H' v its x y := by
  cases h with
  | leaf h => exact .leaf h
  | lst h => exact .lst (s _ _ h)
  | tup h => exact .tup (s _ _ h)
theorem Shape.ty {K : PySem.W.Frag} {H : Hp} {v : V} {its : List V} {x y : Bool} (h : Shape H v its x y) : ∃ s : String, TyX K H v (.type s) ∧ kitB s "list" = some x ∧ kitB s "tuple" = some y ∧ kitB s "dict" = some false := by
  cases h with
  | leaf h =>
    obtain ⟨s, ht, hs⟩ := leaf_ty (K := K) (H := H) h
    refine ⟨s, ht, leaf_kit ?_⟩
    rcases hs with ⟨e, _⟩ | ⟨e, _⟩ | ⟨e, _⟩ | ⟨e, _⟩
    · exact .inl e
    · exact .inr (.inl e)
    · exact .inr (.inr (.inl e))
    · exact .inr (.inr (.inr e))
  | lst h => exact ⟨"list", .base (.lst h), by decide +kernel, by decide +kernel, by decide +kernel⟩
  | tup h => exact ⟨"tuple", .base (.tup h), by decide +kernel, by decide +kernel, by decide +kernel⟩
theorem kit_two {K : PySem.W.Frag} {s : String} {x y : Bool} (h1 : kitB s "list" = some x) (h2 : kitB s "tuple" = some y) : PySem.W.kitAny K (.type s) [.type "list", .type "tuple"] = some (x || y) := by
  refine kitAny_cons (kit_ty h1) (fun e => ?_) (fun e => by rw [e]; rfl)
  refine kitAny_cons (kit_ty h2) (fun e2 => ?_) (fun e2 => by rw [e2, Bool.or_true])
  rw [e, e2]
  exact kitAny_nil
theorem Wf.shape {R : Addr → Prop} {H : Hp} {c d : Nat} {v : V} (h : Wf R H c d v) : ∃ its x y, Shape H v its x y ∧ its.length ≤ c ∧ (its ≠ [] → ∃ d', d = d' + 1 ∧ ∀ z ∈ its, Wf R H c d' z) ∧ (x = true → ∃ a d', v = .ref a ∧ R a ∧ H a = some (.lst its) ∧ d = d' + 1) := by
  have lf : ∀ h : Leaf v, ∃ its x y, Shape H v its x y ∧ its.length ≤ c ∧ (its ≠ [] → ∃ d', d = d' + 1 ∧ ∀ z ∈ its, Wf R H c d' z) ∧ (x = true → ∃ a d', v = .ref a ∧ R a ∧ H a = some (.lst its) ∧ d = d' + 1) := fun h =>
    ⟨[], false, false, .leaf h, Nat.zero_le _, fun q => absurd rfl q, fun q => Bool.noConfusion q⟩
  cases d with
  | zero => exact lf h
  | succ d =>
    rcases h with h | ⟨a, xs, rfl, ra, ha, hl, hx⟩
    · exact lf h
    · rcases ha with ha | ha
      · exact ⟨xs, true, false, .lst ha, hl, fun _ => ⟨d, rfl, hx⟩, fun _ => ⟨a, d, rfl, ra, ha, rfl⟩⟩
      · exact ⟨xs, false, true, .tup ha, hl, fun _ => ⟨d, rfl, hx⟩, fun q => Bool.noConfusion q⟩
theorem Shape.seq {H : Hp} {v : V} {its : List V} {x y : Bool} (h : Shape H v its x y) (e : (x || y) = true) : ∃ a, v = .ref a ∧ (H a = some (.lst its) ∨ H a = some (.tup its)) := by
  cases h with
  | leaf h => cases e
  | lst h => exact ⟨_, rfl, .inl h⟩
  | tup h => exact ⟨_, rfl, .inr h⟩
theorem Shape.nil {H : Hp} {v : V} {its : List V} {x y : Bool} (h : Shape H v its x y) (e : (x || y) = false) : its = [] ∧ Leaf v := by
  cases h with
  | leaf h => exact ⟨rfl, h⟩
  | lst h => cases e
  | tup h => cases e
theorem Shape.grow {R : Addr → Prop} {t : Addr} {g : Nat} {H H' : Hp} {v : V} {its : List V} {x y : Bool} (h : Shape H v its x y) (hg : Grow R t g H H') (nt : v ≠ .ref t) : ∃ its', Shape H' v its' x y := by
  cases h with
  | leaf h => exact ⟨_, .leaf h⟩
  | @lst a xs h =>
    have na : a ≠ t := fun e => nt (by rw [e])
    rcases hg a _ na h with q | ⟨_, xs', ys, e1, e2, _⟩
    · exact ⟨_, .lst q⟩
    · exact ⟨_, .lst e2⟩
  | @tup a xs h =>
    have na : a ≠ t := fun e => nt (by rw [e])
    rcases hg a _ na h with q | ⟨_, xs', ys, e1, _⟩
    · exact ⟨_, .tup q⟩
    · cases e1
theorem Grow.app {R : Addr → Prop} {t a : Addr} {H : Hp} {xs : List V} {i : Int} (ra : R a) (ha : H a = some (.lst xs)) : Grow R t 1 H (upd H a (.lst (xs ++ [.int i]))) := fun b o n e => by
  by_cases hb : b = a
  · subst hb
    rw [ha] at e
    exact .inr ⟨ra, xs, [.int i], (Option.some.inj e).symm, upd_same, Nat.le_refl 1, fun y m => ⟨i, List.mem_singleton.mp m⟩⟩
  · rw [upd_ne hb]
    exact .inl e
theorem ifT {c : Bool} {A B : Prop} (hc : c = true) (h : A) : if c = true then A else B := by
  rw [hc]
  exact iteT h
theorem ifF {c : Bool} {A B : Prop} (hc : c = false) (h : B) : if c = true then A else B := by
  rw [hc]
  exact iteF h
theorem one_at {x : V} : atI [x] 0 = some x := atI_nat (j := 0) rfl

section
variable {P : Program} {w : World} {K : PySem.W.Frag} {mg : Str → Option Value} {base : Heap}
theorem scM : FnScope ["thing", "tally", "inner", "one"] ["thing", "tally"] (defScope sMark) := ⟨rfl, rfl, rfl, by decide +kernel, rfl, by decide +kernel, by decide +kernel⟩
theorem mark_none {f : Addr} {fd : FuncData} : FnOk P w K mg base CX0 0 f fd ["thing", "tally"] (spMark 0) := by
  have no : ∀ vs H Q E, ¬ spMark 0 vs H Q E := fun vs H Q E h => by
    obtain ⟨v, t, R, d, c, k, _, h1, _⟩ := h
    omega
  exact ⟨fun vs H Q E h => absurd h (no vs H Q E), fun A outer s H args us vs Q E _ _ _ _ h => absurd h (no vs H Q E)⟩
theorem ok_mark {f : Addr} {fd : FuncData} {n : Nat} (F : Fun K "_law_ta_mark" "_law_ta_mark" sMark f fd) (T : Txt K mg) (G : FnOk P w K mg base CX0 n f fd ["thing", "tally"] (spMark n)) (b : Binds K fd ["thing", "tally"] []) (m : mg "_law_ta_mark" = some (.ref f)) (zD : mg "dict" = none) :
    FnOk P w K mg base CX0 (n + 1) f fd ["thing", "tally"] (spMark (n + 1)) := by
  refine F.ok scM (fun vs H Q E h => ?_) (fun cdv A outer s H vs Q E hr h => ?_)
  · obtain ⟨v, t, R, d, c, k, rfl, _⟩ := h
    rfl
  obtain ⟨v, t, R, d, c, k, rfl, hd, hW, hR, hRt, ht, hc, kk⟩ := h
  refine ⟨_, Evl.pss_cut (ps_set (i := 2) scM.nd rfl (Or.inl rfl) (pe_ifExp (pt_val (pe_callB call_isiT (by rfl) T.isi boot_isinstance (pa_cons (pv 0) (pa_cons (pe_tup (pa_cons (pe_bltn (v := .ty "list") (by rfl) T.list boot_list rfl) (pa_cons (pe_bltn (v := .ty "tuple") (by rfl) T.tuple boot_tuple rfl) pa_nil))) pa_nil))))
      (pe_callTy call_list_of (by rfl) T.list boot_list (pa_cons (pv 0) pa_nil)) (pe_lst pa_nil)))
    (pss_cons (ps_if (pt_val (pe_callB call_isi (by rfl) T.isi boot_isinstance (pa_cons (pv 0) (pa_cons (pe_bltn (v := .ty "dict") (by rfl) zD boot_dict rfl) pa_nil)))) pss_never pss_nil)
    (Evl.pss_cut (ps_for PassesOwn.never rfl (pi_list (pv 2)) (pg_name (i := 3) scM.nd rfl (Or.inl rfl)) (pss_one (ps_expr (pe_call G hr rfl m F.kp b .nil pass0 (pa_cons (pv 3) (pa_cons (pv 1) pa_nil))))))
    (pss_cons (ps_asg (pe_op op_add (pe_ix ix_list (pv 1) pe_int (fun _ _ => rfl)) pe_int) (pg_sub (pv 1) pe_int set_list))
    (pss_cons (ps_if (pt_val (pe_callB call_isi (by rfl) T.isi boot_isinstance (pa_cons (pv 0) (pa_cons (pe_bltn (v := .ty "list") (by rfl) T.list boot_list rfl) pa_nil))))
      (pss_one (ps_expr (pe_bm PySem.F.plainAttrs_list PySem.F.slot_list_append PySem.F.type_list_append mt_append (pv 0) (pa_cons (pe_ix ix_list (pv 1) pe_int (fun _ _ => rfl)) pa_nil)))) pss_nil)
    (pss_one (ps_if (pt_val (pe_callB call_isi (by rfl) T.isi boot_isinstance (pa_cons (pv 0) (pa_cons (pe_bltn (v := .ty "dict") (by rfl) zD boot_dict rfl) pa_nil)))) pss_never pss_nil)))))), ?_⟩
  obtain ⟨its, xl, xt, hS, hlen, hits, hxl⟩ := hW.shape
  have hvt : v ≠ .ref t := by
    rintro rfl
    cases hS with
    | leaf h => rcases h with h | ⟨_, h⟩ | ⟨_, h⟩ | ⟨_, h⟩ <;> cases h
    | lst h =>
      obtain ⟨a, _, e, ra, _⟩ := hxl rfl
      cases e
      exact hRt ra
    | tup h =>
      rw [ht] at h
      cases h
  -- inner
  refine ⟨fun σ' H' => Same H H' ∧ ∃ l, H l = none ∧ H' l = some (.lst its) ∧ σ' = [some v, some (.ref t), some (.ref l), none], ?_, ?_⟩
  · refine ⟨_, rfl, by show 2 ≤ sizeLine; decide, fun tp htp => ?_⟩
    have hs1 := same_new htp (.tup [V.ty "list", V.ty "tuple"])
    obtain ⟨sT, hty, k1, k2, k3⟩ := (hS.same hs1).ty (K := K)
    refine ⟨v, tp, _, _, _, _, rfl, upd_same, .cons (.ty _) (.cons (.ty _) .nil), hty, kit_two k1 k2, _, rfl, ?_⟩
    refine ite2 (fun e => ?_) (fun e => ?_)
    · obtain ⟨a, rfl, ha⟩ := (hS.same hs1).seq e
      refine ⟨_, rfl, a, its, rfl, ?_, fun l hl => ?_⟩
      · rcases ha with ha | ha
        · exact .inl (SqL.of ha)
        · exact .inr (SqT.of ha)
      · exact ⟨hs1.trans (same_new hl _), l, hs1.free hl, upd_same, rfl⟩
    · obtain ⟨rfl, _⟩ := hS.nil (by simpa using e)
      refine ⟨by show 0 ≤ sizeLine; decide, fun l hl => ?_⟩
      exact ⟨hs1.trans (same_new hl _), l, hs1.free hl, upd_same, rfl⟩
  rintro _ H1 ⟨hs1, l, hl0, hl1, rfl⟩
  obtain ⟨sT, hty, k1, k2, k3⟩ := (hS.same hs1).ty (K := K)
  refine ⟨_, rfl, v, _, _, _, _, rfl, .ty _, hty, kit_ty k3, _, rfl, ?_⟩
  refine iteF ?_
  obtain ⟨d', hz, hg⟩ : ∃ d', (∀ z ∈ its, Wf R H c d' z ∧ d' + 1 = d) ∧ gl (gm d') c its.length + (if xl = true then 1 else 0) ≤ gm d c := by
    by_cases e : its = []
    · subst e
      refine ⟨0, (fun z h => nomatch h), ?_⟩
      cases xl with
      | false => exact Nat.zero_le _
      | true =>
        obtain ⟨a, d', _, _, _, rfl⟩ := hxl rfl
        exact Nat.le_add_left 1 _
    · obtain ⟨d', rfl, hz⟩ := hits e
      refine ⟨d', fun z h => ⟨hz z h, rfl⟩, ?_⟩
      have h1 := gl_le (gm d') c hlen
      show _ ≤ gl (gm d') c c + 1
      split <;> omega
  have hRl : ¬ R l := fun z => by
    obtain ⟨o, e⟩ := hR l z
    rw [hl0] at e
    cases e
  have hlt : l ≠ t := (ne_of_none ht hl0).symm
  -- the things within
  refine ⟨fun σ' H' => Grow R t (gl (gm d') c its.length) H H' ∧ ∃ k' v3, H' t = some (.lst [.int k']) ∧ σ' = [some v, some (.ref t), some (.ref l), v3], ?_, ?_⟩
  · refine ⟨_, rfl, l, rfl, ⟨_, SqL.of hl1⟩, ?_⟩
    refine for_list (K := K) (a := l) (xs := its) (fun i σ' H' => Grow R t (gl (gm d') c i) H H' ∧ H' l = some (.lst its) ∧ ∃ k' v3, H' t = some (.lst [.int k']) ∧ σ' = [some v, some (.ref t), some (.ref l), v3])
      ⟨.same hs1, hl1, k, none, hs1 _ _ ht, rfl⟩ (fun i σ' H' _ ⟨_, h, _⟩ => SqL.of h) ?_ ?_
    · rintro i y σ' H2 hi ⟨hg2, hl2, k', v3, ht2, rfl⟩
      have hm : y ∈ its := List.mem_of_getElem? hi
      have hil := (List.getElem?_eq_some_iff.mp hi).1
      obtain ⟨hw, rfl⟩ := hz y hm
      have b1 : gl (gm d') c (i + 1) ≤ gl (gm d') c its.length := gl_le _ _ hil
      have b2 : gl (gm d') c (i + 1) = gl (gm d') c i + gm d' (c + gl (gm d') c i) := rfl
      refine ⟨_, rfl, _, rfl, y, t, R, d', c + gl (gm d') c i, k', rfl, by omega, hw.grow hRt hg2, fun a ra => ?_, hRt, ht2, by omega, fun H3 k3 hg3 ht3 => ?_⟩
      · obtain ⟨o, e⟩ := hR a ra
        exact hg2.there (fun z => hRt (z ▸ ra)) e
      · exact ⟨hg2.trans hg3, hg3.keep hRl hlt hl2, k3, _, ht3, rfl⟩
    · rintro σ' H2 ⟨hg2, _, r⟩
      exact ⟨hg2, r⟩
  clear hty
  rintro _ H2 ⟨hg2, k', v3, ht2, rfl⟩
  -- the number
  refine ⟨_, rfl, t, _, _, _, rfl, rfl, SqL.of ht2, one_at, _, _, rfl, rfl, _, rfl, t, _, _, 0, rfl, rfl, ht2, rfl, ?_⟩
  generalize hH3 : upd H2 t (.lst [.int (k' + 1)]) = H3
  have hg3 : Grow R t (gl (gm d') c its.length) H H3 := by
    rw [← hH3]
    exact hg2.setT
  have ht3 : H3 t = some (.lst [.int (k' + 1)]) := by
    rw [← hH3]
    exact upd_same
  have e3 : upd H2 t (.lst (([V.int k'] : List V).set 0 (.int (k' + 1)))) = H3 := hH3
  obtain ⟨its3, hS3⟩ := hS.grow hg3 hvt
  obtain ⟨s3, hty3, q1, q2, q3⟩ := hS3.ty (K := K)
  show tSeq _ _ _ _ (upd H2 t (.lst (([V.int k'] : List V).set 0 (.int (k' + 1)))))
  rw [e3]
  refine ⟨_, rfl, v, _, _, _, _, rfl, .ty _, hty3, kit_ty q1, _, rfl, ?_⟩
  cases xl with
  | false =>
    refine iteF ?_
    refine ⟨_, rfl, v, _, _, _, _, rfl, .ty _, hty3, kit_ty q3, _, rfl, iteF ?_⟩
    exact kk H3 (k' + 1) (hg3.le (by have := hg; simpa using this)) ht3
  | true =>
    refine iteT ?_
    obtain ⟨a, d2, rfl, ra, ha, hd2⟩ := hxl rfl
    cases hS3 with
    | lst ha3 =>
      have hlen3 : its3.length ≤ 1000 := by
        have hgg : gl (gm d') c its.length + 1 ≤ gm d c := hg
        rcases hg3 a _ (fun e => hRt (e ▸ ra)) ha with q | ⟨_, xs, ys, e1, e2, hl2, _⟩
        · rw [ha3] at q
          have z := HO.lst.inj (Option.some.inj q)
          rw [z]
          omega
        · rw [ha3] at e2
          have z := HO.lst.inj (Option.some.inj e2)
          have z1 := HO.lst.inj e1
          rw [z, List.length_append, ← z1]
          omega
      refine ⟨_, rfl, .inl ⟨rfl, _, SqL.of ha3⟩, _, rfl, t, _, _, _, rfl, rfl, SqL.of ht3, one_at, a, _, _, rfl, rfl, ha3, Nat.lt_of_le_of_lt hlen3 (by decide), ?_⟩
      have hta : t ≠ a := fun e => hRt (e ▸ ra)
      have hg4 := hg3.trans (Grow.app (i := k' + 1) ra ha3)
      have hS4 : Shape (upd H3 a (.lst (its3 ++ [.int (k' + 1)]))) (.ref a) (its3 ++ [.int (k' + 1)]) true false := .lst upd_same
      obtain ⟨s4, hty4, p1, p2, p3⟩ := hS4.ty (K := K)
      refine ⟨_, rfl, .ref a, _, _, _, _, rfl, .ty _, hty4, kit_ty p3, _, rfl, iteF ?_⟩
      exact kk _ (k' + 1) (hg4.le (by have := hg; simpa using this)) (by rw [upd_ne hta]; exact ht3)

/-! ### two that are one -/
theorem scS : FnScope ["told", "owed", "at"] ["told", "owed"] (defScope sSame) := ⟨rfl, rfl, rfl, by decide +kernel, rfl, by decide +kernel, by decide +kernel⟩
theorem same_none {f : Addr} {fd : FuncData} : FnOk P w K mg base CX0 0 f fd ["told", "owed"] (spSame 0) := by
  have no : ∀ vs H Q E, ¬ spSame 0 vs H Q E := fun vs H Q E h => by
    obtain ⟨v, R, d, c, _, h1, _⟩ := h
    omega
  exact ⟨fun vs H Q E h => absurd h (no vs H Q E), fun A outer s H args us vs Q E _ _ _ _ h => absurd h (no vs H Q E)⟩
theorem ok_same {f : Addr} {fd : FuncData} {n : Nat} (F : Fun K "_law_ta_same" "_law_ta_same" sSame f fd) (T : Txt K mg) (G : FnOk P w K mg base CX0 n f fd ["told", "owed"] (spSame n)) (b : Binds K fd ["told", "owed"] []) (m : mg "_law_ta_same" = some (.ref f)) (zD : mg "dict" = none) (zB : mg "bool" = none) (zS : mg "str" = none) :
    FnOk P w K mg base CX0 (n + 1) f fd ["told", "owed"] (spSame (n + 1)) := by
  refine F.ok scS (fun vs H Q E h => ?_) (fun cdv A outer s H vs Q E hr h => ?_)
  · obtain ⟨v, R, d, c, rfl, _⟩ := h
    rfl
  obtain ⟨v, R, d, c, rfl, hd, hW, hc, kk⟩ := h
  refine ⟨_, pss_cons (ps_if (pt_val (pe_callB call_isi (by rfl) T.isi boot_isinstance (pa_cons (pv 1) (pa_cons (pe_bltn (v := .ty "dict") (by rfl) zD boot_dict rfl) pa_nil)))) pss_never pss_nil)
    (pss_cons (ps_if (pt_val (pe_callB call_isiT (by rfl) T.isi boot_isinstance (pa_cons (pv 1) (pa_cons (pe_tup (pa_cons (pe_bltn (v := .ty "list") (by rfl) T.list boot_list rfl) (pa_cons (pe_bltn (v := .ty "tuple") (by rfl) T.tuple boot_tuple rfl) pa_nil))) pa_nil))))
      (pss_cons (ps_if (pw_or (pt_cmpR op_ne (pe_callB call_isi (by rfl) T.isi boot_isinstance (pa_cons (pv 0) (pa_cons (pe_bltn (v := .ty "list") (by rfl) T.list boot_list rfl) pa_nil))) (pe_callB call_isi (by rfl) T.isi boot_isinstance (pa_cons (pv 1) (pa_cons (pe_bltn (v := .ty "list") (by rfl) T.list boot_list rfl) pa_nil))) (nomark _))
          (pw_or1 (pt_cmpR op_ne (pe_callB call_isi (by rfl) T.isi boot_isinstance (pa_cons (pv 0) (pa_cons (pe_bltn (v := .ty "tuple") (by rfl) T.tuple boot_tuple rfl) pa_nil))) (pe_callB call_isi (by rfl) T.isi boot_isinstance (pa_cons (pv 1) (pa_cons (pe_bltn (v := .ty "tuple") (by rfl) T.tuple boot_tuple rfl) pa_nil))) (nomark _)))).pt pss_never pss_nil)
      (pss_one (ps_ret (pe_and (pe_cmpR op_eq (pe_callB call_len_seq (by rfl) T.len PySem.boot_len (pa_cons (pv 0) pa_nil)) (pe_callB call_len_seq (by rfl) T.len PySem.boot_len (pa_cons (pv 1) pa_nil)) (nomark _))
        (pe_one (pe_callB (cr_all rfl) (by rfl) T.all (by decide +kernel) (pa_cons (pe_lc (own := [("at", 2)]) (g := gName 2) (tt := tYes) rfl scS.nd (pi_range1 rfl T.range (pa_cons (pe_callB call_len_seq (by rfl) T.len PySem.boot_len (pa_cons (pv 1) pa_nil)) pa_nil)) (blkOk_by (N := ["told", "owed", "at"]) (sc := defScope sSame) (by decide +kernel)) (fun _ _ _ _ _ => pg_name (i := 2) scS.nd rfl (Or.inl rfl)) (fun _ _ _ _ _ => pts_nil)
          (fun _ _ _ _ _ => pe_call G hr rfl m F.kp b .nil pass0 (pa_cons (pe_ix (show IxR _ (rIx K) from ix_seq) (pv 0) (pv 2) (fun _ _ => rfl)) (pa_cons (pe_ix (show IxR _ (rIx K) from ix_seq) (pv 1) (pv 2) (fun _ _ => rfl)) pa_nil)))) pa_nil))))))) pss_nil)
    (pss_cons (ps_if (pw_or (pt_cmpR op_isN (pv 1) pe_non (nomark _)) (pw_or1 (pt_val (pe_callB call_isi (by rfl) T.isi boot_isinstance (pa_cons (pv 1) (pa_cons (pe_bltn (v := .ty "bool") (by rfl) zB boot_bool rfl) pa_nil)))))).pt
      (pss_one (ps_ret (pe_cmpR op_eq (pe_callB call_reprNB (by rfl) T.repr boot_repr (pa_cons (pv 0) pa_nil)) (pe_callB call_reprNB (by rfl) T.repr boot_repr (pa_cons (pv 1) pa_nil)) (nomark _)))) pss_nil)
    (pss_cons (ps_if (pt_val (pe_callB call_isi (by rfl) T.isi boot_isinstance (pa_cons (pv 1) (pa_cons (pe_bltn (v := .ty "int") (by rfl) T.int boot_int rfl) pa_nil))))
      (pss_one (ps_ret (pe_and (pe_callB call_isi (by rfl) T.isi boot_isinstance (pa_cons (pv 0) (pa_cons (pe_bltn (v := .ty "int") (by rfl) T.int boot_int rfl) pa_nil)))
        (pe_and (pe_not (pe_callB call_isi (by rfl) T.isi boot_isinstance (pa_cons (pv 0) (pa_cons (pe_bltn (v := .ty "bool") (by rfl) zB boot_bool rfl) pa_nil)))) (pe_one (pe_cmpR op_eq (pv 0) (pv 1) (nomark _))))))) pss_nil)
    (pss_one (ps_ret (pe_and (pe_callB call_isi (by rfl) T.isi boot_isinstance (pa_cons (pv 0) (pa_cons (pe_bltn (v := .ty "str") (by rfl) zS boot_str rfl) pa_nil))) (pe_one (pe_cmpR op_eq (pv 0) (pv 1) (nomark _))))))))), ?_⟩
  obtain ⟨its, xl, xt, hS, hlen, hits, hxl⟩ := hW.shape
  obtain ⟨sT, hty, k1, k2, k3⟩ := hS.ty (K := K)
  refine ⟨_, rfl, v, _, _, _, _, rfl, .ty _, hty, kit_ty k3, _, rfl, iteF ?_⟩
  refine ⟨_, rfl, by show 2 ≤ sizeLine; decide, fun tp htp => ?_⟩
  have hs1 := same_new htp (.tup [V.ty "list", V.ty "tuple"])
  have hS1 := hS.same hs1
  obtain ⟨s1, hty1, q1, q2, q3⟩ := hS1.ty (K := K)
  refine ⟨v, tp, _, _, _, _, rfl, upd_same, .cons (.ty _) (.cons (.ty _) .nil), hty1, kit_two q1 q2, _, rfl, ?_⟩
  clear hty hty1
  refine ite2 (fun e => ?_) (fun e => ?_)
  · -- a list or a tuple
    obtain ⟨sa, hta, a1, a2, a3⟩ := hS1.ty (K := K)
    refine ⟨_, rfl, v, _, _, _, _, rfl, .ty _, hta, kit_ty a1, _, rfl, v, _, _, _, _, rfl, .ty _, hta, kit_ty a1, rfl, _, rfl, ?_⟩
    have nx : (!decide (V.bl xl = V.bl xl)) = false := by simp
    have ny : (!decide (V.bl xt = V.bl xt)) = false := by simp
    show if (!decide (V.bl xl = V.bl xl)) = true then _ else _
    rw [nx]
    refine iteF ?_
    refine ⟨_, rfl, v, _, _, _, _, rfl, .ty _, hta, kit_ty a2, _, rfl, v, _, _, _, _, rfl, .ty _, hta, kit_ty a2, rfl, _, rfl, ?_⟩
    show if (!decide (V.bl xt = V.bl xt)) = true then _ else _
    rw [ny]
    refine iteF ?_
    obtain ⟨a, rfl, ha⟩ := hS1.seq e
    have hq : SqL K (upd H tp (.tup [V.ty "list", V.ty "tuple"])) a its ∨ SqT K (upd H tp (.tup [V.ty "list", V.ty "tuple"])) a its := by
      rcases ha with ha | ha
      · exact .inl (SqL.of ha)
      · exact .inr (SqT.of ha)
    refine ⟨_, rfl, a, its, rfl, hq, _, rfl, a, its, rfl, hq, rfl, _, rfl, ?_⟩
    rw [decide_eq_true rfl]
    refine iteT ?_
    generalize hH1 : upd H tp (.tup [V.ty "list", V.ty "tuple"]) = H1 at hs1 hS1 ha hq hta
    refine ⟨_, rfl, a, its, rfl, hq, _, rfl, by omega, by omega, fun D hD => ?_⟩
    have hat : ∀ (i : Nat) (y : V), its[i]? = some y → ∀ H' : Hp, Same H1 H' → ∀ Q : VK, Q y H' → rIx K (.ref a) (.int (0 + (i : Int))) H' Q := fun i y hy H' hs Q q => by
      have e0 : atI its (0 + (i : Int)) = some y := by
        rw [Int.zero_add]
        exact atI_nat hy
      rcases ha with ha | ha
      · exact .inl ⟨a, its, _, y, rfl, rfl, SqL.of (hs _ _ ha), e0, q⟩
      · exact .inr (.inl ⟨a, its, _, y, rfl, rfl, SqT.of (hs _ _ ha), e0, q⟩)
    refine lc_range (lo := 0) (fun i H' => Same H1 H' ∧ H' D = some (.lst ((List.replicate i true).map V.bl))) ⟨same_new hD _, upd_same⟩ ?_ ?_
    · rintro i H2 hi ⟨hs2, hD2⟩
      have hi2 : i < its.length := by omega
      refine ⟨rfl, ?_⟩
      show tCall (spSame n) [] E0 (tCons (tOp (rIx K) (tVar 0) (tVar 2)) (tCons (tOp (rIx K) (tVar 1) (tVar 2)) tNil)) _ H2 _
      have hy := List.getElem?_eq_getElem hi2
      generalize its[i] = y at hy
      obtain ⟨d', rfl, hz⟩ := hits (fun q => by rw [q] at hi2; exact absurd hi2 (Nat.not_lt_zero _))
      have hw := hz y (List.mem_of_getElem? hy)
      refine ⟨_, rfl, _, rfl, hat i y hy H2 hs2 _ ⟨_, rfl, _, rfl, hat i y hy H2 hs2 _ ?_⟩⟩
      refine ⟨y, R, d', c, rfl, by omega, hw.mono (fun _ r => r) (fun b o _ e => hs2 b o (hs1 b o e)) (Nat.le_refl _) (Nat.le_refl _), hc, fun H3 hs3 => ?_⟩
      refine ⟨_, hs3 _ _ hD2, ?_, same_put (hs2.trans hs3) hD, ?_⟩
      · rw [List.length_map, List.length_replicate]
        exact Nat.lt_of_lt_of_le (show i < 1000 by omega) (by decide)
      · rw [upd_same, List.replicate_succ', List.map_append]
        rfl
    · rintro H2 ⟨hs2, hD2⟩
      refine ⟨D, _, rfl, SqL.of hD2, ?_⟩
      have ea : (List.replicate (((its.length : Nat) : Int).toNat) true).all id = true := by simp
      rw [ea]
      exact kk H2 (hs1.trans hs2)
  · -- a leaf
    obtain ⟨rfl, hl⟩ := hS.nil (by simpa using e)
    rcases hl with rfl | ⟨b0, rfl⟩ | ⟨i0, rfl⟩ | ⟨z0, rfl⟩
    · refine ⟨_, rfl, rfl, _, rfl, ifT (decide_eq_true rfl) (iteT ?_)⟩
      refine ⟨_, rfl, .inl ⟨rfl, _, rfl, .inl ⟨rfl, rfl, ?_⟩⟩⟩
      rw [decide_eq_true rfl]
      exact kk _ hs1
    · refine ⟨_, rfl, rfl, _, rfl, ifF (decide_eq_false (fun z => nomatch z)) ?_⟩
      refine ⟨_, rfl, .bl b0, _, _, _, _, rfl, .ty _, .base (.bl b0), kit_ty (a := "bool") (b := "bool") (r := true) (by decide +kernel), _, rfl, iteT ?_⟩
      refine ⟨_, rfl, .inr ⟨b0, rfl, _, rfl, .inr ⟨b0, rfl, rfl, ?_⟩⟩⟩
      rw [decide_eq_true rfl]
      exact kk _ hs1
    · refine ⟨_, rfl, rfl, _, rfl, ifF (decide_eq_false (fun z => nomatch z)) ?_⟩
      refine ⟨_, rfl, .int i0, _, _, _, _, rfl, .ty _, .base (.int i0), kit_ty (a := "int") (b := "bool") (r := false) (by decide +kernel), _, rfl, iteF ?_⟩
      refine ⟨_, rfl, .int i0, _, _, _, _, rfl, .ty _, .base (.int i0), kit_ty (a := "int") (b := "int") (r := true) (by decide +kernel), _, rfl, iteT ?_⟩
      refine ⟨_, rfl, .int i0, _, _, _, _, rfl, .ty _, .base (.int i0), kit_ty (a := "int") (b := "int") (r := true) (by decide +kernel), _, rfl, iteT ?_⟩
      refine ⟨_, rfl, .int i0, _, _, _, _, rfl, .ty _, .base (.int i0), kit_ty (a := "int") (b := "bool") (r := false) (by decide +kernel), _, rfl, _, rfl, iteT ?_⟩
      refine ⟨_, rfl, _, rfl, rfl, ?_⟩
      rw [decide_eq_true rfl]
      exact kk _ hs1
    · refine ⟨_, rfl, rfl, _, rfl, ifF (decide_eq_false (fun z => nomatch z)) ?_⟩
      refine ⟨_, rfl, .str z0, _, _, _, _, rfl, .ty _, .base (.str z0), kit_ty (a := "str") (b := "bool") (r := false) (by decide +kernel), _, rfl, iteF ?_⟩
      refine ⟨_, rfl, .str z0, _, _, _, _, rfl, .ty _, .base (.str z0), kit_ty (a := "str") (b := "int") (r := false) (by decide +kernel), _, rfl, iteF ?_⟩
      refine ⟨_, rfl, .str z0, _, _, _, _, rfl, .ty _, .base (.str z0), kit_ty (a := "str") (b := "str") (r := true) (by decide +kernel), _, rfl, iteT ?_⟩
      refine ⟨_, rfl, _, rfl, rfl, ?_⟩
      rw [decide_eq_true rfl]
      exact kk _ hs1
end
end K01
set_option Elab.async false
set_option linter.all false
set_option maxRecDepth 100000
set_option maxHeartbeats 4000000
namespace K01
open PySem L2 PyProof.Rows
section
variable {P : Program} {w : World} {K : PySem.W.Frag} {mg : Str → Option Value} {base : Heap}
theorem scT : FnScope ["purse", "deep", "way", "lot", "turn"] ["purse", "deep"] (defScope sThing) := ⟨rfl, rfl, rfl, by decide +kernel, rfl, by decide +kernel, by decide +kernel⟩
theorem thing_none {f : Addr} {fd : FuncData} : FnOk P w K mg base CX0 2 f fd ["purse", "deep"] (spThing 0) := by
  have no : ∀ vs H Q E, ¬ spThing 0 vs H Q E := fun vs H Q E h => by
    obtain ⟨p, m, d, _, h1, _⟩ := h
    omega
  exact ⟨fun vs H Q E h => absurd h (no vs H Q E), fun A outer s H args us vs Q E _ _ _ _ h => absurd h (no vs H Q E)⟩
theorem ok_thing {f fC fW : Addr} {fd fdC fdW : FuncData} {n : Nat} (F : Fun K "_law_ta_thing" "_law_ta_thing" sThing f fd) (T : Txt K mg) (G : FnOk P w K mg base CX0 (n + 2) f fd ["purse", "deep"] (spThing n)) (b : Binds K fd ["purse", "deep"] []) (m : mg "_law_ta_thing" = some (.ref f))
    (FC : Fun K "_law_coin" "_law_coin" sCoin fC fdC) (bC : Binds K fdC ["purse", "many"] []) (mC : mg "_law_coin" = some (.ref fC)) (FW : Fun K "_law_words" "_law_words" sWords fW fdW) (bW : Binds K fdW ["purse", "many"] []) (mW : mg "_law_words" = some (.ref fW)) :
    FnOk P w K mg base CX0 (n + 3) f fd ["purse", "deep"] (spThing (n + 1)) := by
  have GC : FnOk P w K mg base CX0 1 fC fdC ["purse", "many"] spCoin := ok_coin FC T
  have GW : FnOk P w K mg base CX0 2 fW fdW ["purse", "many"] spWord := ok_words FW T FC bC mC
  refine F.ok scT (fun vs H Q E h => ?_) (fun cdv A outer s H vs Q E hr h => ?_)
  · obtain ⟨p, m0, d, rfl, _⟩ := h
    rfl
  obtain ⟨p, m0, d, rfl, hd, hp, hm, k⟩ := h
  have hr1 : Room 1 (A.deeper (envOfC "_law_ta_thing" (defScope sThing) s.heap.objs.size f cdv)) := hr.mono (by omega)
  have hr2 : Room 2 (A.deeper (envOfC "_law_ta_thing" (defScope sThing) s.heap.objs.size f cdv)) := hr.mono (by omega)
  refine ⟨_, pss_cons (ps_set (i := 2) scT.nd rfl (Or.inl rfl) (pe_call GC hr1 rfl mC FC.kp bC .nil pass0 (pa_cons (pv 0) (pa_cons pe_int pa_nil))))
    (pss_cons (ps_if (pt_cmpR op_eq (pv 2) pe_int (nomark _)) (pss_one (ps_ret pe_non)) pss_nil)
    (pss_cons (ps_if (pt_cmpR op_eq (pv 2) pe_int (nomark _)) (pss_one (ps_ret (pe_cmpR op_eq (pe_call GC hr1 rfl mC FC.kp bC .nil pass0 (pa_cons (pv 0) (pa_cons pe_int pa_nil))) pe_int (nomark _)))) pss_nil)
    (pss_cons (ps_if (pt_cmpR op_eq (pv 2) pe_int (nomark _)) (pss_one (ps_ret (pe_op op_sub (pe_call GC hr1 rfl mC FC.kp bC .nil pass0 (pa_cons (pv 0) (pa_cons (pe_op op_pow pe_int pe_int) pa_nil))) (pe_op op_pow pe_int pe_int)))) pss_nil)
    (pss_cons (ps_if (pw_or (pt_cmpR op_lt (pv 1) pe_int (nomark _)) (pw_or1 (pt_cmpR op_eq (pv 2) pe_int (nomark _)))).pt (pss_one (ps_ret (pe_ix ix_list (pe_call GW hr2 rfl mW FW.kp bW .nil pass0 (pa_cons (pv 0) (pa_cons pe_int pa_nil))) pe_int (fun _ _ => rfl)))) pss_nil)
    (pss_cons (ps_setLc (i := 3) (own := [("turn", 4)]) (g := gName 4) (tt := tYes) rfl scT.nd rfl rfl (sw_true rfl rfl rfl (by decide +kernel)) (pi_range1 rfl T.range (pa_cons (pe_call GC hr1 rfl mC FC.kp bC .nil pass0 (pa_cons (pv 0) (pa_cons pe_int pa_nil))) pa_nil))
      (blkOk_by (N := ["purse", "deep", "way", "lot", "turn"]) (sc := defScope sThing) (by decide +kernel)) (fun _ _ _ _ _ => pg_name (i := 4) scT.nd rfl (Or.inl rfl)) (fun _ _ _ _ _ => pts_nil)
      (fun _ _ _ _ _ => pe_call G hr rfl m F.kp b .nil pass0 (pa_cons (pv 0) (pa_cons (pe_op op_sub (pv 1) pe_int) pa_nil))))
    (pss_one (ps_ret (pe_ifExp (pt_cmpR op_lt (pv 2) pe_int (nomark _)) (pv 3) (pe_callTy call_tuple_of (by rfl) T.tuple boot_tuple (pa_cons (pv 3) pa_nil)))))))))), ?_⟩
  have hc := cost_pos d
  refine ⟨_, rfl, p, 7, m0, rfl, hp, by omega, by decide, by decide, fun wy H1 w0 w1 hb1 hp1 => ?_⟩
  have hA1 : Around1 H p (m0 + 1) H1 := ⟨hb1, hp1⟩
  have lf : ∀ v H', Leaf v → Around1 H p (m0 + cost d) H' → Q v H' := fun v H' hl hA => k v H' hA (Wf.leaf hl d)
  refine ⟨_, rfl, rfl, _, rfl, ?_⟩
  refine ite2 (fun _ => lf _ _ (.inl rfl) (hA1.mono (by omega))) (fun _ => ?_)
  refine ⟨_, rfl, rfl, _, rfl, ?_⟩
  refine ite2 (fun _ => ?_) (fun _ => ?_)
  · refine ⟨_, rfl, p, 2, m0 + 1, rfl, hp1, by omega, by decide, by decide, fun x H2 x0 x1 hb2 hp2 => ⟨rfl, ?_⟩⟩
    exact lf _ _ (.inr (.inl ⟨_, rfl⟩)) ((hA1.draw hb2 hp2).mono (by omega))
  refine ⟨_, rfl, rfl, _, rfl, ?_⟩
  refine ite2 (fun _ => ?_) (fun _ => ?_)
  · refine ⟨_, rfl, _, _, rfl, rfl, ⟨by decide, by decide, by decide⟩, p, _, m0 + 1, rfl, hp1, by omega, by decide, by decide, fun x H2 x0 x1 hb2 hp2 => ?_⟩
    refine ⟨_, _, rfl, rfl, ⟨by decide, by decide, by decide⟩, _, _, rfl, rfl, ?_⟩
    exact lf _ _ (.inr (.inr (.inl ⟨_, rfl⟩))) ((hA1.draw hb2 hp2).mono (by omega))
  have word : ∀ σ : L2.St, σ[0]? = some (some (V.ref p)) → tRet (tOp (rIxL K) (tCall spWord [] E0 (tCons (tVar 0) (tCons (tC (.int 1)) tNil))) (tC (.int 0))) { nx := fun _ H' => Q .non H', rt := Q } σ H1 := fun σ hσ => by
    refine ⟨_, hσ, p, m0 + 1, rfl, hp1, by omega, fun r z H2 hb2 hp2 hr2 hz => ?_⟩
    refine ⟨r, _, _, _, rfl, rfl, SqL.of hr2, one_at, ?_⟩
    exact lf _ _ (.inr (.inr (.inr ⟨z, rfl⟩))) (Around1.mono ⟨hb1.trans hb2, hp2⟩ (by omega))
  refine ⟨_, rfl, _, _, rfl, rfl, _, rfl, ?_⟩
  refine ite2 (fun _ => iteT (word _ rfl)) (fun h1 => ?_)
  have hd1 : ¬ ((d : Int) < 1) := fun z => h1 (decide_eq_true z)
  refine ⟨_, rfl, rfl, _, rfl, ?_⟩
  refine ite2 (fun _ => word _ rfl) (fun _ => ?_)
  obtain ⟨d', rfl⟩ : ∃ d', d = d' + 1 := ⟨d - 1, by omega⟩
  have hcs := cost_succ d'
  refine ⟨_, rfl, p, 4, m0 + 1, rfl, hp1, by omega, by decide, by decide, fun x H2 x0 x1 hb2 hp2 => ?_⟩
  have hA2 : Around1 H p (m0 + 2) H2 := hA1.draw hb2 hp2
  refine ⟨x, rfl, by omega, by omega, fun D hD => ?_⟩
  have hD0 : H D = none := hA2.free hp hD
  have hDp : D ≠ p := hp.ne hD0
  have hx3 : x.toNat ≤ 3 := by omega
  refine lc_range (lo := 0) (n := x.toNat) (fun i H' => Around1 H p (m0 + 2 + i * cost d') H' ∧ ∃ ys, H' D = some (.lst ys) ∧ ys.length = i ∧ ∀ y ∈ ys, Wf (fun a => H a = none ∧ a ≠ D) H' 3 d' y)
    ⟨by rw [Nat.zero_mul]; exact hA2.new hD, [], upd_same, rfl, (fun _ h => nomatch h)⟩ ?_ ?_
  · rintro i H3 hi ⟨hA3, ys, hD3, hl, hW⟩
    refine ⟨rfl, ?_⟩
    show tCall (spThing n) [] E0 (tCons (tVar 0) (tCons (tOp (rI0 fun i j => .int (i - j)) (tVar 1) (tC (.int 1))) tNil)) _ H3 _
    have hi3 : i + 1 ≤ 3 := by omega
    have hmul : i * cost d' + cost d' ≤ 3 * cost d' := by
      have z := Nat.mul_le_mul_right (cost d') hi3
      rw [Nat.succ_mul] at z
      exact z
    refine ⟨_, rfl, _, rfl, _, _, rfl, rfl, p, m0 + 2 + i * cost d', d', ?_, by omega, hA3.2, by omega, fun v H4 hA4 hW4 => ?_⟩
    · show [V.ref p, V.int (((d' + 1 : Nat) : Int) - 1)] = [V.ref p, V.int (d' : Int)]
      rw [show (((d' + 1 : Nat) : Int) - 1) = (d' : Int) by omega]
    have hD4 : H4 D = some (.lst ys) := hA4.1 _ _ hDp hD3
    have ap : ∀ a, H a = none → a ≠ p := fun a => hp.ne
    have hA34 := hA3.trans hA4
    refine ⟨ys, hD4, Nat.lt_of_le_of_lt (show ys.length ≤ 1000 by omega) (by decide), ?_, ys ++ [v], upd_same, by rw [List.length_append, hl]; rfl, fun y hy => ?_⟩
    · rw [Nat.succ_mul, ← Nat.add_assoc]
      exact hA34.put hD0 hDp
    · rcases List.mem_append.mp hy with hy | hy
      · refine (hW y hy).mono (fun _ r => r) (fun a o r e => ?_) (Nat.le_refl _) (Nat.le_refl _)
        rw [upd_ne r.2]
        exact hA4.1 a o (ap a r.1) e
      · rw [List.mem_singleton.mp hy]
        refine hW4.mono (fun a r => ⟨hA3.free hp r, (ne_of_none hD3 r).symm⟩) (fun a o r e => ?_) (Nat.le_refl _) (Nat.le_refl _)
        rw [upd_ne (ne_of_none hD3 r).symm]
        exact e
  · rintro H3 ⟨hA3, ys, hD3, hl, hW⟩
    have hmul : x.toNat * cost d' ≤ 3 * cost d' := Nat.mul_le_mul_right (cost d') hx3
    have hA3' := hA3.mono (show m0 + 2 + x.toNat * cost d' ≤ m0 + cost (d' + 1) by omega)
    refine ⟨_, rfl, _, _, rfl, rfl, _, rfl, ?_⟩
    refine ite2 (fun _ => ?_) (fun _ => ?_)
    · refine ⟨_, rfl, k _ H3 hA3' (.inr ⟨D, ys, rfl, hD0, .inl hD3, by omega, fun y hy => ?_⟩)⟩
      exact (hW y hy).mono (fun _ r => r.1) (fun _ _ _ e => e) (Nat.le_refl _) (Nat.le_refl _)
    · refine ⟨_, rfl, D, ys, rfl, .inl ⟨SqL.of hD3, fun l hl2 => ?_⟩⟩
      refine k _ _ (hA3'.new hl2) (.inr ⟨l, ys, rfl, hA3.free hp hl2, .inr upd_same, by omega, fun y hy => ?_⟩)
      refine (hW y hy).mono (fun _ r => r.1) (fun a o _ e => ?_) (Nat.le_refl _) (Nat.le_refl _)
      rw [upd_ne (ne_of_none e hl2)]
      exact e
end
end K01
set_option Elab.async false
set_option linter.all false
set_option maxRecDepth 100000
set_option maxHeartbeats 4000000
namespace K01
open PySem L2 PyProof.Rows
def cNames : List Str := ["TakeError", "InvalidName", "InvalidPart", "InvalidTerm", "DoubleField", "InvalidRule", "InvalidAnswer", "UnknownPlace", "TakeEnded", "NothingToUndo", "Unreadable"].map Str.ofString
/-- the eleven classes stand as the text says; fI: the __init__ of the first, which the others have from it -/
structure Cls (K : PySem.W.Frag) (mg : Str → Option Value) (Cs : Nat → Addr) (fI : Addr) : Prop where
  mg : ∀ j x, cNames[j]? = some x → mg x = some (.ref (Cs j))
  oex : ∀ j, j < 11 → OexC K (Cs j)
  ew : ∀ j, j < 11 → ExcW K (Cs j)
  ini : ∀ j, j < 11 → PySem.W.findIn K (.ref (Cs j)) "__init__" = some (some (.ref fI))
  val : ∀ j, j < 11 → PySem.W.findIn K (.ref (Cs j)) "value" = some none
  tI : PySem.W.typeIn K (.ref fI) = some (.type "function")
  kit : ∀ i j, i < 11 → j < 11 → PySem.W.kitOne K (.ref (Cs i)) (.ref (Cs j)) = some (decide (j = 0 ∨ j = i))
  kitV : ∀ j, j < 11 → PySem.W.kitOne K (.ref (Cs j)) (.type "ValueError") = some true
def spInit (K : PySem.W.Frag) : Sp := fun vs H Q _ => ∃ (x C : Addr) (v : V), vs = [.ref x, v] ∧ OexC K C ∧ PySem.W.findIn K (.ref C) "value" = some none ∧ H x = some (exo x C none) ∧
  ∀ dx, H dx = none → dx ≠ x → Q .non (upd (upd H dx (exd dx [("value", v)])) x (exo x C (some dx)))
/-- an error of the class with a number is made of v -/
def spBy (Cs : Nat → Addr) : Sp := fun vs H Q _ => ∃ (i : Nat) (v : V), vs = [.int (i : Int), v] ∧ i < 11 ∧ ∀ x H', H x = none → Same H H' → ExcAt H' x (Cs i) [("value", v)] → Q (.ref x) H'
section
variable {P : Program} {w : World} {K : PySem.W.Frag} {mg : Str → Option Value} {base : Heap} {Cs : Nat → Addr} {fI : Addr} {fdI : FuncData}
theorem scI : FnScope ["self", "value"] ["self", "value"] (defScope sInit) := ⟨rfl, rfl, rfl, by decide +kernel, rfl, by decide +kernel, by decide +kernel⟩
theorem ok_init (F : Fun K "__init__" "TakeError.__init__" sInit fI fdI) : FnOk P w K mg base CX0 1 fI fdI ["self", "value"] (spInit K) := by
  refine F.ok scI (fun vs H Q E h => ?_) (fun cdv A outer s H vs Q E hr h => ?_)
  · obtain ⟨x, C, v, rfl, _⟩ := h
    rfl
  obtain ⟨x, C, v, rfl, T, hv, hx, k⟩ := h
  refine ⟨_, pss_one (ps_ost (pv 0) (pv 1)), ?_⟩
  exact ⟨_, rfl, _, rfl, x, C, rfl, T, hv, .inl ⟨hx, fun dx n ne => k dx n ne⟩⟩
theorem kb_kw (F : Fun K "__init__" "TakeError.__init__" sInit fI fdI) : KBn K fdI ["self", "value"] 1 ["value"] (fun us ws => us ++ ws) (fun vs zs => vs ++ zs) := by
  obtain ⟨oc, od, kV, doc, pm, an, cdv, ct, osl, rfl, lk, hcd⟩ := F.ex
  refine ⟨fun s us ws _ h1 h2 => ?_, fun r1 r2 => r1.append r2⟩
  match us, h1, ws, h2 with
  | [_], _, [_], _ => exact .of_eq rfl
theorem kb_ps (F : Fun K "__init__" "TakeError.__init__" sInit fI fdI) : KBn K fdI ["self", "value"] 2 [] (fun us ws => us ++ ws) (fun vs zs => vs ++ zs) := by
  obtain ⟨oc, od, kV, doc, pm, an, cdv, ct, osl, rfl, lk, hcd⟩ := F.ex
  refine ⟨fun s us ws _ h1 h2 => ?_, fun r1 r2 => r1.append r2⟩
  match us, h1, ws, h2 with
  | [_, _], _, [], _ => exact .of_eq rfl
/-- the end of an error's making -/
theorem made_at {H : Hp} {x dx C : Addr} {v : V} (hx : H x = none) (hd : (upd H x (exo x C none)) dx = none) (hn : dx ≠ x) :
    Same H (upd (upd (upd H x (exo x C none)) dx (exd dx [("value", v)])) x (exo x C (some dx))) ∧ ExcAt (upd (upd (upd H x (exo x C none)) dx (exd dx [("value", v)])) x (exo x C (some dx))) x C [("value", v)] := by
  have hd0 : H dx = none := by
    rw [upd_ne hn] at hd
    exact hd
  refine ⟨fun b o e => ?_, dx, upd_same, ?_⟩
  · rw [upd_ne (ne_of_none e hx), upd_ne (ne_of_none e hd0), upd_ne (ne_of_none e hx)]
    exact e
  · rw [upd_ne hn, upd_same]
theorem scB : FnScope ["at", "thing"] ["at", "thing"] (defScope sByPos) := ⟨rfl, rfl, rfl, by decide +kernel, rfl, by decide +kernel, by decide +kernel⟩
theorem ok_byPos {f : Addr} {fd : FuncData} (F : Fun K "_law_ta_by_position" "_law_ta_by_position" sByPos f fd) (C : Cls K mg Cs fI) (FI : Fun K "__init__" "TakeError.__init__" sInit fI fdI) :
    FnOk P w K mg base CX0 3 f fd ["at", "thing"] (spBy Cs) := by
  have GI : FnOk P w K mg base CX0 1 fI fdI ["self", "value"] (spInit K) := ok_init FI
  refine F.ok scB (fun vs H Q E h => ?_) (fun cdv A outer s H vs Q E hr h => ?_)
  · obtain ⟨i, v, rfl, _⟩ := h
    rfl
  obtain ⟨i, v, rfl, hi, k⟩ := h
  refine ⟨_, pss_cons (ps_if (pt_cmpR op_lt (pv 0) pe_int (nomark _))
      (pss_cons (ps_if (pt_cmpR op_lt (pv 0) pe_int (nomark _)) (pss_one (ps_ret (pe_ifExp (pt_cmpR op_eq (pv 0) pe_int (nomark _))
        (pe_excP (C.oex 0 (by decide)) (C.ini 0 (by decide)) C.tI GI hr rfl (C.mg 0 _ rfl) (kb_ps FI) pass0 (pa_cons (pv 1) pa_nil)) (pe_excP (C.oex 1 (by decide)) (C.ini 1 (by decide)) C.tI GI hr rfl (C.mg 1 _ rfl) (kb_ps FI) pass0 (pa_cons (pv 1) pa_nil))))) pss_nil)
      (pss_cons (ps_if (pt_cmpR op_eq (pv 0) pe_int (nomark _)) (pss_one (ps_ret (pe_excP (C.oex 2 (by decide)) (C.ini 2 (by decide)) C.tI GI hr rfl (C.mg 2 _ rfl) (kb_ps FI) pass0 (pa_cons (pv 1) pa_nil)))) pss_nil)
      (pss_one (ps_ret (pe_ifExp (pt_cmpR op_eq (pv 0) pe_int (nomark _))
        (pe_excP (C.oex 3 (by decide)) (C.ini 3 (by decide)) C.tI GI hr rfl (C.mg 3 _ rfl) (kb_ps FI) pass0 (pa_cons (pv 1) pa_nil)) (pe_excP (C.oex 4 (by decide)) (C.ini 4 (by decide)) C.tI GI hr rfl (C.mg 4 _ rfl) (kb_ps FI) pass0 (pa_cons (pv 1) pa_nil))))))) pss_nil)
    (pss_cons (ps_if (pt_cmpR op_lt (pv 0) pe_int (nomark _))
      (pss_cons (ps_if (pt_cmpR op_eq (pv 0) pe_int (nomark _)) (pss_one (ps_ret (pe_excP (C.oex 5 (by decide)) (C.ini 5 (by decide)) C.tI GI hr rfl (C.mg 5 _ rfl) (kb_ps FI) pass0 (pa_cons (pv 1) pa_nil)))) pss_nil)
      (pss_one (ps_ret (pe_ifExp (pt_cmpR op_eq (pv 0) pe_int (nomark _))
        (pe_excP (C.oex 6 (by decide)) (C.ini 6 (by decide)) C.tI GI hr rfl (C.mg 6 _ rfl) (kb_ps FI) pass0 (pa_cons (pv 1) pa_nil)) (pe_excP (C.oex 7 (by decide)) (C.ini 7 (by decide)) C.tI GI hr rfl (C.mg 7 _ rfl) (kb_ps FI) pass0 (pa_cons (pv 1) pa_nil)))))) pss_nil)
    (pss_cons (ps_if (pt_cmpR op_eq (pv 0) pe_int (nomark _)) (pss_one (ps_ret (pe_excP (C.oex 8 (by decide)) (C.ini 8 (by decide)) C.tI GI hr rfl (C.mg 8 _ rfl) (kb_ps FI) pass0 (pa_cons (pv 1) pa_nil)))) pss_nil)
    (pss_one (ps_ret (pe_ifExp (pt_cmpR op_eq (pv 0) pe_int (nomark _))
        (pe_excP (C.oex 9 (by decide)) (C.ini 9 (by decide)) C.tI GI hr rfl (C.mg 9 _ rfl) (kb_ps FI) pass0 (pa_cons (pv 1) pa_nil)) (pe_excP (C.oex 10 (by decide)) (C.ini 10 (by decide)) C.tI GI hr rfl (C.mg 10 _ rfl) (kb_ps FI) pass0 (pa_cons (pv 1) pa_nil))))))), ?_⟩
  have fin : ∀ j, j < 11 → i = j → tExcN (Cs j) 1 0 (spInit K) (fun vs zs => vs ++ zs) (tCons (tVar 1) tNil) tNil [some (.int (i : Int)), some v] H Q := fun j hj e => by
    subst e
    refine ⟨_, rfl, rfl, rfl, (by show 1 ≤ 1000; decide), fun x hx => ⟨x, Cs i, v, rfl, C.oex i hj, C.val i hj, upd_same, fun dx hd hn => ⟨rfl, ?_⟩⟩⟩
    have z := made_at (C := Cs i) (v := v) hx hd hn
    exact k x _ hx z.1 z.2
  have cs : i = 0 ∨ i = 1 ∨ i = 2 ∨ i = 3 ∨ i = 4 ∨ i = 5 ∨ i = 6 ∨ i = 7 ∨ i = 8 ∨ i = 9 ∨ i = 10 := by omega
  rcases cs with rfl | rfl | rfl | rfl | rfl | rfl | rfl | rfl | rfl | rfl | rfl
  all_goals
    repeat
      first
        | refine ⟨_, rfl, _, _, rfl, rfl, _, rfl, ifT (by decide) ?_⟩
        | refine ⟨_, rfl, _, _, rfl, rfl, _, rfl, ifF (by decide) ?_⟩
        | refine ⟨_, rfl, rfl, _, rfl, ifT (by decide) ?_⟩
        | refine ⟨_, rfl, rfl, _, rfl, ifF (by decide) ?_⟩
  · exact fin 0 hi rfl
  · exact fin 1 hi rfl
  · exact fin 2 hi rfl
  · exact fin 3 hi rfl
  · exact fin 4 hi rfl
  · exact fin 5 hi rfl
  · exact fin 6 hi rfl
  · exact fin 7 hi rfl
  · exact fin 8 hi rfl
  · exact fin 9 hi rfl
  · exact fin 10 hi rfl
theorem scN : FnScope ["at", "thing"] ["at", "thing"] (defScope sByName) := ⟨rfl, rfl, rfl, by decide +kernel, rfl, by decide +kernel, by decide +kernel⟩
theorem ok_byName {f : Addr} {fd : FuncData} (F : Fun K "_law_ta_by_name" "_law_ta_by_name" sByName f fd) (C : Cls K mg Cs fI) (FI : Fun K "__init__" "TakeError.__init__" sInit fI fdI) :
    FnOk P w K mg base CX0 3 f fd ["at", "thing"] (spBy Cs) := by
  have GI : FnOk P w K mg base CX0 1 fI fdI ["self", "value"] (spInit K) := ok_init FI
  refine F.ok scN (fun vs H Q E h => ?_) (fun cdv A outer s H vs Q E hr h => ?_)
  · obtain ⟨i, v, rfl, _⟩ := h
    rfl
  obtain ⟨i, v, rfl, hi, k⟩ := h
  refine ⟨_, pss_cons (ps_if (pt_cmpR op_lt (pv 0) pe_int (nomark _))
      (pss_cons (ps_if (pt_cmpR op_lt (pv 0) pe_int (nomark _)) (pss_one (ps_ret (pe_ifExp (pt_cmpR op_eq (pv 0) pe_int (nomark _))
        (pe_excK (C.oex 0 (by decide)) (C.ini 0 (by decide)) C.tI GI hr rfl (C.mg 0 _ rfl) (kb_kw FI) pass0 (pk_cons (pv 1) pk_nil)) (pe_excK (C.oex 1 (by decide)) (C.ini 1 (by decide)) C.tI GI hr rfl (C.mg 1 _ rfl) (kb_kw FI) pass0 (pk_cons (pv 1) pk_nil))))) pss_nil)
      (pss_cons (ps_if (pt_cmpR op_eq (pv 0) pe_int (nomark _)) (pss_one (ps_ret (pe_excK (C.oex 2 (by decide)) (C.ini 2 (by decide)) C.tI GI hr rfl (C.mg 2 _ rfl) (kb_kw FI) pass0 (pk_cons (pv 1) pk_nil)))) pss_nil)
      (pss_one (ps_ret (pe_ifExp (pt_cmpR op_eq (pv 0) pe_int (nomark _))
        (pe_excK (C.oex 3 (by decide)) (C.ini 3 (by decide)) C.tI GI hr rfl (C.mg 3 _ rfl) (kb_kw FI) pass0 (pk_cons (pv 1) pk_nil)) (pe_excK (C.oex 4 (by decide)) (C.ini 4 (by decide)) C.tI GI hr rfl (C.mg 4 _ rfl) (kb_kw FI) pass0 (pk_cons (pv 1) pk_nil))))))) pss_nil)
    (pss_cons (ps_if (pt_cmpR op_lt (pv 0) pe_int (nomark _))
      (pss_cons (ps_if (pt_cmpR op_eq (pv 0) pe_int (nomark _)) (pss_one (ps_ret (pe_excK (C.oex 5 (by decide)) (C.ini 5 (by decide)) C.tI GI hr rfl (C.mg 5 _ rfl) (kb_kw FI) pass0 (pk_cons (pv 1) pk_nil)))) pss_nil)
      (pss_one (ps_ret (pe_ifExp (pt_cmpR op_eq (pv 0) pe_int (nomark _))
        (pe_excK (C.oex 6 (by decide)) (C.ini 6 (by decide)) C.tI GI hr rfl (C.mg 6 _ rfl) (kb_kw FI) pass0 (pk_cons (pv 1) pk_nil)) (pe_excK (C.oex 7 (by decide)) (C.ini 7 (by decide)) C.tI GI hr rfl (C.mg 7 _ rfl) (kb_kw FI) pass0 (pk_cons (pv 1) pk_nil)))))) pss_nil)
    (pss_cons (ps_if (pt_cmpR op_eq (pv 0) pe_int (nomark _)) (pss_one (ps_ret (pe_excK (C.oex 8 (by decide)) (C.ini 8 (by decide)) C.tI GI hr rfl (C.mg 8 _ rfl) (kb_kw FI) pass0 (pk_cons (pv 1) pk_nil)))) pss_nil)
    (pss_one (ps_ret (pe_ifExp (pt_cmpR op_eq (pv 0) pe_int (nomark _))
        (pe_excK (C.oex 9 (by decide)) (C.ini 9 (by decide)) C.tI GI hr rfl (C.mg 9 _ rfl) (kb_kw FI) pass0 (pk_cons (pv 1) pk_nil)) (pe_excK (C.oex 10 (by decide)) (C.ini 10 (by decide)) C.tI GI hr rfl (C.mg 10 _ rfl) (kb_kw FI) pass0 (pk_cons (pv 1) pk_nil))))))), ?_⟩
  have fin : ∀ j, j < 11 → i = j → tExcN (Cs j) 0 1 (spInit K) (fun vs zs => vs ++ zs) tNil (tCons (tVar 1) tNil) [some (.int (i : Int)), some v] H Q := fun j hj e => by
    subst e
    refine ⟨_, rfl, rfl, rfl, (by show 0 ≤ 1000; decide), fun x hx => ⟨x, Cs i, v, rfl, C.oex i hj, C.val i hj, upd_same, fun dx hd hn => ⟨rfl, ?_⟩⟩⟩
    have z := made_at (C := Cs i) (v := v) hx hd hn
    exact k x _ hx z.1 z.2
  have cs : i = 0 ∨ i = 1 ∨ i = 2 ∨ i = 3 ∨ i = 4 ∨ i = 5 ∨ i = 6 ∨ i = 7 ∨ i = 8 ∨ i = 9 ∨ i = 10 := by omega
  rcases cs with rfl | rfl | rfl | rfl | rfl | rfl | rfl | rfl | rfl | rfl | rfl
  all_goals
    repeat
      first
        | refine ⟨_, rfl, _, _, rfl, rfl, _, rfl, ifT (by decide) ?_⟩
        | refine ⟨_, rfl, _, _, rfl, rfl, _, rfl, ifF (by decide) ?_⟩
        | refine ⟨_, rfl, rfl, _, rfl, ifT (by decide) ?_⟩
        | refine ⟨_, rfl, rfl, _, rfl, ifF (by decide) ?_⟩
  · exact fin 0 hi rfl
  · exact fin 1 hi rfl
  · exact fin 2 hi rfl
  · exact fin 3 hi rfl
  · exact fin 4 hi rfl
  · exact fin 5 hi rfl
  · exact fin 6 hi rfl
  · exact fin 7 hi rfl
  · exact fin 8 hi rfl
  · exact fin 9 hi rfl
  · exact fin 10 hi rfl

/-! ### of which classes it is -/
def flagsOf (i : Nat) : List Bool := (List.range 12).map fun k => decide (k = 0 ∨ k = i ∨ k = 11)
theorem flags_is : ∀ i, i < 11 → ([decide (0 = 0 ∨ 0 = i), decide (1 = 0 ∨ 1 = i), decide (2 = 0 ∨ 2 = i), decide (3 = 0 ∨ 3 = i), decide (4 = 0 ∨ 4 = i), decide (5 = 0 ∨ 5 = i), decide (6 = 0 ∨ 6 = i), decide (7 = 0 ∨ 7 = i), decide (8 = 0 ∨ 8 = i), decide (9 = 0 ∨ 9 = i), decide (10 = 0 ∨ 10 = i), true] : List Bool) = flagsOf i := by decide +kernel
theorem flags_shaped : ∀ i, i < 11 → SeqAt.shaped (.list ((flagsOf i).map PyData.bool)) = true := by decide +kernel
theorem flags_eqv : ∀ i, i < 11 → PyData.eqv (.list ((flagsOf i).map PyData.bool)) (.list ((flagsOf i).map PyData.bool)) = true := by decide +kernel
theorem dpAll_bl {H : Hp} : ∀ bs : List Bool, DpAll K H (bs.map V.bl) (bs.map PyData.bool)
  | [] => .nil
  | b :: bs => .cons (.bl b) (dpAll_bl bs)
def spFlags (Cs : Nat → Addr) : Sp := fun vs H Q _ => ∃ (i : Nat) (x : Addr) (fs : List (Str × V)), vs = [.ref x] ∧ i < 11 ∧ ExcAt H x (Cs i) fs ∧ ∀ r H', H r = none → Same H H' → H' r = some (.lst ((flagsOf i).map V.bl)) → Q (.ref r) H'
theorem excAt_same {H H' : Hp} {x C : Addr} {fs : List (Str × V)} (h : ExcAt H x C fs) (s : Same H H') : ExcAt H' x C fs := by
  obtain ⟨d, h1, h2⟩ := h
  exact ⟨d, s _ _ h1, s _ _ h2⟩
theorem scF : FnScope ["error", "flags"] ["error"] (defScope sFlags) := ⟨rfl, rfl, rfl, by decide +kernel, rfl, by decide +kernel, by decide +kernel⟩
theorem ok_flags {f : Addr} {fd : FuncData} (F : Fun K "_law_ta_flags" "_law_ta_flags" sFlags f fd) (T : Txt K mg) (C : Cls K mg Cs fI) (zV : mg "ValueError" = none) : FnOk P w K mg base CX0 1 f fd ["error"] (spFlags Cs) := by
  refine F.ok scF (fun vs H Q E h => ?_) (fun cdv A outer s H vs Q E hr h => ?_)
  · obtain ⟨i, x, fs, rfl, _⟩ := h
    rfl
  obtain ⟨i, x, fs, rfl, hi, hx, k⟩ := h
  refine ⟨_, pss_cons (ps_set (i := 1) scF.nd rfl (Or.inl rfl) (pe_lst
      (pa_cons (pe_callB call_isX (by rfl) T.isi boot_isinstance (pa_cons (pv 0) (pa_cons (pe_glob (v := .ref (Cs 0)) rfl (C.mg 0 _ rfl) rfl) pa_nil)))
      (pa_cons (pe_callB call_isX (by rfl) T.isi boot_isinstance (pa_cons (pv 0) (pa_cons (pe_glob (v := .ref (Cs 1)) rfl (C.mg 1 _ rfl) rfl) pa_nil)))
      (pa_cons (pe_callB call_isX (by rfl) T.isi boot_isinstance (pa_cons (pv 0) (pa_cons (pe_glob (v := .ref (Cs 2)) rfl (C.mg 2 _ rfl) rfl) pa_nil))) pa_nil)))))
    (pss_cons (ps_set (i := 1) scF.nd rfl (Or.inl rfl) (pe_op op_cat (pv 1) (pe_lst
      (pa_cons (pe_callB call_isX (by rfl) T.isi boot_isinstance (pa_cons (pv 0) (pa_cons (pe_glob (v := .ref (Cs 3)) rfl (C.mg 3 _ rfl) rfl) pa_nil)))
      (pa_cons (pe_callB call_isX (by rfl) T.isi boot_isinstance (pa_cons (pv 0) (pa_cons (pe_glob (v := .ref (Cs 4)) rfl (C.mg 4 _ rfl) rfl) pa_nil)))
      (pa_cons (pe_callB call_isX (by rfl) T.isi boot_isinstance (pa_cons (pv 0) (pa_cons (pe_glob (v := .ref (Cs 5)) rfl (C.mg 5 _ rfl) rfl) pa_nil))) pa_nil))))))
    (pss_cons (ps_set (i := 1) scF.nd rfl (Or.inl rfl) (pe_op op_cat (pv 1) (pe_lst
      (pa_cons (pe_callB call_isX (by rfl) T.isi boot_isinstance (pa_cons (pv 0) (pa_cons (pe_glob (v := .ref (Cs 6)) rfl (C.mg 6 _ rfl) rfl) pa_nil)))
      (pa_cons (pe_callB call_isX (by rfl) T.isi boot_isinstance (pa_cons (pv 0) (pa_cons (pe_glob (v := .ref (Cs 7)) rfl (C.mg 7 _ rfl) rfl) pa_nil)))
      (pa_cons (pe_callB call_isX (by rfl) T.isi boot_isinstance (pa_cons (pv 0) (pa_cons (pe_glob (v := .ref (Cs 8)) rfl (C.mg 8 _ rfl) rfl) pa_nil))) pa_nil))))))
    (pss_one (ps_ret (pe_op op_cat (pv 1) (pe_lst
      (pa_cons (pe_callB call_isX (by rfl) T.isi boot_isinstance (pa_cons (pv 0) (pa_cons (pe_glob (v := .ref (Cs 9)) rfl (C.mg 9 _ rfl) rfl) pa_nil)))
      (pa_cons (pe_callB call_isX (by rfl) T.isi boot_isinstance (pa_cons (pv 0) (pa_cons (pe_glob (v := .ref (Cs 10)) rfl (C.mg 10 _ rfl) rfl) pa_nil)))
      (pa_cons (pe_callB call_isX (by rfl) T.isi boot_isinstance (pa_cons (pv 0) (pa_cons (pe_bltn (v := .ty "ValueError") (by rfl) zV (by decide +kernel) rfl) pa_nil))) pa_nil))))))))), ?_⟩
  refine ⟨_, rfl, x, Cs i, fs, .ref (Cs 0), .ref (Cs 0), _, rfl, .own _, hx, C.ew i hi, C.kit i 0 hi (by decide), _, rfl, x, Cs i, fs, .ref (Cs 1), .ref (Cs 1), _, rfl, .own _, hx, C.ew i hi, C.kit i 1 hi (by decide), _, rfl, x, Cs i, fs, .ref (Cs 2), .ref (Cs 2), _, rfl, .own _, hx, C.ew i hi, C.kit i 2 hi (by decide), by show 3 ≤ sizeLine; decide, fun l0 hl0 => ?_⟩
  have s0 := same_new hl0 (.lst [V.bl (decide (0 = 0 ∨ 0 = i)), V.bl (decide (1 = 0 ∨ 1 = i)), V.bl (decide (2 = 0 ∨ 2 = i))])
  have x0 := excAt_same hx s0
  refine ⟨_, rfl, _, rfl, x, Cs i, fs, .ref (Cs 3), .ref (Cs 3), _, rfl, .own _, x0, C.ew i hi, C.kit i 3 hi (by decide), _, rfl, x, Cs i, fs, .ref (Cs 4), .ref (Cs 4), _, rfl, .own _, x0, C.ew i hi, C.kit i 4 hi (by decide), _, rfl, x, Cs i, fs, .ref (Cs 5), .ref (Cs 5), _, rfl, .own _, x0, C.ew i hi, C.kit i 5 hi (by decide), by show 3 ≤ sizeLine; decide, fun l1 hl1 => ?_⟩
  refine ⟨l0, l1, _, _, rfl, rfl, same_new hl1 _ _ _ upd_same, upd_same, by show 3 + 3 ≤ sizeLine; decide, fun l2 hl2 => ?_⟩
  have s2 := (s0.trans (same_new hl1 (.lst [V.bl (decide (3 = 0 ∨ 3 = i)), V.bl (decide (4 = 0 ∨ 4 = i)), V.bl (decide (5 = 0 ∨ 5 = i))]))).trans (same_new hl2 (.lst ([V.bl (decide (0 = 0 ∨ 0 = i)), V.bl (decide (1 = 0 ∨ 1 = i)), V.bl (decide (2 = 0 ∨ 2 = i))] ++ [V.bl (decide (3 = 0 ∨ 3 = i)), V.bl (decide (4 = 0 ∨ 4 = i)), V.bl (decide (5 = 0 ∨ 5 = i))])))
  have x2 := excAt_same hx s2
  refine ⟨_, rfl, _, rfl, x, Cs i, fs, .ref (Cs 6), .ref (Cs 6), _, rfl, .own _, x2, C.ew i hi, C.kit i 6 hi (by decide), _, rfl, x, Cs i, fs, .ref (Cs 7), .ref (Cs 7), _, rfl, .own _, x2, C.ew i hi, C.kit i 7 hi (by decide), _, rfl, x, Cs i, fs, .ref (Cs 8), .ref (Cs 8), _, rfl, .own _, x2, C.ew i hi, C.kit i 8 hi (by decide), by show 3 ≤ sizeLine; decide, fun l3 hl3 => ?_⟩
  refine ⟨l2, l3, _, _, rfl, rfl, same_new hl3 _ _ _ upd_same, upd_same, by show 6 + 3 ≤ sizeLine; decide, fun l4 hl4 => ?_⟩
  have s4 := (s2.trans (same_new hl3 (.lst [V.bl (decide (6 = 0 ∨ 6 = i)), V.bl (decide (7 = 0 ∨ 7 = i)), V.bl (decide (8 = 0 ∨ 8 = i))]))).trans (same_new hl4 (.lst (([V.bl (decide (0 = 0 ∨ 0 = i)), V.bl (decide (1 = 0 ∨ 1 = i)), V.bl (decide (2 = 0 ∨ 2 = i))] ++ [V.bl (decide (3 = 0 ∨ 3 = i)), V.bl (decide (4 = 0 ∨ 4 = i)), V.bl (decide (5 = 0 ∨ 5 = i))]) ++ [V.bl (decide (6 = 0 ∨ 6 = i)), V.bl (decide (7 = 0 ∨ 7 = i)), V.bl (decide (8 = 0 ∨ 8 = i))])))
  have x4 := excAt_same hx s4
  refine ⟨_, rfl, _, rfl, x, Cs i, fs, .ref (Cs 9), .ref (Cs 9), _, rfl, .own _, x4, C.ew i hi, C.kit i 9 hi (by decide), _, rfl, x, Cs i, fs, .ref (Cs 10), .ref (Cs 10), _, rfl, .own _, x4, C.ew i hi, C.kit i 10 hi (by decide), _, rfl, x, Cs i, fs, .ty "ValueError", .type "ValueError", _, rfl, .ty _, x4, C.ew i hi, C.kitV i hi, by show 3 ≤ sizeLine; decide, fun l5 hl5 => ?_⟩
  refine ⟨l4, l5, _, _, rfl, rfl, same_new hl5 _ _ _ upd_same, upd_same, by show 9 + 3 ≤ sizeLine; decide, fun l6 hl6 => ?_⟩
  refine k l6 _ ((s4.trans (same_new hl5 _)).free hl6) ((s4.trans (same_new hl5 _)).trans (same_new hl6 _)) ?_
  rw [upd_same, ← flags_is i hi]
  rfl
end
end K01
set_option Elab.async false
set_option linter.all false
set_option maxRecDepth 100000
set_option maxHeartbeats 4000000
namespace K01
open PySem L2 PyProof.Rows
/-- lists of R may have got up to g further numbers -/
def Gr (R : Addr → Prop) (g : Nat) (H H' : Hp) : Prop := ∀ b o, H b = some o → H' b = some o ∨ (R b ∧ ∃ xs ys, o = .lst xs ∧ H' b = some (.lst (xs ++ ys)) ∧ ys.length ≤ g ∧ ∀ y ∈ ys, ∃ i, y = V.int i)
section
variable {R : Addr → Prop} {g g' : Nat} {H H1 H2 : Hp}
theorem Gr.to (h : Gr R g H H1) (t : Addr) : Grow R t g H H1 := fun b o _ e => h b o e
theorem Gr.same (s : Same H H1) : Gr R g H H1 := fun b o e => .inl (s b o e)
/-- a new t is laid, then all grows but t -/
theorem Gr.of {t : Addr} (ht : H t = none) (s : Same H H1) (k : Grow R t g H1 H2) : Gr R g H H2 := fun b o e => k b o (ne_of_none e ht) (s b o e)
theorem Gr.trans (h : Gr R g H H1) (k : Gr R g' H1 H2) : Gr R (g + g') H H2 := fun b o e => by
  rcases h b o e with h | ⟨r, xs, ys, e1, e2, hl, hy⟩
  · rcases k b o h with k | ⟨r, xs, ys, e1, e2, hl, hy⟩
    · exact .inl k
    · exact .inr ⟨r, xs, ys, e1, e2, by omega, hy⟩
  · rcases k b _ e2 with k | ⟨r', xs', ys', e1', e2', hl', hy'⟩
    · exact .inr ⟨r, xs, ys, e1, k, by omega, hy⟩
    · have z := HO.lst.inj e1'
      subst z
      refine .inr ⟨r, xs, ys ++ ys', e1, by rw [e2', List.append_assoc], by rw [List.length_append]; omega, fun y m => ?_⟩
      rcases List.mem_append.mp m with m | m
      · exact hy y m
      · exact hy' y m
theorem Gr.keep {b : Addr} {o : HO} (h : Gr R g H H1) (hb : ¬ R b) (e : H b = some o) : H1 b = some o := by
  rcases h b o e with h | ⟨r, _⟩
  · exact h
  · exact absurd r hb
/-- what is no list stands -/
theorem Gr.keepN {b : Addr} {o : HO} (h : Gr R g H H1) (hb : ∀ xs, o ≠ .lst xs) (e : H b = some o) : H1 b = some o := by
  rcases h b o e with h | ⟨_, xs, _, e1, _⟩
  · exact h
  · exact absurd e1 (hb xs)
theorem Gr.there {b : Addr} (h : Gr R g H H1) (e : ∃ o, H b = some o) : ∃ o, H1 b = some o := by
  obtain ⟨o, e⟩ := e
  rcases h b o e with h | ⟨_, xs, ys, _, e2, _⟩
  · exact ⟨_, h⟩
  · exact ⟨_, e2⟩
theorem Gr.wf {c d : Nat} {v : V} (h : Gr R g H H1) {t : Addr} (hR : ¬ R t) (w : Wf R H c d v) : Wf R H1 (c + g) d v := w.grow hR (h.to t)
theorem Gr.exc {x C : Addr} {fs : List (Str × V)} (h : Gr R g H H1) (e : ExcAt H x C fs) : ExcAt H1 x C fs := by
  obtain ⟨d, h1, h2⟩ := e
  refine ⟨d, h.keepN (fun xs z => ?_) h1, h.keepN (fun xs z => ?_) h2⟩
  · have z' : HO.ext _ = HO.lst xs := z
    cases z'
  · have z' : HO.ext _ = HO.lst xs := z
    cases z'
end
theorem Wf.there {R : Addr → Prop} {H : Hp} {c : Nat} : ∀ {d : Nat} {v : V}, Wf R H c d v → Wf (fun a => R a ∧ ∃ o, H a = some o) H c d v
  | 0, _, h => h
  | d + 1, v, h => by
    rcases h with h | ⟨a, xs, e, ra, ha, hl, hx⟩
    · exact .inl h
    · refine .inr ⟨a, xs, e, ⟨ra, ?_⟩, ha, hl, fun x m => Wf.there (hx x m)⟩
      rcases ha with ha | ha
      · exact ⟨_, ha⟩
      · exact ⟨_, ha⟩
/-- a row of the law: a number, a value, an error that holds it -/
def RowAt (R : Addr → Prop) (Cs : Nat → Addr) (H : Hp) (c : Nat) (q : V) : Prop := ∃ (tp x : Addr) (i : Nat) (v : V), q = .ref tp ∧ i < 11 ∧ H tp = some (.tup [.int (i : Int), v, .ref x]) ∧ Wf R H c 2 v ∧ ExcAt H x (Cs i) [("value", v)]
theorem RowAt.grow {R : Addr → Prop} {Cs : Nat → Addr} {H H1 : Hp} {c g : Nat} {q : V} {t : Addr} (h : RowAt R Cs H c q) (k : Gr R g H H1) (hR : ¬ R t) : RowAt R Cs H1 (c + g) q := by
  obtain ⟨tp, x, i, v, rfl, hi, ht, hw, hx⟩ := h
  exact ⟨tp, x, i, v, rfl, hi, k.keepN (fun xs z => nomatch z) ht, k.wf hR hw, k.exc hx⟩
theorem RowAt.mono {R R' : Addr → Prop} {Cs : Nat → Addr} {H H1 : Hp} {c c' : Nat} {q : V} (h : RowAt R Cs H c q) (hR : ∀ a, R a → R' a) (hs : ∀ b o, (∀ xs, o ≠ .lst xs) → H b = some o → H1 b = some o) (hl : ∀ b o, R b → H b = some o → H1 b = some o) (hc : c ≤ c') : RowAt R' Cs H1 c' q := by
  obtain ⟨tp, x, i, v, rfl, hi, ht, hw, d, h1, h2⟩ := h
  refine ⟨tp, x, i, v, rfl, hi, hs _ _ (fun xs z => nomatch z) ht, hw.mono hR hl hc (Nat.le_refl _), d, hs _ _ (fun xs z => ?_) h1, hs _ _ (fun xs z => ?_) h2⟩
  · have z' : HO.ext _ = HO.lst xs := z
    cases z'
  · have z' : HO.ext _ = HO.lst xs := z
    cases z'
theorem RowAt.there {R : Addr → Prop} {Cs : Nat → Addr} {H : Hp} {c : Nat} {q : V} (h : RowAt R Cs H c q) : RowAt (fun a => R a ∧ ∃ o, H a = some o) Cs H c q := by
  obtain ⟨tp, x, i, v, rfl, hi, ht, hw, hx⟩ := h
  exact ⟨tp, x, i, v, rfl, hi, ht, hw.there, hx⟩
/-- how much the rows have grown behind so many marks -/
def gacc : Nat → Nat
  | 0 => 0
  | i + 1 => gacc i + gm 2 (3 + gacc i)
theorem gacc_le : ∀ i, i ≤ 2 → gacc i ≤ 100 := by decide +kernel
theorem gacc_room : ∀ i, i < 2 → 3 + gacc i + gm 2 (3 + gacc i) ≤ 1000 := by decide +kernel
theorem in_flags : ∀ i : Nat, i < 11 → ∀ j : Nat, j < 12 → inV (V.int (0 + (j : Int))) [V.int 0, V.int (i : Int), V.int 11] = decide (j = 0 ∨ j = i ∨ j = 11) := by decide +kernel
theorem flags_take (i j : Nat) (hj : j < 12) : ((flagsOf i).take j).map V.bl ++ [V.bl (decide (j = 0 ∨ j = i ∨ j = 11))] = ((flagsOf i).take (j + 1)).map V.bl := by
  have e : (flagsOf i)[j]? = some (decide (j = 0 ∨ j = i ∨ j = 11)) := by
    unfold flagsOf
    rw [List.getElem?_map, List.getElem?_range hj]
    rfl
  rw [List.take_add_one, e, List.map_append]
  rfl
theorem flags_all (i : Nat) : (flagsOf i).take 12 = flagsOf i := List.take_of_length_le (by show ((List.range 12).map _).length ≤ 12; rw [List.length_map, List.length_range]; exact Nat.le_refl 12)
def spRight : Sp := fun vs H Q _ => ∃ (p : Addr) (n : Nat), vs = [.ref p] ∧ Purse H p n ∧ n + 7000 < 10 ^ 9 ∧ ∀ H', Around1 H p (n + 7000) H' → Q (.bl true) H'
abbrev nR : List Str := ["purse", "rows", "turn", "at", "thing", "mode", "error", "flags", "k"]
section
variable {P : Program} {w : World} {K : PySem.W.Frag} {mg : Str → Option Value} {base : Heap} {Cs : Nat → Addr} {fI : Addr} {fdI : FuncData}
theorem scR : FnScope nR ["purse"] (defScope sRight) := ⟨rfl, rfl, rfl, by decide +kernel, rfl, by decide +kernel, by decide +kernel⟩
theorem ok_right {f fC fT fM fS fP fN fF : Addr} {fd fdC fdT fdM fdS fdP fdN fdF : FuncData} (F : Fun K "_law_right" "_law_right" sRight f fd) (T : Txt K mg)
    (GC : FnOk P w K mg base CX0 1 fC fdC ["purse", "many"] spCoin) (bC : Binds K fdC ["purse", "many"] []) (mC : mg "_law_coin" = some (.ref fC)) (kC : PySem.W.keepIn K (.ref fC) = true)
    (GT : FnOk P w K mg base CX0 5 fT fdT ["purse", "deep"] (spThing 3)) (bT : Binds K fdT ["purse", "deep"] []) (mT : mg "_law_ta_thing" = some (.ref fT)) (kT : PySem.W.keepIn K (.ref fT) = true)
    (GM : FnOk P w K mg base CX0 3 fM fdM ["thing", "tally"] (spMark 3)) (bM : Binds K fdM ["thing", "tally"] []) (mM : mg "_law_ta_mark" = some (.ref fM)) (kM : PySem.W.keepIn K (.ref fM) = true)
    (GS : FnOk P w K mg base CX0 3 fS fdS ["told", "owed"] (spSame 3)) (bS : Binds K fdS ["told", "owed"] []) (mS : mg "_law_ta_same" = some (.ref fS)) (kS : PySem.W.keepIn K (.ref fS) = true)
    (GP : FnOk P w K mg base CX0 3 fP fdP ["at", "thing"] (spBy Cs)) (bP : Binds K fdP ["at", "thing"] []) (mP : mg "_law_ta_by_position" = some (.ref fP)) (kP : PySem.W.keepIn K (.ref fP) = true)
    (GN : FnOk P w K mg base CX0 3 fN fdN ["at", "thing"] (spBy Cs)) (bN : Binds K fdN ["at", "thing"] []) (mN : mg "_law_ta_by_name" = some (.ref fN)) (kN : PySem.W.keepIn K (.ref fN) = true)
    (GF : FnOk P w K mg base CX0 1 fF fdF ["error"] (spFlags Cs)) (bF : Binds K fdF ["error"] []) (mF : mg "_law_ta_flags" = some (.ref fF)) (kF : PySem.W.keepIn K (.ref fF) = true) (C : Cls K mg Cs fI) :
    FnOk P w K mg base CX0 6 f fd ["purse"] spRight := by
  refine F.ok scR (fun vs H Q E h => ?_) (fun cdv A outer s H vs Q E hr h => ?_)
  · obtain ⟨p, n, rfl, _⟩ := h
    rfl
  obtain ⟨p, n, rfl, hp, hn, kk⟩ := h
  have hr1 : Room 1 (A.deeper (envOfC "_law_right" (defScope sRight) s.heap.objs.size f cdv)) := hr.mono (by decide)
  have hr3 : Room 3 (A.deeper (envOfC "_law_right" (defScope sRight) s.heap.objs.size f cdv)) := hr.mono (by decide)
  have hr5 : Room 5 (A.deeper (envOfC "_law_right" (defScope sRight) s.heap.objs.size f cdv)) := hr
  refine ⟨_, pss_cons (ps_set (i := 1) scR.nd rfl (Or.inl rfl) (pe_lst pa_nil))
    (Evl.pss_cut (ps_for PassesOwn.never rfl (pi_range1 rfl T.range (pa_cons pe_int pa_nil)) (pg_name (i := 2) scR.nd rfl (Or.inl rfl))
      (pss_cons (ps_asg (pe_tup (pa_cons (pe_call GC hr1 rfl mC kC bC .nil pass0 (pa_cons (pv 0) (pa_cons pe_int pa_nil))) (pa_cons (pe_call GT hr5 rfl mT kT bT .nil pass0 (pa_cons (pv 0) (pa_cons pe_int pa_nil))) pa_nil)))
        (pg_tup rfl (pgs_cons (pg_name (i := 3) scR.nd rfl (.inr rfl)) (pgs_cons (pg_name (i := 4) scR.nd rfl (.inl rfl)) pgs_nil))))
      (pss_cons (ps_set (i := 5) scR.nd rfl (Or.inl rfl) (pe_call GC hr1 rfl mC kC bC .nil pass0 (pa_cons (pv 0) (pa_cons pe_int pa_nil))))
      (Evl.pss_cut (ps_set (i := 6) scR.nd rfl (Or.inl rfl) (pe_ifExp (pt_cmpR op_eq (pv 5) pe_int (nomark _)) (pe_call GN hr3 rfl mN kN bN .nil pass0 (pa_cons (pv 3) (pa_cons (pv 4) pa_nil))) (pe_call GP hr3 rfl mP kP bP .nil pass0 (pa_cons (pv 3) (pa_cons (pv 4) pa_nil)))))
      (pss_one (ps_expr (pe_bm PySem.F.plainAttrs_list PySem.F.slot_list_append PySem.F.type_list_append mt_append (pv 1) (pa_cons (pe_tup (pa_cons (pv 3) (pa_cons (pv 4) (pa_cons (pv 6) pa_nil)))) pa_nil))))))))
    (Evl.pss_cut (ps_for PassesOwn.never rfl (pi_list (pv 1)) (pg_tup rfl (pgs_cons (pg_name (i := 3) scR.nd rfl (.inr rfl)) (pgs_cons (pg_name (i := 4) scR.nd rfl (.inl rfl)) (pgs_cons (pg_name (i := 6) scR.nd rfl (.inl rfl)) pgs_nil))))
      (pss_one (ps_expr (pe_call GM hr3 rfl mM kM bM .nil pass0 (pa_cons (pv 4) (pa_cons (pe_lst (pa_cons (pv 3) pa_nil)) pa_nil))))))
    (Evl.pss_cut (ps_for PassesOwn.never rfl (pi_list (pv 1)) (pg_tup rfl (pgs_cons (pg_name (i := 3) scR.nd rfl (.inr rfl)) (pgs_cons (pg_name (i := 4) scR.nd rfl (.inl rfl)) (pgs_cons (pg_name (i := 6) scR.nd rfl (.inl rfl)) pgs_nil))))
      (pss_cons (ps_setLc (i := 7) (own := [("k", 8)]) (g := gName 8) (tt := tYes) rfl scR.nd rfl rfl (sw_true rfl rfl rfl (by decide +kernel)) (pi_range1 rfl T.range (pa_cons pe_int pa_nil))
        (blkOk_by (N := nR) (sc := defScope sRight) (by decide +kernel)) (fun _ _ _ _ _ => pg_name (i := 8) scR.nd rfl (Or.inl rfl)) (fun _ _ _ _ _ => pts_nil)
        (fun _ _ _ _ _ => pe_cmpR (show OpR _ _ (rIn K false) from op_in_seq) (pv 8) (pe_tup (pa_cons pe_int (pa_cons (pv 3) (pa_cons pe_int pa_nil)))) (by rfl)))
      (pss_one (ps_if (PW.pt (pw_or (pt_cmpR (op_neD hr.units) (pe_call GF hr1 rfl mF kF bF .nil pass0 (pa_cons (pv 6) pa_nil)) (pv 7) (nomark _)) (pw_or1 (pt_not (pt_val (pe_call GS hr3 rfl mS kS bS .nil pass0 (pa_cons (pe_exF (pv 6)) (pa_cons (pv 4) pa_nil)))))))) pss_never pss_nil))))
    (pss_one (ps_ret pe_bl))))), ?_⟩
  refine ⟨by show 0 ≤ sizeLine; decide, fun rA hrA => ?_⟩
  have hrp : rA ≠ p := hp.ne hrA
  have hRp : ∀ a, H a = none → a ≠ p := fun a => hp.ne
  -- the rows are made
  refine ⟨fun σ' H' => Around1 H p (n + 6404) H' ∧ ∃ (qs : List V) (v2 v3 v4 v5 v6 : Option V), H' rA = some (.lst qs) ∧ qs.length = 2 ∧ (∀ q ∈ qs, RowAt (fun a => H a = none ∧ a ≠ rA) Cs H' 3 q) ∧ σ' = [some (.ref p), some (.ref rA), v2, v3, v4, v5, v6, none, none], ?_, ?_⟩
  · refine ⟨2, rfl, by decide, by decide, ?_⟩
    refine for_range (lo := 0) (n := 2) (fun i σ' H' => Around1 H p (n + i * 3202) H' ∧ ∃ (qs : List V) (v2 v3 v4 v5 v6 : Option V), H' rA = some (.lst qs) ∧ qs.length = i ∧ (∀ q ∈ qs, RowAt (fun a => H a = none ∧ a ≠ rA) Cs H' 3 q) ∧ σ' = [some (.ref p), some (.ref rA), v2, v3, v4, v5, v6, none, none])
      ⟨⟨.of (same_new hrA _), (hp.same (same_new hrA _)).mono (by omega)⟩, [], none, none, none, none, none, upd_same, rfl, (fun _ h => nomatch h), rfl⟩ ?_ ?_
    · rintro i σ' H1 hi ⟨hA1, qs, v2, v3, v4, v5, v6, hr1', hl, hq, rfl⟩
      have hi1 : i * 3202 ≤ 3202 := by
        have z := Nat.mul_le_mul_right 3202 (show i ≤ 1 by omega)
        omega
      refine ⟨_, rfl, p, 11, n + i * 3202, rfl, hA1.2, by omega, by decide, by decide, fun ia H2 d0 d1 hb2 hp2 => ?_⟩
      obtain ⟨i0, rfl⟩ : ∃ i0 : Nat, ia = (i0 : Int) := ⟨ia.toNat, by omega⟩
      have hi0 : i0 < 11 := by omega
      have hA2 := hA1.draw hb2 hp2
      have c2 : cost 2 = 3200 := by decide
      refine ⟨_, rfl, p, n + i * 3202 + 1, 2, rfl, by decide, hp2, by omega, fun v H3 hA3 hW3 => ?_⟩
      refine ⟨by show 2 ≤ sizeLine; decide, fun tp htp => ?_⟩
      refine ⟨tp, _, rfl, SqT.of upd_same, rfl, _, _, rfl, _, _, rfl, rfl, ?_⟩
      have s4 : Same H3 (upd H3 tp (.tup [.int (i0 : Int), v])) := same_new htp _
      have hA4 : Around1 H p (n + i * 3202 + 1 + cost 2) (upd H3 tp (.tup [.int (i0 : Int), v])) := (hA2.trans hA3).same s4
      refine ⟨_, rfl, p, 2, n + i * 3202 + 1 + cost 2, rfl, hA4.2, by omega, by decide, by decide, fun md H5 e0 e1 hb5 hp5 => ?_⟩
      have hA5 := hA4.draw hb5 hp5
      refine ⟨fun σ' H' => Same H5 H' ∧ ∃ x, ExcAt H' x (Cs i0) [("value", v)] ∧ σ' = [some (.ref p), some (.ref rA), some (.int (0 + (i : Int))), some (.int (i0 : Int)), some v, some (.int md), some (.ref x), none, none], ?_, ?_⟩
      · refine ⟨_, rfl, rfl, _, rfl, ?_⟩
        refine ite2 (fun _ => ?_) (fun _ => ?_)
        · exact ⟨_, rfl, _, rfl, i0, v, rfl, hi0, fun x H' _ hs he => ⟨hs, x, he, rfl⟩⟩
        · exact ⟨_, rfl, _, rfl, i0, v, rfl, hi0, fun x H' _ hs he => ⟨hs, x, he, rfl⟩⟩
      rintro _ H6 ⟨s6, x, hx, rfl⟩
      have r2 : H2 rA = some (.lst qs) := hb2 _ _ hrp hr1'
      have r5 : H5 rA = some (.lst qs) := hb5 _ _ hrp (s4 _ _ (hA3.1 _ _ hrp r2))
      have r6 := s6 _ _ r5
      refine ⟨_, rfl, .inl ⟨rfl, _, SqL.of r6⟩, _, rfl, _, rfl, _, rfl, by show 3 ≤ sizeLine; decide, fun tq htq => ?_⟩
      have r7 := same_new htq (.tup [.int (i0 : Int), v, .ref x]) _ _ r6
      refine ⟨rA, _, _, rfl, rfl, r7, Nat.lt_of_le_of_lt (show qs.length ≤ 1000 by omega) (by decide), ?_⟩
      have hqr : tq ≠ rA := (ne_of_none r6 htq).symm
      have k67 : ∀ b o, b ≠ rA → H6 b = some o → (upd (upd H6 tq (.tup [.int (i0 : Int), v, .ref x])) rA (.lst (qs ++ [.ref tq]))) b = some o := fun b o nb e => by
        rw [upd_ne nb, upd_ne (ne_of_none e htq)]
        exact e
      have k37 : ∀ b o, b ≠ rA → b ≠ p → H3 b = some o → (upd (upd H6 tq (.tup [.int (i0 : Int), v, .ref x])) rA (.lst (qs ++ [.ref tq]))) b = some o := fun b o nb np e => k67 b o nb (s6 _ _ (hb5 _ _ np (s4 _ _ e)))
      have k17 : ∀ b o, b ≠ rA → b ≠ p → H1 b = some o → (upd (upd H6 tq (.tup [.int (i0 : Int), v, .ref x])) rA (.lst (qs ++ [.ref tq]))) b = some o := fun b o nb np e => k37 b o nb np (hA3.1 _ _ np (hb2 _ _ np e))
      refine ⟨?_, qs ++ [.ref tq], _, _, _, _, _, upd_same, by rw [List.length_append, hl]; rfl, fun q hm => ?_, rfl⟩
      · refine Around1.mono (((hA5.same s6).new htq).put hrA hrp) ?_
        rw [Nat.succ_mul, c2]
        omega
      · rcases List.mem_append.mp hm with hm | hm
        · obtain ⟨a0, b0, c0, ep, _⟩ := hA1.2
          refine (hq q hm).mono (fun _ r => r) (fun b o no e => k17 b o ?_ ?_ e) (fun b o r e => k17 b o r.2 (hRp b r.1) e) (Nat.le_refl _)
          · rintro rfl
            rw [hr1'] at e
            exact no _ (Option.some.inj e).symm
          · rintro rfl
            rw [ep] at e
            exact no _ (Option.some.inj e).symm
        · rw [List.mem_singleton.mp hm]
          have nl : ∀ b o, (∀ xs, o ≠ HO.lst xs) → H6 b = some o → b ≠ rA := fun b o no e z => by
            rw [z, r6] at e
            exact no _ (Option.some.inj e).symm
          obtain ⟨dx, x1, x2⟩ := hx
          refine ⟨tq, x, i0, v, rfl, hi0, by rw [upd_ne hqr]; exact upd_same, ?_, dx, k67 _ _ (nl _ _ (fun xs z => ?_) x1) x1, k67 _ _ (nl _ _ (fun xs z => ?_) x2) x2⟩
          · refine hW3.mono (fun a r => ⟨hA2.free hp r, (ne_of_none r2 r).symm⟩) (fun a o r e => k37 a o (ne_of_none r2 r).symm (hRp a (hA2.free hp r)) e) (Nat.le_refl _) (Nat.le_refl _)
          · have z' : HO.ext _ = HO.lst xs := z
            cases z'
          · have z' : HO.ext _ = HO.lst xs := z
            cases z'
    · rintro σ' H1 ⟨hA1, r⟩
      exact ⟨hA1, r⟩
  rintro _ H1 ⟨hA1, qs, v2, v3, v4, v5, v6, hr1', hl, hq, rfl⟩
  -- the marks
  obtain ⟨R, hRd⟩ : ∃ R : Addr → Prop, R = fun a => (H a = none ∧ a ≠ rA) ∧ ∃ o, H1 a = some o := ⟨_, rfl⟩
  have hq1 : ∀ q ∈ qs, RowAt R Cs H1 3 q := fun q hm => by
    rw [hRd]
    exact (hq q hm).there
  have hR1 : ∀ a, R a → ∃ o, H1 a = some o := fun a r => by
    rw [hRd] at r
    exact r.2
  have hR0 : ∀ a, R a → H a = none ∧ a ≠ rA := fun a r => by
    rw [hRd] at r
    exact r.1
  have hRr : ¬ R rA := fun r => (hR0 _ r).2 rfl
  have hRp' : ¬ R p := fun r => hRp _ (hR0 _ r).1 rfl
  clear hRd
  refine ⟨fun σ' H' => Gr R (gacc 2) H1 H' ∧ (∀ q ∈ qs, RowAt R Cs H' (3 + gacc 2) q) ∧ ∃ (v2 v3 v4 v5 v6 : Option V), σ' = [some (.ref p), some (.ref rA), v2, v3, v4, v5, v6, none, none], ?_, ?_⟩
  · refine ⟨_, rfl, rA, rfl, ⟨_, SqL.of hr1'⟩, ?_⟩
    refine for_list (K := K) (a := rA) (xs := qs) (fun i σ' H' => Gr R (gacc i) H1 H' ∧ (∀ q ∈ qs, RowAt R Cs H' (3 + gacc i) q) ∧ ∃ (v2 v3 v4 v5 v6 : Option V), σ' = [some (.ref p), some (.ref rA), v2, v3, v4, v5, v6, none, none])
      ⟨.same (Same.refl _), hq1, _, _, _, _, _, rfl⟩ (fun i σ' H' _ ⟨h, _⟩ => SqL.of (h.keep hRr hr1')) ?_ ?_
    · rintro i q σ' H2 hi ⟨hG, hrows, v2, v3, v4, v5, v6, rfl⟩
      have hi2 : i < 2 := by
        have z := (List.getElem?_eq_some_iff.mp hi).1
        omega
      obtain ⟨tp, x, i0, v, rfl, hi0, ht, hw, hx⟩ := hrows q (List.mem_of_getElem? hi)
      refine ⟨tp, _, rfl, SqT.of ht, rfl, _, _, rfl, _, _, rfl, _, _, rfl, rfl, ?_⟩
      refine ⟨_, rfl, _, rfl, by show 1 ≤ sizeLine; decide, fun t htn => ?_⟩
      have hs := same_new htn (.lst [.int (i0 : Int)])
      have hRt : ¬ R t := fun r => by
        obtain ⟨o, e⟩ := hG.there (hR1 t r)
        rw [htn] at e
        cases e
      refine ⟨v, t, R, 2, 3 + gacc i, (i0 : Int), rfl, by decide, hw.mono (fun _ r => r) (fun b o _ e => hs b o e) (Nat.le_refl _) (Nat.le_refl _), fun a r => Same.there hs (hG.there (hR1 a r)), hRt, upd_same, gacc_room i hi2, fun H3 k3 hg3 ht3 => ?_⟩
      have hG3 := Gr.of htn hs hg3
      refine ⟨hG.trans hG3, fun q hm => ?_, _, _, _, _, _, rfl⟩
      have z := (hrows q hm).grow hG3 hRt
      rw [Nat.add_assoc] at z
      exact z
    · rintro σ' H2 ⟨hG, hrows, r⟩
      rw [hl] at hG hrows
      exact ⟨hG, hrows, r⟩
  clear hq hq1
  rintro _ H2 ⟨hG, hrows, w2, w3, w4, w5, w6, rfl⟩
  have hr2 := hG.keep hRr hr1'
  -- the looks back
  refine ⟨fun σ' H' => Same H2 H', ?_, ?_⟩
  · refine ⟨_, rfl, rA, rfl, ⟨_, SqL.of hr2⟩, ?_⟩
    refine for_list (K := K) (a := rA) (xs := qs) (fun i σ' H' => Same H2 H' ∧ ∃ (v2 v3 v4 v5 v6 v7 v8 : Option V), σ' = [some (.ref p), some (.ref rA), v2, v3, v4, v5, v6, v7, v8])
      ⟨Same.refl _, _, _, _, _, _, _, _, rfl⟩ (fun i σ' H' _ ⟨h, _⟩ => SqL.of (h _ _ hr2)) ?_ ?_
    · rintro i q σ' H3 hi ⟨hs3, v2, v3, v4, v5, v6, v7, v8, rfl⟩
      obtain ⟨tp, x, i0, v, rfl, hi0, ht, hw, hx⟩ := hrows q (List.mem_of_getElem? hi)
      refine ⟨tp, _, rfl, SqT.of (hs3 _ _ ht), rfl, _, _, rfl, _, _, rfl, _, _, rfl, rfl, ?_⟩
      refine ⟨12, rfl, by decide, by decide, fun D hD => ?_⟩
      refine lc_range (lo := 0) (n := 12) (fun j H' => Same H3 H' ∧ H' D = some (.lst (((flagsOf i0).take j).map V.bl))) ⟨same_new hD _, upd_same⟩ ?_ ?_
      · rintro j H4 hj ⟨hs4, hD4⟩
        refine ⟨rfl, ?_⟩
        show tOp (rIn K false) (tVar 8) (tTup (tCons (tC (.int 0)) (tCons (tVar 3) (tCons (tC (.int 11)) tNil)))) _ H4 _
        refine ⟨_, rfl, _, rfl, by show 3 ≤ sizeLine; decide, fun tu htu => ?_⟩
        refine ⟨tu, _, rfl, .inr (SqT.of upd_same), rfl, rfl, ?_⟩
        have s5 := same_new htu (.tup [V.int 0, V.int (i0 : Int), V.int 11])
        refine ⟨_, s5 _ _ hD4, ?_, same_put (hs4.trans s5) hD, ?_⟩
        · rw [List.length_map, List.length_take]
          exact Nat.lt_of_le_of_lt (show _ ≤ 12 by omega) (by decide)
        · show (upd _ D (.lst (((flagsOf i0).take j).map V.bl ++ [V.bl (inV (V.int (0 + (j : Int))) [V.int 0, V.int (i0 : Int), V.int 11])]))) D = _
          rw [upd_same, in_flags i0 hi0 j hj, flags_take i0 j hj]
      · rintro H4 ⟨hs4, hD4⟩
        rw [flags_all] at hD4
        have hx4 := excAt_same hx (hs3.trans hs4)
        refine ⟨_, rfl, i0, x, _, rfl, hi0, hx4, fun r H5 _ hs5 hr5' => ?_⟩
        refine ⟨_, rfl, .list ((flagsOf i0).map PyData.bool), .list ((flagsOf i0).map PyData.bool), .lst (SqL.of hr5') (dpAll_bl _), .lst (SqL.of (hs5 _ _ hD4)) (dpAll_bl _), flags_shaped i0 hi0, flags_shaped i0 hi0, _, rfl, ?_⟩
        refine ifF (by rw [flags_eqv i0 hi0]; rfl) ?_
        refine ⟨_, rfl, x, Cs i0, _, v, rfl, excAt_same hx4 hs5, C.ew i0 hi0, C.val i0 hi0, rfl, _, rfl, v, R, 2, 3 + gacc 2, rfl, by decide, ?_, (by decide), fun H6 hs6 => ?_⟩
        · exact hw.mono (fun _ r => r) (fun b o _ e => hs5 _ _ (hs4 _ _ (hs3 _ _ e))) (Nat.le_refl _) (Nat.le_refl _)
        · exact ⟨true, rfl, ⟨((hs3.trans hs4).trans hs5).trans hs6, _, _, _, _, _, _, _, rfl⟩⟩
    · rintro σ' H3 ⟨hs3, _⟩
      exact hs3
  intro σ3 H3 hs3
  refine kk H3 ⟨fun b o nb e => hs3 _ _ (hG.keep (fun r => ?_) (hA1.1 b o nb e)), ?_⟩
  · rw [(hR0 b r).1] at e
    cases e
  · obtain ⟨a0, b0, c0, e, r1, r2, r3, r4⟩ := hA1.2
    exact ⟨a0, b0, c0, hs3 _ _ (hG.keep hRp' e), r1, r2, r3, by omega⟩
end
end K01
set_option Elab.async false
set_option linter.all false
set_option maxRecDepth 100000
set_option maxHeartbeats 4000000
namespace K01
open PySem L2 PyProof.Rows
/-! ### the law -/
def spLaw (K : PySem.W.Frag) : Sp := fun vs H Q _ => ∃ (a : Addr) (ns : List Int), vs = [.ref a] ∧ SqL K H a (ns.map V.int) ∧ ns.length ≤ 63 ∧ ∀ H', Q (.bl true) H'
section
variable {P : Program} {w : World} {K : PySem.W.Frag} {mg : Str → Option Value} {base : Heap}
theorem scL : FnScope ["script", "spot", "purse", "turn"] ["script"] (defScope sLaw) := ⟨rfl, rfl, rfl, by decide +kernel, rfl, by decide +kernel, by decide +kernel⟩
theorem ok_law {f fP fR : Addr} {fd fdP fdR : FuncData} (F : Fun K "law" "law" sLaw f fd) (T : Txt K mg) (GP : FnOk P w K mg base CX0 1 fP fdP ["script", "place"] (spPurse K)) (bP : Binds K fdP ["script", "place"] []) (mP : mg "_law_purse" = some (.ref fP)) (kP : PySem.W.keepIn K (.ref fP) = true)
    (GR : FnOk P w K mg base CX0 6 fR fdR ["purse"] spRight) (bR : Binds K fdR ["purse"] []) (mR : mg "_law_right" = some (.ref fR)) (kR : PySem.W.keepIn K (.ref fR) = true) : FnOk P w K mg base CX0 7 f fd ["script"] (spLaw K) := by
  refine F.ok scL (fun vs H Q E h => ?_) (fun cdv A outer s H vs Q E hr h => ?_)
  · obtain ⟨a, ns, rfl, _⟩ := h
    rfl
  obtain ⟨a, ns, rfl, hS, hl, kk⟩ := h
  have hr1 : Room 1 (A.deeper (envOfC "law" (defScope sLaw) s.heap.objs.size f cdv)) := hr.mono (by decide)
  refine ⟨_, pss_cons (ps_for PassesOwn.never rfl (pi_range1 rfl T.range (pa_cons (pe_callB (call_max2 rfl) (by rfl) T.max boot_max (pa_cons pe_int (pa_cons (pe_callB (call_min2 rfl) (by rfl) T.min boot_min (pa_cons pe_int (pa_cons (pe_callB call_len_seq (by rfl) T.len PySem.boot_len (pa_cons (pv 0) pa_nil)) pa_nil))) pa_nil))) pa_nil)) (pg_name (i := 1) scL.nd rfl (Or.inl rfl))
      (pss_cons (ps_set (i := 2) scL.nd rfl (Or.inl rfl) (pe_call GP hr1 rfl mP kP bP .nil pass0 (pa_cons (pv 0) (pa_cons (pv 1) pa_nil))))
      (pss_one (ps_for PassesOwn.never rfl (pi_range1 rfl T.range (pa_cons pe_int pa_nil)) (pg_name (i := 3) scL.nd rfl (Or.inl rfl))
        (pss_one (ps_if (pt_not (pt_val (pe_call GR hr rfl mR kR bR .nil pass0 (pa_cons (pv 2) pa_nil)))) pss_never pss_nil))))))
    (pss_one (ps_ret pe_bl)), ?_⟩
  refine ⟨_, rfl, a, _, rfl, .inl hS, _, _, rfl, _, _, rfl, _, rfl, ?_, ?_, ?_⟩
  · split <;> split <;> omega
  · split <;> split <;> omega
  refine for_range (lo := 0) (fun i σ' H' => Same H H' ∧ ∃ v1 v2 v3 : Option V, σ' = [some (.ref a), v1, v2, v3]) ⟨Same.refl _, _, _, _, rfl⟩ ?_ ?_
  · rintro i σ' H1 hi ⟨hs1, v1, v2, v3, rfl⟩
    have hi6 : i ≤ 100 := by
      revert hi
      split <;> split <;> omega
    refine ⟨_, rfl, _, rfl, a, ns, i, by rw [Int.zero_add]; rfl, hs1.seq hS, hl, hi6, fun p H2 hp hs2 hpu => ?_⟩
    refine ⟨3, rfl, by decide, by decide, ?_⟩
    refine for_range (lo := 0) (n := 3) (fun j σ' H' => Around1 H1 p (j * 7000) H' ∧ ∃ v1 v3 : Option V, σ' = [some (.ref a), v1, some (.ref p), v3]) ⟨⟨.of hs2, by rw [Nat.zero_mul]; exact hpu⟩, _, _, rfl⟩ ?_ ?_
    · rintro j σ' H3 hj ⟨hA3, w1, w3, rfl⟩
      have hj3 : j * 7000 ≤ 2 * 7000 := Nat.mul_le_mul_right 7000 (by omega)
      refine ⟨_, rfl, p, j * 7000, rfl, hA3.2, by omega, fun H4 hA4 => ⟨true, rfl, ?_⟩⟩
      have hA := hA3.trans hA4
      refine ⟨?_, _, _, rfl⟩
      rw [Nat.succ_mul]
      exact hA
    · rintro σ' H3 ⟨hA3, w1, w3, rfl⟩
      refine ⟨fun b o e => ?_, _, _, _, rfl⟩
      have e1 := hs1 b o e
      exact hA3.1 b o (ne_of_none e1 hp) e1
  · rintro σ' H1 _
    exact kk H1
end
/-! ### what the classes say, as one word -/
def clsOne (K : PySem.W.Frag) (C fI : Addr) : Bool :=
  decide (PySem.W.findIn K (.ref C) "__setattr__" = some (some (.builtin "object.__setattr__"))) && (decide (PySem.W.subIn K (.ref C) (.type "BaseException") = some true) && (decide (PySem.W.typeIn K (.ref C) = some (.type "type")) &&
  (PySem.W.keepIn K (.ref C) && ((PySem.W.clsIn K C).isSome && (decide (PySem.W.findIn K (.ref C) "__getattribute__" = some (some (.builtin "BaseException.__getattribute__"))) && (decide (PySem.W.findIn K (.ref C) "__getattr__" = some none) &&
  (PySem.W.hasDictIn K C && (decide (PySem.W.findIn K (.ref C) "__class__" = some (some (.builtin "object.__class__"))) && (decide (PySem.W.specialIn K (.builtin "object.__class__") "__get__" = some (some (.builtin "getset_descriptor.__get__"))) &&
  (decide (PySem.W.takesIn K (.builtin "object.__class__") = some true) && (decide (PySem.W.mroIn K C (.type "object") = some true) && (decide (PySem.W.findIn K (.ref C) "__init__" = some (some (.ref fI))) &&
  (decide (PySem.W.findIn K (.ref C) "value" = some none) && decide (PySem.W.kitOne K (.ref C) (.type "ValueError") = some true))))))))))))))
def clsAll (K : PySem.W.Frag) (Cs : List Addr) (fI : Addr) : Bool :=
  ((List.range 11).all fun j => clsOne K (Cs.getD j 0) fI) && (List.range 11).all fun i => (List.range 11).all fun j => decide (PySem.W.kitOne K (.ref (Cs.getD i 0)) (.ref (Cs.getD j 0)) = some (decide (j = 0 ∨ j = i)))
theorem cls_of {K : PySem.W.Frag} {mg : Str → Option Value} {Cs : List Addr} {fI : Addr} (pk : clsAll K Cs fI = true) (tI : PySem.W.typeIn K (.ref fI) = some (.type "function")) (hm : ∀ j x, cNames[j]? = some x → mg x = some (.ref (Cs.getD j 0)))
    (hx : ∀ j, j < 11 → ∃ nm q N bs bm sn sub ab col dd k0 k1 k2 k3 k5, K.lookup (Cs.getD j 0) = some (excClassObj nm q (Cs.getD j 0) N bs bm true sn sub ab col dd k0 k1 k2 k3 k5 "ValueError.__new__") ∧ PySem.HandSPX.refsVE bm = true) :
    Cls K mg (fun j => Cs.getD j 0) fI := by
  obtain ⟨p1, p2⟩ := Bool.and_eq_true_iff.mp pk
  have one : ∀ j, j < 11 → clsOne K (Cs.getD j 0) fI = true := fun j hj => List.all_eq_true.mp p1 j (List.mem_range.mpr hj)
  have two : ∀ i j, i < 11 → j < 11 → PySem.W.kitOne K (.ref (Cs.getD i 0)) (.ref (Cs.getD j 0)) = some (decide (j = 0 ∨ j = i)) := fun i j hi hj =>
    of_decide_eq_true (List.all_eq_true.mp (List.all_eq_true.mp p2 i (List.mem_range.mpr hi)) j (List.mem_range.mpr hj))
  have each : ∀ j, j < 11 → OexC K (Cs.getD j 0) ∧ ExcW K (Cs.getD j 0) ∧ PySem.W.findIn K (.ref (Cs.getD j 0)) "__init__" = some (some (.ref fI)) ∧ PySem.W.findIn K (.ref (Cs.getD j 0)) "value" = some none ∧ PySem.W.kitOne K (.ref (Cs.getD j 0)) (.type "ValueError") = some true := fun j hj => by
    have h := one j hj
    unfold clsOne at h
    obtain ⟨h1, h⟩ := Bool.and_eq_true_iff.mp h
    obtain ⟨h2, h⟩ := Bool.and_eq_true_iff.mp h
    obtain ⟨h3, h⟩ := Bool.and_eq_true_iff.mp h
    obtain ⟨h4, h⟩ := Bool.and_eq_true_iff.mp h
    obtain ⟨h5, h⟩ := Bool.and_eq_true_iff.mp h
    obtain ⟨h6, h⟩ := Bool.and_eq_true_iff.mp h
    obtain ⟨h7, h⟩ := Bool.and_eq_true_iff.mp h
    obtain ⟨h8, h⟩ := Bool.and_eq_true_iff.mp h
    obtain ⟨h9, h⟩ := Bool.and_eq_true_iff.mp h
    obtain ⟨h10, h⟩ := Bool.and_eq_true_iff.mp h
    obtain ⟨h11, h⟩ := Bool.and_eq_true_iff.mp h
    obtain ⟨h12, h⟩ := Bool.and_eq_true_iff.mp h
    obtain ⟨h13, h⟩ := Bool.and_eq_true_iff.mp h
    obtain ⟨h14, h15⟩ := Bool.and_eq_true_iff.mp h
    exact ⟨⟨hx j hj, of_decide_eq_true h1, of_decide_eq_true h2, of_decide_eq_true h3, h4⟩, ⟨h5, of_decide_eq_true h6, of_decide_eq_true h7, of_decide_eq_true h2, h8, of_decide_eq_true h9, of_decide_eq_true h10, of_decide_eq_true h11, of_decide_eq_true h12⟩,
      of_decide_eq_true h13, of_decide_eq_true h14, of_decide_eq_true h15⟩
  exact ⟨hm, fun j hj => (each j hj).1, fun j hj => (each j hj).2.1, fun j hj => (each j hj).2.2.1, fun j hj => (each j hj).2.2.2.1, tI, two, fun j hj => (each j hj).2.2.2.2⟩
theorem all_mk {l : PySem.W.OpenLaw} {w : World} {K : PySem.W.Frag} {h : Heap} {mg : Str → Option Value} {fa : Addr} (X : K.In h) (G : h.Ns mainGlobals mg) (hfa : mg "law" = some (.ref fa))
    {fI : Addr} {odI anI : Option Addr} {slI : Array (Option Value)} {ocI kVI dcI pmI cdI ctI : Value} {f0 : Addr} {od0 an0 : Option Addr}
    {sl0 : Array (Option Value)} {oc0 kV0 dc0 pm0 cd0 ct0 : Value} {f1 : Addr} {od1 an1 : Option Addr} {sl1 : Array (Option Value)} {oc1 kV1 dc1 pm1 cd1 ct1 : Value}
    {f2 : Addr} {od2 an2 : Option Addr} {sl2 : Array (Option Value)} {oc2 kV2 dc2 pm2 cd2 ct2 : Value} {f3 : Addr} {od3 an3 : Option Addr}
    {sl3 : Array (Option Value)} {oc3 kV3 dc3 pm3 cd3 ct3 : Value} {f4 : Addr} {od4 an4 : Option Addr} {sl4 : Array (Option Value)} {oc4 kV4 dc4 pm4 cd4 ct4 : Value}
    {f5 : Addr} {od5 an5 : Option Addr} {sl5 : Array (Option Value)} {oc5 kV5 dc5 pm5 cd5 ct5 : Value} {f6 : Addr} {od6 an6 : Option Addr}
    {sl6 : Array (Option Value)} {oc6 kV6 dc6 pm6 cd6 ct6 : Value} {f7 : Addr} {od7 an7 : Option Addr} {sl7 : Array (Option Value)} {oc7 kV7 dc7 pm7 cd7 ct7 : Value}
    {f8 : Addr} {od8 an8 : Option Addr} {sl8 : Array (Option Value)} {oc8 kV8 dc8 pm8 cd8 ct8 : Value} {f9 : Addr} {od9 an9 : Option Addr}
    {sl9 : Array (Option Value)} {oc9 kV9 dc9 pm9 cd9 ct9 : Value} {f10 : Addr} {od10 an10 : Option Addr} {sl10 : Array (Option Value)} {oc10 kV10 dc10 pm10 cd10 ct10 : Value}
    {C0 N0 : Addr} {nm0 q0 : Str} {bs0 sub0 : List Value} {sn0 : List Str} {ab0 : Bool} {col0 : Option Bool}
    {dd0 : Option Addr} {x00 x01 x02 x03 x05 : Option Value} {C1 N1 : Addr} {nm1 q1 : Str} {bs1 sub1 : List Value} {sn1 : List Str}
    {ab1 : Bool} {col1 : Option Bool} {dd1 : Option Addr} {x10 x11 x12 x13 x15 : Option Value} {C2 N2 : Addr} {nm2 q2 : Str}
    {bs2 sub2 : List Value} {sn2 : List Str} {ab2 : Bool} {col2 : Option Bool} {dd2 : Option Addr} {x20 x21 x22 x23 x25 : Option Value}
    {C3 N3 : Addr} {nm3 q3 : Str} {bs3 sub3 : List Value} {sn3 : List Str} {ab3 : Bool} {col3 : Option Bool}
    {dd3 : Option Addr} {x30 x31 x32 x33 x35 : Option Value} {C4 N4 : Addr} {nm4 q4 : Str} {bs4 sub4 : List Value} {sn4 : List Str}
    {ab4 : Bool} {col4 : Option Bool} {dd4 : Option Addr} {x40 x41 x42 x43 x45 : Option Value} {C5 N5 : Addr} {nm5 q5 : Str}
    {bs5 sub5 : List Value} {sn5 : List Str} {ab5 : Bool} {col5 : Option Bool} {dd5 : Option Addr} {x50 x51 x52 x53 x55 : Option Value}
    {C6 N6 : Addr} {nm6 q6 : Str} {bs6 sub6 : List Value} {sn6 : List Str} {ab6 : Bool} {col6 : Option Bool}
    {dd6 : Option Addr} {x60 x61 x62 x63 x65 : Option Value} {C7 N7 : Addr} {nm7 q7 : Str} {bs7 sub7 : List Value} {sn7 : List Str}
    {ab7 : Bool} {col7 : Option Bool} {dd7 : Option Addr} {x70 x71 x72 x73 x75 : Option Value} {C8 N8 : Addr} {nm8 q8 : Str}
    {bs8 sub8 : List Value} {sn8 : List Str} {ab8 : Bool} {col8 : Option Bool} {dd8 : Option Addr} {x80 x81 x82 x83 x85 : Option Value}
    {C9 N9 : Addr} {nm9 q9 : Str} {bs9 sub9 : List Value} {sn9 : List Str} {ab9 : Bool} {col9 : Option Bool}
    {dd9 : Option Addr} {x90 x91 x92 x93 x95 : Option Value} {C10 N10 : Addr} {nm10 q10 : Str} {bs10 sub10 : List Value} {sn10 : List Str}
    {ab10 : Bool} {col10 : Option Bool} {dd10 : Option Addr} {x100 x101 x102 x103 x105 : Option Value}
    (aC0 : PySem.W.nsIn K mainGlobals "TakeError" = some (some (.ref C0)))
    (aC1 : PySem.W.nsIn K mainGlobals "InvalidName" = some (some (.ref C1)))
    (aC2 : PySem.W.nsIn K mainGlobals "InvalidPart" = some (some (.ref C2)))
    (aC3 : PySem.W.nsIn K mainGlobals "InvalidTerm" = some (some (.ref C3)))
    (aC4 : PySem.W.nsIn K mainGlobals "DoubleField" = some (some (.ref C4)))
    (aC5 : PySem.W.nsIn K mainGlobals "InvalidRule" = some (some (.ref C5)))
    (aC6 : PySem.W.nsIn K mainGlobals "InvalidAnswer" = some (some (.ref C6)))
    (aC7 : PySem.W.nsIn K mainGlobals "UnknownPlace" = some (some (.ref C7)))
    (aC8 : PySem.W.nsIn K mainGlobals "TakeEnded" = some (some (.ref C8)))
    (aC9 : PySem.W.nsIn K mainGlobals "NothingToUndo" = some (some (.ref C9)))
    (aC10 : PySem.W.nsIn K mainGlobals "Unreadable" = some (some (.ref C10)))
    (xL0 : K.lookup C0 = some (excClassObj nm0 q0 C0 N0 bs0 [.type "ValueError", .type "Exception", .type "BaseException", .type "object"] true sn0 sub0 ab0 col0 dd0 x00 x01 x02 x03 x05 "ValueError.__new__"))
    (xL1 : K.lookup C1 = some (excClassObj nm1 q1 C1 N1 bs1 [.ref C0, .type "ValueError", .type "Exception", .type "BaseException", .type "object"] true sn1 sub1 ab1 col1 dd1 x10 x11 x12 x13 x15 "ValueError.__new__"))
    (xL2 : K.lookup C2 = some (excClassObj nm2 q2 C2 N2 bs2 [.ref C0, .type "ValueError", .type "Exception", .type "BaseException", .type "object"] true sn2 sub2 ab2 col2 dd2 x20 x21 x22 x23 x25 "ValueError.__new__"))
    (xL3 : K.lookup C3 = some (excClassObj nm3 q3 C3 N3 bs3 [.ref C0, .type "ValueError", .type "Exception", .type "BaseException", .type "object"] true sn3 sub3 ab3 col3 dd3 x30 x31 x32 x33 x35 "ValueError.__new__"))
    (xL4 : K.lookup C4 = some (excClassObj nm4 q4 C4 N4 bs4 [.ref C0, .type "ValueError", .type "Exception", .type "BaseException", .type "object"] true sn4 sub4 ab4 col4 dd4 x40 x41 x42 x43 x45 "ValueError.__new__"))
    (xL5 : K.lookup C5 = some (excClassObj nm5 q5 C5 N5 bs5 [.ref C0, .type "ValueError", .type "Exception", .type "BaseException", .type "object"] true sn5 sub5 ab5 col5 dd5 x50 x51 x52 x53 x55 "ValueError.__new__"))
    (xL6 : K.lookup C6 = some (excClassObj nm6 q6 C6 N6 bs6 [.ref C0, .type "ValueError", .type "Exception", .type "BaseException", .type "object"] true sn6 sub6 ab6 col6 dd6 x60 x61 x62 x63 x65 "ValueError.__new__"))
    (xL7 : K.lookup C7 = some (excClassObj nm7 q7 C7 N7 bs7 [.ref C0, .type "ValueError", .type "Exception", .type "BaseException", .type "object"] true sn7 sub7 ab7 col7 dd7 x70 x71 x72 x73 x75 "ValueError.__new__"))
    (xL8 : K.lookup C8 = some (excClassObj nm8 q8 C8 N8 bs8 [.ref C0, .type "ValueError", .type "Exception", .type "BaseException", .type "object"] true sn8 sub8 ab8 col8 dd8 x80 x81 x82 x83 x85 "ValueError.__new__"))
    (xL9 : K.lookup C9 = some (excClassObj nm9 q9 C9 N9 bs9 [.ref C0, .type "ValueError", .type "Exception", .type "BaseException", .type "object"] true sn9 sub9 ab9 col9 dd9 x90 x91 x92 x93 x95 "ValueError.__new__"))
    (xL10 : K.lookup C10 = some (excClassObj nm10 q10 C10 N10 bs10 [.ref C0, .type "ValueError", .type "Exception", .type "BaseException", .type "object"] true sn10 sub10 ab10 col10 dd10 x100 x101 x102 x103 x105 "ValueError.__new__"))
    (aI : PySem.W.findIn K (.ref C0) "__init__" = some (some (.ref fI)))
    (lI : K.lookup fI = some ⟨ocI, odI, .func (PySem.W.fnOf "__init__" "TakeError.__init__" (defArgs sInit) (defBody sInit) (defScope sInit) .none kVI dcI pmI anI cdI ctI), slI⟩)
    (cI : PySem.W.codeIn K cdI "TakeError.__init__" = true)
    (kI : PySem.W.keepIn K (.ref fI) = true)
    (tI : PySem.W.typeIn K (.ref fI) = some (.type "function"))
    (a0 : PySem.W.nsIn K mainGlobals "_law_purse" = some (some (.ref f0)))
    (l0 : K.lookup f0 = some ⟨oc0, od0, .func (PySem.W.fnOf "_law_purse" "_law_purse" (defArgs sPurse) (defBody sPurse) (defScope sPurse) .none kV0 dc0 pm0 an0 cd0 ct0), sl0⟩)
    (c0 : PySem.W.codeIn K cd0 "_law_purse" = true)
    (k0 : PySem.W.keepIn K (.ref f0) = true)
    (a1 : PySem.W.nsIn K mainGlobals "_law_coin" = some (some (.ref f1)))
    (l1 : K.lookup f1 = some ⟨oc1, od1, .func (PySem.W.fnOf "_law_coin" "_law_coin" (defArgs sCoin) (defBody sCoin) (defScope sCoin) .none kV1 dc1 pm1 an1 cd1 ct1), sl1⟩)
    (c1 : PySem.W.codeIn K cd1 "_law_coin" = true)
    (k1 : PySem.W.keepIn K (.ref f1) = true)
    (a2 : PySem.W.nsIn K mainGlobals "_law_words" = some (some (.ref f2)))
    (l2 : K.lookup f2 = some ⟨oc2, od2, .func (PySem.W.fnOf "_law_words" "_law_words" (defArgs sWords) (defBody sWords) (defScope sWords) .none kV2 dc2 pm2 an2 cd2 ct2), sl2⟩)
    (c2 : PySem.W.codeIn K cd2 "_law_words" = true)
    (k2 : PySem.W.keepIn K (.ref f2) = true)
    (a3 : PySem.W.nsIn K mainGlobals "_law_ta_mark" = some (some (.ref f3)))
    (l3 : K.lookup f3 = some ⟨oc3, od3, .func (PySem.W.fnOf "_law_ta_mark" "_law_ta_mark" (defArgs sMark) (defBody sMark) (defScope sMark) .none kV3 dc3 pm3 an3 cd3 ct3), sl3⟩)
    (c3 : PySem.W.codeIn K cd3 "_law_ta_mark" = true)
    (k3 : PySem.W.keepIn K (.ref f3) = true)
    (a4 : PySem.W.nsIn K mainGlobals "_law_ta_same" = some (some (.ref f4)))
    (l4 : K.lookup f4 = some ⟨oc4, od4, .func (PySem.W.fnOf "_law_ta_same" "_law_ta_same" (defArgs sSame) (defBody sSame) (defScope sSame) .none kV4 dc4 pm4 an4 cd4 ct4), sl4⟩)
    (c4 : PySem.W.codeIn K cd4 "_law_ta_same" = true)
    (k4 : PySem.W.keepIn K (.ref f4) = true)
    (a5 : PySem.W.nsIn K mainGlobals "_law_ta_thing" = some (some (.ref f5)))
    (l5 : K.lookup f5 = some ⟨oc5, od5, .func (PySem.W.fnOf "_law_ta_thing" "_law_ta_thing" (defArgs sThing) (defBody sThing) (defScope sThing) .none kV5 dc5 pm5 an5 cd5 ct5), sl5⟩)
    (c5 : PySem.W.codeIn K cd5 "_law_ta_thing" = true)
    (k5 : PySem.W.keepIn K (.ref f5) = true)
    (a6 : PySem.W.nsIn K mainGlobals "_law_ta_by_position" = some (some (.ref f6)))
    (l6 : K.lookup f6 = some ⟨oc6, od6, .func (PySem.W.fnOf "_law_ta_by_position" "_law_ta_by_position" (defArgs sByPos) (defBody sByPos) (defScope sByPos) .none kV6 dc6 pm6 an6 cd6 ct6), sl6⟩)
    (c6 : PySem.W.codeIn K cd6 "_law_ta_by_position" = true)
    (k6 : PySem.W.keepIn K (.ref f6) = true)
    (a7 : PySem.W.nsIn K mainGlobals "_law_ta_by_name" = some (some (.ref f7)))
    (l7 : K.lookup f7 = some ⟨oc7, od7, .func (PySem.W.fnOf "_law_ta_by_name" "_law_ta_by_name" (defArgs sByName) (defBody sByName) (defScope sByName) .none kV7 dc7 pm7 an7 cd7 ct7), sl7⟩)
    (c7 : PySem.W.codeIn K cd7 "_law_ta_by_name" = true)
    (k7 : PySem.W.keepIn K (.ref f7) = true)
    (a8 : PySem.W.nsIn K mainGlobals "_law_ta_flags" = some (some (.ref f8)))
    (l8 : K.lookup f8 = some ⟨oc8, od8, .func (PySem.W.fnOf "_law_ta_flags" "_law_ta_flags" (defArgs sFlags) (defBody sFlags) (defScope sFlags) .none kV8 dc8 pm8 an8 cd8 ct8), sl8⟩)
    (c8 : PySem.W.codeIn K cd8 "_law_ta_flags" = true)
    (k8 : PySem.W.keepIn K (.ref f8) = true)
    (a9 : PySem.W.nsIn K mainGlobals "_law_right" = some (some (.ref f9)))
    (l9 : K.lookup f9 = some ⟨oc9, od9, .func (PySem.W.fnOf "_law_right" "_law_right" (defArgs sRight) (defBody sRight) (defScope sRight) .none kV9 dc9 pm9 an9 cd9 ct9), sl9⟩)
    (c9 : PySem.W.codeIn K cd9 "_law_right" = true)
    (k9 : PySem.W.keepIn K (.ref f9) = true)
    (a10 : PySem.W.nsIn K mainGlobals "law" = some (some (.ref f10)))
    (l10 : K.lookup f10 = some ⟨oc10, od10, .func (PySem.W.fnOf "law" "law" (defArgs sLaw) (defBody sLaw) (defScope sLaw) .none kV10 dc10 pm10 an10 cd10 ct10), sl10⟩)
    (c10 : PySem.W.codeIn K cd10 "law" = true)
    (k10 : PySem.W.keepIn K (.ref f10) = true)
    (zlen : PySem.W.nsIn K mainGlobals "len" = some none)
    (zmax : PySem.W.nsIn K mainGlobals "max" = some none)
    (zmin : PySem.W.nsIn K mainGlobals "min" = some none)
    (zabs : PySem.W.nsIn K mainGlobals "abs" = some none)
    (zint : PySem.W.nsIn K mainGlobals "int" = some none)
    (zrange : PySem.W.nsIn K mainGlobals "range" = some none)
    (zset : PySem.W.nsIn K mainGlobals "set" = some none)
    (zlist : PySem.W.nsIn K mainGlobals "list" = some none)
    (ztuple : PySem.W.nsIn K mainGlobals "tuple" = some none)
    (zall : PySem.W.nsIn K mainGlobals "all" = some none)
    (zrepr : PySem.W.nsIn K mainGlobals "repr" = some none)
    (zisinstance : PySem.W.nsIn K mainGlobals "isinstance" = some none)
    (zdict : PySem.W.nsIn K mainGlobals "dict" = some none)
    (zbool : PySem.W.nsIn K mainGlobals "bool" = some none)
    (zstr : PySem.W.nsIn K mainGlobals "str" = some none)
    (zValueError : PySem.W.nsIn K mainGlobals "ValueError" = some none)
    (pk : clsAll K [C0, C1, C2, C3, C4, C5, C6, C7, C8, C9, C10] fI = true)
    : ∃ fd : FuncData, (∀ (s : Shared) (v : Value), BindsTo s fd ⟨[v], []⟩ [("script", v)]) ∧ ∀ base : Heap, K.In base → base.Ns mainGlobals mg → FnOk l.prog w K mg base CX0 7 fa fd ["script"] (spLaw K) := by
  have e := hfa.symm.trans (PySem.W.mg_of X G a10)
  cases e
  have T : Txt K mg := ⟨PySem.W.mg_none_of X G zlen, PySem.W.mg_none_of X G zmax, PySem.W.mg_none_of X G zmin, PySem.W.mg_none_of X G zabs, PySem.W.mg_none_of X G zint, PySem.W.mg_none_of X G zrange, PySem.W.mg_none_of X G zset, PySem.W.mg_none_of X G zlist, PySem.W.mg_none_of X G ztuple, PySem.W.mg_none_of X G zall, PySem.W.mg_none_of X G zrepr, PySem.W.mg_none_of X G zisinstance⟩
  have FI := fun_mk (st := sInit) lI cI kI
  have F0 := fun_mk (st := sPurse) l0 c0 k0
  have b0 := F0.binds (ps := ["script", "place"]) fun _ _ _ _ _ _ us hl => match us, hl with | [_, _], _ => rfl
  have F1 := fun_mk (st := sCoin) l1 c1 k1
  have b1 := F1.binds (ps := ["purse", "many"]) fun _ _ _ _ _ _ us hl => match us, hl with | [_, _], _ => rfl
  have F2 := fun_mk (st := sWords) l2 c2 k2
  have b2 := F2.binds (ps := ["purse", "many"]) fun _ _ _ _ _ _ us hl => match us, hl with | [_, _], _ => rfl
  have F3 := fun_mk (st := sMark) l3 c3 k3
  have b3 := F3.binds (ps := ["thing", "tally"]) fun _ _ _ _ _ _ us hl => match us, hl with | [_, _], _ => rfl
  have F4 := fun_mk (st := sSame) l4 c4 k4
  have b4 := F4.binds (ps := ["told", "owed"]) fun _ _ _ _ _ _ us hl => match us, hl with | [_, _], _ => rfl
  have F5 := fun_mk (st := sThing) l5 c5 k5
  have b5 := F5.binds (ps := ["purse", "deep"]) fun _ _ _ _ _ _ us hl => match us, hl with | [_, _], _ => rfl
  have F6 := fun_mk (st := sByPos) l6 c6 k6
  have b6 := F6.binds (ps := ["at", "thing"]) fun _ _ _ _ _ _ us hl => match us, hl with | [_, _], _ => rfl
  have F7 := fun_mk (st := sByName) l7 c7 k7
  have b7 := F7.binds (ps := ["at", "thing"]) fun _ _ _ _ _ _ us hl => match us, hl with | [_, _], _ => rfl
  have F8 := fun_mk (st := sFlags) l8 c8 k8
  have b8 := F8.binds (ps := ["error"]) fun _ _ _ _ _ _ us hl => match us, hl with | [_], _ => rfl
  have F9 := fun_mk (st := sRight) l9 c9 k9
  have b9 := F9.binds (ps := ["purse"]) fun _ _ _ _ _ _ us hl => match us, hl with | [_], _ => rfl
  have F10 := fun_mk (st := sLaw) l10 c10 k10
  have C : Cls K mg (fun j => ([C0, C1, C2, C3, C4, C5, C6, C7, C8, C9, C10] : List Addr).getD j 0) fI := by
    refine cls_of pk tI (fun j x e => ?_) (fun j hj => ?_)
    · have hx : x = cNames.getD j Str.empty ∧ j < 11 := by
        have hj : j < cNames.length := (List.getElem?_eq_some_iff.mp e).1
        rw [List.getD_eq_getElem?_getD, e]
        exact ⟨rfl, hj⟩
      obtain ⟨rfl, hj⟩ := hx
      have cs : j = 0 ∨ j = 1 ∨ j = 2 ∨ j = 3 ∨ j = 4 ∨ j = 5 ∨ j = 6 ∨ j = 7 ∨ j = 8 ∨ j = 9 ∨ j = 10 := by omega
      rcases cs with rfl | rfl | rfl | rfl | rfl | rfl | rfl | rfl | rfl | rfl | rfl
      · exact PySem.W.mg_of X G aC0
      · exact PySem.W.mg_of X G aC1
      · exact PySem.W.mg_of X G aC2
      · exact PySem.W.mg_of X G aC3
      · exact PySem.W.mg_of X G aC4
      · exact PySem.W.mg_of X G aC5
      · exact PySem.W.mg_of X G aC6
      · exact PySem.W.mg_of X G aC7
      · exact PySem.W.mg_of X G aC8
      · exact PySem.W.mg_of X G aC9
      · exact PySem.W.mg_of X G aC10
    · have cs : j = 0 ∨ j = 1 ∨ j = 2 ∨ j = 3 ∨ j = 4 ∨ j = 5 ∨ j = 6 ∨ j = 7 ∨ j = 8 ∨ j = 9 ∨ j = 10 := by omega
      rcases cs with rfl | rfl | rfl | rfl | rfl | rfl | rfl | rfl | rfl | rfl | rfl
      · exact ⟨_, _, _, _, _, _, _, _, _, _, _, _, _, _, _, xL0, rfl⟩
      · exact ⟨_, _, _, _, _, _, _, _, _, _, _, _, _, _, _, xL1, rfl⟩
      · exact ⟨_, _, _, _, _, _, _, _, _, _, _, _, _, _, _, xL2, rfl⟩
      · exact ⟨_, _, _, _, _, _, _, _, _, _, _, _, _, _, _, xL3, rfl⟩
      · exact ⟨_, _, _, _, _, _, _, _, _, _, _, _, _, _, _, xL4, rfl⟩
      · exact ⟨_, _, _, _, _, _, _, _, _, _, _, _, _, _, _, xL5, rfl⟩
      · exact ⟨_, _, _, _, _, _, _, _, _, _, _, _, _, _, _, xL6, rfl⟩
      · exact ⟨_, _, _, _, _, _, _, _, _, _, _, _, _, _, _, xL7, rfl⟩
      · exact ⟨_, _, _, _, _, _, _, _, _, _, _, _, _, _, _, xL8, rfl⟩
      · exact ⟨_, _, _, _, _, _, _, _, _, _, _, _, _, _, _, xL9, rfl⟩
      · exact ⟨_, _, _, _, _, _, _, _, _, _, _, _, _, _, _, xL10, rfl⟩
  have zD := PySem.W.mg_none_of X G zdict
  have zB := PySem.W.mg_none_of X G zbool
  have zS := PySem.W.mg_none_of X G zstr
  have zV := PySem.W.mg_none_of X G zValueError
  refine ⟨PySem.W.fnOf "law" "law" (defArgs sLaw) (defBody sLaw) (defScope sLaw) .none kV10 dc10 pm10 an10 cd10 ct10, fun s v => .of_eq rfl, fun base _ _ => ?_⟩
  have GC := ok_coin (P := l.prog) (w := w) (base := base) F1 T
  have GT := ok_thing (P := l.prog) (w := w) (base := base) F5 T (ok_thing F5 T (ok_thing F5 T thing_none b5 (PySem.W.mg_of X G a5) F1 b1 (PySem.W.mg_of X G a1) F2 b2 (PySem.W.mg_of X G a2)) b5 (PySem.W.mg_of X G a5) F1 b1 (PySem.W.mg_of X G a1) F2 b2 (PySem.W.mg_of X G a2)) b5 (PySem.W.mg_of X G a5) F1 b1 (PySem.W.mg_of X G a1) F2 b2 (PySem.W.mg_of X G a2)
  have GM := ok_mark (P := l.prog) (w := w) (base := base) F3 T (ok_mark F3 T (ok_mark F3 T mark_none b3 (PySem.W.mg_of X G a3) zD) b3 (PySem.W.mg_of X G a3) zD) b3 (PySem.W.mg_of X G a3) zD
  have GS := ok_same (P := l.prog) (w := w) (base := base) F4 T (ok_same F4 T (ok_same F4 T same_none b4 (PySem.W.mg_of X G a4) zD zB zS) b4 (PySem.W.mg_of X G a4) zD zB zS) b4 (PySem.W.mg_of X G a4) zD zB zS
  have GP := ok_byPos (P := l.prog) (w := w) (base := base) F6 C FI
  have GN := ok_byName (P := l.prog) (w := w) (base := base) F7 C FI
  have GF := ok_flags (P := l.prog) (w := w) (base := base) F8 T C zV
  have GR := ok_right (P := l.prog) (w := w) (base := base) F9 T GC b1 (PySem.W.mg_of X G a1) k1 GT b5 (PySem.W.mg_of X G a5) k5 GM b3 (PySem.W.mg_of X G a3) k3 GS b4 (PySem.W.mg_of X G a4) k4
    GP b6 (PySem.W.mg_of X G a6) k6 GN b7 (PySem.W.mg_of X G a7) k7 GF b8 (PySem.W.mg_of X G a8) k8 C
  exact ok_law F10 T (ok_purse F0 T) b0 (PySem.W.mg_of X G a0) k0 GR b9 (PySem.W.mg_of X G a9) k9
end K01
set_option Elab.async false
set_option maxRecDepth 100000
namespace K01
open PySem L2 PyProof.Rows
theorem walk {l : PySem.W.OpenLaw} {q : Program} {loose : List Str} {XP : (Str → Option Value) → Heap → Prop} {YP : World → Heap → Prop} {d : DefRec} {K : Params → PySem.W.Frag} (hn : l.most = some 63) (hdf : d.params.defaults = [])
    (hY : ∀ (w : World) (h : Heap), YP w h → (K w.params).In h)
    (F : ∀ (w : World) (mg : Str → Option Value) (fa : Addr) (h : Heap), (K w.params).In h → h.Ns mainGlobals mg → mg d.name = some (.ref fa) →
      ∃ fd : FuncData, (∀ (s : Shared) (u : Value), BindsTo s fd ⟨[u], []⟩ [("script", u)]) ∧ ∀ base : Heap, (K w.params).In base → base.Ns mainGlobals mg → FnOk l.prog w (K w.params) mg base CX0 7 fa fd ["script"] (spLaw (K w.params))) :
    PySem.W.WalkO q loose XP YP l.row.toRowW d [] (fun f vs => PySem.call f vs) :=
  L2.walk_of (n := 63) (k := 7) (x := "script") (CX := fun _ => CX0) (sp := fun w => spLaw (K w.params)) hn (by decide) hdf ⟨rfl, by decide, by decide⟩ hY F (fun _ _ a ns hl _ hS => ⟨a, ns, rfl, hS, hl, fun _ => rfl⟩) fun _ _ _ _ _ z => z
end K01
open PySem PySem.W PyProof.Rows
set_option maxRecDepth 100000 in
set_option maxHeartbeats 0 in
theorem PySem.Challenge.cw_partedvalues_k01_errors_constructed_holds : PySem.Challenge.rw_partedvalues_k01_errors_constructed.Holds := by
  w_on; o_law; k_head; (case hw => w_witness2)
  k_fill
  refine K01.walk (l := PySem.Challenge.rw_partedvalues_k01_errors_constructed) rfl rfl (fun w h Y => PySem.W.kIn_of Y) ?F
  case F =>
    intro w mg fa h KX G hmg
    refine' K01.all_mk KX G hmg ?aC0 ?aC1 ?aC2 ?aC3 ?aC4 ?aC5 ?aC6 ?aC7 ?aC8 ?aC9 ?aC10 ?xL0 ?xL1 ?xL2 ?xL3 ?xL4 ?xL5 ?xL6 ?xL7 ?xL8 ?xL9 ?xL10 ?aI ?lI ?cI ?kI ?tI ?a0 ?l0 ?c0 ?k0 ?a1 ?l1 ?c1 ?k1 ?a2 ?l2 ?c2 ?k2 ?a3 ?l3 ?c3 ?k3 ?a4 ?l4 ?c4 ?k4 ?a5 ?l5 ?c5 ?k5 ?a6 ?l6 ?c6 ?k6 ?a7 ?l7 ?c7 ?k7 ?a8 ?l8 ?c8 ?k8 ?a9 ?l9 ?c9 ?k9 ?a10 ?l10 ?c10 ?k10 ?zlen ?zmax ?zmin ?zabs ?zint ?zrange ?zset ?zlist ?ztuple ?zall ?zrepr ?zisinstance ?zdict ?zbool ?zstr ?zValueError ?pk
    (case aC0 => k_is)
    (case aC1 => k_is)
    (case aC2 => k_is)
    (case aC3 => k_is)
    (case aC4 => k_is)
    (case aC5 => k_is)
    (case aC6 => k_is)
    (case aC7 => k_is)
    (case aC8 => k_is)
    (case aC9 => k_is)
    (case aC10 => k_is)
    (case xL0 => k_is)
    (case xL1 => k_is)
    (case xL2 => k_is)
    (case xL3 => k_is)
    (case xL4 => k_is)
    (case xL5 => k_is)
    (case xL6 => k_is)
    (case xL7 => k_is)
    (case xL8 => k_is)
    (case xL9 => k_is)
    (case xL10 => k_is)
    (case aI => k_is)
    (case lI => k_is)
    (case cI => k_is)
    (case kI => k_is)
    (case tI => k_is)
    (case a0 => k_is)
    (case l0 => k_is)
    (case c0 => k_is)
    (case k0 => k_is)
    (case a1 => k_is)
    (case l1 => k_is)
    (case c1 => k_is)
    (case k1 => k_is)
    (case a2 => k_is)
    (case l2 => k_is)
    (case c2 => k_is)
    (case k2 => k_is)
    (case a3 => k_is)
    (case l3 => k_is)
    (case c3 => k_is)
    (case k3 => k_is)
    (case a4 => k_is)
    (case l4 => k_is)
    (case c4 => k_is)
    (case k4 => k_is)
    (case a5 => k_is)
    (case l5 => k_is)
    (case c5 => k_is)
    (case k5 => k_is)
    (case a6 => k_is)
    (case l6 => k_is)
    (case c6 => k_is)
    (case k6 => k_is)
    (case a7 => k_is)
    (case l7 => k_is)
    (case c7 => k_is)
    (case k7 => k_is)
    (case a8 => k_is)
    (case l8 => k_is)
    (case c8 => k_is)
    (case k8 => k_is)
    (case a9 => k_is)
    (case l9 => k_is)
    (case c9 => k_is)
    (case k9 => k_is)
    (case a10 => k_is)
    (case l10 => k_is)
    (case c10 => k_is)
    (case k10 => k_is)
    (case zlen => k_is)
    (case zmax => k_is)
    (case zmin => k_is)
    (case zabs => k_is)
    (case zint => k_is)
    (case zrange => k_is)
    (case zset => k_is)
    (case zlist => k_is)
    (case ztuple => k_is)
    (case zall => k_is)
    (case zrepr => k_is)
    (case zisinstance => k_is)
    (case zdict => k_is)
    (case zbool => k_is)
    (case zstr => k_is)
    (case zValueError => k_is)
    (case pk => kernel_rfl)
#print axioms PySem.Challenge.cw_partedvalues_k01_errors_constructed_holds
