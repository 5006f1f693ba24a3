import PyProof.Rows.All
import Wide.All
import OpenK.AllK
import Wide.FinOn
import KE.HD2
import HandS.ExcInit
import HandS.IsInst
import HandS.Wide
import HandS.Defaults
import KE.KExcIs
import HandS.SetFor
import HandS.Strs
import HandS.More
import HandS.Exc
import HandS.ExcOwn
import HandS.ExcIs
import HandS.MakeKwOnly
import HandS.ForMost
import HandS.CallLocal
import HandS.Call
import HandS.TupSets
import HandS.Iter
import HandS.Set
import KE.KDictWalk
import KE.KDictExact
import HandS.Evl
import HandS.Deep
import HandS.WordsExc
import HandS.Walk
import HandS.DictComp
import HandS.Property
import HandS.WordsDict
import HandS.HeadHook3
import PySem.Challenge.RW_partedvalues_k10_flat_rows_and_records
set_option Elab.async false
set_option linter.all false
set_option maxRecDepth 100000
namespace Hd
open PySem PySem.W PySem.Calls PyProof.Rows HeadRun
noncomputable section
/-- a world in which the one question (told by its number) has the answer b -/
def wC (w : World) (b : Bool) : World := { w with params := { w.params with followText := fun r => match Nat.beq (code r) 10139888712337904147300001983332972444938612 with | true => b | false => w.params.followText r } }
theorem wC_self (w : World) : wC w (w.params.followText "special-get-raises") = w := by
  have hn : code "special-get-raises" = 10139888712337904147300001983332972444938612 := by decide +kernel
  obtain ⟨draws, params⟩ := w
  have h : (fun r => match Nat.beq (code r) 10139888712337904147300001983332972444938612 with | true => params.followText "special-get-raises" | false => params.followText r) = params.followText := by
    funext r
    cases e : Nat.beq (code r) 10139888712337904147300001983332972444938612 with
    | true => rw [code_inj r "special-get-raises" ((Nat.eq_of_beq_eq_true e).trans hn.symm)]
    | false => rfl
  show (World.mk draws { params with followText := fun r => match Nat.beq (code r) 10139888712337904147300001983332972444938612 with | true => params.followText "special-get-raises" | false => params.followText r }) = _
  rw [h]
abbrev pp : Program := PySem.Challenge.pw_partedvalues_k10_flat_rows_and_records
abbrev rr : OpenRow := OpenLaw.row PySem.Challenge.rw_partedvalues_k10_flat_rows_and_records
def qv : Program := view PySem.Challenge.pw_partedvalues_k10_flat_rows_and_records [0, 2, 4, 5, 6, 7, 8, 9, 10, 11, 13, 14, 15, 16, 17, 18, 19, 20, 21, 22, 23, 24, 26, 28, 29, 30, 31, 32, 34, 35, 36, 37, 38, 39, 40, 41, 42, 43, 44, 45, 46, 47, 48, 50, 51, 52, 54, 55, 57, 59, 60, 61, 63, 64, 65, 66, 67, 68, 69, 70, 71, 72, 73, 74]
def lo : List PySem.Str := ["PART_SIZES", "TERM_SIZES", "STEP_SIZES", "Pattern", "Program"]
def Xt (s : Shared) : Bool := xlAt qv [] s && recOk (RowW.records rr.toRowW) s
/-- the state behind the top -/
def E (b : Bool) (w : World) (os : OsState) : Option SharedT := endF (stepQ (denQ tabQ) pp (wC w b)) 12664 pp (wC w b) os
section
local macro_rules | `(tactic| o_head $_) => `(tactic| assumption)
set_option maxHeartbeats 0 in
theorem HK (h : rr.Holds) : rr.Holds := by k_head
end

def P0 : Params := { strHash := fun _ => 0, shareClass := fun _ => 0, mergeTok := id, idOf := fun _ => 0, idOfShared := fun _ _ => 0, followText := fun _ => false, idOfImm := fun _ => 0 }
def as : List Addr := (HK.heap_1 P0).map (·.1)
theorem as_eq (P : Params) : as = (HK.heap_1 P).map (·.1) := by kernel_rfl


set_option maxHeartbeats 0
theorem run_false_0 (w : World) (os : OsState) : (E false w os).map (fun s => (looksF pp (boot_heap (wC w false).params) s.abs, (@Prod.rec _ _ (fun _ => _) (fun u _ => u) (seenQ qv lo (importedModules pp.main.body) Xt s.abs)), (@Prod.rec _ _ (fun _ => _) (fun u _ => u) (@Prod.rec _ _ (fun _ => _) (fun _ u => u) (seenQ qv lo (importedModules pp.main.body) Xt s.abs))))) = some (true, (@Prod.rec _ _ (fun _ => _) (fun u _ => u) (openGood qv lo)), (@Prod.rec _ _ (fun _ => _) (fun u _ => u) (@Prod.rec _ _ (fun _ => _) (fun _ u => u) (openGood qv lo)))) := by kernel_rfl
theorem run_false_1 (w : World) (os : OsState) : (E false w os).map (fun s => ((@Prod.rec _ _ (fun _ => _) (fun u _ => u) (@Prod.rec _ _ (fun _ => _) (fun _ u => u) (@Prod.rec _ _ (fun _ => _) (fun _ u => u) (seenQ qv lo (importedModules pp.main.body) Xt s.abs)))), (@Prod.rec _ _ (fun _ => _) (fun u _ => u) (@Prod.rec _ _ (fun _ => _) (fun _ u => u) (@Prod.rec _ _ (fun _ => _) (fun _ u => u) (@Prod.rec _ _ (fun _ => _) (fun _ u => u) (seenQ qv lo (importedModules pp.main.body) Xt s.abs))))))) = some ((@Prod.rec _ _ (fun _ => _) (fun u _ => u) (@Prod.rec _ _ (fun _ => _) (fun _ u => u) (@Prod.rec _ _ (fun _ => _) (fun _ u => u) (openGood qv lo)))), (@Prod.rec _ _ (fun _ => _) (fun u _ => u) (@Prod.rec _ _ (fun _ => _) (fun _ u => u) (@Prod.rec _ _ (fun _ => _) (fun _ u => u) (@Prod.rec _ _ (fun _ => _) (fun _ u => u) (openGood qv lo)))))) := by kernel_rfl
theorem run_false_2 (w : World) (os : OsState) : (E false w os).map (fun s => ((@Prod.rec _ _ (fun _ => _) (fun u _ => u) (@Prod.rec _ _ (fun _ => _) (fun _ u => u) (@Prod.rec _ _ (fun _ => _) (fun _ u => u) (@Prod.rec _ _ (fun _ => _) (fun _ u => u) (@Prod.rec _ _ (fun _ => _) (fun _ u => u) (seenQ qv lo (importedModules pp.main.body) Xt s.abs)))))), (@Prod.rec _ _ (fun _ => _) (fun u _ => u) (@Prod.rec _ _ (fun _ => _) (fun _ u => u) (@Prod.rec _ _ (fun _ => _) (fun _ u => u) (@Prod.rec _ _ (fun _ => _) (fun _ u => u) (@Prod.rec _ _ (fun _ => _) (fun _ u => u) (@Prod.rec _ _ (fun _ => _) (fun _ u => u) (seenQ qv lo (importedModules pp.main.body) Xt s.abs))))))))) = some ((@Prod.rec _ _ (fun _ => _) (fun u _ => u) (@Prod.rec _ _ (fun _ => _) (fun _ u => u) (@Prod.rec _ _ (fun _ => _) (fun _ u => u) (@Prod.rec _ _ (fun _ => _) (fun _ u => u) (@Prod.rec _ _ (fun _ => _) (fun _ u => u) (openGood qv lo)))))), (@Prod.rec _ _ (fun _ => _) (fun u _ => u) (@Prod.rec _ _ (fun _ => _) (fun _ u => u) (@Prod.rec _ _ (fun _ => _) (fun _ u => u) (@Prod.rec _ _ (fun _ => _) (fun _ u => u) (@Prod.rec _ _ (fun _ => _) (fun _ u => u) (@Prod.rec _ _ (fun _ => _) (fun _ u => u) (openGood qv lo)))))))) := by kernel_rfl
theorem run_false_3 (w : World) (os : OsState) : (E false w os).map (fun s => ((@Prod.rec _ _ (fun _ => _) (fun u _ => u) (@Prod.rec _ _ (fun _ => _) (fun _ u => u) (@Prod.rec _ _ (fun _ => _) (fun _ u => u) (@Prod.rec _ _ (fun _ => _) (fun _ u => u) (@Prod.rec _ _ (fun _ => _) (fun _ u => u) (@Prod.rec _ _ (fun _ => _) (fun _ u => u) (@Prod.rec _ _ (fun _ => _) (fun _ u => u) (seenQ qv lo (importedModules pp.main.body) Xt s.abs)))))))), (@Prod.rec _ _ (fun _ => _) (fun u _ => u) (@Prod.rec _ _ (fun _ => _) (fun _ u => u) (@Prod.rec _ _ (fun _ => _) (fun _ u => u) (@Prod.rec _ _ (fun _ => _) (fun _ u => u) (@Prod.rec _ _ (fun _ => _) (fun _ u => u) (@Prod.rec _ _ (fun _ => _) (fun _ u => u) (@Prod.rec _ _ (fun _ => _) (fun _ u => u) (@Prod.rec _ _ (fun _ => _) (fun _ u => u) (seenQ qv lo (importedModules pp.main.body) Xt s.abs))))))))), (@Prod.rec _ _ (fun _ => _) (fun _ u => u) (@Prod.rec _ _ (fun _ => _) (fun _ u => u) (@Prod.rec _ _ (fun _ => _) (fun _ u => u) (@Prod.rec _ _ (fun _ => _) (fun _ u => u) (@Prod.rec _ _ (fun _ => _) (fun _ u => u) (@Prod.rec _ _ (fun _ => _) (fun _ u => u) (@Prod.rec _ _ (fun _ => _) (fun _ u => u) (@Prod.rec _ _ (fun _ => _) (fun _ u => u) (seenQ qv lo (importedModules pp.main.body) Xt s.abs))))))))), as.map (getT s))) = some ((@Prod.rec _ _ (fun _ => _) (fun u _ => u) (@Prod.rec _ _ (fun _ => _) (fun _ u => u) (@Prod.rec _ _ (fun _ => _) (fun _ u => u) (@Prod.rec _ _ (fun _ => _) (fun _ u => u) (@Prod.rec _ _ (fun _ => _) (fun _ u => u) (@Prod.rec _ _ (fun _ => _) (fun _ u => u) (@Prod.rec _ _ (fun _ => _) (fun _ u => u) (openGood qv lo)))))))), (@Prod.rec _ _ (fun _ => _) (fun u _ => u) (@Prod.rec _ _ (fun _ => _) (fun _ u => u) (@Prod.rec _ _ (fun _ => _) (fun _ u => u) (@Prod.rec _ _ (fun _ => _) (fun _ u => u) (@Prod.rec _ _ (fun _ => _) (fun _ u => u) (@Prod.rec _ _ (fun _ => _) (fun _ u => u) (@Prod.rec _ _ (fun _ => _) (fun _ u => u) (@Prod.rec _ _ (fun _ => _) (fun _ u => u) (openGood qv lo))))))))), (@Prod.rec _ _ (fun _ => _) (fun _ u => u) (@Prod.rec _ _ (fun _ => _) (fun _ u => u) (@Prod.rec _ _ (fun _ => _) (fun _ u => u) (@Prod.rec _ _ (fun _ => _) (fun _ u => u) (@Prod.rec _ _ (fun _ => _) (fun _ u => u) (@Prod.rec _ _ (fun _ => _) (fun _ u => u) (@Prod.rec _ _ (fun _ => _) (fun _ u => u) (@Prod.rec _ _ (fun _ => _) (fun _ u => u) (openGood qv lo))))))))), (HK.heap_1 (wC w false).params).map (fun x => some x.2)) := by kernel_rfl
theorem run_true_0 (w : World) (os : OsState) : (E true w os).map (fun s => (looksF pp (boot_heap (wC w true).params) s.abs, (@Prod.rec _ _ (fun _ => _) (fun u _ => u) (seenQ qv lo (importedModules pp.main.body) Xt s.abs)), (@Prod.rec _ _ (fun _ => _) (fun u _ => u) (@Prod.rec _ _ (fun _ => _) (fun _ u => u) (seenQ qv lo (importedModules pp.main.body) Xt s.abs))))) = some (true, (@Prod.rec _ _ (fun _ => _) (fun u _ => u) (openGood qv lo)), (@Prod.rec _ _ (fun _ => _) (fun u _ => u) (@Prod.rec _ _ (fun _ => _) (fun _ u => u) (openGood qv lo)))) := by kernel_rfl
theorem run_true_1 (w : World) (os : OsState) : (E true w os).map (fun s => ((@Prod.rec _ _ (fun _ => _) (fun u _ => u) (@Prod.rec _ _ (fun _ => _) (fun _ u => u) (@Prod.rec _ _ (fun _ => _) (fun _ u => u) (seenQ qv lo (importedModules pp.main.body) Xt s.abs)))), (@Prod.rec _ _ (fun _ => _) (fun u _ => u) (@Prod.rec _ _ (fun _ => _) (fun _ u => u) (@Prod.rec _ _ (fun _ => _) (fun _ u => u) (@Prod.rec _ _ (fun _ => _) (fun _ u => u) (seenQ qv lo (importedModules pp.main.body) Xt s.abs))))))) = some ((@Prod.rec _ _ (fun _ => _) (fun u _ => u) (@Prod.rec _ _ (fun _ => _) (fun _ u => u) (@Prod.rec _ _ (fun _ => _) (fun _ u => u) (openGood qv lo)))), (@Prod.rec _ _ (fun _ => _) (fun u _ => u) (@Prod.rec _ _ (fun _ => _) (fun _ u => u) (@Prod.rec _ _ (fun _ => _) (fun _ u => u) (@Prod.rec _ _ (fun _ => _) (fun _ u => u) (openGood qv lo)))))) := by kernel_rfl
theorem run_true_2 (w : World) (os : OsState) : (E true w os).map (fun s => ((@Prod.rec _ _ (fun _ => _) (fun u _ => u) (@Prod.rec _ _ (fun _ => _) (fun _ u => u) (@Prod.rec _ _ (fun _ => _) (fun _ u => u) (@Prod.rec _ _ (fun _ => _) (fun _ u => u) (@Prod.rec _ _ (fun _ => _) (fun _ u => u) (seenQ qv lo (importedModules pp.main.body) Xt s.abs)))))), (@Prod.rec _ _ (fun _ => _) (fun u _ => u) (@Prod.rec _ _ (fun _ => _) (fun _ u => u) (@Prod.rec _ _ (fun _ => _) (fun _ u => u) (@Prod.rec _ _ (fun _ => _) (fun _ u => u) (@Prod.rec _ _ (fun _ => _) (fun _ u => u) (@Prod.rec _ _ (fun _ => _) (fun _ u => u) (seenQ qv lo (importedModules pp.main.body) Xt s.abs))))))))) = some ((@Prod.rec _ _ (fun _ => _) (fun u _ => u) (@Prod.rec _ _ (fun _ => _) (fun _ u => u) (@Prod.rec _ _ (fun _ => _) (fun _ u => u) (@Prod.rec _ _ (fun _ => _) (fun _ u => u) (@Prod.rec _ _ (fun _ => _) (fun _ u => u) (openGood qv lo)))))), (@Prod.rec _ _ (fun _ => _) (fun u _ => u) (@Prod.rec _ _ (fun _ => _) (fun _ u => u) (@Prod.rec _ _ (fun _ => _) (fun _ u => u) (@Prod.rec _ _ (fun _ => _) (fun _ u => u) (@Prod.rec _ _ (fun _ => _) (fun _ u => u) (@Prod.rec _ _ (fun _ => _) (fun _ u => u) (openGood qv lo)))))))) := by kernel_rfl
theorem run_true_3 (w : World) (os : OsState) : (E true w os).map (fun s => ((@Prod.rec _ _ (fun _ => _) (fun u _ => u) (@Prod.rec _ _ (fun _ => _) (fun _ u => u) (@Prod.rec _ _ (fun _ => _) (fun _ u => u) (@Prod.rec _ _ (fun _ => _) (fun _ u => u) (@Prod.rec _ _ (fun _ => _) (fun _ u => u) (@Prod.rec _ _ (fun _ => _) (fun _ u => u) (@Prod.rec _ _ (fun _ => _) (fun _ u => u) (seenQ qv lo (importedModules pp.main.body) Xt s.abs)))))))), (@Prod.rec _ _ (fun _ => _) (fun u _ => u) (@Prod.rec _ _ (fun _ => _) (fun _ u => u) (@Prod.rec _ _ (fun _ => _) (fun _ u => u) (@Prod.rec _ _ (fun _ => _) (fun _ u => u) (@Prod.rec _ _ (fun _ => _) (fun _ u => u) (@Prod.rec _ _ (fun _ => _) (fun _ u => u) (@Prod.rec _ _ (fun _ => _) (fun _ u => u) (@Prod.rec _ _ (fun _ => _) (fun _ u => u) (seenQ qv lo (importedModules pp.main.body) Xt s.abs))))))))), (@Prod.rec _ _ (fun _ => _) (fun _ u => u) (@Prod.rec _ _ (fun _ => _) (fun _ u => u) (@Prod.rec _ _ (fun _ => _) (fun _ u => u) (@Prod.rec _ _ (fun _ => _) (fun _ u => u) (@Prod.rec _ _ (fun _ => _) (fun _ u => u) (@Prod.rec _ _ (fun _ => _) (fun _ u => u) (@Prod.rec _ _ (fun _ => _) (fun _ u => u) (@Prod.rec _ _ (fun _ => _) (fun _ u => u) (seenQ qv lo (importedModules pp.main.body) Xt s.abs))))))))), as.map (getT s))) = some ((@Prod.rec _ _ (fun _ => _) (fun u _ => u) (@Prod.rec _ _ (fun _ => _) (fun _ u => u) (@Prod.rec _ _ (fun _ => _) (fun _ u => u) (@Prod.rec _ _ (fun _ => _) (fun _ u => u) (@Prod.rec _ _ (fun _ => _) (fun _ u => u) (@Prod.rec _ _ (fun _ => _) (fun _ u => u) (@Prod.rec _ _ (fun _ => _) (fun _ u => u) (openGood qv lo)))))))), (@Prod.rec _ _ (fun _ => _) (fun u _ => u) (@Prod.rec _ _ (fun _ => _) (fun _ u => u) (@Prod.rec _ _ (fun _ => _) (fun _ u => u) (@Prod.rec _ _ (fun _ => _) (fun _ u => u) (@Prod.rec _ _ (fun _ => _) (fun _ u => u) (@Prod.rec _ _ (fun _ => _) (fun _ u => u) (@Prod.rec _ _ (fun _ => _) (fun _ u => u) (@Prod.rec _ _ (fun _ => _) (fun _ u => u) (openGood qv lo))))))))), (@Prod.rec _ _ (fun _ => _) (fun _ u => u) (@Prod.rec _ _ (fun _ => _) (fun _ u => u) (@Prod.rec _ _ (fun _ => _) (fun _ u => u) (@Prod.rec _ _ (fun _ => _) (fun _ u => u) (@Prod.rec _ _ (fun _ => _) (fun _ u => u) (@Prod.rec _ _ (fun _ => _) (fun _ u => u) (@Prod.rec _ _ (fun _ => _) (fun _ u => u) (@Prod.rec _ _ (fun _ => _) (fun _ u => u) (openGood qv lo))))))))), (HK.heap_1 (wC w true).params).map (fun x => some x.2)) := by kernel_rfl
theorem nine {A B C D F G H I J : Type} {t u : A × B × C × D × F × G × H × I × J} (h0 : t.1 = u.1) (h1 : t.2.1 = u.2.1) (h2 : t.2.2.1 = u.2.2.1) (h3 : t.2.2.2.1 = u.2.2.2.1) (h4 : t.2.2.2.2.1 = u.2.2.2.2.1) (h5 : t.2.2.2.2.2.1 = u.2.2.2.2.2.1) (h6 : t.2.2.2.2.2.2.1 = u.2.2.2.2.2.2.1) (h7 : t.2.2.2.2.2.2.2.1 = u.2.2.2.2.2.2.2.1) (h8 : t.2.2.2.2.2.2.2.2 = u.2.2.2.2.2.2.2.2) : t = u :=
  Prod.ext h0 (Prod.ext h1 (Prod.ext h2 (Prod.ext h3 (Prod.ext h4 (Prod.ext h5 (Prod.ext h6 (Prod.ext h7 h8)))))))
theorem all_false (w : World) (os : OsState) : (E false w os).map (fun s => (looksF pp (boot_heap (wC w false).params) s.abs, seenQ qv lo (importedModules pp.main.body) Xt s.abs, as.map (getT s))) = some (true, openGood qv lo, (HK.heap_1 (wC w false).params).map fun x => some x.2) := by
  have g0 := run_false_0 w os
  have g1 := run_false_1 w os
  have g2 := run_false_2 w os
  have g3 := run_false_3 w os
  cases e : E false w os with
  | none => rw [e] at g0; cases g0
  | some s =>
    rw [e] at g0 g1 g2 g3
    have q0 := Option.some.inj g0
    have q1 := Option.some.inj g1
    have q2 := Option.some.inj g2
    have q3 := Option.some.inj g3
    exact congrArg some (Prod.ext (Prod.mk.inj q0).1 (Prod.ext (nine (Prod.mk.inj (Prod.mk.inj q0).2).1 (Prod.mk.inj (Prod.mk.inj q0).2).2 (Prod.mk.inj q1).1 (Prod.mk.inj q1).2 (Prod.mk.inj q2).1 (Prod.mk.inj q2).2 (Prod.mk.inj q3).1 (Prod.mk.inj (Prod.mk.inj q3).2).1 (Prod.mk.inj (Prod.mk.inj (Prod.mk.inj q3).2).2).1) (Prod.mk.inj (Prod.mk.inj (Prod.mk.inj q3).2).2).2))
theorem all_true (w : World) (os : OsState) : (E true w os).map (fun s => (looksF pp (boot_heap (wC w true).params) s.abs, seenQ qv lo (importedModules pp.main.body) Xt s.abs, as.map (getT s))) = some (true, openGood qv lo, (HK.heap_1 (wC w true).params).map fun x => some x.2) := by
  have g0 := run_true_0 w os
  have g1 := run_true_1 w os
  have g2 := run_true_2 w os
  have g3 := run_true_3 w os
  cases e : E true w os with
  | none => rw [e] at g0; cases g0
  | some s =>
    rw [e] at g0 g1 g2 g3
    have q0 := Option.some.inj g0
    have q1 := Option.some.inj g1
    have q2 := Option.some.inj g2
    have q3 := Option.some.inj g3
    exact congrArg some (Prod.ext (Prod.mk.inj q0).1 (Prod.ext (nine (Prod.mk.inj (Prod.mk.inj q0).2).1 (Prod.mk.inj (Prod.mk.inj q0).2).2 (Prod.mk.inj q1).1 (Prod.mk.inj q1).2 (Prod.mk.inj q2).1 (Prod.mk.inj q2).2 (Prod.mk.inj q3).1 (Prod.mk.inj (Prod.mk.inj q3).2).1 (Prod.mk.inj (Prod.mk.inj (Prod.mk.inj q3).2).2).1) (Prod.mk.inj (Prod.mk.inj (Prod.mk.inj q3).2).2).2))
abbrev HH : Hook := kHook HK.heap_1 as as_eq
theorem left : LeftO pp qv lo Xt (Hook.obs HH) (Hook.val HH) 13364 true := by
  refine left_one (M := 12664) (by kernel_rfl) (by rfl) (fun s => by kernel_rfl) (by rfl) fun w os => ?_
  have z : (E (w.params.followText "special-get-raises") w os).map (fun s => (looksF pp (boot_heap (wC w (w.params.followText "special-get-raises")).params) s.abs, seenQ qv lo (importedModules pp.main.body) Xt s.abs, as.map (getT s))) = some (true, openGood qv lo, (HK.heap_1 (wC w (w.params.followText "special-get-raises")).params).map fun x => some x.2) := by
    cases w.params.followText "special-get-raises" with
    | false => exact all_false w os
    | true => exact all_true w os
  unfold E at z
  rw [wC_self w] at z
  have eo : (fun s : SharedT => (looksF pp (boot_heap w.params) s.abs, seenQ qv lo (importedModules pp.main.body) Xt s.abs, as.map (getT s))) = fun s => (looksF pp (boot_heap w.params) s.abs, seenQ qv lo (importedModules pp.main.body) Xt s.abs, Hook.obs HH s.abs) := by
    funext s
    have q1 : as.map (getT s) = Hook.obs HH s.abs := List.map_congr_left fun a _ => getT_eq s a
    rw [q1]
    rfl
  rw [eo] at z
  simp only [endQ_eq, seenQ_eq]
  exact z
/-- the row holds if its walk does -/
theorem holds {d : DefRec} {kwd : List (PySem.Str × PySem.Expr)} (hd : defOf qv rr.name = some (d, kwd)) (ht : rr.prog.theDef rr.name = some (d.params, d.body, d.scope)) (hk : kwWritten? d.params.kwonlyargs d.params.kw_defaults = some kwd)
    (said : rr.wellSaid = true) (promised : rr.toRowW.promised) (walk : WalkO qv lo (XL qv []) HH.says rr.toRowW d kwd fun f vs => PySem.call f vs) : rr.Holds := by
  have wr : (!rr.writes || rr.records.isEmpty) = true := by rfl
  have ch : (chainsOk qv && opensWell rr.prog && (frees rr.toRowW && rr.within.isEmpty)) = true := by decide +kernel
  have br : rr.prog.bare := ⟨rfl, rfl, rfl, rfl, rfl, by decide +kernel⟩
  have x1 : ∀ s, Xt s = true → XL qv [] (s.heap.nsMap mainGlobals) s.heap := fun s e => xl_of s (Bool.and_eq_true_iff.mp e).1
  have x2 : ∀ s, Xt s = true → RecFacts rr.records s.heap := fun s e => recFacts_of (Bool.and_eq_true_iff.mp e).2
  exact holds_open (Xt := Xt) (Ya := Hook.val HH) (XP := XL qv []) (YP := HH.says) left HH.of HH.keeps x1 XL.keeps hd ht hk x2 wr said ch br promised walk
end
end Hd
set_option Elab.async false
set_option linter.all false
set_option maxRecDepth 100000
set_option maxHeartbeats 2000000
/-! An own exception made as a value, with positional or keyword arguments. -/
namespace PySem
namespace KwX
open PySem.W PySem.Calls PyProof.Rows PySem.HandSPX
section
variable {M : Model} {A : Around} {E : Value → Shared → Prop} {hh : Heap} {gg : Array GenState} {dr : Drawn} {tt : Nat} {oss : OsState}
variable {nm q : Str} {C N : Addr} {bs bm mb : List Value} {hdct : Bool} {sn : List Str} {sub : List Value} {ab : Bool} {col : Option Bool} {dd : Option Addr} {k0 k1 k2 k3 k5 : Option Value} {B newId initId : String}
/-- the look at the arguments of the maker, whatever the keywords -/
theorem chk_new (F : ExcBaseFacts B newId initId mb) (hT : ∀ Y : String, bm.contains (.type Y) = mb.contains (.type Y)) {ps : List Value} {kws : List (Str × Value)} {Q : Unit → Shared → Prop}
    (hC : hh.get? C = some (excClassObj nm q C N bs bm hdct sn sub ab col dd k0 k1 k2 k3 k5 newId)) (hq : Q () ⟨hh, gg, dr, tt, oss⟩) :
    wpAny M A (checkBuiltinCall newId ⟨.ref C :: ps, kws⟩) Q E ⟨hh, gg, dr, tt, oss⟩ := by
  have w1 : (Value.ref C :: bm).contains (.type B) = true := by
    rw [List.contains_cons, hT, F.hasB, Bool.or_true]
  have w2 := F.noStar
  simp only [checkBuiltinCall, F.newKind, F.newSplit, F.newRow]
  repeat
    first
      | refine wpAny_loadPart_at hC ?_
      | (refine wpAny_isSubtype_exc hC ?_; rw [w1])
      | refine wpAny_staticBase_exc hC ?_
      | refine wpAny_madeBy_exc hC ?_
      | simp only [bne_self_eq_false, Bool.false_eq_true, if_false]
      | wp_step
  exact hq
end

section
variable {prog : Program} {w : World} {A : Around} {E : Value → Shared → Prop} {R : Result → Shared → Prop} {hh : Heap} {gg : Array GenState} {dr : Drawn} {tt : Nat} {oss : OsState}
variable {nm q : Str} {C N : Addr} {bs bm mb : List Value} {hdct : Bool} {sn : List Str} {sub : List Value} {ab : Bool} {col : Option Bool} {dd : Option Addr} {k0 k1 k2 k3 k5 : Option Value} {B newId initId : String}
/-- the maker's own run -/
theorem made_kw (F : ExcBaseFacts B newId initId mb) (hT : ∀ Y : String, bm.contains (.type Y) = mb.contains (.type Y)) {ps : List Value} {kws : List (Str × Value)}
    (hC : hh.get? C = some (excClassObj nm q C N bs bm hdct sn sub ab col dd k0 k1 k2 k3 k5 newId)) (hz : ps.length ≤ sizeLine)
    (hq : R (.ok (.ret (.ref (hh.objs.size + 1)))) ⟨(hh.push (W.kdv_tup ps)).push (excO C hh.objs.size), gg, dr, tt, oss⟩) :
    codeAny (model prog w) A (.builtin newId ⟨.ref C :: ps, kws⟩) R ⟨hh, gg, dr, tt, oss⟩ := by
  have w0 := F.ends
  have wB : (Value.ref C :: bm).contains (.type B) = true := by
    rw [List.contains_cons, hT, F.hasB, Bool.or_true]
  have wA : (Value.ref C :: bm).contains (.type "AttributeError") = false := by
    rw [List.contains_cons, hT, F.noAttr]
    rfl
  have wN : (Value.ref C :: bm).contains (.type "NameError") = false := by
    rw [List.contains_cons, hT, F.noName]
    rfl
  refine codeAny_builtinAt F.entry ?_
  unfold Builtin.«BaseException.__new__»
  refine wpAt_bind ?_
  show wpAt _ _ _ (stack >>= _) _ _ _
  refine wpAt_bind (wpAt_stack fun p below => wpAt_of_wpAny ?_)
  wp_walk
  refine wpAt_of_wpAny ?_
  rw [F.owner]
  repeat
    first
      | with_reducible refine wpAny_madeHere_exc F.canon hC ?_
      | with_reducible refine wpAny_loadPart_at hC ?_
      | (with_reducible refine wpAny_isSubtype_exc hC ?_; first | rw [wB] | rw [wA] | rw [wN])
      | wp_step
  show R _ _
  rw [Heap.size_push]
  exact hq
/-- type.__call__ of such a class: the maker, then its own __init__ -/
theorem called_kw (F : ExcBaseFacts B newId initId mb) (hT : ∀ Y : String, bm.contains (.type Y) = mb.contains (.type Y)) {ps : List Value} {kws : List (Str × Value)} {fI : Addr} {Q : Fin → Shared → Prop}
    (hC : hh.get? C = some (excClassObj nm q C N bs bm hdct sn sub ab col dd k0 k1 k2 k3 k5 newId))
    (hi : W.Looks (model prog w) hh (typeLookup (.ref C) "__init__") (some (.ref fI))) (hb : ∀ me, W.Looks (model prog w) hh (bindSpecial (.ref fI) me) (.ref fI, [me])) (hz : ps.length ≤ sizeLine)
    (hq : codeAny (model prog w) A (.call (.ref fI) ⟨.ref (hh.objs.size + 1) :: ps, kws⟩)
      (fun r z => match r with | .ok (.ret v) => v = .none ∧ Q (.done (.ret (.ref (hh.objs.size + 1)))) z | .ok _ => False | .error e => E e z)
      ⟨(hh.push (W.kdv_tup ps)).push (excO C hh.objs.size), gg, dr, tt, oss⟩) :
    wpAny (model prog w) A (Builtin.«type.__call__» ⟨.ref C :: ps, kws⟩) Q E ⟨hh, gg, dr, tt, oss⟩ := by
  repeat
    first
      | with_reducible refine wpAny_loadPart_at hC ?_
      | with_reducible refine wpAny_madeBy_exc hC ?_
      | wp_step
  refine codeAny_call_builtin_code (Code.quiet_builtin _ F.quiet) (chk_new F hT hC ?_)
  refine made_kw F hT hC hz ?_
  show wpAny _ _ _ _ _ _
  have kp : ∀ b o, hh.get? b = some o → ((hh.push (W.kdv_tup ps)).push (excO C hh.objs.size)).get? b = some o := fun b o e =>
    Heap.get?_push_of_some _ (Heap.get?_push_of_some _ e)
  have hC1 := kp _ _ hC
  have hx : ((hh.push (W.kdv_tup ps)).push (excO C hh.objs.size)).get? (hh.objs.size + 1) = some (excO C hh.objs.size) := by heap_get
  have wC : (Value.ref C :: bm).contains (.ref C) = true := by simp
  have i1 := hi.keeps kp
  have b1 := (hb (.ref (hh.objs.size + 1))).keeps kp
  unfold isInstance
  repeat
    first
      | with_reducible refine wpAny_loadPart_at hx ?_
      | (with_reducible refine wpAny_isSubtype_exc hC1 ?_; rw [wC])
      | wp_step
  show wpAny _ _ (typeLookup (.ref C) _) _ _ _
  refine i1.at ?_
  refine wpAny_holding (wpAny_bind (b1.at ?_))
  refine wpAny_bind (wpAny_call (codeAny_mono hq fun r z hz => ?_))
  rcases r with e | (v | _ | _ | _) <;> first | exact hz | exact hz.elim | skip
  obtain ⟨rfl, hz⟩ := hz
  first
    | exact wpAny_pure (wpAny_pure hz)
    | (wp_walk; exact hz)
theorem call_kw (F : ExcBaseFacts B newId initId mb) (hT : ∀ Y : String, bm.contains (.type Y) = mb.contains (.type Y)) {ps : List Value} {kws : List (Str × Value)} {fI : Addr}
    (hC : hh.get? C = some (excClassObj nm q C N bs bm hdct sn sub ab col dd k0 k1 k2 k3 k5 newId))
    (hi : W.Looks (model prog w) hh (typeLookup (.ref C) "__init__") (some (.ref fI))) (hb : ∀ me, W.Looks (model prog w) hh (bindSpecial (.ref fI) me) (.ref fI, [me])) (hz : ps.length ≤ sizeLine)
    (hq : codeAny (model prog w) (A.under (.builtin "type.__call__" ⟨.ref C :: ps, kws⟩)) (.call (.ref fI) ⟨.ref (hh.objs.size + 1) :: ps, kws⟩) (W.InitBack (hh.objs.size + 1) R)
      ⟨(hh.push (W.kdv_tup ps)).push (excO C hh.objs.size), gg, dr, tt, oss⟩) :
    codeAny (model prog w) A (.call (.ref C) ⟨ps, kws⟩) R ⟨hh, gg, dr, tt, oss⟩ := by
  have f1 := tc_lookup
  have f2 := tc_bind (.ref C)
  have hTy : (⟨hh, gg, dr, tt, oss⟩ : Shared).TypeIs (.ref C) "type" := ⟨_, hC, rfl⟩
  refine codeAny_of_tree ?_
  show wpAny _ _ (callAny (.ref C) _) _ _ _
  repeat
    any_goals
      first
        | assumption
        | with_reducible refine wpAny_loadPart_at hC ?_
        | wp_step
  refine ⟨rfl, ?_⟩
  refine codeAny_call_builtin_at (Code.quiet_builtin _ (by decide +kernel)) entry_typeCall (wpAny_check_type_call_sub hC (called_kw F hT hC hi hb hz ?_))
  refine codeAny_mono hq fun r z hz => ?_
  rcases r with e | (v | _ | _ | _) <;> exact hz
end
end KwX
end PySem

namespace L2
open PySem PySem.Spec PyProof.Rows
/-- at a: an exception of the class at C whose dict at d holds fs -/
def ExcAt (H : Hp) (a C : Addr) (fs : List (Str × V)) : Prop := ∃ d : Addr, H a = some (exo a C (some d)) ∧ H d = some (exd d fs)
/-- C(.., k = v, ..), C an own error class with an own (or inherited) __init__: a value -/
def tExcN (C : Addr) (n m : Nat) (sp : Sp) (gV : List V → List V → List V) (t tk : TA) : TE := fun σ H Q => t σ H fun vs H1 => tk σ H1 fun zs H2 => vs.length = n ∧ zs.length = m ∧ vs.length ≤ 1000 ∧
  ∀ x, H2 x = none → sp (gV (.ref x :: vs) zs) (upd H2 x (exo x C none)) (fun v H3 => v = .non ∧ Q (.ref x) H3) (fun _ _ _ => False)
section
variable {X : Cx} {CX : CXT} {k n : Nat} {fI C : Addr} {fd : FuncData} {ps ks : List Str} {sp : Sp} {x : Str} {p pos : Pos} {e : Expr} {es : List Expr} {kws : List Keyword} {t tk : TA}
variable {g : List Value → List Value → List Value} {gV : List V → List V → List V}
theorem run_excN {pins : List (Addr × Obj)} {σ : St} {H : Hp} {s : Shared} {Q : VK} {us ws : List Value} {vs zs : List V} (T : OexC X.K C) (iC : PySem.W.findIn X.K (.ref C) "__init__" = some (some (.ref fI)))
    (tI : PySem.W.typeIn X.K (.ref fI) = some (.type "function")) (F1 : FnOk X.prog X.w X.K X.mg X.base CX k fI fd ps sp) (hr : Room (k + 1) X.A) (hb : KBn X.K fd ps (n + 1) ks g gV)
    (hx : Passes CX X (fun _ _ _ => False)) (I : Inv X pins σ H s) (r : Vals vs us) (rz : Vals zs ws) (l1 : vs.length = n) (l2 : zs.length = ks.length) (l3 : vs.length ≤ 1000)
    (h : ∀ x, H x = none → sp (gV (.ref x :: vs) zs) (upd H x (exo x C none)) (fun v H3 => v = .non ∧ Q (.ref x) H3) (fun _ _ _ => False)) :
    wpAny (model X.prog X.w) X.A (call (.ref C) us (ks.zip ws)) (EP X pins σ Q) X.xe s := by
  obtain ⟨nm, q, N, bs, bm, sn, sub, ab, col, dd, k0, k1, k2, k3, k5, hC, hbm⟩ := T.cls
  obtain ⟨hp, gg, dr, tk', os⟩ := s
  have hsz : hp.objs.size ≤ hp.objs.size + 1 := Nat.le_succ _
  have hq := h (hp.objs.size + 1) (I.hok.fresh hsz)
  have kp : ∀ b o, hp.get? b = some o → ((hp.push (PySem.W.kdv_tup us)).push (PySem.HandSPX.excO C hp.objs.size)).get? b = some o := fun b o e =>
    Heap.get?_push_of_some _ (Heap.get?_push_of_some _ e)
  have hget : ((hp.push (PySem.W.kdv_tup us)).push (PySem.HandSPX.excO C hp.objs.size)).get? (hp.objs.size + 1) = some (PySem.HandSPX.excO C hp.objs.size) := by heap_get
  have I2 : Inv X pins σ (upd H (hp.objs.size + 1) (exo (hp.objs.size + 1) C none)) ⟨(hp.push (PySem.W.kdv_tup us)).push (PySem.HandSPX.excO C hp.objs.size), gg, dr, tk', os⟩ :=
    I.laid (t' := tk') kp hsz (exo_ok hget)
  have r1 : Vals (V.ref (hp.objs.size + 1) :: vs) (Value.ref (hp.objs.size + 1) :: us) := .cons rfl r
  have r2 := hb.rel r1 rz
  have e1 : (Value.ref (hp.objs.size + 1) :: us).length = n + 1 := by
    rw [List.length_cons, ← Paired.length r, l1]
  have e2 : ws.length = ks.length := (Paired.length rz).symm.trans l2
  have e3 : us.length ≤ sizeLine := by
    rw [← Paired.length r, sizeLine_eq]
    omega
  refine wpAny_call (PySem.KwX.call_kw F.excBase_ValueError (fun Y => PySem.HandSPX.refsVE_contains Y bm hbm) (I.kIn _ _ hC) (PySem.W.looks_findIn I.kIn iC) (fun me => PySem.W.bind_fn I.kIn me tI) e3
    (codeAny_mono (F1.run _ X.stack _ _ ⟨Value.ref (hp.objs.size + 1) :: us, ks.zip ws⟩ (g (Value.ref (hp.objs.size + 1) :: us) ws) _ _ (fun _ _ _ => False) (hr.make C us (ks.zip ws))
      (I2.env0.make C us (ks.zip ws)) (hb.to _ (Value.ref (hp.objs.size + 1) :: us) ws I2.kIn e1 e2) r2 hq) fun r z hz => ?_))
  cases r with
  | error er => exact hx pins σ _ _ er z I2 hz
  | ok fl =>
    cases fl with
    | ret u =>
      obtain ⟨v, H3, I3, rv, ev, q3⟩ := I2.after hz
      subst ev
      exact ⟨rv, ⟨V.ref (hp.objs.size + 1), H3, I3, rfl, q3⟩⟩
    | next => exact False.elim hz
    | brk => exact False.elim hz
    | cont => exact False.elim hz
/-- C(k = v, ..) -/
theorem pe_excK (T : OexC X.K C) (iC : PySem.W.findIn X.K (.ref C) "__init__" = some (some (.ref fI))) (tI : PySem.W.typeIn X.K (.ref fI) = some (.type "function"))
    (F1 : FnOk X.prog X.w X.K X.mg X.base CX k fI fd ps sp) (hr : Room (k + 1) X.A) (hg : Gl X x) (hm : X.mg x = some (.ref C)) (hb : KBn X.K fd ps 1 ks g gV) (hx : Passes CX X (fun _ _ _ => False)) (hkw : PK X kws tk)
    (hall : (backToKw pos (keywordEach kws X.env)).all (·.1.isSome) = true := by rfl) (hks : (backToKw pos (keywordEach kws X.env)).filterMap (·.1) = ks := by rfl)
    (hdb : (x == ("__debug__" : Str)) = false := by decide)
    (hpl : ((backTo pos (starEach [] X.env)).any (·.1) || (backToKw pos (keywordEach kws X.env)).any (·.1.isNone)) = false := by rfl) :
    PE X (.Call (.Name x p) [] kws pos) (tExcN C 0 ks.length sp gV tNil tk) := by
  refine ⟨fun pins s σ H Q I h => ?_⟩
  refine wpAny_Call_Name_kw (ld_glob I hg hm ?_ hdb)
  refine PySem.W.callWith_KW0 (h₀ := X.base) I.ok.mod.kin T.kC hall ?_ hpl
  refine thn (hkw.run pos pins s σ H _ I h) fun ws s2 ⟨zs, H2, I2, rz, l1, l2, l3, q2⟩ => ⟨I2.kIn, ?_⟩
  rw [hks]
  exact run_excN (us := []) (vs := []) T iC tI F1 hr hb hx I2 .nil rz rfl l2 l3 q2
/-- C(e, ..) -/
theorem pe_excP {ds : List Value} {dvs : List V} (T : OexC X.K C) (iC : PySem.W.findIn X.K (.ref C) "__init__" = some (some (.ref fI))) (tI : PySem.W.typeIn X.K (.ref fI) = some (.type "function"))
    (F1 : FnOk X.prog X.w X.K X.mg X.base CX k fI fd ps sp) (hr : Room (k + 1) X.A) (hg : Gl X x) (hm : X.mg x = some (.ref C)) (hb : KBn X.K fd ps (n + 1) [] g gV) (hx : Passes CX X (fun _ _ _ => False)) (ha : PA X (e :: es) t)
    (hdb : (x == ("__debug__" : Str)) = false := by decide) (he : starEach (e :: es) X.env = (false, eval e X.env) :: starEach es X.env := by rfl) (hpl : (backTo pos (starEach es X.env)).any (·.1) = false := by rfl) :
    PE X (.Call (.Name x p) (e :: es) [] pos) (tExcN C n 0 sp gV t tNil) := by
  refine ⟨fun pins s σ H Q I h => ?_⟩
  refine wpAny_Call_Name_kw (ld_glob I hg hm ?_ hdb)
  refine PySem.W.callWith_K (h₀ := X.base) I.ok.mod.kin T.kC (thn (ha.run pos pins s σ H _ I h) fun us s1 ⟨vs, H1, I1, r, l1, l2, l3, q⟩ => ⟨I1.kIn, ?_⟩) he hpl
  exact run_excN (ws := []) (zs := []) (ks := []) T iC tI F1 hr hb hx I1 r .nil l1 rfl l3 q
end

/-! ### a field of such an exception, its class -/
/-- what an own error class says, so that isinstance and the fields of its instances are told -/
structure ExcW (K : PySem.W.Frag) (C : Addr) : Prop where
  is1 : (PySem.W.clsIn K C).isSome = true
  ga : PySem.W.findIn K (.ref C) "__getattribute__" = some (some (.builtin "BaseException.__getattribute__"))
  gg : PySem.W.findIn K (.ref C) "__getattr__" = some none
  ex : PySem.W.subIn K (.ref C) (.type "BaseException") = some true
  hd : PySem.W.hasDictIn K C = true
  ca : PySem.W.findIn K (.ref C) "__class__" = some (some (.builtin "object.__class__"))
  sg : PySem.W.specialIn K (.builtin "object.__class__") "__get__" = some (some (.builtin "getset_descriptor.__get__"))
  tk : PySem.W.takesIn K (.builtin "object.__class__") = some true
  ob : PySem.W.mroIn K C (.type "object") = some true
def tExF (K : PySem.W.Frag) (f : Str) (to : TE) : TE := fun σ H Q => to σ H fun x H1 => ∃ (a C : Addr) (fs : List (Str × V)) (v : V), x = .ref a ∧ ExcAt H1 a C fs ∧ ExcW K C ∧ PySem.W.findIn K (.ref C) f = some none ∧ fs.lookup f = some v ∧ Q v H1
section
variable {X : Cx} {o : Expr} {to : TE} {f : Str} {pos : Pos}
theorem Inv.excAt {pins : List (Addr × Obj)} {σ : St} {H : Hp} {s : Shared} {a C : Addr} {fs : List (Str × V)} (I : Inv X pins σ H s) (h : ExcAt H a C fs) :
    ∃ (ox od : Obj), PySem.W.InstAt s.heap a ox C (some od) ∧ ∀ (f : Str) (v : V), fs.lookup f = some v → ∃ u, PySem.W.lookIn f od = some (some u) ∧ RelV v u := by
  obtain ⟨d, ha, hd⟩ := h
  obtain ⟨t1, e1⟩ := exo_at I.hok ha
  obtain ⟨mA, hns, rel⟩ := exd_at I.hok hd
  obtain ⟨od, ho, hl⟩ := lookIn_ns hns
  refine ⟨_, od, ⟨e1, rfl, rfl, ho⟩, fun f v e => ?_⟩
  obtain ⟨u, hu, ru⟩ := RelO.some_of (v := v) (o := mA f) (by rw [← e]; exact rel f)
  exact ⟨u, by rw [hl, hu], ru⟩
/-- error.f -/
theorem pe_exF (ho : PE X o to) (hb : attributeBase o f X.env (eval o X.env) = eval o X.env := by rfl) : PE X (.Attribute o f pos) (tExF X.K f to) := by
  refine ⟨fun pins s σ H Q I h => ?_⟩
  refine attr_of hb (thn (ho.run pins s σ H _ I h) fun u s1 ⟨x, H1, I1, rx, a, C, fs, v, ex, ha, T, hno, hl, q⟩ => ?_)
  subst ex
  obtain rfl : u = Value.ref a := rx
  obtain ⟨ox, od, J, hf⟩ := I1.excAt ha
  obtain ⟨w', hu, ru⟩ := hf f v hl
  exact HandSPX.exc_get I1.kIn J T.ga T.gg T.ex (PySem.W.findObj_own T.hd hno rfl hu) (handed_of ru) ⟨v, H1, I1.tok _, ru, q⟩
/-- isinstance(error, c) -/
def rIsX (K : PySem.W.Frag) : List V → Hp → VK → Prop := fun xs H Q => ∃ (a C : Addr) (fs : List (Str × V)) (c : V) (u : Value) (b : Bool), xs = [.ref a, c] ∧ ClsV c u ∧ ExcAt H a C fs ∧ ExcW K C ∧
  PySem.W.kitOne K (.ref C) u = some b ∧ Q (.bl b) H
theorem call_isX : CallR X (.builtin "isinstance") (rIsX X.K) := by
  intro pins s σ H xs us Q I r h
  obtain ⟨a, C, fs, c, u, b, rfl, k, ha, T, e, q⟩ := h
  obtain ⟨u1, u2, rfl, r1, r2⟩ := vals2 r
  have e2 := k.eq r2
  subst e2
  obtain rfl : u1 = Value.ref a := r1
  obtain ⟨ox, od, J, _⟩ := I.excAt ha
  exact PySem.W.kia_one (PySem.W.kitx_exc T.is1 T.ga T.gg T.ex T.ca T.sg T.tk T.ob) I.kIn J e (fun z => nomatch z) fun tk' => ⟨.bl b, H, I.tok tk', rfl, q⟩
end

/-! ### powers of great numbers, repr of None and of truths -/
def CPowW (i j : Int) : Prop := 0 ≤ j ∧ j ≤ 3 ∧ i.natAbs < 2 ^ 10000
theorem op_powW {X : Cx} : OpR X (binaryOp .Pow) (rI CPowW fun i j => .int (i ^ j.toNat)) := opI fun i j _ _ _ _ _ hc q => by
  obtain ⟨h0, h1, h2⟩ := hc
  refine pow_int h0 ?_ q
  have b1 : Builtin.Int.intBits i ≤ i.natAbs.log2 + 1 := by
    unfold Builtin.Int.intBits
    split <;> omega
  have b2 : i.natAbs.log2 < 10000 := PySem.Flt.log2_lt_of (by decide) h2
  have b3 : (Builtin.Int.intBits i : Int) ≤ 10000 := by omega
  have b4 : (Builtin.Int.intBits i : Int) * j ≤ 10000 * 3 := Int.mul_le_mul b3 h1 h0 (by decide)
  exact Int.le_trans b4 (by decide)
def rRepr : List V → Hp → VK → Prop := fun xs H Q => (xs = [.non] ∧ Q (.str "None") H) ∨ ∃ b, xs = [.bl b] ∧ Q (.str (if b then "True" else "False")) H
theorem call_reprNB {X : Cx} : CallR X (.builtin "repr") rRepr := by
  intro pins s σ H xs us Q I r h
  rcases h with ⟨rfl, q⟩ | ⟨b, rfl, q⟩
  · obtain ⟨u, rfl, r1⟩ := vals1 r
    obtain rfl : u = Value.none := r1
    exact PySem.P.repr_of_none ⟨.str _, H, I.tok _, ⟨_, rfl⟩, q⟩
  · obtain ⟨u, rfl, r1⟩ := vals1 r
    obtain rfl : u = Value.bool b := r1
    exact PySem.P.repr_of_bool ⟨.str _, H, I.tok _, ⟨_, rfl⟩, q⟩
end L2
set_option Elab.async false
set_option linter.all false
set_option maxRecDepth 100000
set_option maxHeartbeats 2000000
/-! Sets of texts: made of a list, measured, sorted. -/
namespace TxSet
open PySem PySem.Spec PyProof.Rows L2
/-- a member of the set's table: a text under its hash -/
def Mem1 (w : World) (e : Int × Value) : Prop := ∃ k tk, e.2 = Value.str k tk ∧ e.1 = hashStr w k
def txt (e : Int × Value) : Str := match e.2 with
  | .str k _ => k
  | _ => Str.empty
/-- the set at a holds just the texts L; its table can be walked -/
def SetT (w : World) (h : Heap) (a : Addr) (L : List Str) : Prop :=
  ∃ o es ep t, h.get? a = some o ∧ o.ExactSet ∧ o.data = .set es ep t ∧ (∀ e ∈ es.toList, Mem1 w e) ∧ (es.toList.map txt).Perm L ∧ L.Nodup ∧
    es.size < scanBound ∧ t.fits es.size = true ∧ Ris t.place.toList ∧ (w.params.followText "set-order" = true ∨ t.led = true)
section
variable {P : Program} {w : World} {h h' : Heap} {a : Addr} {L : List Str}
theorem SetT.at (R : SetT w h a L) (k : ∀ o, h.get? a = some o → h'.get? a = some o) : SetT w h' a L := by
  obtain ⟨o, es, ep, t, ho, r⟩ := R
  exact ⟨o, es, ep, t, k o ho, r⟩
theorem txt_is {e : Int × Value} (g : Mem1 w e) (k : Str) : (strKind P w).is k e.2 = true ↔ txt e = k := by
  obtain ⟨k', tk, h1, _⟩ := g
  unfold txt
  rw [h1]
  show Value.isStrOf k (.str k' tk) = true ↔ k' = k
  simp [Value.isStrOf]
theorem mem_elems {l : List (Int × Value)} (g : ∀ e ∈ l, Mem1 w e) : ElemsOf (strKind P w) l := fun e he => by
  obtain ⟨k, tk, h1, h2⟩ := g e he
  refine ⟨⟨k, ?_, h2⟩, ?_⟩
  · rw [h1]
    exact strKind_is P w k tk
  · rw [h1]
    rfl
theorem mem_txt {l : List (Int × Value)} (g : ∀ e ∈ l, Mem1 w e) (k : Str) : k ∈ l.map txt ↔ ∃ e ∈ l, (strKind P w).is k e.2 = true := by
  constructor
  · intro z
    obtain ⟨e, he, q⟩ := List.mem_map.mp z
    exact ⟨e, he, (txt_is (g e he) k).2 q⟩
  · rintro ⟨e, he, q⟩
    exact List.mem_map.mpr ⟨e, he, (txt_is (g e he) k).1 q⟩
end
/-- one text more -/
def ins (L : List Str) (k : Str) : List Str := if k ∈ L then L else k :: L
def dd (xs : List Str) : List Str := xs.foldl ins []
section
variable {P : Program} {w : World} {A : Around} {E : Value → Shared → Prop} {s : Shared} {a : Addr} {L : List Str}
theorem add_tail {g : Bool → Sem Unit} (hg : ∀ (b : Bool) (z : Shared) (Q' : Unit → Shared → Prop), Q' () z → wpAny (model P w) A (g b) Q' E z)
    {o : Obj} {es : Array (Int × Value)} {ep : Nat} {t : SetTable} (ho : s.heap.get? a = some o) (hex : o.ExactSet) (hd : o.data = .set es ep t)
    {fs : Array (Int × Value)} {t2 : SetTable} {M : List Str} (g1 : ∀ e ∈ fs.toList, Mem1 w e) (p1 : (fs.toList.map txt).Perm M) (nd : M.Nodup)
    (hb1 : fs.size < scanBound) (hf2 : t2.fits fs.size = true) (hr : Ris t2.place.toList) (hl : w.params.followText "set-order" = true ∨ t2.led = true) {dummy : Bool} {R : Option Bool → Shared → Prop}
    (hR : ∀ h', Heap.SameBut a s.heap h' → SetT w h' a M → R (some true) { s with heap := h' }) :
    wpAny (model P w) A (do
        storeSet a fs t2
        if (!dummy && t2.tooFull) = true then do
            g (relayAll t2 fs (SetTable.grown fs.size)).2.2
            storeSet a (relayAll t2 fs (SetTable.grown fs.size)).1 (relayAll t2 fs (SetTable.grown fs.size)).2.1
            pure (some true)
          else pure (some true)) R E s := by
  refine wpAny_bind (wpAny_storeSet_of ho hd ?_ (fits_of_scanBound hb1))
  have ho1 := store_at (es' := fs) (t' := t2) ho hd
  have sb1 := Heap.SameBut.update s.heap a (Obj.putSet fs t2)
  split
  · have pm := relayAll_perm t2 fs (SetTable.grown fs.size)
    have w1 := relayAll_fits t2 fs (SetTable.grown fs.size)
    have w2 := relayAll_ris t2 fs (SetTable.grown fs.size)
    have w3 := relayAll_led t2 fs (SetTable.grown fs.size)
    generalize relayAll t2 fs (SetTable.grown fs.size) = Z at pm w1 w2 w3 ⊢
    obtain ⟨gs, t3, gave⟩ := Z
    dsimp only at pm w1 w2 w3 ⊢
    have hsz : gs.size = fs.size := by
      rw [← Array.length_toList, pm.length_eq, Array.length_toList]
    have hb2 : gs.size < scanBound := hsz ▸ hb1
    refine wpAny_bind (hg _ _ _ ?_)
    refine wpAny_bind (wpAny_storeSet_of ho1 rfl ?_ (fits_of_scanBound hb2))
    have ho2 := store_at (es' := gs) (t' := t3) ho1 rfl
    refine wpAny_pure (hR _ (sb1.trans (Heap.SameBut.update _ a _)) ?_)
    refine ⟨_, gs, _, t3, ho2, hex, rfl, fun e he => g1 e (pm.mem_iff.mp he), (pm.map txt).trans p1, nd, hb2, w1, w2, ?_⟩
    exact hl.imp id fun z => w3.trans z
  · exact wpAny_pure (hR _ sb1 ⟨_, fs, _, t2, ho1, hex, rfl, g1, p1, nd, hb1, hf2, hr, hl⟩)
theorem add_hashed {k : Str} {tk : Tok} {Q : Bool → Shared → Prop} (R : SetT w s.heap a L) (room : L.length + 1 < scanBound)
    (hQ : ∀ b h', Heap.SameBut a s.heap h' → SetT w h' a (ins L k) → Q b { s with heap := h' }) : wpAny (model P w) A (setAddHashed a (.str k tk) ((strKind P w).hash k)) Q E s := by
  obtain ⟨o, es, ep, t, ho, hex, hd, g, pm0, nd, hb, hf, hr, hl⟩ := R
  have hkey : (strKind P w).is k (.str k tk) = true := strKind_is P w k tk
  have hsc : (Value.str k tk).scannable = true := rfl
  have hel : ElemsOf (strKind P w) es.toList := mem_elems g
  unfold setAddHashed setAddHashedIn
  refine wpAny_holding (wpAny_bind (wpAny_setState_of ho hd hf ?_))
  dsimp only
  rw [byScan_of hsc hb hel]
  simp only [↓reduceIte]
  unfold setAddByScan
  refine wpAny_bind ?_
  refine wpAny_bind (wpAny_rule ?_)
  refine wpAny_bind (wpAny_setScan_of hkey ho hd hf hel ?_)
  cases hfi : List.findIdx? (fun e => (strKind P w).is k e.2) es.toList with
  | some j =>
    dsimp only
    obtain ⟨hj, pj, _⟩ := List.findIdx?_eq_some_iff_getElem.mp hfi
    have hk : k ∈ L := pm0.mem_iff.mp ((mem_txt (P := P) g k).2 ⟨es.toList[j], List.getElem_mem hj, pj⟩)
    refine wpAny_pure (wpAny_pure ?_)
    refine hQ _ s.heap (Heap.SameBut.refl a s.heap) ?_
    rw [show ins L k = L from if_pos hk]
    exact ⟨o, es, ep, t, ho, hex, hd, g, pm0, nd, hb, hf, hr, hl⟩
  | none =>
    dsimp only
    have hk : k ∉ L := fun z => by
      obtain ⟨e, he, q⟩ := (mem_txt (P := P) g k).1 (pm0.mem_iff.mpr z)
      have c := List.findIdx?_eq_none_iff.mp hfi e he
      rw [q] at c
      cases c
    have hgw : ∀ (b : Bool) {z : Shared} {Q' : Unit → Shared → Prop}, Q' () z → wpAny (model P w) A (match b with | true => rule "set.scan.the-table-gave-way" | false => pure ()) Q' E z := fun b z Q' q => by
      cases b
      · exact wpAny_pure q
      · exact wpAny_rule q
    have pm := layNew_perm t es ((strKind P w).hash k) (.str k tk)
    have w1 := layNew_fits t es ((strKind P w).hash k) (.str k tk)
    have w2 := layNew_ris t es ((strKind P w).hash k) (.str k tk) hr
    have w3 := layNew_led t es ((strKind P w).hash k) (.str k tk)
    generalize layNew t es ((strKind P w).hash k) (.str k tk) = Z at pm w1 w2 w3 ⊢
    obtain ⟨fs, t1, dummy, gave⟩ := Z
    dsimp only at pm w1 w2 w3 ⊢
    rw [Array.toList_push] at pm
    have pc : fs.toList.Perm (((strKind P w).hash k, Value.str k tk) :: es.toList) := pm.trans (List.perm_append_singleton _ _)
    have pk : (fs.toList.map txt).Perm (k :: L) := (pc.map txt).trans (List.Perm.cons k pm0)
    have g1 : ∀ e ∈ fs.toList, Mem1 w e := fun e he => by
      rcases List.mem_cons.mp (pc.mem_iff.mp he) with z | z
      · rw [z]
        exact ⟨k, tk, rfl, rfl⟩
      · exact g e z
    have nd1 : (k :: L).Nodup := List.nodup_cons.mpr ⟨hk, nd⟩
    have hsz : fs.size = L.length + 1 := by
      have z := pk.length_eq
      rw [List.length_map, Array.length_toList, List.length_cons] at z
      exact z
    have hb1 : fs.size < scanBound := by
      rw [hsz]
      exact room
    have hled : w.params.followText "set-order" = true ∨ t1.led = true := hl.imp id fun z => w3.trans z
    have fin : ∀ h', Heap.SameBut a s.heap h' → SetT w h' a (k :: L) → Q true { s with heap := h' } := fun h' sb r => hQ true h' sb (by
      rw [show ins L k = k :: L from if_neg hk]
      exact r)
    refine wpAny_bind (hgw _ ?_)
    split
    · refine wpAny_bind ?_
      rw [hashByValue_scannable 8 hsc]
      refine wpAny_pure ?_
      refine add_tail ?_ ho hex hd g1 pk nd1 hb1 ?_ ?_ ?_ ?_
      · intro b z Q' q
        cases b <;> first | exact wpAny_pure q | exact wpAny_rule q
      · first
          | (split <;> first | exact w1 | exact SetTable.fits_plain_off w1)
          | exact w1
      · first
          | (split <;> exact w2)
          | exact w2
      · first
          | (split <;> exact hled)
          | exact hled
      · intro h' sb r
        dsimp only
        exact wpAny_pure (fin h' sb r)
    · refine wpAny_bind (wpAny_pure ?_)
      simp only [↓reduceIte]
      refine add_tail ?_ ho hex hd g1 pk nd1 hb1 w1 w2 hled ?_
      · intro b z Q' q
        cases b <;> first | exact wpAny_pure q | exact wpAny_rule q
      · intro h' sb r
        dsimp only
        exact wpAny_pure (fin h' sb r)
theorem dd_more (xs : List Str) (x : Str) : dd (xs ++ [x]) = ins (dd xs) x := by
  unfold dd
  rw [List.foldl_append]
  rfl
theorem ins_len (L : List Str) (k : Str) : (ins L k).length ≤ L.length + 1 := by
  unfold ins
  split
  · exact Nat.le_succ _
  · exact Nat.le_refl _
theorem dd_len : ∀ xs : List Str, (dd xs).length ≤ xs.length := by
  have go : ∀ (xs L : List Str), (xs.foldl ins L).length ≤ L.length + xs.length := by
    intro xs
    induction xs with
    | nil => intro L; exact Nat.le_refl _
    | cons x xs ih =>
      intro L
      have h1 := ih (ins L x)
      have h2 := ins_len L x
      rw [List.foldl_cons, List.length_cons]
      omega
  intro xs
  have h := go xs []
  rw [List.length_nil, Nat.zero_add] at h
  exact h
/-- texts, one by one, into the set -/
theorem into_set {I : Addr} {fp wr : List Addr} {G : Array GenState → Array GenState → Prop} {n : Nat} {Pv : Nat → Value → Prop} {St : Nat → Shared → Prop} {R : Result → Shared → Prop}
    (W : WalksS P w A.in1 I fp wr G n Pv St) (S : Addr) (hSf : S ∉ fp) (xs : List Str) (hn : n = xs.length) (hb : xs.length + 1 < scanBound) (hval : ∀ i v, Pv i v → ∃ k t, xs[i]? = some k ∧ v = .str k t) :
    ∀ (k i : Nat) (s : Shared), n - i = k → i ≤ n → St i s → SetT w s.heap S (dd (xs.take i)) → (∀ z, Moved (S :: wr) G s z → SetT w z.heap S (dd xs) → R (.ok (.ret .none)) z) →
      codeAny (model P w) A (.builtin "set.update.loop" ⟨[.ref S, .ref I], []⟩) R s := by
  have hSw : S ∉ wr := fun h => hSf (W.sub _ h)
  have hsub : ∀ b ∈ wr, b ∈ S :: wr := fun b hb => List.mem_cons_of_mem _ hb
  intro k
  induction k with
  | zero =>
    intro i s hk' hi hst hS hR
    obtain rfl : i = n := by omega
    refine codeAny_builtin F.entry_set_update_loop ?_
    rw [Around.under_plainId F.plain_set_update_loop _]
    show wpAny _ A.in1 (pyNext (.ref I) >>= _) _ _ s
    refine wpAny_bind (W.done s _ _ hst fun z hm => ?_)
    show wpAny _ A.in1 (ret Value.none) _ _ z
    rw [List.take_of_length_le (by omega)] at hS
    exact wpAny_pure (hR z (hm.mono hsub) (hS.at fun o e => hm.heap S o hSw e))
  | succ k ih =>
    intro i s hk' hi hst hS hR
    have hlt : i < n := by omega
    refine codeAny_builtin F.entry_set_update_loop ?_
    rw [Around.under_plainId F.plain_set_update_loop _]
    show wpAny _ A.in1 (pyNext (.ref I) >>= _) _ _ s
    refine wpAny_bind (W.item i s _ _ hlt hst fun v z hP hst' hm => ?_)
    obtain ⟨y, t, hy, rfl⟩ := hval i v hP
    have hS' : SetT w z.heap S (dd (xs.take i)) := hS.at fun o e => hm.heap S o hSw e
    have hl : (dd (xs.take i)).length + 1 < scanBound := by
      have h1 := dd_len (xs.take i)
      rw [List.length_take] at h1
      omega
    show wpAny _ A.in1 (holding [Value.str y t] (setAdd S (.str y t)) >>= _) _ _ z
    refine wpAny_bind (wpAny_holding ?_)
    unfold setAdd
    refine wpAny_holding ?_
    refine wpAny_bind ((strKind P w).pyHash (k := y) (strKind_is P w y t) ?_)
    refine add_hashed (s := { z with toks := z.toks + 1 }) hS' hl fun b h' hsb hS2 => ?_
    have hS3 : SetT w h' S (dd (xs.take (i + 1))) := by
      rw [List.take_add_one, hy]
      show SetT w h' S (dd (xs.take i ++ [y]))
      rw [dd_more]
      exact hS2
    refine wpAny_pure ⟨plainId_quiet F.plain_set_update_loop _, ih (i + 1) _ (by omega) hlt (W.frame _ z _ _ hst' (Nat.le_succ _) fun b hb o e => ?_) hS3 fun y' hm'' hS'' => ?_⟩
    · rw [hsb.2 b (fun h : b = S => hSf (by rw [← h]; exact hb))]
      exact e
    · refine hR y' (Moved.trans W.gtrans ((hm.mono hsub).then_heap (Nat.le_succ _) fun b o hb e => ?_) hm'') hS''
      rw [hsb.2 b (fun h : b = S => hb (by rw [h]; exact List.mem_cons_self))]
      exact e
theorem new_at {h : Heap} (ho : h.get? a = some { cls := .type "set", dict := none, data := .set #[] 0 (.fresh 0 0 (!w.params.followText "set-order")) }) : SetT w h a (dd ([] : List Str)) := by
  refine ⟨_, #[], 0, _, ho, ⟨rfl, rfl, rfl⟩, rfl, (fun e he => by simp at he), List.Perm.refl _, List.nodup_nil, (by decide), (by rfl), List.Pairwise.nil, ?_⟩
  show _ ∨ (!w.params.followText "set-order") = true
  cases w.params.followText "set-order"
  · exact .inr rfl
  · exact .inl rfl
abbrev emptyS (w : World) : Obj := { cls := .type "set", dict := none, data := .set #[] 0 (.fresh 0 0 (!w.params.followText "set-order")) }
set_option maxRecDepth 100000 in
set_option maxHeartbeats 3200000 in
/-- set(a list of texts) -/
theorem set_of_list {l : Addr} {items : Array Value} (xs : List Str) {Q : Value → Shared → Prop} (hh : A.handled = none) (hl : s.heap.IsList l items) (hit : StrsAre items.toList xs) (hb : xs.length + 1 < scanBound)
    (h : ∀ (h' : Heap) (tk : Nat), SetT w h' s.heap.objs.size (dd xs) → (∀ b o, s.heap.get? b = some o → h'.get? b = some o) → Q (.ref s.heap.objs.size) { s with heap := h', toks := tk }) :
    wpAny (model P w) A (call (.type "set") [.ref l]) Q E s := by
  have hisz : items.size = xs.length := by
    have q := hit.length
    rw [Array.length_toList] at q
    exact q
  obtain ⟨c, tl, hmro⟩ := F.called_set.mro
  have hmade := F.called_set.made
  have hsub := F.called_set.sub
  refine wpAny_call (codeAny_of_tree ?_)
  show wpAny _ _ (callAny (.type "set") _) _ _ _
  refine wpAny_pure ⟨Code.quiet_builtin _ (by decide +kernel), codeAny_builtin F.entry_type_call ?_⟩
  rw [Around.under_plain (weight_type_call_type "set" [.ref l] []) rfl]
  have h1 := F.called_set.notType
  have h2 := F.called_set.canCreate
  have hct := F.typeCall_set_1 (.ref l)
  repeat (any_goals (first | assumption | wp_step))
  refine codeAny_mono (code_set_led1 (.ref l) (E := E) (Q₁ := fun obj z => obj = .ref s.heap.objs.size ∧ z = { s with heap := s.heap.push (emptyS w) }) ⟨rfl, rfl⟩) fun r z hr => ?_
  cases r with
  | error e => exact hr
  | ok fl =>
    cases fl with
    | ret obj =>
      obtain ⟨rfl, rfl⟩ := hr
      have hS : (s.heap.push (emptyS w)).get? s.heap.objs.size = some (emptyS w) := Heap.get?_push_size _ rfl
      have hT : Shared.TypeIs { s with heap := s.heap.push (emptyS w) } (.ref s.heap.objs.size) "set" := ⟨_, hS, rfl⟩
      have hli := F.called_set.init.lookup
      have hbi := F.called_set.init.bind (.ref s.heap.objs.size)
      repeat (any_goals (first | assumption | wp_step))
      refine codeAny_mono (codeAny_call_builtin (R := wants (fun r z2 => r = .none ∧ ∃ h' tk, z2 = { s with heap := h', toks := tk } ∧ SetT w h' s.heap.objs.size (dd xs) ∧
          (∀ b o, s.heap.get? b = some o → h'.get? b = some o)) E) F.called_set.init.plain F.entry_set_init (check_set_init_1 hT ?_)) fun r2 z2 hr2 => ?_
      · obtain ⟨ol, hol, hcl, nl, hdl⟩ := hl
        obtain ⟨ocls, odict, odata, oslots⟩ := ol
        simp only at hcl hdl
        subst hcl; subst hdl
        have hol' : (s.heap.push (emptyS w)).get? l = some { cls := .type "list", dict := odict, data := .seq items nl, slots := oslots } := Heap.get?_push_of_some _ hol
        have hsls := F.sub_list_set
        have hslf := F.sub_list_frozenset
        have hne : (Value.type "list" == Value.type "dict") = false := by decide
        have hl1 : (s.heap.push (emptyS w)).IsList l items := ⟨_, hol', rfl, nl, rfl⟩
        unfold Builtin.«set.__init__» noKeywords Builtin.Frozenset.updateFrom
        generalize hPI : pyIter = PI
        wp_walk
        subst hPI
        refine wpAny_pyIter_list hl1 ?_
        refine wpAny_bind (wpAny_runValue ?_)
        have hlS : l < s.heap.objs.size := Heap.lt_size hol
        have hh3 : A.in1.in1.in1.handled = none := by simp [hh]
        have hneI : l ≠ (s.heap.push (emptyS w)).objs.size := by
          rw [Heap.size_push]
          exact Nat.ne_of_lt (Nat.lt_succ_of_lt hlS)
        have hSf : s.heap.objs.size ∉ [(s.heap.push (emptyS w)).objs.size, l] := by
          rw [Heap.size_push]
          simp only [List.mem_cons, List.mem_singleton, List.not_mem_nil, or_false, not_or]
          exact ⟨Nat.ne_of_lt (Nat.lt_succ_self _), Nat.ne_of_gt hlS⟩
        have hval : ∀ (i : Nat) (v : Value), items[i]? = some v → ∃ k t, xs[i]? = some k ∧ v = .str k t := fun i v hv => by
          have hi : i < xs.length := by
            rw [← hisz]
            exact (Array.getElem?_eq_some_iff.mp hv).1
          obtain ⟨t, e⟩ := SS.strs_at hit i v (by rw [Array.getElem?_toList]; exact hv)
          refine ⟨xs[i], t, List.getElem?_eq_getElem hi, ?_⟩
          rw [e, List.getD_eq_getElem?_getD, List.getElem?_eq_getElem hi]
          rfl
        refine into_set ((Walks.list hh3 _ l hneI items).toS) s.heap.objs.size hSf xs hisz hb hval (items.size - 0) 0 _ (by omega) (Nat.zero_le _)
          ⟨⟨_, Heap.get?_push_size _ rfl, rfl, rfl⟩, (hl1.push _)⟩ ?hS0 ?hR
        case hS0 => exact new_at (Heap.get?_push_of_some _ hS)
        case hR =>
          intro z3 hm hS'
          obtain ⟨h', g2, d', tk', os'⟩ := z3
          have eg : g2 = s.gens := hm.gens
          have ed : d' = s.drawn := hm.drawn
          have eo : os' = s.os := hm.os
          subst eg; subst ed; subst eo
          show wpAny _ _ _ _ _ _
          refine wpAny_pure ?_
          show wpAny _ _ (ret Value.none) _ _ _
          refine wpAny_pure ⟨rfl, h', tk', rfl, hS', fun b o e => ?_⟩
          have hb0 : b < s.heap.objs.size := Heap.lt_size e
          have hb1 : b ≠ s.heap.objs.size := Nat.ne_of_lt hb0
          have hb2 : b ≠ (s.heap.push (emptyS w)).objs.size := by
            rw [Heap.size_push]
            exact Nat.ne_of_lt (Nat.lt_succ_of_lt hb0)
          refine hm.heap b o ?_ (Heap.get?_push_of_some _ (Heap.get?_push_of_some _ e))
          simp only [List.mem_cons, List.mem_singleton, List.not_mem_nil, or_false, not_or]
          exact ⟨hb1, hb2⟩
      · cases r2 with
        | error e => exact hr2
        | ok fl2 =>
          cases fl2 with
          | ret r =>
            obtain ⟨rfl, h', tk, rfl, hS', hk'⟩ := hr2
            repeat (any_goals (first | assumption | wp_step))
            exact h _ _ hS' hk'
          | _ => exact hr2.elim
    | _ => exact hr.elim
end
end TxSet
set_option Elab.async false
set_option linter.all false
set_option maxRecDepth 100000
set_option maxHeartbeats 2000000
namespace TxSet
open PySem PySem.Spec PyProof.Rows L2
theorem strs_map : ∀ (l : List Value), (∀ v ∈ l, ∃ k tk, v = Value.str k tk) → ∃ ss : List Str, StrsAre l ss ∧ ss = l.map (fun v => txt (0, v))
  | [], _ => ⟨[], .nil, rfl⟩
  | v :: l, h => by
    obtain ⟨k, tk, rfl⟩ := h v List.mem_cons_self
    obtain ⟨ss, h1, h2⟩ := strs_map l fun u hu => h u (List.mem_cons_of_mem _ hu)
    exact ⟨k :: ss, .cons k tk h1, by rw [h2]; rfl⟩
section
variable {P : Program} {w : World} {A : Around} {E : Value → Shared → Prop} {s : Shared} {a : Addr} {L : List Str}
/-- sorted(a set of texts) -/
theorem sorted_txt {Q : Value → Shared → Prop} (R : SetT w s.heap a L) (hh : A.handled = none) (h64 : L.length < 64)
    (hQ : ∀ z p (out : Array Value) (c : Nat) (ys : List Str), (∀ b o, s.heap.get? b = some o → z.heap.get? b = some o) → z.gens = s.gens → z.os = s.os → s.heap.objs.size ≤ p →
      z.heap.get? p = some (seqObj "list" out c) → StrsAre out.toList ys → ys.Perm L → sortedS ys = true → Q (.ref p) z) :
    wpAny (model P w) A (call (.builtin "sorted") [.ref a]) Q E s := by
  obtain ⟨o, es, ep, t, ho, hex, hd, g, pm0, nd, hb, hf, hr, hl⟩ := R
  refine Calls.call_function_entry kind_sorted plain_sorted entry_sorted (args_sorted1 _) ?_
  unfold Builtin.«sorted»
  refine wpAny_bind (m := checkCount "sorted" 1 1 _) (wpAny_pure ?_)
  refine wpAny_bind (collect_set (A := A.in1) hh ⟨o, ho, hex.1, hd⟩ hf hb hr hl fun s1 vs k1 hz g1 o1 pm => ?_)
  obtain ⟨ss, hI, e1⟩ := strs_map vs fun v hv => by
    obtain ⟨e, he, q⟩ := List.mem_map.mp (pm.mem_iff.mp hv)
    obtain ⟨k, tk, h1, _⟩ := g e he
    exact ⟨k, tk, by rw [← q]; exact h1⟩
  have pk : ss.Perm L := by
    have q := pm.map (fun v => txt (0, v))
    rw [List.map_map, ← e1] at q
    exact q.trans pm0
  have hvl : vs.length < 64 := by
    have z := hI.length
    rw [z, pk.length_eq]
    exact h64
  refine wpAny_bind (wpAny_newList ?_ (by rw [sizeLine_eq]; omega))
  have hoL : (s1.heap.push (seqObj "list" vs.toArray 0)).get? s1.heap.objs.size = some (seqObj "list" vs.toArray 0) := Heap.get?_push_size _ rfl
  refine wpAny_bind (wpAny_holding (wpAny_call_entry slot_list_sort ⟨_, hoL, rfl⟩ entry_list_sort
    (list_sort_treeK strKind_oneLt hoL hI.keysOf (fun v1 v2 rest e => keyKind_strs (by rw [← e]; exact hI)) hvl fun st' hp hs => ?_) (args_list_sort _)))
  obtain ⟨ys, g1', g2', g3'⟩ := sorted_out_str hI hp hs
  refine ⟨_, rfl, ?_⟩
  obtain ⟨c, hc⟩ := sortedHeap_at (vs := vs) (out := _) hoL
  refine wpAny_pure ⟨_, rfl, hQ _ s1.heap.objs.size _ c ys (fun b u e => ?_) g1 o1 hz hc g1' (g2'.trans pk) g3'⟩
  have q := k1 b u e
  have hlt := Heap.lt_size q
  show (sortedHeap (s1.heap.push (seqObj "list" vs.toArray 0)) s1.heap.objs.size vs _).get? b = some u
  rw [sortedHeap_old (Nat.ne_of_lt hlt) (by rw [size_push']; exact Nat.lt_succ_of_lt hlt)]
  exact Heap.get?_push_of_some _ q
end
/-- of two risings of the same texts there is one -/
def tle (x y : Str) : Prop := x.cps.toList ≤ y.cps.toList
theorem rising_all : ∀ (r : List Str) (x : Str), risingS x r = true → (∀ y ∈ r, tle x y) ∧ r.Pairwise tle
  | [], _, _ => ⟨(fun _ h => nomatch h), List.Pairwise.nil⟩
  | y :: r, x, h => by
    have h' : (!Spec.ltCps y.cps.toList x.cps.toList && risingS y r) = true := h
    rw [Bool.and_eq_true, Bool.not_eq_true', ltCps_eq, decide_eq_false_iff_not] at h'
    obtain ⟨h1, h2⟩ := h'
    have hxy : tle x y := List.not_lt.mp h1
    obtain ⟨a1, a2⟩ := rising_all r y h2
    refine ⟨fun z hz => ?_, List.pairwise_cons.mpr ⟨a1, a2⟩⟩
    rcases List.mem_cons.mp hz with e | hz
    · rw [e]
      exact hxy
    · exact List.le_trans hxy (a1 z hz)
theorem sorted_pair : ∀ l : List Str, sortedS l = true → l.Pairwise tle
  | [], _ => List.Pairwise.nil
  | x :: r, h => by
    obtain ⟨a1, a2⟩ := rising_all r x h
    exact List.pairwise_cons.mpr ⟨a1, a2⟩
theorem one_rising {xs ys zs : List Str} (h1 : ys.Perm xs) (s1 : sortedS ys = true) (h2 : zs.Perm xs) (s2 : sortedS zs = true) : ys = zs := by
  refine List.Perm.eq_of_pairwise (le := tle) (fun a b _ _ p q => ?_) (sorted_pair ys s1) (sorted_pair zs s2) (h1.trans h2.symm)
  have e : a.cps.toList = b.cps.toList := List.le_antisymm p q
  obtain ⟨a⟩ := a
  obtain ⟨b⟩ := b
  have e' : a = b := Array.toList_inj.mp e
  rw [e']
/-- as many as there are: no two are one -/
theorem ins_mem (L : List Str) (k x : Str) : x ∈ ins L k ↔ x = k ∨ x ∈ L := by
  unfold ins
  split
  · rename_i h
    exact ⟨.inr, fun z => z.elim (fun e => e ▸ h) id⟩
  · rw [List.mem_cons]
theorem dd_go : ∀ (xs L : List Str), (xs.foldl ins L).length ≤ L.length + xs.length ∧ (∀ x, x ∈ xs.foldl ins L ↔ x ∈ L ∨ x ∈ xs) ∧ ((xs.foldl ins L).length = L.length + xs.length ↔ xs.Nodup ∧ ∀ x ∈ xs, x ∉ L)
  | [], L => ⟨Nat.le_refl _, fun x => by simp, by simp⟩
  | y :: xs, L => by
    obtain ⟨a1, a2, a3⟩ := dd_go xs (ins L y)
    have l1 := ins_len L y
    rw [List.foldl_cons]
    refine ⟨by rw [List.length_cons]; omega, fun x => ?_, ?_⟩
    · rw [a2 x, ins_mem, List.mem_cons]
      constructor
      · rintro ((e | h) | h)
        · exact .inr (.inl e)
        · exact .inl h
        · exact .inr (.inr h)
      · rintro (h | e | h)
        · exact .inl (.inr h)
        · exact .inl (.inl e)
        · exact .inr h
    · by_cases hy : y ∈ L
      · have e : ins L y = L := if_pos hy
        rw [e] at a1 ⊢
        constructor
        · intro z
          rw [List.length_cons] at z
          omega
        · rintro ⟨_, z⟩
          exact absurd hy (z y List.mem_cons_self)
      · have e : ins L y = y :: L := if_neg hy
        rw [e] at a3 ⊢
        rw [List.length_cons] at a3 ⊢
        rw [show L.length + (xs.length + 1) = L.length + 1 + xs.length by omega, a3, List.nodup_cons]
        constructor
        · rintro ⟨h1, h2⟩
          refine ⟨⟨fun z => h2 y z List.mem_cons_self, h1⟩, fun x hx => ?_⟩
          rcases List.mem_cons.mp hx with e | hx
          · rw [e]
            exact hy
          · exact fun z => h2 x hx (List.mem_cons_of_mem _ z)
        · rintro ⟨⟨h1, h2⟩, h3⟩
          refine ⟨h2, fun x hx z => ?_⟩
          rcases List.mem_cons.mp z with e | z
          · exact h1 (e ▸ hx)
          · exact h3 x (List.mem_cons_of_mem _ hx) z
theorem dd_full (xs : List Str) : (dd xs).length = xs.length ↔ xs.Nodup := by
  have h := (dd_go xs []).2.2
  rw [List.length_nil, Nat.zero_add] at h
  show (xs.foldl ins []).length = xs.length ↔ _
  rw [h]
  exact ⟨fun z => z.1, fun z => ⟨z, fun _ _ q => nomatch q⟩⟩
theorem dd_mem (xs : List Str) (x : Str) : x ∈ dd xs ↔ x ∈ xs := by
  have h := (dd_go xs []).2.1 x
  show x ∈ xs.foldl ins [] ↔ _
  rw [h]
  exact ⟨fun z => z.elim (fun q => nomatch q) id, .inr⟩
theorem ins_nodup {L : List Str} (h : L.Nodup) (k : Str) : (ins L k).Nodup := by
  unfold ins
  split
  · exact h
  · rename_i z
    exact List.nodup_cons.mpr ⟨z, h⟩
theorem dd_nodup (xs : List Str) : (dd xs).Nodup := by
  have go : ∀ (xs L : List Str), L.Nodup → (xs.foldl ins L).Nodup := by
    intro xs
    induction xs with
    | nil => intro L h; exact h
    | cons x xs ih => intro L h; exact ih _ (ins_nodup h x)
  exact go xs [] List.nodup_nil
end TxSet
namespace L2
open PySem PySem.Spec PyProof.Rows
/-- len(set(xs)) -/
def tLenSetT (K : PySem.W.Frag) (ta : TE) : TE := fun σ H Q => ta σ H fun x H1 => ∃ (l : Addr) (xs : List Str), x = .ref l ∧ SqL K H1 l (xs.map V.str) ∧ xs.length ≤ 4000 ∧ Q (.int ((TxSet.dd xs).length : Nat)) H1
theorem pe_lenSetT {X : Cx} {a : Expr} {ta : TE} {p p2 q pos : Pos} (hc : X.calm = true) (hg : Gl X "len") (hm : X.mg "len" = none) (hg2 : Gl X "set") (hm2 : X.mg "set" = none) (ha : PE X a ta)
    (na : starEach [a] X.env = (false, eval a X.env) :: starEach [] X.env := by rfl) : PE X (.Call (.Name "len" p) [.Call (.Name "set" p2) [a] [] q] [] pos) (tLenSetT X.K ta) := by
  refine ⟨fun pins s σ H Q I h => ?_⟩
  refine Call_ (ld_blt I hg hm boot_len ?_)
  refine PyProof.Rows.callWith_builtin1 (PyProof.Rows.args_cons ?_ rfl) rfl rfl
  refine Call_ (ld_blt I hg2 hm2 boot_set ?_)
  refine PyProof.Rows.callWith_type1 (PyProof.Rows.args_cons (thn (ha.run pins s σ H _ I h) fun v s1 ⟨x, H1, I1, r1, q1⟩ => PyProof.Rows.args_nil ?_) na) na rfl
  obtain ⟨l, xs, rfl, hq, hl, q1⟩ := q1
  cases r1
  obtain ⟨its, r, pl, hz⟩ := I1.list hq
  refine TxSet.set_of_list xs (I1.ok.hd hc) pl.isList (by simpa using strsAre_of r) (by unfold scanBound; omega) fun h' tk hS hk => ?_
  refine PyProof.Rows.args_nil ?_
  obtain ⟨o, es, ep, t, ho, hex, hd, _, pm, _, hb, hf, _⟩ := hS
  have hn : es.size = (TxSet.dd xs).length := by
    have z := pm.length_eq
    rw [List.length_map, Array.length_toList] at z
    exact z
  have I2 : Inv X pins σ H1 { s1 with heap := h', toks := tk } := I1.kept fun b o e => hk b o e
  refine call_len_set ho hex hd hf ?_ ⟨.int ((TxSet.dd xs).length : Nat), H1, I2.tok _, ⟨_, by rw [hn]⟩, q1⟩
  have hb' : es.size < 4096 := hb
  omega
/-- sorted(set(xs)) -/
def tSortSetT (K : PySem.W.Frag) (ta : TE) : TE := fun σ H Q => ta σ H fun x H1 => ∃ (l : Addr) (xs : List Str), x = .ref l ∧ SqL K H1 l (xs.map V.str) ∧ xs.length ≤ 4000 ∧ (TxSet.dd xs).length < 64 ∧
  ∀ (ys : List Str) (p : Addr), ys.Perm (TxSet.dd xs) → sortedS ys = true → H1 p = none → Q (.ref p) (upd H1 p (.lst (ys.map V.str)))
theorem pe_sortSetT {X : Cx} {a : Expr} {ta : TE} {p p2 q pos : Pos} (hc : X.calm = true) (hg : Gl X "sorted") (hm : X.mg "sorted" = none) (hg2 : Gl X "set") (hm2 : X.mg "set" = none) (ha : PE X a ta)
    (na : starEach [a] X.env = (false, eval a X.env) :: starEach [] X.env := by rfl) : PE X (.Call (.Name "sorted" p) [.Call (.Name "set" p2) [a] [] q] [] pos) (tSortSetT X.K ta) := by
  refine ⟨fun pins s σ H Q I h => ?_⟩
  refine Call_ (ld_blt I hg hm boot_sorted ?_)
  refine PyProof.Rows.callWith_builtin1 (PyProof.Rows.args_cons ?_ rfl) rfl rfl
  refine Call_ (ld_blt I hg2 hm2 boot_set ?_)
  refine PyProof.Rows.callWith_type1 (PyProof.Rows.args_cons (thn (ha.run pins s σ H _ I h) fun v s1 ⟨x, H1, I1, r1, q1⟩ => PyProof.Rows.args_nil ?_) na) na rfl
  obtain ⟨l, xs, rfl, hq, hl, h64, q1⟩ := q1
  cases r1
  obtain ⟨its, r, pl, hz⟩ := I1.list hq
  refine TxSet.set_of_list xs (I1.ok.hd hc) pl.isList (by simpa using strsAre_of r) (by unfold scanBound; omega) fun h' tk hS hk => ?_
  refine PyProof.Rows.args_nil ?_
  refine TxSet.sorted_txt (s := { s1 with heap := h', toks := tk }) hS (I1.ok.hd hc) h64 fun z p out c ys k2 g2 o2 hp hout hys hperm hsort => ?_
  have old : ∀ b o, s1.heap.get? b = some o → z.heap.get? b = some o := fun b o e => k2 b o (hk b o e)
  have hge : s1.heap.objs.size ≤ p := by
    have h1 : s1.heap.objs.size ≤ h'.objs.size := by
      obtain ⟨o, _, _, _, ho, _⟩ := hS
      exact Nat.le_of_lt (Heap.lt_size ho)
    exact Nat.le_trans h1 hp
  have hlen : (ys.map V.str).length ≤ sizeLine := by
    rw [List.length_map, hperm.length_eq]
    exact Nat.le_of_lt (Nat.lt_of_lt_of_le h64 (by decide))
  obtain ⟨zh, zg, zd, zt, zo⟩ := z
  obtain rfl : zg = s1.gens := g2
  obtain rfl : zo = s1.os := o2
  have hn : H1 p = none := I1.hok.fresh hge
  have J : Inv X pins σ (upd H1 p (.lst (ys.map V.str))) { s1 with heap := zh, gens := s1.gens, drawn := zd, toks := zt } :=
    I1.call (ch := []) (Un.laid old hge hn) (I1.hok.laid old hge ⟨hlen, out.toList, c, vals_of_strs hys, hout⟩) I1.bare (fun _ z => nomatch z)
  exact ⟨.ref p, _, J, rfl, q1 ys p hperm hsort hn⟩
end L2
set_option Elab.async false
set_option linter.all false
set_option maxRecDepth 100000
set_option maxHeartbeats 2000000
/-! An object made in a try; what a suite asks of the own error that it holds. -/
namespace L2
open PySem PySem.Spec PyProof.Rows
/-- C(e, ..) in a try: a new instance, then __init__, which may raise -/
def tMakeS (C : Addr) (sp : Sp) (E : St → XK) (t : TA) : TE := fun σ H Q => t σ H fun vs H1 => ∀ y dy, H1 y = none → H1 dy = none → dy ≠ y → sp (.ref y :: vs) (upd (upd H1 dy (.own y)) y (.ins C dy [])) (fun v H2 => v = .non ∧ Q (.ref y) H2) (E σ)
def tMakeKS (C : Addr) (m : Nat) (sp : Sp) (gV : List V → List V → List V) (E : St → XK) (tk : TA) : TE := fun σ H Q => tk σ H fun zs H1 => zs.length = m ∧ ∀ y dy, H1 y = none → H1 dy = none → dy ≠ y → sp (gV [.ref y] zs) (upd (upd H1 dy (.own y)) y (.ins C dy [])) (fun v H2 => v = .non ∧ Q (.ref y) H2) (E σ)
section
variable {X : Cx} {CX : CXT} {k : Nat} {f C : Addr} {fd : FuncData} {ps ks : List Str} {sp : Sp} {x : Str} {p pos : Pos} {e : Expr} {es : List Expr} {kws : List Keyword} {t tk : TA} {E : St → XK}
variable {g : List Value → List Value → List Value} {gV : List V → List V → List V}
/-- the class is called with us and keywords, its __init__ bound to qs -/
theorem run_makeS {pins : List (Addr × Obj)} {σ : St} {H : Hp} {s : Shared} {Q : VK} {us ws qs : List Value} {vs : List V} (M : Mk X.K C f) (F : FnOk X.prog X.w X.K X.mg X.base CX k f fd ps sp) (hr : Room (k + 1) X.A) (hx : ∀ σ, PassesAt CX X σ (E σ)) (I : Inv X pins σ H s)
    (hb : ∀ z : Shared, X.K.In z.heap → BindsTo z fd ⟨.ref (s.heap.objs.size + 1) :: us, ks.zip ws⟩ (ps.zip qs)) (r : Vals vs qs)
    (h : sp vs (upd (upd H s.heap.objs.size (.own (s.heap.objs.size + 1))) (s.heap.objs.size + 1) (.ins C s.heap.objs.size [])) (fun v H2 => v = .non ∧ Q (.ref (s.heap.objs.size + 1)) H2) (E σ)) :
    wpAny (model X.prog X.w) X.A (call (.ref C) us (ks.zip ws)) (EP X pins σ Q) X.xe s := by
  have J := Inv.made (C := C) I
  have ran := F.run _ X.stack _ _ ⟨Value.ref (s.heap.objs.size + 1) :: us, ks.zip ws⟩ qs vs _ (E σ) (hr.make C us (ks.zip ws)) (J.env0.make C us (ks.zip ws)) (hb _ J.kIn) r h
  refine wpAny_call (make_map (f := f) I.kIn M.makes M.init (beq_iff_eq.mp M.fn) (codeAny_mono ran fun rr z hz => ?_))
  rcases rr with er | (u | _ | _ | _) <;> first | exact hx σ pins _ _ er z J hz | exact hz.elim | skip
  obtain ⟨v, H', J2, rv, ev, q3⟩ := J.after hz
  subst ev
  exact ⟨rv, V.ref (s.heap.objs.size + 1), H', J2, rfl, q3⟩
theorem pe_makeS (M : Mk X.K C f) (F : FnOk X.prog X.w X.K X.mg X.base CX k f fd ps sp) (hr : Room (k + 1) X.A) (hg : Gl X x) (hm : X.mg x = some (.ref C)) (hb : Binds X.K fd ps []) (hx : ∀ σ, PassesAt CX X σ (E σ)) (ha : PA X (e :: es) t)
    (hdb : (x == ("__debug__" : Str)) = false := by decide) (hs : starEach (e :: es) X.env = (false, eval e X.env) :: starEach es X.env := by rfl) (hpl : (backTo pos (starEach es X.env)).any (·.1) = false := by rfl) :
    PE X (.Call (.Name x p) (e :: es) [] pos) (tMakeS C sp E t) := by
  refine ⟨fun pins s σ H Q I h => wpAny_Call_Name_kw (ld_glob I hg hm ?_ hdb)⟩
  refine PySem.W.callWith_K (h₀ := X.base) I.ok.mod.kin M.kp (thn (ha.run pos pins s σ H _ I h) fun us z ⟨vs, H1, J, r, q⟩ => ⟨J.kIn, ?_⟩) hs hpl
  have hq := q (z.heap.objs.size + 1) z.heap.objs.size (J.hok.fresh (Nat.le_succ _)) (J.hok.fresh (Nat.le_refl _)) (Nat.ne_of_lt (Nat.lt_succ_self _))
  have r2 : Vals (V.ref (z.heap.objs.size + 1) :: vs) (Value.ref (z.heap.objs.size + 1) :: us) := .cons rfl r
  have hl : (Value.ref (z.heap.objs.size + 1) :: us).length = ps.length := by
    rw [← r2.length]
    exact F.len _ _ _ _ hq
  refine run_makeS (ks := []) (ws := []) M F hr hx J (fun y hy => ?_) r2 hq
  have b := hb y (Value.ref (z.heap.objs.size + 1) :: us) hy (by rw [List.append_nil]; exact hl)
  rw [List.append_nil] at b
  exact b
theorem pe_makeKS (M : Mk X.K C f) (F : FnOk X.prog X.w X.K X.mg X.base CX k f fd ps sp) (hr : Room (k + 1) X.A) (hg : Gl X x) (hm : X.mg x = some (.ref C)) (hb : KBn X.K fd ps 1 ks g gV) (hx : ∀ σ, PassesAt CX X σ (E σ)) (hkw : PK X kws tk)
    (hall : (backToKw pos (keywordEach kws X.env)).all (·.1.isSome) = true := by rfl) (hks : (backToKw pos (keywordEach kws X.env)).filterMap (·.1) = ks := by rfl) (hdb : (x == ("__debug__" : Str)) = false := by decide)
    (hpl : ((backTo pos (starEach [] X.env)).any (·.1) || (backToKw pos (keywordEach kws X.env)).any (·.1.isNone)) = false := by rfl) :
    PE X (.Call (.Name x p) [] kws pos) (tMakeKS C ks.length sp gV E tk) := by
  refine ⟨fun pins s σ H Q I h => wpAny_Call_Name_kw (ld_glob I hg hm ?_ hdb)⟩
  refine PySem.W.callWith_KW0 (h₀ := X.base) I.ok.mod.kin M.kp hall ?_ hpl
  refine thn (hkw.run pos pins s σ H _ I h) fun ws z ⟨zs, H1, J, rz, l2, q⟩ => ⟨J.kIn, ?_⟩
  rw [hks]
  have hq := q (z.heap.objs.size + 1) z.heap.objs.size (J.hok.fresh (Nat.le_succ _)) (J.hok.fresh (Nat.le_refl _)) (Nat.ne_of_lt (Nat.lt_succ_self _))
  have r1 : Vals [V.ref (z.heap.objs.size + 1)] [Value.ref (z.heap.objs.size + 1)] := .cons rfl .nil
  exact run_makeS (us := []) M F hr hx J (fun y hy => hb.to y [Value.ref (z.heap.objs.size + 1)] ws hy rfl (rz.length.symm.trans l2)) (hb.rel r1 rz) hq
end
/-! ### the error that a suite holds -/
/-- isinstance(e, c) -/
def rIsS (K : PySem.W.Frag) (a : Addr) (cls : Value) (d : Option Addr) : List V → Hp → VK → Prop := fun xs H Q => ∃ (D dd : Addr) (fs : List (Str × V)) (c : V) (u : Value) (b : Bool), cls = .ref D ∧ d = some dd ∧ ExcW K D ∧ xs = [.ref a, c] ∧ ClsV c u ∧ H dd = some (.xd fs) ∧ PySem.W.kitOne K (.ref D) u = some b ∧ Q (.bl b) H
/-- isinstance(e, (c, ..)) -/
def rIsST (K : PySem.W.Frag) (a : Addr) (cls : Value) (d : Option Addr) : List V → Hp → VK → Prop := fun xs H Q => ∃ (D dd : Addr) (fs : List (Str × V)) (tp : Addr) (cs : List V) (us : List Value) (b : Bool), cls = .ref D ∧ d = some dd ∧ ExcW K D ∧ xs = [.ref a, .ref tp] ∧ H tp = some (.tup cs) ∧ Paired ClsV cs us ∧ H dd = some (.xd fs) ∧ PySem.W.kitAny K (.ref D) us = some b ∧ Q (.bl b) H
/-- e.f -/
def tValS (K : PySem.W.Frag) (f : Str) (a : Addr) (cls : Value) (d : Option Addr) (te : TE) : TE := fun σ H Q => te σ H fun x H1 => ∃ (D dd : Addr) (fs : List (Str × V)) (v : V), x = .ref a ∧ cls = .ref D ∧ d = some dd ∧ ExcW K D ∧ PySem.W.findIn K (.ref D) f = some none ∧ H1 dd = some (.xd fs) ∧ fs.lookup f = some v ∧ Q v H1
section
variable {X : Cx} {a : Addr} {oe : Obj} {cls : Value} {d : Option Addr} {pn : List (Addr × Obj)}
theorem held_at {pins : List (Addr × Obj)} {σ : St} {H : Hp} {s : Shared} {D dd : Addr} {fs : List (Str × V)} (I : Inv (X.suite a ((a, oe) :: pn)) pins σ H s) (hz : Zc (.ref D) (some dd) oe) (hf : ∃ vs, oe.data = .fields vs) (hd : H dd = some (.xd fs)) :
    ∃ od : Obj, PySem.W.InstAt s.heap a oe D (some od) ∧ ∀ (f : Str) (v : V), fs.lookup f = some v → ∃ u, PySem.W.lookIn f od = some (some u) ∧ RelV v u := by
  obtain ⟨ha, _⟩ := I.pin (a, oe) (List.mem_append_left _ List.mem_cons_self)
  obtain ⟨vs, hdat⟩ := hf
  have hx : ObjOk X.prog X.w H s.heap dd (.xd fs) := I.hok dd _ hd
  obtain ⟨mA, hns, hr⟩ := hx
  obtain ⟨od, ho, hl⟩ := lookIn_ns hns
  refine ⟨od, ⟨ha, hz.1, by unfold PySem.W.notCls; rw [hdat] <;> rfl, by rw [hz.2]; exact ho⟩, fun f v e => ?_⟩
  obtain ⟨u, hu, ru⟩ := RelO.some_of (v := v) (o := mA f) (by rw [← e]; exact hr f)
  exact ⟨u, by rw [hl, hu], ru⟩
theorem call_isS (hz : Zc cls d oe) (hf : ∃ vs, oe.data = .fields vs) : CallR (X.suite a ((a, oe) :: pn)) (.builtin "isinstance") (rIsS X.K a cls d) := by
  intro pins s σ H xs us Q I r h
  obtain ⟨D, dd, fs, c, u, b, rfl, rfl, T, rfl, k, hd, e, q⟩ := h
  obtain ⟨u1, u2, rfl, r1, r2⟩ := vals2 r
  have e2 := k.eq r2
  subst e2
  obtain rfl : u1 = Value.ref a := r1
  obtain ⟨od, J, _⟩ := held_at I hz hf hd
  exact PySem.W.kia_one (PySem.W.kitx_exc T.is1 T.ga T.gg T.ex T.ca T.sg T.tk T.ob) I.kIn J e (fun z => nomatch z) fun tk' => ⟨.bl b, H, I.tok tk', rfl, q⟩
theorem call_isST (hz : Zc cls d oe) (hf : ∃ vs, oe.data = .fields vs) : CallR (X.suite a ((a, oe) :: pn)) (.builtin "isinstance") (rIsST X.K a cls d) := by
  intro pins s σ H xs us Q I r h
  obtain ⟨D, dd, fs, tp, cs, ws, b, rfl, rfl, T, rfl, hT, k, hd, e, q⟩ := h
  obtain ⟨u1, u2, rfl, r1, r2⟩ := vals2 r
  obtain rfl : u1 = Value.ref a := r1
  cases (show u2 = Value.ref tp from r2)
  obtain ⟨od, J, _⟩ := held_at I hz hf hd
  obtain ⟨_, its, rv, o, h1, h2, n, h3⟩ := (show ObjOk X.prog X.w H s.heap tp (.tup cs) from I.hok tp _ hT)
  have e3 := ClsV.all k rv
  subst e3
  obtain ⟨oc, od2, dt, sl⟩ := o
  simp only at h2 h3
  subst h2 h3
  exact PySem.W.kia_tup (PySem.W.kitx_exc T.is1 T.ga T.gg T.ex T.ca T.sg T.tk T.ob) I.kIn J h1 e (fun z => nomatch z) fun tk' => ⟨.bl b, H, I.tok tk', rfl, q⟩
theorem pe_valS {e : Expr} {te : TE} {f : Str} {pos : Pos} (hz : Zc cls d oe) (hf : ∃ vs, oe.data = .fields vs) (he : PE (X.suite a ((a, oe) :: pn)) e te) (hb : attributeBase e f X.env (eval e X.env) = eval e X.env := by rfl) :
    PE (X.suite a ((a, oe) :: pn)) (.Attribute e f pos) (tValS X.K f a cls d te) := by
  refine ⟨fun pins s σ H Q I h => attr_of hb (thn (he.run pins s σ H _ I h) fun u s1 hh => ?_)⟩
  obtain ⟨y, H1, J1, ry, D, dd, fs, v, rfl, rfl, rfl, T, hno, hd, hl, q⟩ := hh
  obtain rfl : u = Value.ref a := ry
  obtain ⟨od, J, hfs⟩ := held_at J1 hz hf hd
  obtain ⟨w', hu, ru⟩ := hfs f v hl
  exact HandSPX.exc_get J1.kIn J T.ga T.gg T.ex (PySem.W.findObj_own T.hd hno rfl hu) (handed_of ru) ⟨v, H1, J1.tok _, ru, q⟩
end
end L2
set_option Elab.async false
set_option linter.all false
set_option maxRecDepth 100000
set_option maxHeartbeats 2000000
/-! Dicts whose keys are flat tuples of ints and texts, tracked or of the module. -/
namespace L2
open PySem PySem.Spec PyProof.Rows
def RawD (P : Program) (w : World) (a : Addr) (xs : List (List Key × Addr × Value)) (h : Heap) : Prop :=
  ∃ o es ep, h.get? a = some o ∧ o.ExactDict ∧ o.data = .dict es ep ∧ es.toList = xs.map (entryOfKey (tupleKind (mixKind P w))) ∧ (xs.map (·.1)).Nodup
abbrev KTt (K : PySem.W.Frag) (H : Hp) : List (List Key × V) → List (List Key × Addr × Value) → Prop := Paired fun p q => p.1 = q.1 ∧ SqT K H q.2.1 (p.1.map kV) ∧ RelV p.2 q.2.2
theorem rawD_mk {P : Program} {w : World} {H : Hp} {h : Heap} {a : Addr} {xs : List (List Key × Addr × Value)} (r : RawD P w a xs h) : ObjOk P w H h a (.ext (RawD P w a xs)) := by
  refine ⟨r, ?_, fun h1 h2 r1 e => ?_⟩
  · obtain ⟨o, _, _, e, _⟩ := r
    exact ⟨o, e⟩
  · obtain ⟨o, es, ep, e1, rest⟩ := r1
    exact ⟨o, es, ep, e o e1, rest⟩
/-- the dict at a holds these pairs -/
def PD (P : Program) (w : World) (K : PySem.W.Frag) (H : Hp) (a : Addr) (kvs : List (List Key × V)) : Prop :=
  kvs.length ≤ sizeLine ∧ (a == sysModules) = false ∧ ∃ xs, KTt K H kvs xs ∧ H a = some (.ext (RawD P w a xs))
theorem SqT.same {K : PySem.W.Frag} {H H1 : Hp} {a : Addr} {xs : List V} (h : SqT K H a xs) (s : Same H H1) : SqT K H1 a xs := by
  rcases h with (h | ⟨o, h⟩) | h
  · exact .inl (.inl (s _ _ h))
  · exact .inl (.inr ⟨o, s _ _ h⟩)
  · exact .inr h
/-- tuples stand -/
def TupSt (H H1 : Hp) : Prop := (∀ b xs, H b = some (.tup xs) → H1 b = some (.tup xs)) ∧ ∀ b o u, H b = some (.frz o u) → H1 b = some (.frz o u)
theorem TupSt.of {H H1 : Hp} (s : Same H H1) : TupSt H H1 := ⟨fun b xs h => s b _ h, fun b o u h => s b _ h⟩
theorem TupSt.trans {H H1 H2 : Hp} (a : TupSt H H1) (b : TupSt H1 H2) : TupSt H H2 := ⟨fun c xs h => b.1 c xs (a.1 c xs h), fun c o u h => b.2 c o u (a.2 c o u h)⟩
theorem TupSt.upd {H : Hp} {a : Addr} {o u : HO} (h : H a = some u) (n1 : ∀ xs, u ≠ .tup xs) (n2 : ∀ p q, u ≠ .frz p q) : TupSt H (upd H a o) := by
  refine ⟨fun b xs e => ?_, fun b p q e => ?_⟩
  · rw [upd_ne (ne_of e h fun z => n1 xs z.symm)]
    exact e
  · rw [upd_ne (ne_of e h fun z => n2 p q z.symm)]
    exact e
theorem SqT.st {K : PySem.W.Frag} {H H1 : Hp} {a : Addr} {xs : List V} (h : SqT K H a xs) (s : TupSt H H1) : SqT K H1 a xs := by
  rcases h with (h | ⟨o, h⟩) | h
  · exact .inl (.inl (s.1 _ _ h))
  · exact .inl (.inr ⟨o, s.2 _ _ _ h⟩)
  · exact .inr h
theorem KTt.st {K : PySem.W.Frag} {H H1 : Hp} {kvs : List (List Key × V)} {xs : List (List Key × Addr × Value)} (h : KTt K H kvs xs) (s : TupSt H H1) : KTt K H1 kvs xs :=
  Paired.mapP h fun p q z => ⟨z.1, z.2.1.st s, z.2.2⟩
theorem PD.st {P : Program} {w : World} {K : PySem.W.Frag} {H H1 : Hp} {a : Addr} {kvs : List (List Key × V)} (h : PD P w K H a kvs) (s : TupSt H H1) (e : H1 a = H a) : PD P w K H1 a kvs := by
  obtain ⟨z, hd, xs, r, ha⟩ := h
  exact ⟨z, hd, xs, r.st s, e.trans ha⟩
theorem KTt.val {K : PySem.W.Frag} {H : Hp} {kvs : List (List Key × V)} {xs : List (List Key × Addr × Value)} (r : KTt K H kvs xs) (k : List Key) : RelO (valV kvs k) ((atKey xs k).map (·.2)) := by
  induction r with
  | nil => exact True.intro
  | @cons p q ps qs h t ih =>
    obtain ⟨h1, _, h2⟩ := h
    by_cases e : p.1 = k
    · have e' : q.1 = k := h1.symm.trans e
      have b : atKey (q :: qs) k = some q.2 := by simp [atKey, List.find?_cons, e']
      rw [valV_pos e, b]; exact h2
    · have e' : ¬ q.1 = k := fun z => e (h1.trans z)
      have b : atKey (q :: qs) k = atKey qs k := by simp [atKey, List.find?_cons, e']
      rw [valV_neg e, b]; exact ih
theorem KTt.repl {K : PySem.W.Frag} {H : Hp} {kvs : List (List Key × V)} {xs : List (List Key × Addr × Value)} (r : KTt K H kvs xs) (k : List Key) {y : V} {u : Value} (ry : RelV y u) :
    KTt K H (kvs.map fun kv => if kv.1 = k then (kv.1, y) else kv) (xs.map (putAt k u)) := by
  induction r with
  | nil => exact .nil
  | @cons p q ps qs h t ih =>
    rw [List.map_cons, List.map_cons]
    refine .cons ?_ ih
    obtain ⟨h1, h2, h3⟩ := h
    unfold putAt
    by_cases e : p.1 = k
    · rw [if_pos e, if_pos (h1.symm.trans e)]; exact ⟨h1, h2, ry⟩
    · rw [if_neg e, if_neg (fun z => e (h1.trans z))]; exact ⟨h1, h2, h3⟩
theorem KTt.put {K : PySem.W.Frag} {H : Hp} {kvs : List (List Key × V)} {xs : List (List Key × Addr × Value)} (r : KTt K H kvs xs) (k : List Key) {b : Addr} {y : V} {u : Value} (hb : SqT K H b (k.map kV)) (ry : RelV y u) :
    KTt K H (putK kvs k y) (storedH xs k b u) := by
  have e : (kvs.any fun kv => decide (kv.1 = k)) = (atKey xs k).isSome := by
    rw [valV_any, (r.val k).isSome_eq, Option.isSome_map]
  unfold putK storedH
  rw [e]
  by_cases q : (atKey xs k).isSome = true
  · rw [if_pos q, if_pos q]; exact r.repl k ry
  · rw [if_neg q, if_neg q]; exact Paired.snoc r ⟨rfl, hb, ry⟩
section
variable {X : Cx} {pins : List (Addr × Obj)} {σ : St} {H : Hp} {s : Shared} {a : Addr} {y v d : V} {u r : Value} {o : Option V} {A : Around} {E : Value → Shared → Prop}
theorem key_isT {ks : List Key} {b : Addr} (I : Inv X pins σ H s) (h : SqT X.K H b (ks.map kV)) : (tupleKind (mixKind X.prog X.w)).is s.heap ks b := by
  obtain ⟨its, r, ⟨o, h1, h2, n, h3⟩, _⟩ := I.tuple h
  exact ⟨o, its.toArray, n, h1, h2, h3, by simpa using items_are r⟩
theorem pd_rd {kvs : List (List Key × V)} (I : Inv X pins σ H s) (h : PD X.prog X.w X.K H a kvs) : ∃ xs, KTt X.K H kvs xs ∧ s.heap.DictOfH (tupleKind (mixKind X.prog X.w)) a xs := by
  obtain ⟨z, hd, xs, r, ha⟩ := h
  obtain ⟨⟨o, es, ep, h1, h2, h3, h4, h5⟩, _⟩ := (show ObjOk X.prog X.w H s.heap a (.ext (RawD X.prog X.w a xs)) from I.hok a _ ha)
  refine ⟨xs, r, o, es, ep, h1, h2, h3, h4, ?_, h5⟩
  have all : ∀ {l : List (List Key × V)} {m : List (List Key × Addr × Value)}, KTt X.K H l m → ∀ x ∈ m, (tupleKind (mixKind X.prog X.w)).is s.heap x.1 x.2.1 := by
    intro l m q
    induction q with
    | nil => intro x hx; exact nomatch hx
    | @cons p q ps qs hq t ih =>
      intro x hx
      rcases List.mem_cons.mp hx with e | hx
      · subst e
        exact key_isT I (by rw [← hq.1]; exact hq.2.1)
      · exact ih x hx
  exact all r
/-- what the dict at a holds at the key y; the heap behind a[y] = v -/
def PaG (P : Program) (w : World) (K : PySem.W.Frag) (H : Hp) (a : Addr) (y : V) (r : Option V) : Prop := ∃ kvs k b, PD P w K H a kvs ∧ y = .ref b ∧ SqT K H b (k.map kV) ∧ r = valV kvs k
def PaP (P : Program) (w : World) (K : PySem.W.Frag) (H : Hp) (a : Addr) (y v : V) (D : Hp → Prop) : Prop := ∃ kvs k b, PD P w K H a kvs ∧ y = .ref b ∧ SqT K H b (k.map kV) ∧ kvs.length < sizeLine ∧
  ∀ φ, PD P w K (upd H a (.ext φ)) a (putK kvs k v) → D (upd H a (.ext φ))
theorem p_getItem {Q : Value → Shared → Prop} (hu : A.units + 1 < cLine) (I : Inv X pins σ H s) (g : PaG X.prog X.w X.K H a y (some v)) (ry : RelV y u) (h : ∀ w' s', Inv X pins σ H s' → RelV v w' → Q w' s') :
    wpAny (model X.prog X.w) A (getItem (.ref a) u) Q E s := by
  obtain ⟨kvs, k, b, hp, rfl, hb, l⟩ := g
  cases (show u = Value.ref b from ry)
  obtain ⟨xs, rel, dd⟩ := pd_rd I hp
  obtain ⟨w', hw, rw'⟩ := RelO.some_of (v := v) (o := (atKey xs k).map (·.2)) (by rw [l]; exact rel.val k)
  obtain ⟨p, hp, hp2⟩ := Option.map_eq_some_iff.mp hw
  refine wpAny_getItem_heap (tupleKind_room_in1 hu) (key_isT I hb) dd hp ?_
  rw [hp2]
  exact h w' _ (I.tok _) rw'
theorem p_in {Q : Value → Shared → Prop} (hu : A.units + 1 < cLine) (I : Inv X pins σ H s) (g : PaG X.prog X.w X.K H a y o) (ry : RelV y u) (h : ∀ s', Inv X pins σ H s' → Q (.bool o.isSome) s') :
    wpAny (model X.prog X.w) A (compareOp .In u (.ref a)) Q E s := by
  obtain ⟨kvs, k, b, hp, rfl, hb, l⟩ := g
  cases (show u = Value.ref b from ry)
  obtain ⟨xs, rel, dd⟩ := pd_rd I hp
  refine wpAny_in_heap (tupleKind_room_in1 hu) (key_isT I hb) hp.2.1 dd ?_
  have q := (rel.val k).isSome_eq
  rw [Option.isSome_map] at q
  rw [← q, ← l]
  exact h _ (I.tok _)
theorem p_notIn {Q : Value → Shared → Prop} (hu : A.units + 1 < cLine) (I : Inv X pins σ H s) (g : PaG X.prog X.w X.K H a y o) (ry : RelV y u) (h : ∀ s', Inv X pins σ H s' → Q (.bool (!o.isSome)) s') :
    wpAny (model X.prog X.w) A (compareOp .NotIn u (.ref a)) Q E s := by
  obtain ⟨kvs, k, b, hp, rfl, hb, l⟩ := g
  cases (show u = Value.ref b from ry)
  obtain ⟨xs, rel, dd⟩ := pd_rd I hp
  refine wpAny_notIn_heap (tupleKind_room_in1 hu) (key_isT I hb) hp.2.1 dd ?_
  have q := (rel.val k).isSome_eq
  rw [Option.isSome_map] at q
  rw [← q, ← l]
  exact h _ (I.tok _)
theorem p_setItem {D : Hp → Prop} {Q : Unit → Shared → Prop} (hu : A.units + 1 < cLine) (I : Inv X pins σ H s) (g : PaP X.prog X.w X.K H a y v D) (ry : RelV y u) (rv : RelV v r) (h : ∀ H' s', D H' → Inv X pins σ H' s' → Q () s') :
    wpAny (model X.prog X.w) A (setItem (.ref a) u r) Q E s := by
  obtain ⟨kvs, k, b, hp, rfl, hb, hl, kk⟩ := g
  cases (show u = Value.ref b from ry)
  obtain ⟨xs0, rel0, ha⟩ := id hp.2.2
  obtain ⟨z, hd, xs, rel, ha⟩ := id hp
  have dd : s.heap.DictOfH (tupleKind (mixKind X.prog X.w)) a xs := by
    obtain ⟨⟨o, es, ep, h1, h2, h3, h4, h5⟩, _⟩ := (show ObjOk X.prog X.w H s.heap a (.ext (RawD X.prog X.w a xs)) from I.hok a _ ha)
    refine ⟨o, es, ep, h1, h2, h3, h4, ?_, h5⟩
    have all : ∀ {l : List (List Key × V)} {m : List (List Key × Addr × Value)}, KTt X.K H l m → ∀ x ∈ m, (tupleKind (mixKind X.prog X.w)).is s.heap x.1 x.2.1 := by
      intro l m q
      induction q with
      | nil => intro x hx; exact nomatch hx
      | @cons p q ps qs hq t ih =>
        intro x hx
        rcases List.mem_cons.mp hx with e | hx
        · subst e
          exact key_isT I (by rw [← hq.1]; exact hq.2.1)
        · exact ih x hx
    exact all rel
  have hz : xs.length ≤ sizeLine := by rw [← Paired.length rel]; exact z
  refine wpAny_setItem_heap (hsz := hz) (tupleKind_room_in1 hu) (key_isT I hb) dd fun h' dd' hs => ?_
  obtain ⟨q, es, ep, hq, h2, h3, h4, _, h5⟩ := dd'
  have ts : TupSt H (upd H a (.ext (RawD X.prog X.w a (storedH xs k b r)))) := TupSt.upd ha (fun _ z => nomatch z) fun _ _ z => nomatch z
  have hl2 : (putK kvs k v).length ≤ sizeLine := by have := length_putK kvs k v; omega
  refine h _ _ (kk (RawD X.prog X.w a (storedH xs k b r)) ⟨hl2, hd, _, (rel.put k hb rv).st ts, upd_same⟩) ?_
  exact d_write I (by rw [ha]; exact True.intro) hs ⟨q, hq⟩ (rawD_mk ⟨q, es, ep, hq, h2, h3, h4, h5⟩)
theorem p_get1 {Q : Value → Shared → Prop} (hu : A.units + 1 < cLine) (I : Inv X pins σ H s) (g : PaG X.prog X.w X.K H a y o) (ry : RelV y u) (h : ∀ w' s', Inv X pins σ H s' → RelV (o.getD .non) w' → Q w' s') :
    wpAny (model X.prog X.w) A (call (.builtin "dict.get") [.ref a, u]) Q E s := by
  obtain ⟨kvs, k, b, hp, rfl, hb, l⟩ := g
  cases (show u = Value.ref b from ry)
  obtain ⟨xs, rel, dd⟩ := pd_rd I hp
  refine call_meetsIn PySem.F.slot_dict_get dd.typeIs PySem.F.entry_dict_get (PySem.F.args_dict_get_2 _ _) (meetsH_dict_get (tupleKind (mixKind X.prog X.w)) a b hp.2.1) ⟨tupleKind_room_in1 hu, k, xs, key_isT I hb, dd, h _ _ (I.tok _) ?_⟩
  rw [l]
  exact (rel.val k).getD rfl
theorem p_get2 {Q : Value → Shared → Prop} (hu : A.units + 1 < cLine) (I : Inv X pins σ H s) (g : PaG X.prog X.w X.K H a y o) (ry : RelV y u) (rd : RelV d r) (h : ∀ w' s', Inv X pins σ H s' → RelV (o.getD d) w' → Q w' s') :
    wpAny (model X.prog X.w) A (call (.builtin "dict.get") [.ref a, u, r]) Q E s := by
  obtain ⟨kvs, k, b, hp, rfl, hb, l⟩ := g
  cases (show u = Value.ref b from ry)
  obtain ⟨xs, rel, dd⟩ := pd_rd I hp
  refine call_meetsIn PySem.F.slot_dict_get dd.typeIs PySem.F.entry_dict_get (PySem.F.args_dict_get_3 _ _ _) (meetsH_dict_get_default (tupleKind (mixKind X.prog X.w)) a b hp.2.1 r) ⟨tupleKind_room_in1 hu, k, xs, key_isT I hb, dd, h _ _ (I.tok _) ?_⟩
  rw [l]
  exact (rel.val k).getD rd
theorem pd_at {kvs : List (List Key × V)} (I : Inv X pins σ H s) (h : PD X.prog X.w X.K H a kvs) :
    s.TypeIs (.ref a) "dict" ∧ (∀ b, Value.ref a = .ref b → ∃ ob, s.heap.get? b = some ob ∧ ob.dict = none) ∧ (a == sysModules) = false := by
  obtain ⟨xs, rel, dd⟩ := pd_rd I h
  refine ⟨dd.typeIs, fun b q => ?_, h.2.1⟩
  cases q
  obtain ⟨ob, _, _, h1, h2, _⟩ := dd
  exact ⟨ob, h1, h2.2.1⟩
end
/-! ### readings -/
section
variable (P : Program) (w : World) (K : PySem.W.Frag)
def tPGet (td ty : TE) : TE := fun σ H Q => td σ H fun x H1 => ty σ H1 fun y H2 => ∃ a v, x = .ref a ∧ PaG P w K H2 a y (some v) ∧ Q v H2
def tPIn (ty td : TE) : TE := fun σ H Q => ty σ H fun y H1 => td σ H1 fun x H2 => ∃ a o, x = .ref a ∧ PaG P w K H2 a y o ∧ Q (.bl o.isSome) H2
def tPNotIn (ty td : TE) : TE := fun σ H Q => ty σ H fun y H1 => td σ H1 fun x H2 => ∃ a o, x = .ref a ∧ PaG P w K H2 a y o ∧ Q (.bl (!o.isSome)) H2
def sPPut (td ty tv : TE) : TS := fun D σ H => tv σ H fun v H1 => td σ H1 fun x H2 => ty σ H2 fun y H3 => ∃ a, x = .ref a ∧ PaP P w K H3 a y v fun H4 => D.nx σ H4
def tPGet1 (td ty : TE) : TE := fun σ H Q => td σ H fun x H1 => ∃ a, x = .ref a ∧ (∃ kvs, PD P w K H1 a kvs) ∧ ty σ H1 fun y H2 => ∃ o, PaG P w K H2 a y o ∧ Q (o.getD .non) H2
def tPGet2 (td ty tx : TE) : TE := fun σ H Q => td σ H fun x H1 => ∃ a, x = .ref a ∧ (∃ kvs, PD P w K H1 a kvs) ∧ ty σ H1 fun y H2 => tx σ H2 fun z H3 => ∃ o, PaG P w K H3 a y o ∧ Q (o.getD z) H3
def tPNew : TE := fun _ H Q => ∀ p φ, H p = none → (∀ H1, H1 p = some (.ext φ) → PD P w K H1 p []) → Q (.ref p) (upd H p (.ext φ))
end
section
variable {X : Cx} {o i e f value : Expr} {pos pos' apos cpos : Pos} {td ty tv tx : TE}
theorem pe_pget (hu : X.A.units + 1 < cLine) (ho : PE X o td) (hi : PE X i ty) (hs : NoSl i) : PE X (.Subscript o i pos) (tPGet X.prog X.w X.K td ty) := by
  refine ⟨fun pins s σ H Q I h => ?_⟩
  refine subD_of PySem.F.slot_dict_getitem.lookup hs (thn (ho.run pins s σ H _ I h) fun u s1 ⟨x, H1, I1, rx, q1⟩ => thn (hi.run pins s1 σ H1 _ I1 q1) fun iv s2 ⟨y, H2, I2, ry, a, v, ex, g, q2⟩ => ?_)
  subst ex
  obtain rfl : u = Value.ref a := rx
  exact ⟨(pd_at I2 g.choose_spec.choose_spec.choose_spec.1).1, p_getItem hu I2 g ry fun w' s3 I3 rw' => ⟨v, H2, I3, rw', q2⟩⟩
theorem pc_pin (hu : X.A.units + 1 < cLine) (hi : PE X i ty) (ho : PE X o td) : PC X .In i o (tPIn X.prog X.w X.K ty td) := by
  refine ⟨fun pins s σ H Q I h => ?_⟩
  refine thn (hi.run pins s σ H _ I h) fun iv s1 ⟨y, H1, I1, ry, q1⟩ => thn (ho.run pins s1 σ H1 _ I1 q1) fun u s2 ⟨x, H2, I2, rx, a, ov, ex, g, q2⟩ => ?_
  subst ex
  obtain rfl : u = Value.ref a := rx
  exact p_in hu I2 g ry fun s3 I3 => ⟨.bl ov.isSome, H2, I3, rfl, q2⟩
theorem pc_pnotin (hu : X.A.units + 1 < cLine) (hi : PE X i ty) (ho : PE X o td) : PC X .NotIn i o (tPNotIn X.prog X.w X.K ty td) := by
  refine ⟨fun pins s σ H Q I h => ?_⟩
  refine thn (hi.run pins s σ H _ I h) fun iv s1 ⟨y, H1, I1, ry, q1⟩ => thn (ho.run pins s1 σ H1 _ I1 q1) fun u s2 ⟨x, H2, I2, rx, a, ov, ex, g, q2⟩ => ?_
  subst ex
  obtain rfl : u = Value.ref a := rx
  exact p_notIn hu I2 g ry fun s3 I3 => ⟨.bl (!ov.isSome), H2, I3, rfl, q2⟩
theorem ps_pput (hu : X.A.units + 1 < cLine) (ho : PE X o td) (hi : PE X i ty) (hv : PE X value tv) (hs : swapsWith value (some (.Subscript o i pos')) pos.line X.env = pure false) :
    PS X (.Assign [.Subscript o i pos'] value pos) (sPPut X.prog X.w X.K td ty tv) := by
  refine ⟨fun pins s σ H D I h => ?_⟩
  refine wpAny_Assign_Subscript (thn (hv.run pins s σ H _ I h) fun r s1 ⟨v, H1, I1, rv, q1⟩ => thn (ho.run pins s1 σ H1 _ I1 q1) fun u s2 ⟨x, H2, I2, rx, q2⟩ => thn (hi.run pins s2 σ H2 _ I2 q2) fun iv s3 ⟨y, H3, I3, ry, a, ex, g⟩ => ?_) hs
  subst ex
  obtain rfl : u = Value.ref a := rx
  exact p_setItem hu I3 g ry rv fun H4 s4 q3 I4 => ⟨σ, H4, I4, q3⟩
theorem pe_pget1 (hu : X.A.units + 1 < cLine) (ho : PE X o td) (he : PE X e ty) (m : M1 X o "get" apos e cpos) : PE X (.Call (.Attribute o "get" apos) [e] [] cpos) (tPGet1 X.prog X.w X.K td ty) := by
  refine ⟨fun pins s σ H Q I h => ?_⟩
  refine wpAny_Call_method m.base m.few m.line PySem.F.plainAttrs_dict PySem.F.slot_dict_get PySem.F.type_dict_get (thn (ho.run pins s σ H _ I h) fun u s1 ⟨x, H1, I1, rx, a, ex, ⟨_, d⟩, q1⟩ => ?_)
  subst ex
  obtain rfl : u = Value.ref a := rx
  obtain ⟨t1, t2, _⟩ := pd_at I1 d
  refine ⟨t1, t2, ?_⟩
  rw [m.trees]
  refine Calls.callWith_builtin rfl (Calls.evalArgs_plain (Calls.spliced_cons (thn (he.run pins s1 σ H1 _ I1 q1) fun iv s2 ⟨y, H2, I2, ry, ov, g, q2⟩ => Calls.spliced_nil ?_)))
  exact p_get1 hu I2 g ry fun w' s3 I3 rw' => ⟨_, H2, I3, rw', q2⟩
theorem pe_pget2 (hu : X.A.units + 1 < cLine) (ho : PE X o td) (he : PE X e ty) (hf : PE X f tx) (m : M2 X o "get" apos e f cpos) : PE X (.Call (.Attribute o "get" apos) [e, f] [] cpos) (tPGet2 X.prog X.w X.K td ty tx) := by
  refine ⟨fun pins s σ H Q I h => ?_⟩
  refine wpAny_Call_method m.base m.few m.line PySem.F.plainAttrs_dict PySem.F.slot_dict_get PySem.F.type_dict_get (thn (ho.run pins s σ H _ I h) fun u s1 ⟨x, H1, I1, rx, a, ex, ⟨_, d⟩, q1⟩ => ?_)
  subst ex
  obtain rfl : u = Value.ref a := rx
  obtain ⟨t1, t2, _⟩ := pd_at I1 d
  refine ⟨t1, t2, ?_⟩
  rw [m.trees]
  refine Calls.callWith_builtin rfl (Calls.evalArgs_plain (Calls.spliced_cons (thn (he.run pins s1 σ H1 _ I1 q1) fun iv s2 ⟨y, H2, I2, ry, q2⟩ =>
    Calls.spliced_cons (thn (hf.run pins s2 σ H2 _ I2 q2) fun fv s3 ⟨z, H3, I3, rz, ov, g, q3⟩ => Calls.spliced_nil ?_))))
  exact p_get2 hu I3 g ry rz fun w' s4 I4 rw' => ⟨_, H3, I4, rw', q3⟩
theorem pe_pnew : PE X (.Dict [] [] pos) (tPNew X.prog X.w X.K) := ⟨fun pins s σ H Q I h => by
  refine wpAny_Dict_empty ⟨.ref s.heap.objs.size, _, I.laid (a := s.heap.objs.size) (o := .ext (RawD X.prog X.w s.heap.objs.size [])) (t' := s.toks) (fun _ _ q => Heap.get?_push_of_some _ q) (Nat.le_refl _) (rawD_mk ⟨_, #[], 0, Heap.get?_push_size _ rfl, ⟨rfl, rfl, rfl⟩, rfl, rfl, List.nodup_nil⟩), rfl, h _ _ (I.hok.fresh (Nat.le_refl _)) (fun H1 e => ?_)⟩
  · exact ⟨Nat.zero_le _, beq_eq_false_iff_ne.mpr (Ne.symm (Nat.ne_of_lt I.big)), [], .nil, e⟩⟩
end
end L2
set_option Elab.async false
set_option linter.all false
set_option maxRecDepth 100000
set_option maxHeartbeats 2000000
/-! The fields of an instance, by a list of their names. -/
namespace L2
open PySem PySem.Spec PyProof.Rows
/-- the first k of the names are the fields; none of M is one -/
structure FsK (N M : List Str) (k : Nat) (fs : List (Str × V)) (vals : Nat → V) : Prop where
  len : fs.length = k
  at_ : ∀ i x, N[i]? = some x → fs.lookup x = if i < k then some (vals i) else none
  non : ∀ m ∈ M, fs.lookup m = none
def upN (vals : Nat → V) (j : Nat) (v : V) : Nat → V := fun i => if i = j then v else vals i
theorem upN_same {vals : Nat → V} {j : Nat} {v : V} : upN vals j v j = v := if_pos rfl
theorem upN_ne {vals : Nat → V} {i j : Nat} {v : V} (h : i ≠ j) : upN vals j v i = vals i := if_neg h
structure FNam (N M : List Str) : Prop where
  nd : N.Nodup
  ap : ∀ m ∈ M, m ∉ N
theorem FsK.nil {N M : List Str} {vals : Nat → V} : FsK N M 0 [] vals := ⟨rfl, fun _ _ _ => rfl, fun _ _ => rfl⟩
theorem length_putF_new (f : Str) (v : V) : ∀ fs : List (Str × V), fs.lookup f = none → (putF f v fs).length = fs.length + 1
  | [], _ => rfl
  | (g, x) :: r, h => by
    rw [List.lookup_cons] at h
    by_cases e : g = f
    · subst e
      simp at h
    · have e2 : (f == g) = false := beq_eq_false_iff_ne.mpr fun z => e z.symm
      rw [e2] at h
      show (if g = f then (g, v) :: r else (g, x) :: putF f v r).length = _
      rw [if_neg e, List.length_cons, List.length_cons, length_putF_new f v r h]
theorem length_putF_old (f : Str) (v y : V) : ∀ fs : List (Str × V), fs.lookup f = some y → (putF f v fs).length = fs.length
  | [], h => by cases h
  | (g, x) :: r, h => by
    rw [List.lookup_cons] at h
    show (if g = f then (g, v) :: r else (g, x) :: putF f v r).length = _
    by_cases e : g = f
    · rw [if_pos e]
      rfl
    · have e2 : (f == g) = false := beq_eq_false_iff_ne.mpr fun z => e z.symm
      rw [e2] at h
      rw [if_neg e, List.length_cons, List.length_cons, length_putF_old f v y r h]
theorem nd_at {N : List Str} (nd : N.Nodup) {i j : Nat} {x : Str} (hi : N[i]? = some x) (hj : N[j]? = some x) : i = j := nd_ix nd hi hj
theorem FsK.add {N M : List Str} {k : Nat} {fs : List (Str × V)} {vals : Nat → V} (F : FNam N M) (h : FsK N M k fs vals) {x : Str} (hx : N[k]? = some x) (v : V) : FsK N M (k + 1) (putF x v fs) (upN vals k v) := by
  have hn : fs.lookup x = none := by
    rw [h.at_ k x hx, if_neg (Nat.lt_irrefl k)]
  refine ⟨by rw [length_putF_new x v fs hn, h.len], fun i y hy => ?_, fun m hm => ?_⟩
  · rw [lookup_putF]
    by_cases e : y = x
    · subst e
      have ei := nd_at F.nd hy hx
      subst ei
      rw [if_pos rfl, if_pos (Nat.lt_succ_self _), upN_same]
    · have ni : i ≠ k := fun z => by
        subst z
        rw [hy] at hx
        exact e (Option.some.inj hx)
      rw [if_neg e, h.at_ i y hy, upN_ne ni]
      by_cases c : i < k
      · rw [if_pos c, if_pos (by omega)]
      · rw [if_neg c, if_neg (by omega)]
  · rw [lookup_putF, if_neg fun z : m = x => F.ap m hm (z ▸ List.mem_of_getElem? hx)]
    exact h.non m hm
theorem FsK.put {N M : List Str} {k j : Nat} {fs : List (Str × V)} {vals : Nat → V} (F : FNam N M) (h : FsK N M k fs vals) {x : Str} (hx : N[j]? = some x) (hj : j < k) (v : V) : FsK N M k (putF x v fs) (upN vals j v) := by
  have hn : fs.lookup x = some (vals j) := by
    rw [h.at_ j x hx, if_pos hj]
  refine ⟨by rw [length_putF_old x v _ fs hn, h.len], fun i y hy => ?_, fun m hm => ?_⟩
  · rw [lookup_putF]
    by_cases e : y = x
    · subst e
      have ei := nd_at F.nd hy hx
      subst ei
      rw [if_pos rfl, if_pos hj, upN_same]
    · have ni : i ≠ j := fun z => by
        subst z
        rw [hy] at hx
        exact e (Option.some.inj hx)
      rw [if_neg e, h.at_ i y hy, upN_ne ni]
  · rw [lookup_putF, if_neg fun z : m = x => F.ap m hm (z ▸ List.mem_of_getElem? hx)]
    exact h.non m hm
theorem FsK.look {N M : List Str} {k i : Nat} {fs : List (Str × V)} {vals : Nat → V} (h : FsK N M k fs vals) {x : Str} (hx : N[i]? = some x) (hi : i < k) : fs.lookup x = some (vals i) := by
  rw [h.at_ i x hx, if_pos hi]
/-- a plain class whose instances have such fields -/
structure FCls (K : PySem.W.Frag) (C : Addr) (N : List Str) : Prop where
  cl : Cls K C
  na : ∀ x ∈ N, NoAttr K C x
theorem FCls.at_ {K : PySem.W.Frag} {C : Addr} {N : List Str} (c : FCls K C N) {i : Nat} {x : Str} (h : N[i]? = some x) : NoAttr K C x := c.na x (List.mem_of_getElem? h)
end L2
set_option Elab.async false
set_option linter.all false
set_option maxRecDepth 100000
set_option maxHeartbeats 2000000
/-! A bound method as a value, and its call through a local name. -/
namespace L2
open PySem PySem.Spec PyProof.Rows
/-- x.m as a value -/
def tBound (C : Addr) (m : Str) (g : Addr) (ta : TE) : TE := fun σ H Q => ta σ H fun x H1 => ∃ a dx fs, x = .ref a ∧ H1 a = some (.ins C dx fs) ∧ fs.lookup m = none ∧ ∀ q, H1 q = none → Q (.ref q) (upd H1 q (.met g a))
/-- the i-th slot holds a bound method of the def at g -/
def tCallM (i : Nat) (g : Addr) (sp : Sp) (E : XK) (t : TA) : TE := fun σ H Q => ∃ q a, σ[i]? = some (some (.ref q)) ∧ t σ H fun vs H1 => H1 q = some (.met g a) ∧ sp (.ref a :: vs) H1 Q E
section
variable {X : Cx} {CX : CXT} {k i : Nat} {C g : Addr} {m : Str} {sp : Sp} {E : XK} {x : Str} {p pos : Pos} {o e : Expr} {es : List Expr} {ta : TE} {t : TA}
theorem pe_bound (he : PE X o ta) (c : Cls X.K C) (k : BMeth X.K C m g) (hb : attributeBase o m X.env (eval o X.env) = eval o X.env := by rfl) : PE X (.Attribute o m pos) (tBound C m g ta) := by
  refine ⟨fun pins s σ H Q I h => ?_⟩
  refine attr_of hb (thn (he.run pins s σ H _ I h) fun u s1 ⟨x, H1, I1, rx, a, dx, fs, ex, ea, l, q⟩ => ?_)
  subst ex
  exact op_getbound I1 ea c k l rx fun p hp => q p hp
theorem pe_callM (F : FnR X.prog X.w X.K X.mg X.base CX k g sp) (hf : PySem.W.fnIn X.K g = true) (hr : Room k X.A) (hN : X.N[i]? = some x) (hv : Vis X.env.scope x) (hx : Passes CX X E) (ha : PA X (e :: es) t)
    (hdb : (x == ("__debug__" : Str)) = false := by decide) (hcd : (x == ("__classdict__" : Str)) = false := by decide)
    (he : starEach (e :: es) X.env = (false, eval e X.env) :: starEach es X.env := by rfl) (hpl : (backTo pos (starEach es X.env)).any (·.1) = false := by rfl) : PE X (.Call (.Name x p) (e :: es) [] pos) (tCallM i g sp E t) := by
  refine ⟨fun pins s σ H Q I h => ?_⟩
  obtain ⟨q, a, hs, ht⟩ := h
  refine wpAny_Call_Name_kw (thn ((pe_var (pos := p) hN hv hdb hcd).run pins s σ H (fun v H1 => v = .ref q ∧ H1 = H) I ⟨.ref q, hs, rfl, rfl⟩) fun u s1 ⟨v, H1, I1, r1, q1⟩ => ?_)
  obtain ⟨rfl, rfl⟩ := q1
  cases r1
  have hany : (backTo pos (starEach (e :: es) X.env)).any (·.1) = false := by
    rw [he]
    show (false || (backTo pos (starEach es X.env)).any (·.1)) = false
    rw [hpl]
    rfl
  refine callwith_met (a := a) (by rw [hany]; rfl) hf (FK.evalArgs_any hany (thn (ha.run pos pins s1 σ _ _ I1 ht) fun us s2 ⟨vs, H2, I2, r, hm, q2⟩ => ⟨met_P I2 hm, ?_⟩))
  exact wpAny_call (call_met I2 hm (run_fnR (us := .ref a :: us) (vs := .ref a :: vs) F hr hx I2 (.cons rfl r) q2))
end
end L2
set_option Elab.async false
set_option linter.all false
set_option maxRecDepth 100000
/-! a call with keywords alone -/
namespace L2
open PySem PySem.Spec PyProof.Rows
section
variable {X : Cx} {CX : CXT} {k : Nat} {f : Addr} {fd : FuncData} {ps ks : List Str} {sp : Sp} {E : XK} {x : Str} {p pos : Pos} {kws : List Keyword} {tk : TA} {g : List Value → List Value → List Value} {gV : List V → List V → List V}
/-- f(k = v, ..) -/
theorem pe_callK0 (F : FnOk X.prog X.w X.K X.mg X.base CX k f fd ps sp) (hr : Room k X.A) (hg : Gl X x) (hm : X.mg x = some (.ref f)) (hk : PySem.W.keepIn X.K (.ref f) = true) (hb : KBinds X.K fd ps ks g gV) (hx : Passes CX X E)
    (hkw : PK X kws tk) (hall : (backToKw pos (keywordEach kws X.env)).all (·.1.isSome) = true := by rfl) (hks : (backToKw pos (keywordEach kws X.env)).filterMap (·.1) = ks := by rfl)
    (hdb : (x == ("__debug__" : Str)) = false := by decide) (hpl : ((backTo pos (starEach [] X.env)).any (·.1) || (backToKw pos (keywordEach kws X.env)).any (·.1.isNone)) = false := by rfl) :
    PE X (.Call (.Name x p) [] kws pos) (tCallK sp gV E tNil tk) := by
  refine ⟨fun pins s σ H Q I h => ?_⟩
  refine wpAny_Call_Name_kw (ld_glob I hg hm ?_ hdb)
  refine PySem.W.callWith_KW0 (h₀ := X.base) I.ok.mod.kin hk hall ?_ hpl
  refine thn (hkw.run pos pins s σ H _ I h) fun ws s2 ⟨zs, H2, I2, rz, q2⟩ => ?_
  rw [hks]
  exact ⟨I2.kIn, run_fnk F hr hb hx I2 (us := []) (vs := []) .nil rz q2⟩
end
end L2
set_option Elab.async false
set_option linter.all false
set_option maxRecDepth 100000
set_option maxHeartbeats 2000000
/-! A clean table of any of five sizes takes all that it is to take. -/
namespace TxSet
open PySem PySem.Spec PyProof.Rows L2
/-- the sizes that come about -/
def Msk (m : Nat) : Prop := m = 7 ∨ m = 15 ∨ m = 31 ∨ m = 63 ∨ m = 127
theorem msk_key (n : Nat) (h : ((List.range (n + 1)).all fun j => (List.range (n + 1)).any fun b => lcgN n b == j) = true) (z : lcgN n (n + 1) = 0) :
    (∀ j, j ≤ n → ∃ b, b ≤ n ∧ lcgN n b = j) ∧ lcgN n (n + 1) = 0 := by
  refine ⟨fun j hj => ?_, z⟩
  obtain ⟨b, hb, e⟩ := List.any_eq_true.mp (List.all_eq_true.mp h j (List.mem_range.mpr (by omega)))
  have := List.mem_range.mp hb
  exact ⟨b, by omega, beq_iff_eq.mp e⟩
theorem msk_round {m : Nat} (hm : Msk m) : (∀ j, j ≤ m → ∃ b, b ≤ m ∧ lcgN m b = j) ∧ lcgN m (m + 1) = 0 := by
  rcases hm with rfl | rfl | rfl | rfl | rfl <;> exact msk_key _ (by decide +kernel) (by decide +kernel)
theorem msk_mod {m : Nat} (hm : Msk m) : ∀ k, lcgN m (m + 1 + k) = lcgN m k
  | 0 => (msk_round hm).2
  | k + 1 => by
    show (lcgN m (m + 1 + k) * 5 + 1) % (m + 1) = (lcgN m k * 5 + 1) % (m + 1)
    rw [msk_mod hm k]
/-- wherever it begins, it comes to each place -/
theorem msk_all {m : Nat} (hm : Msk m) {i j : Nat} (hi : i ≤ m) (hj : j ≤ m) : ∃ k, k ≤ m ∧ lcgI m i k = j := by
  obtain ⟨a, ha, ea⟩ := (msk_round hm).1 i hi
  obtain ⟨b, hb, eb⟩ := (msk_round hm).1 j hj
  subst ea
  by_cases c : a ≤ b
  · exact ⟨b - a, by omega, by rw [lcgN_add, Nat.add_sub_cancel' c, eb]⟩
  · refine ⟨m + 1 + b - a, by omega, ?_⟩
    rw [lcgN_add, show a + (m + 1 + b - a) = m + 1 + b by omega, msk_mod hm, eb]
/-- where nothing is found, each run's first place is taken -/
theorem free_none (m : Nat) (ow : Array (Option Nat)) : ∀ (f i b : Nat), SetTable.layClean.free m ow f i b = none → ∀ n, n < f → oAt ow (itL m i b n).1 ≠ none
  | 0, _, _, _, n, hn => absurd hn (Nat.not_lt_zero n)
  | f + 1, i, b, h, n, hn => by
    rw [free_succ] at h
    cases hf : (List.range (SetTable.runEnd m i + 1 - i)).find? fun k => (oAt ow (i + k)).isNone with
    | some k =>
      rw [hf] at h
      cases h
    | none =>
      rw [hf] at h
      cases n with
      | zero =>
        intro z
        have := List.find?_eq_none.mp hf 0 (List.mem_range.mpr (by have := runEnd_ge m i; omega))
        apply this
        show (oAt ow (i + 0)).isNone = true
        have z' : oAt ow i = none := z
        rw [Nat.add_zero, z']
        rfl
      | succ n => exact free_none m ow f _ _ h n (by omega)
/-- what is found is free -/
theorem free_some (m : Nat) (ow : Array (Option Nat)) : ∀ (f i b j : Nat), i ≤ m → SetTable.layClean.free m ow f i b = some j → j ≤ m ∧ oAt ow j = none
  | 0, _, _, _, _, h => nomatch h
  | f + 1, i, b, j, hi, h => by
    rw [free_succ] at h
    cases hf : (List.range (SetTable.runEnd m i + 1 - i)).find? fun k => (oAt ow (i + k)).isNone with
    | some k =>
      rw [hf] at h
      obtain rfl : i + k = j := Option.some.inj h
      have h1 := List.mem_range.mp (List.mem_of_find?_eq_some hf)
      have h2 := List.find?_some hf
      have h3 := runEnd_bd hi
      exact ⟨by omega, Option.isNone_iff_eq_none.mp h2⟩
    | none =>
      rw [hf] at h
      exact free_some m ow f _ _ j (Nat.le_of_lt_succ (Nat.mod_lt _ (Nat.succ_pos m))) h
theorem free_ok {m : Nat} (hm : Msk m) (ow : Array (Option Nat)) (h : Int) {j : Nat} (hj : j ≤ m) (hf : oAt ow j = none) :
    ∃ k, SetTable.layClean.free m ow (SetTable.turns m) (SetTable.bits h % (m + 1)) (SetTable.bits h) = some k ∧ k ≤ m ∧ oAt ow k = none := by
  cases e : SetTable.layClean.free m ow (SetTable.turns m) (SetTable.bits h % (m + 1)) (SetTable.bits h) with
  | some k => exact ⟨k, rfl, free_some m ow _ _ _ k (Nat.le_of_lt_succ (Nat.mod_lt _ (Nat.succ_pos m))) e⟩
  | none =>
    obtain ⟨k, hk, ek⟩ := msk_all hm (runI_le m (SetTable.bits h) 12) hj
    refine absurd hf ?_
    have := free_none m ow _ _ _ e (12 + k) (by unfold SetTable.turns; omega)
    rw [itL_run] at this
    have e2 : runI m (SetTable.bits h) (12 + k) = j := by rw [runI_tail (bits_lt h), ek]
    rw [← e2]
    exact this
/-- n are laid: js tells where -/
structure Lay (m : Nat) (js : List Nat) (ow : Array (Option Nat)) : Prop where
  sz : ow.size = m + 1
  at_ : ∀ k j : Nat, js[k]? = some j → j ≤ m ∧ oAt ow j = some k
  in_ : ∀ j, j ≤ m → oAt ow j ≠ none → j ∈ js
theorem lay_step {m : Nat} (hm : Msk m) {js : List Nat} {ow : Array (Option Nat)} (W : Lay m js ow) (hl : js.length ≤ m) (h : Int) :
    ∃ j, stepF m (some (ow, js.length)) h = some (ow.setIfInBounds j (some js.length), (js ++ [j]).length) ∧ Lay m (js ++ [j]) (ow.setIfInBounds j (some js.length)) := by
  obtain ⟨j0, h0, hn0⟩ := st_missing js (m + 1) (by omega)
  have hj0 : oAt ow j0 = none := Classical.byContradiction fun z => hn0 (W.in_ j0 (by omega) z)
  obtain ⟨j, e, hj, hf⟩ := free_ok hm ow h (Nat.le_of_lt_succ h0) hj0
  have hs : j < ow.size := by rw [W.sz]; omega
  refine ⟨j, by rw [stepF_some e, List.length_append, List.length_singleton], by rw [Array.size_setIfInBounds, W.sz], fun k i hk => ?_, fun i hi hne => ?_⟩
  · by_cases c : k < js.length
    · rw [List.getElem?_append_left c] at hk
      obtain ⟨a, b⟩ := W.at_ k i hk
      refine ⟨a, ?_⟩
      rw [oAt_set_ne _ fun z => by rw [z, hf] at b; cases b]
      exact b
    · have hk2 : k < (js ++ [j]).length := (List.getElem?_eq_some_iff.mp hk).1
      rw [List.length_append, List.length_singleton] at hk2
      obtain rfl : k = js.length := by omega
      rw [List.getElem?_append_right (Nat.le_refl _), Nat.sub_self] at hk
      obtain rfl : j = i := Option.some.inj hk
      exact ⟨hj, oAt_set_self _ hs⟩
  · by_cases c : i = j
    · rw [c]
      exact List.mem_append_right _ List.mem_cons_self
    · rw [oAt_set_ne _ c] at hne
      exact List.mem_append_left _ (W.in_ i hi hne)
theorem lay_all {m : Nat} (hm : Msk m) : ∀ (hs : List Int) (js : List Nat) (ow : Array (Option Nat)), Lay m js ow → js.length + hs.length ≤ m →
    ∃ js' ow', hs.foldl (stepF m) (some (ow, js.length)) = some (ow', js'.length) ∧ js'.length = js.length + hs.length ∧ Lay m js' ow'
  | [], js, ow, W, _ => ⟨js, ow, rfl, rfl, W⟩
  | h :: hs, js, ow, W, hl => by
    rw [List.length_cons] at hl
    obtain ⟨j, e, W1⟩ := lay_step hm W (by omega) h
    have el : (js ++ [j]).length = js.length + 1 := by rw [List.length_append, List.length_singleton]
    obtain ⟨js', ow', e2, l2, W2⟩ := lay_all hm hs _ _ W1 (by omega)
    refine ⟨js', ow', ?_, by rw [List.length_cons]; omega, W2⟩
    rw [List.foldl_cons, e]
    exact e2
theorem clean_ok {m : Nat} (hm : Msk m) {hs : Array Int} (hn : hs.size ≤ m) : ∃ js ow, SetTable.layClean m hs = some ow ∧ js.length = hs.size ∧ Lay m js ow := by
  have W0 : Lay m [] (Array.replicate (m + 1) none) := ⟨by rw [Array.size_replicate], fun k j z => (nomatch z), fun j hj z => absurd (oAt_init hj) z⟩
  obtain ⟨js, ow, e, l, W⟩ := lay_all hm hs.toList [] _ W0 (by rw [Array.length_toList]; simpa using hn)
  refine ⟨js, ow, ?_, by rw [l, Array.length_toList]; simp, W⟩
  rw [layClean_eq]
  rw [List.length_nil] at e
  rw [e]
  rfl
/-- the clean table -/
theorem laid_ok {m : Nat} (hm : Msk m) {hs : Array Int} (hn : hs.size ≤ m) (fg mv : Nat) (ld pl : Bool) :
    ∃ t order, SetTable.laid m fg mv ld pl hs = some (t, order) ∧ order.toList.Perm (List.range hs.size) ∧ t.mask = m ∧ t.place.size = hs.size ∧ t.dummies = #[] ∧ Ris t.place.toList ∧ t.led = ld := by
  obtain ⟨js, ow, e, l, W⟩ := clean_ok hm hn
  have ris := ris_live (fun j => ow.getD j none) (List.range (m + 1)) (by
    unfold Ris
    first | exact List.pairwise_lt_range | exact List.pairwise_lt_range _)
  have r1 : Ris ((liveOf m ow).map (·.1)) := ris.1
  have nd : ((liveOf m ow).map (·.1)).Nodup := List.Pairwise.imp (fun h => Nat.ne_of_lt h) r1
  have all : ∀ k, k < hs.size → k ∈ (liveOf m ow).map (·.2) := fun k hk => by
    have hk' : k < js.length := by omega
    obtain ⟨a, b⟩ := W.at_ k js[k] (List.getElem?_eq_getElem hk')
    exact List.mem_map.mpr ⟨(js[k], k), (mem_live W.sz).2 ⟨a, b⟩, rfl⟩
  have up : (liveOf m ow).length ≤ hs.size := by
    have := nat_nodup_len ((liveOf m ow).map (·.1)) js nd fun x hx => by
      obtain ⟨⟨y, k⟩, hq, rfl⟩ := List.mem_map.mp hx
      obtain ⟨b1, b2⟩ := (mem_live W.sz).1 hq
      exact W.in_ y b1 (by rw [b2]; exact fun z => nomatch z)
    rwa [List.length_map, l] at this
  have dn : hs.size ≤ (liveOf m ow).length := by
    have := nat_nodup_len (List.range hs.size) ((liveOf m ow).map (·.2)) List.nodup_range fun k hk => all k (List.mem_range.mp hk)
    rwa [List.length_map, List.length_range] at this
  have hl : (liveOf m ow).length = hs.size := Nat.le_antisymm up dn
  refine ⟨{ mask := m, place := ((liveOf m ow).map (·.1)).toArray, dummies := #[], finger := fg, led := ld, moves := mv, plain := pl }, ((liveOf m ow).map (·.2)).toArray, ?_, ?_, rfl, ?_, rfl, r1, rfl⟩
  · show (SetTable.layClean m hs).bind _ = _
    rw [e]
    rfl
  · exact perm_range hs.size _ (by rw [List.length_map, hl]) all
  · rw [List.size_toArray, List.length_map, hl]
theorem wanted_ok : ∀ n, n ≤ 120 → Msk (SetTable.sizeAbove n - 1) ∧ n ≤ SetTable.sizeAbove n - 1 ∧ SetTable.sizeAbove n ≤ 128 := by
  have h : (List.range 121).all (fun n => ([7, 15, 31, 63, 127].contains (SetTable.sizeAbove n - 1)) && decide (n ≤ SetTable.sizeAbove n - 1) && decide (SetTable.sizeAbove n ≤ 128)) = true := by decide +kernel
  intro n hn
  have q := List.all_eq_true.mp h n (List.mem_range.mpr (by omega))
  rw [Bool.and_eq_true, Bool.and_eq_true, decide_eq_true_eq, decide_eq_true_eq] at q
  refine ⟨?_, q.1.2, q.2⟩
  have c := List.contains_iff_mem.mp q.1.1
  simpa [Msk] using c
theorem pick_go (es : Array (Int × Value)) : ∀ (l : List Nat) , (∀ k ∈ l, k < es.size) → l.filterMap (es[·]?) = l.map fun i => es.getD i (0, .none)
  | [], _ => rfl
  | k :: l, h => by
    have hk : k < es.size := h k List.mem_cons_self
    rw [List.filterMap_cons_some (b := es[k]) (by simp [hk]), List.map_cons, pick_go es l fun y hy => h y (List.mem_cons_of_mem _ hy)]
    simp [Array.getD, hk]
/-- in another order, none lost -/
theorem picked {es : Array (Int × Value)} {order : Array Nat} {n : Nat} (hn : es.size = n) (hp : order.toList.Perm (List.range n)) : (order.filterMap (es[·]?)).toList.Perm es.toList := by
  subst hn
  have h1 : (order.filterMap (es[·]?)).toList = order.toList.filterMap (es[·]?) := by simp
  rw [h1]
  refine (hp.filterMap _).trans ?_
  have h2 : (List.range es.size).filterMap (es[·]?) = es.toList := by
    rw [pick_go es _ fun k hk => List.mem_range.mp hk]
    refine List.ext_getElem? fun i => ?_
    rw [List.getElem?_map]
    by_cases c : i < es.size
    · simp [List.getElem?_range c, Array.getD, c]
    · simp [List.getElem?_eq_none (show (List.range es.size).length ≤ i by rw [List.length_range]; omega), c]
  rw [h2]
end TxSet
set_option Elab.async false
set_option linter.all false
set_option maxRecDepth 100000
set_option maxHeartbeats 2000000
/-! Two sets of texts, merged. -/
namespace TxSet
open PySem PySem.Spec PyProof.Rows L2
/-- the set at a holds just the texts L; its table has one of the five sizes and no gap -/
def SetX (w : World) (h : Heap) (a : Addr) (L : List Str) (es : Array (Int × Value)) (ep : Nat) (t : SetTable) : Prop :=
  ∃ o, h.get? a = some o ∧ o.ExactSet ∧ o.data = .set es ep t ∧ (∀ e ∈ es.toList, Mem1 w e) ∧ (es.toList.map txt).Perm L ∧ L.Nodup ∧
    es.size < scanBound ∧ t.fits es.size = true ∧ Ris t.place.toList ∧ (w.params.followText "set-order" = true ∨ t.led = true) ∧ Msk t.mask ∧ t.dummies = #[]
section
variable {P : Program} {w : World} {A : Around} {E : Value → Shared → Prop} {s : Shared} {a b : Addr} {L L1 L2 : List Str} {es : Array (Int × Value)} {ep : Nat} {t : SetTable}
theorem SetX.toT {h : Heap} (R : SetX w h a L es ep t) : SetT w h a L := by
  obtain ⟨o, h1, h2, h3, h4, h5, h6, h7, h8, h9, h10, _⟩ := R
  exact ⟨o, es, ep, t, h1, h2, h3, h4, h5, h6, h7, h8, h9, h10⟩
theorem SetX.len {h : Heap} (R : SetX w h a L es ep t) : es.size = L.length := by
  obtain ⟨o, h1, h2, h3, h4, h5, _⟩ := R
  have q := h5.length_eq
  rwa [List.length_map, Array.length_toList] at q
theorem SetX.fill {h : Heap} (R : SetX w h a L es ep t) : t.fill = L.length ∧ t.place.size = L.length := by
  have q := R.len
  obtain ⟨o, h1, h2, h3, h4, h5, h6, h7, h8, h9, h10, h11, h12⟩ := R
  unfold SetTable.fits at h8
  rw [Bool.and_eq_true, beq_iff_eq] at h8
  refine ⟨?_, by rw [h8.1, q]⟩
  unfold SetTable.fill
  rw [h8.1, h12, q]
  rfl
theorem fits_of {t : SetTable} {n : Nat} (h1 : t.place.size = n) (h2 : t.dummies = #[]) (h3 : n ≤ t.mask) : t.fits n = true := by
  unfold SetTable.fits SetTable.fill
  rw [h1, h2]
  simpa using h3
/-- a new table for the same members, or others that are texts -/
theorem store_setX {o : Obj} (ho : s.heap.get? a = some o) (hex : o.ExactSet) (hd : o.data = .set es ep t) {fs : Array (Int × Value)} {t2 : SetTable} {M : List Str} (g : ∀ e ∈ fs.toList, Mem1 w e) (p : (fs.toList.map txt).Perm M) (nd : M.Nodup)
    (hb : fs.size < scanBound) (hf : t2.fits fs.size = true) (hr : Ris t2.place.toList) (hl : w.params.followText "set-order" = true ∨ t2.led = true) (hm : Msk t2.mask) (hdm : t2.dummies = #[]) {Q : Unit → Shared → Prop}
    (hQ : ∀ h' ep', Heap.SameBut a s.heap h' → SetX w h' a M fs ep' t2 → Q () { s with heap := h' }) : wpAny (model P w) A (storeSet a fs t2) Q E s := by
  refine wpAny_storeSet_of ho hd ?_ (fits_of_scanBound hb)
  exact hQ _ (ep + 1) (Heap.SameBut.update s.heap a (Obj.putSet fs t2)) ⟨_, store_at ho hd, hex, rfl, g, p, nd, hb, hf, hr, hl, hm, hdm⟩
/-- rows in the order of a clean table: what becomes of them -/
theorem rows_ok {fs : Array (Int × Value)} {m : Nat} (hm : Msk m) (hn : fs.size ≤ m) (fg mv : Nat) (ld pl : Bool) : ∃ t order, SetTable.laid m fg mv ld pl (fs.map (·.1)) = some (t, order) ∧ (order.filterMap (fs[·]?)).toList.Perm fs.toList ∧
    (order.filterMap (fs[·]?)).size = fs.size ∧ t.mask = m ∧ t.place.size = fs.size ∧ t.dummies = #[] ∧ Ris t.place.toList ∧ t.led = ld := by
  obtain ⟨t, order, e, hp, h1, h2, h3, h4, h5⟩ := laid_ok hm (hs := fs.map (·.1)) (by rw [Array.size_map]; exact hn) fg mv ld pl
  rw [Array.size_map] at hp h2
  have pk := picked (es := fs) rfl hp
  refine ⟨t, order, e, pk, ?_, h1, h2, h3, h4, h5⟩
  have q := pk.length_eq
  rwa [Array.length_toList, Array.length_toList] at q
/-- room is made for n more -/
theorem room_ok (R : SetX w s.heap a L es ep t) {n : Nat} (hn : L.length + n ≤ 60) {Q : Unit → Shared → Prop}
    (hQ : ∀ h' es' ep' t', Heap.SameBut a s.heap h' → SetX w h' a L es' ep' t' → L.length + n ≤ t'.mask → Q () { s with heap := h' }) : wpAny (model P w) A (setRoomFor a n) Q E s := by
  have hlen := R.len
  have hfl := R.fill
  obtain ⟨o, ho, hex, hd, g, pm, nd, hb, hf, hr, hl, hm, hdm⟩ := id R
  unfold setRoomFor
  refine wpAny_bind (wpAny_setState_of ho hd hf ?_)
  dsimp only
  unfold SetTable.roomFor
  by_cases c : (t.fill + n) * 5 ≥ t.mask * 3
  · rw [if_pos c]
    dsimp only
    obtain ⟨w1, w2, w3⟩ := wanted_ok ((t.place.size + n) * 2) (by rw [hfl.2]; omega)
    rw [hfl.2] at w1 w2 w3 ⊢
    unfold setRelay SetTable.relaid
    refine wpAny_bind (wpAny_setState_of ho hd hf ?_)
    dsimp only
    refine wp_if_neg (by rw [sizeLine_eq]; omega) ?_
    try refine wpAny_bind (wpAny_pure ?_)
    obtain ⟨t2, order, e, q1, hsz, q2, q3, q4, q5, q6⟩ := rows_ok (fs := es) w1 (by rw [hlen]; omega) t.finger (t.movedTo (SetTable.sizeAbove ((L.length + n) * 2) - 1)) t.led t.plain
    rw [e]
    refine wpAny_bind (wp_if_neg (c := ((order.filterMap (es[·]?)).size != es.size) = true) (by rw [hsz]; simp) (wpAny_pure ?_))
    dsimp only
    refine store_setX ho hex hd (fun e he => g e (q1.mem_iff.mp he)) ((q1.map txt).trans pm) nd (by rw [hsz]; exact hb) (fits_of (q3.trans hsz.symm) q4 (by rw [hsz, hlen, q2]; omega)) q5 (by rw [q6]; exact hl) (by rw [q2]; exact w1) q4 fun h' ep' sb R' => ?_
    exact hQ h' _ ep' t2 sb R' (by rw [q2]; omega)
  · rw [if_neg c]
    refine wpAny_pure (hQ s.heap es ep t (Heap.SameBut.refl a s.heap) R ?_)
    rw [hfl.1] at c
    omega
end
/-- texts, one by one -/
def insAll (L : List Str) (xs : List Str) : List Str := xs.foldl ins L
theorem insAll_mem (L xs : List Str) (x : Str) : x ∈ insAll L xs ↔ x ∈ L ∨ x ∈ xs := (dd_go xs L).2.1 x
section
variable {P : Program} {w : World} {A : Around} {E : Value → Shared → Prop} {s : Shared} {a b : Addr} {L L1 L2 : List Str} {es : Array (Int × Value)} {ep : Nat} {t : SetTable}
/-- no text's == is seen -/
theorem quiet_ok (l : List Addr) {Q : Bool → Shared → Prop} (h : ∀ c ∈ l, ∃ L, SetT w s.heap c L) (hQ : Q true s) : wpAny (model P w) A (setsQuiet l) Q E s := by
  unfold setsQuiet
  refine wpAny_bind (wpAny_forIn_list _ (fun rest c z => c.1 = none ∧ z = s ∧ ∀ x ∈ rest, ∃ L, SetT w s.heap x L) _ ?_ ?_ l _ ⟨rfl, rfl, h⟩)
  · rintro x rest c z ⟨hc, rfl, hx⟩
    obtain ⟨M, o, fs, ep, t, ho, hex, hd, g, pm, nd, hb, hf, _⟩ := hx x List.mem_cons_self
    unfold setEntries
    refine wpAny_bind (wpAny_bind (wpAny_setState_of ho hd hf (wpAny_pure ?_)))
    dsimp only
    refine wpAny_bind (MeetsSeq2.wpAny_forIn_array _ (fun rest c z' => c.1 = none ∧ z' = z ∧ ∀ e ∈ rest, Mem1 w e) _ ?_ ?_ fs _ ⟨rfl, rfl, g⟩)
    · rintro ⟨hh, v⟩ rs c2 z2 ⟨hc2, rfl, hr⟩
      obtain ⟨k, tk, e1, _⟩ := hr _ List.mem_cons_self
      have e1' : v = Value.str k tk := e1
      subst e1'
      dsimp only
      refine wpAny_pure ⟨rfl, rfl, fun e he => hr e (List.mem_cons_of_mem _ he)⟩
    · rintro ⟨c1, c2⟩ z2 ⟨hc2, rfl, _⟩
      have hc2' : c1 = none := hc2
      subst hc2'
      dsimp only
      exact wpAny_pure ⟨rfl, rfl, fun y hy => hx y (List.mem_cons_of_mem _ hy)⟩
  · rintro ⟨c1, c2⟩ z ⟨hc, rfl, _⟩
    have hc' : c1 = none := hc
    subst hc'
    dsimp only
    exact wpAny_pure hQ
/-- the members of b, in some order -/
theorem walk_ok (R2 : SetT w s.heap b L2) {Q : Array (Int × Value) → Shared → Prop} (hQ : ∀ d (fs : Array (Int × Value)), (∀ e ∈ fs.toList, Mem1 w e) → (fs.toList.map txt).Perm L2 → Q fs { s with drawn := d }) :
    wpAny (model P w) A (setWalk b) Q E s := by
  obtain ⟨o, es, ep, t, ho, hex, hd, g, pm, nd, hb, hf, hr, hl⟩ := R2
  unfold setWalk
  refine wpAny_bind (wpAny_setState_of ho hd hf ?_)
  dsimp only
  refine wpAny_bind (wpAny_byText ?_)
  by_cases c : w.params.followText "set-order" = true
  · refine wp_if_pos c ?_
    refine wpAny_bind (wpAny_askSetting (wpAny_pure ?_))
    have q := pick_perm (w.params.setOrder b ep) es
    exact hQ s.drawn _ (fun e he => g e (q.mem_iff.mp he)) ((q.map txt).trans pm)
  · refine wp_if_neg c ?_
    try refine wpAny_bind (wpAny_pure ?_)
    by_cases c2 : (!t.plain && decide (es.size > 1)) = true
    · refine wp_if_pos c2 ?_
      refine wpAny_bind (drawOrder_at _ _ _ _ (Nat.le_of_eq Array.length_toList) fun ys d q => wpAny_pure ?_)
      refine hQ d _ (fun e he => g e (q.mem_iff.mp (by simpa using he))) ?_
      rw [show ys.toArray.toList = ys by simp]
      exact (q.map txt).trans pm
    · refine wp_if_neg c2 ?_
      try refine wpAny_bind (wpAny_pure ?_)
      have hl' : t.led = true := hl.resolve_left c
      refine wpAny_bind (wpAny_of_eq (a := ()) ?_ ?_)
      · show (if (!t.led && decide (es.size > 1)) = true then unsupported "set:maker-not-led" else pure ()) = pure ()
        rw [hl'] <;> rfl
      · exact wpAny_pure (hQ s.drawn es g pm)
/-- a set's rows, to be put into a -/
theorem unseen_ok (R1 : SetX w s.heap a L1 es ep t) (R2 : SetT w s.heap b L2) (hab : a ≠ b) {Q : Array (Int × Value) → Shared → Prop}
    (hQ : ∀ h' d es' ep' t' (fs : Array (Int × Value)), Heap.SameBut a s.heap h' → SetX w h' a L1 es' ep' t' → (∀ e ∈ fs.toList, Mem1 w e) → (fs.toList.map txt).Perm L2 → Q fs { s with heap := h', drawn := d }) :
    wpAny (model P w) A (setWalkUnseen b [a] (some a)) Q E s := by
  obtain ⟨o, fs, ep2, t2, ho, hex, hd, g, pm, nd, hb, hf, hr, hl⟩ := id R2
  unfold setWalkUnseen
  refine wpAny_bind (wpAny_setState_of ho hd hf ?_)
  dsimp only
  refine wpAny_bind (wpAny_byText ?_)
  have side : wpAny (model P w) A (setWalk b) Q E s := walk_ok R2 fun d gs h1 h2 => hQ s.heap d es ep t gs (Heap.SameBut.refl a s.heap) R1 h1 h2
  by_cases c : (w.params.followText "set-order" || (t2.led && t2.plain) || decide (fs.size ≤ 1)) = true
  · refine wp_if_pos c ?_
    exact side
  · refine wp_if_neg c ?_
    try refine wpAny_bind (wpAny_pure ?_)
    have hbt : w.params.followText "set-order" = false := by
      cases e : w.params.followText "set-order" with
      | false => rfl
      | true =>
        rw [e] at c
        exact absurd rfl c
    refine wpAny_bind (quiet_ok [b, a] (fun x hx => ?_) ?_)
    · rcases List.mem_cons.mp hx with e | hx
      · exact ⟨L2, e ▸ R2⟩
      · exact ⟨L1, (List.mem_singleton.mp hx) ▸ R1.toT⟩
    refine wp_if_neg (by simp) ?_
    try refine wpAny_bind (wpAny_pure ?_)
    refine wpAny_bind (wpAny_rule ?_)
    obtain ⟨o1, ho1, hex1, hd1, g1, pm1, nd1, hb1, hf1, hr1, hl1, hm1, hdm1⟩ := id R1
    have l1 : t.led = true := hl1.resolve_left (by rw [hbt]; exact Bool.false_ne_true)
    have l2 : t2.led = true := hl.resolve_left (by rw [hbt]; exact Bool.false_ne_true)
    refine wpAny_bind (wpAny_setState_of ho1 hd1 hf1 ?_)
    dsimp only
    by_cases c2 : ((t.led && !t2.led) || (t.plain && !t2.plain)) = true
    · refine wp_if_pos c2 ?_
      refine wpAny_bind (store_setX (t2 := { t with led := t.led && t2.led, plain := t.plain && t2.plain }) ho1 hex1 hd1 g1 pm1 nd1 hb1 ?_ hr1 ?_ hm1 hdm1 fun h' ep' sb R' => ?_)
      · exact hf1
      · exact .inr (by show (t.led && t2.led) = true; rw [l1, l2]; rfl)
      · exact wpAny_pure (hQ h' s.drawn es ep' _ fs sb R' g pm)
    · refine wp_if_neg c2 ?_
      try refine wpAny_bind (wpAny_pure ?_)
      exact wpAny_pure (hQ s.heap s.drawn es ep t fs (Heap.SameBut.refl a s.heap) R1 g pm)
end
end TxSet
set_option Elab.async false
set_option linter.all false
set_option maxRecDepth 100000
set_option maxHeartbeats 2000000
namespace TxSet
open PySem PySem.Spec PyProof.Rows L2
theorem road_is (t o : SetTable) : (t.road o = .slotForSlot → t.fill = 0 ∧ t.mask = o.mask ∧ o.dummies = #[]) ∧ (t.road o = .clean → t.fill = 0) ∧ (t.road o = .oneByOne → t.fill ≠ 0) := by
  unfold SetTable.road
  by_cases c : t.fill = 0
  · rw [if_neg (by simp [c])]
    by_cases c2 : (t.mask == o.mask && o.dummies.isEmpty) = true
    · rw [if_pos c2]
      rw [Bool.and_eq_true, beq_iff_eq] at c2
      exact ⟨fun _ => ⟨c, c2.1, Array.isEmpty_iff.mp c2.2⟩, (fun z => nomatch z), fun z => nomatch z⟩
    · rw [if_neg c2]
      exact ⟨(fun z => nomatch z), fun _ => c, fun z => nomatch z⟩
  · rw [if_pos (by simp [c])]
    exact ⟨(fun z => nomatch z), (fun z => nomatch z), fun _ => c⟩
section
variable {P : Program} {w : World} {A : Around} {E : Value → Shared → Prop} {s : Shared} {a b : Addr} {L L1 L2 : List Str} {es : Array (Int × Value)} {ep : Nat} {t : SetTable}
/-- one by one: all that is there and all that comes -/
theorem loop_ok {f : (Int × Value) → PUnit → Sem (ForInStep PUnit)} {s0 : Shared} (hn : L1.length + L2.length ≤ 60)
    (hf : ∀ (k : Str) (tk : Tok) (h' : Heap) (d : Drawn) (M : List Str) (R : ForInStep PUnit → Shared → Prop), Heap.SameBut a s0.heap h' → SetT w h' a M → M.length + 1 ≤ 60 →
      (∀ h2, Heap.SameBut a h' h2 → SetT w h2 a (ins M k) → R (.yield ⟨⟩) { s0 with heap := h2, drawn := d }) → wpAny (model P w) A (f (hashStr w k, .str k tk) ⟨⟩) R E { s0 with heap := h', drawn := d }) {Q : PUnit → Shared → Prop}
    (hQ : ∀ h' d L', Heap.SameBut a s0.heap h' → SetT w h' a L' → (∀ x, x ∈ L' ↔ x ∈ L1 ∨ x ∈ L2) → L'.length ≤ L1.length + L2.length → Q ⟨⟩ { s0 with heap := h', drawn := d })
    (fs : Array (Int × Value)) (hg : ∀ e ∈ fs.toList, Mem1 w e) (pm : (fs.toList.map txt).Perm L2) {h1 : Heap} {d1 : Drawn} (sb : Heap.SameBut a s0.heap h1) (R1 : SetT w h1 a L1) :
    wpAny (model P w) A (forIn fs PUnit.unit f) Q E { s0 with heap := h1, drawn := d1 } := by
  have hl2 : fs.toList.length = L2.length := by
    have q := pm.length_eq
    rwa [List.length_map] at q
  refine MeetsSeq2.wpAny_forIn_array _ (fun rest _ z => ∃ M h' d, z = { s0 with heap := h', drawn := d } ∧ Heap.SameBut a s0.heap h' ∧ SetT w h' a M ∧ (∀ x, (x ∈ M ∨ x ∈ rest.map txt) ↔ (x ∈ L1 ∨ x ∈ L2)) ∧
    M.length + rest.length ≤ L1.length + L2.length ∧ ∀ e ∈ rest, Mem1 w e) _ ?_ ?_ fs _ ⟨L1, h1, d1, rfl, sb, R1, fun x => ?_, by omega, hg⟩
  · rintro ⟨hh, v⟩ rest _ z ⟨M, h', d, rfl, sb', hS, hm, hlen, hr⟩
    obtain ⟨k, tk, e1, e2⟩ := hr _ List.mem_cons_self
    have e1' : v = Value.str k tk := e1
    have e2' : hh = hashStr w k := e2
    subst e1' e2'
    rw [List.length_cons] at hlen
    refine hf k tk h' d M _ sb' hS (by omega) fun h2 sb2 hS2 => ⟨ins M k, h2, d, rfl, sb'.trans sb2, hS2, fun x => ?_, ?_, fun e he' => hr e (List.mem_cons_of_mem _ he')⟩
    · rw [← hm x, ins_mem, List.map_cons, List.mem_cons]
      show _ ↔ _ ∨ x = k ∨ _
      constructor
      · rintro ((q | q) | q)
        · exact .inr (.inl q)
        · exact .inl q
        · exact .inr (.inr q)
      · rintro (q | q | q)
        · exact .inl (.inr q)
        · exact .inl (.inl q)
        · exact .inr q
    · have := ins_len M k
      omega
  · rintro _ z ⟨M, h', d, rfl, sb', hS, hm, hlen, _⟩
    refine hQ h' d M sb' hS (fun x => ?_) (by rw [List.length_nil] at hlen; omega)
    rw [← hm x]
    exact ⟨.inl, fun q => q.elim id fun q => nomatch q⟩
  · rw [(pm.mem_iff (a := x))]
/-- a set is merged into another -/
theorem merge_ok (R1 : SetX w s.heap a L1 es ep t) (R2 : SetT w s.heap b L2) (hab : a ≠ b) (hn : L1.length + L2.length ≤ 60) {each : Sem Unit}
    (he : ∀ (z : Shared) (Q' : Unit → Shared → Prop), z.heap.get? b = s.heap.get? b → Q' () z → wpAny (model P w) A each Q' E z) {Q : Unit → Shared → Prop}
    (hQ : ∀ h' d L', Heap.SameBut a s.heap h' → SetT w h' a L' → (∀ x, x ∈ L' ↔ x ∈ L1 ∨ x ∈ L2) → L'.length ≤ L1.length + L2.length → (L1 = [] → ∃ es ep t, SetX w h' a L' es ep t) → Q () { s with heap := h', drawn := d }) :
    wpAny (model P w) A (setMerge a b each) Q E s := by
  unfold setMerge
  refine wp_if_neg (by simpa using hab) ?_
  try refine wpAny_bind (wpAny_pure ?_)
  obtain ⟨o2, es2, ep2, t2, ho2, hex2, hd2, g2, pm2, nd2, hb2, hf2, hr2, hl2⟩ := id R2
  have hsz2 : es2.size = L2.length := by
    have q := pm2.length_eq
    rwa [List.length_map, Array.length_toList] at q
  refine wpAny_bind (wpAny_setState_of ho2 hd2 hf2 ?_)
  dsimp only
  by_cases c0 : es2.isEmpty = true
  · refine wp_if_pos c0 ?_
    have e2 : L2 = [] := by
      have := Array.isEmpty_iff_size_eq_zero.mp c0
      exact List.eq_nil_of_length_eq_zero (by omega)
    subst e2
    exact wpAny_pure (hQ s.heap s.drawn L1 (Heap.SameBut.refl a s.heap) R1.toT (fun x => by simp) (by simp) fun _ => ⟨es, ep, t, R1⟩)
  refine wp_if_neg c0 ?_
  try refine wpAny_bind (wpAny_pure ?_)
  refine wpAny_bind (room_ok R1 (n := es2.size) (by omega) fun h1 es1 ep1 t1 sb1 R1' hm1 => ?_)
  obtain ⟨o1, ho1, hex1, hd1, g1, pm1, nd1, hb1, hf1, hr1, hl1, hk1, hdm1⟩ := id R1'
  refine wpAny_bind (wpAny_setState_of ho1 hd1 hf1 ?_)
  dsimp only
  have hfl := R1'.fill.1
  obtain ⟨r1, r2, r3⟩ := road_is t1 t2
  have nil : t1.fill = 0 → L1 = [] := fun z => List.eq_nil_of_length_eq_zero (by omega)
  have led2 : w.params.followText "set-order" = true ∨ (t1.led && t2.led) = true := by
    rcases hl1 with z | z
    · exact .inl z
    · rcases hl2 with y | y
      · exact .inl y
      · exact .inr (by rw [z, y]; rfl)
  cases hroad : t1.road t2 with
  | slotForSlot =>
    dsimp only
    obtain ⟨z1, z2, z3⟩ := r1 hroad
    have e1 := nil z1
    subst e1
    refine store_setX (s := { s with heap := h1 }) (t2 := { t2 with finger := t1.finger, led := t1.led && t2.led, moves := t1.moves, plain := t1.plain && t2.plain }) ho1 hex1 hd1 g2 pm2 nd2 hb2 hf2 hr2 led2 (show Msk t2.mask from z2 ▸ hk1) z3 fun h' ep' sb' R' => ?_
    exact hQ h' s.drawn L2 (sb1.trans sb') R'.toT (fun x => by simp) (by simp) fun _ => ⟨_, _, _, R'⟩
  | clean =>
    dsimp only
    have e1 := nil (r2 hroad)
    subst e1
    rw [List.length_nil, Nat.zero_add] at hm1
    obtain ⟨t3, order, e, q1, hsz, q2, q3, q4, q5, q6⟩ := rows_ok (fs := es2) hk1 hm1 t1.finger t1.moves (t1.led && t2.led) (t1.plain && t2.plain)
    rw [e]
    refine wpAny_bind (wp_if_neg (c := ((order.filterMap (es2[·]?)).size != es2.size) = true) (by rw [hsz]; simp) (wpAny_pure ?_))
    dsimp only
    refine store_setX (s := { s with heap := h1 }) ho1 hex1 hd1 (fun e he' => g2 e (q1.mem_iff.mp he')) ((q1.map txt).trans pm2) nd2 (by rw [hsz]; exact hb2) (fits_of (q3.trans hsz.symm) q4 (by rw [hsz, q2]; exact hm1)) q5 (by rw [q6]; exact led2) (by rw [q2]; exact hk1) q4 fun h' ep' sb' R' => ?_
    exact hQ h' s.drawn L2 (sb1.trans sb') R'.toT (fun x => by simp) (by simp) fun _ => ⟨_, _, _, R'⟩
  | oneByOne =>
    dsimp only
    have hne : L1 ≠ [] := fun z => r3 hroad (by rw [hfl, z]; rfl)
    have R2' : SetT w h1 b L2 := R2.at fun o e => by rw [sb1.2 b (Ne.symm hab)]; exact e
    refine wpAny_bind (unseen_ok (s := { s with heap := h1 }) R1' R2' hab fun h2 d2 es3 ep3 t3 fs sb2 R3 g3 pm3 => ?_)
    refine wpAny_bind (loop_ok (s0 := s) hn (fun k tk h' d M R sb' hS hlen kk => ?_) (fun h' d L' sb' hS hm hlen => ?_) fs g3 pm3 (sb1.trans sb2) R3.toT)
    · have hsb : scanBound = 4096 := rfl
      dsimp only
      refine wpAny_bind (wpAny_holding (add_hashed (P := P) (s := { s with heap := h', drawn := d }) hS (by omega) fun _ h4 sb4 hS4 => ?_))
      have eb : h4.get? b = s.heap.get? b := (sb4.2 b (Ne.symm hab)).trans (sb'.2 b (Ne.symm hab))
      refine wpAny_bind (he _ _ eb ?_)
      refine wpAny_bind (wpAny_setState_of (by rw [← eb] at ho2; exact ho2) hd2 hf2 ?_)
      dsimp only
      refine wp_if_neg (by simp) ?_
      try refine wpAny_bind (wpAny_pure ?_)
      exact wpAny_pure (kk h4 sb4 hS4)
    · exact wpAny_pure (hQ h' d L' sb' hS hm hlen fun z => absurd z hne)
end
end TxSet
set_option Elab.async false
set_option linter.all false
set_option maxRecDepth 100000
set_option maxHeartbeats 2000000
namespace TxSet
open PySem PySem.Spec PyProof.Rows L2
section
variable {P : Program} {w : World} {A : Around} {E : Value → Shared → Prop} {s : Shared} {a : Addr} {L : List Str}
set_option maxRecDepth 100000 in
set_option maxHeartbeats 3200000 in
/-- set(a tuple of texts) -/
theorem set_of_tuple {l : Addr} {items : Array Value} (xs : List Str) {Q : Value → Shared → Prop} (hh : A.handled = none) (hl : s.heap.IsTuple l items) (hit : StrsAre items.toList xs) (hb : xs.length + 1 < scanBound)
    (h : ∀ (h' : Heap) (tk : Nat), SetT w h' s.heap.objs.size (dd xs) → (∀ b o, s.heap.get? b = some o → h'.get? b = some o) → Q (.ref s.heap.objs.size) { s with heap := h', toks := tk }) :
    wpAny (model P w) A (call (.type "set") [.ref l]) Q E s := by
  have hisz : items.size = xs.length := by
    have q := hit.length
    rw [Array.length_toList] at q
    exact q
  obtain ⟨c, tl, hmro⟩ := F.called_set.mro
  have hmade := F.called_set.made
  have hsub := F.called_set.sub
  refine wpAny_call (codeAny_of_tree ?_)
  show wpAny _ _ (callAny (.type "set") _) _ _ _
  refine wpAny_pure ⟨Code.quiet_builtin _ (by decide +kernel), codeAny_builtin F.entry_type_call ?_⟩
  rw [Around.under_plain (weight_type_call_type "set" [.ref l] []) rfl]
  have h1 := F.called_set.notType
  have h2 := F.called_set.canCreate
  have hct := F.typeCall_set_1 (.ref l)
  repeat (any_goals (first | assumption | wp_step))
  refine codeAny_mono (code_set_led1 (.ref l) (E := E) (Q₁ := fun obj z => obj = .ref s.heap.objs.size ∧ z = { s with heap := s.heap.push (emptyS w) }) ⟨rfl, rfl⟩) fun r z hr => ?_
  cases r with
  | error e => exact hr
  | ok fl =>
    cases fl with
    | ret obj =>
      obtain ⟨rfl, rfl⟩ := hr
      have hS : (s.heap.push (emptyS w)).get? s.heap.objs.size = some (emptyS w) := Heap.get?_push_size _ rfl
      have hT : Shared.TypeIs { s with heap := s.heap.push (emptyS w) } (.ref s.heap.objs.size) "set" := ⟨_, hS, rfl⟩
      have hli := F.called_set.init.lookup
      have hbi := F.called_set.init.bind (.ref s.heap.objs.size)
      repeat (any_goals (first | assumption | wp_step))
      refine codeAny_mono (codeAny_call_builtin (R := wants (fun r z2 => r = .none ∧ ∃ h' tk, z2 = { s with heap := h', toks := tk } ∧ SetT w h' s.heap.objs.size (dd xs) ∧
          (∀ b o, s.heap.get? b = some o → h'.get? b = some o)) E) F.called_set.init.plain F.entry_set_init (check_set_init_1 hT ?_)) fun r2 z2 hr2 => ?_
      · obtain ⟨ol, hol, hcl, nl, hdl⟩ := hl
        obtain ⟨ocls, odict, odata, oslots⟩ := ol
        simp only at hcl hdl
        subst hcl; subst hdl
        have hol' : (s.heap.push (emptyS w)).get? l = some { cls := .type "tuple", dict := odict, data := .seq items nl, slots := oslots } := Heap.get?_push_of_some _ hol
        have hsls := F.sub_tuple_set
        have hslf := F.sub_tuple_frozenset
        have hne : (Value.type "tuple" == Value.type "dict") = false := by decide
        have hl1 : (s.heap.push (emptyS w)).IsTuple l items := ⟨_, hol', rfl, nl, rfl⟩
        unfold Builtin.«set.__init__» noKeywords Builtin.Frozenset.updateFrom
        generalize hPI : pyIter = PI
        wp_walk
        subst hPI
        refine wpAny_pyIter_tuple hl1 ?_
        refine wpAny_bind (wpAny_runValue ?_)
        have hlS : l < s.heap.objs.size := Heap.lt_size hol
        have hh3 : A.in1.in1.in1.handled = none := by simp [hh]
        have hneI : l ≠ (s.heap.push (emptyS w)).objs.size := by
          rw [Heap.size_push]
          exact Nat.ne_of_lt (Nat.lt_succ_of_lt hlS)
        have hSf : s.heap.objs.size ∉ [(s.heap.push (emptyS w)).objs.size, l] := by
          rw [Heap.size_push]
          simp only [List.mem_cons, List.mem_singleton, List.not_mem_nil, or_false, not_or]
          exact ⟨Nat.ne_of_lt (Nat.lt_succ_self _), Nat.ne_of_gt hlS⟩
        have hval : ∀ (i : Nat) (v : Value), items[i]? = some v → ∃ k t, xs[i]? = some k ∧ v = .str k t := fun i v hv => by
          have hi : i < xs.length := by
            rw [← hisz]
            exact (Array.getElem?_eq_some_iff.mp hv).1
          obtain ⟨t, e⟩ := SS.strs_at hit i v (by rw [Array.getElem?_toList]; exact hv)
          refine ⟨xs[i], t, List.getElem?_eq_getElem hi, ?_⟩
          rw [e, List.getD_eq_getElem?_getD, List.getElem?_eq_getElem hi]
          rfl
        refine into_set ((Walks.tuple hh3 _ l hneI items).toS) s.heap.objs.size hSf xs hisz hb hval (items.size - 0) 0 _ (by omega) (Nat.zero_le _)
          ⟨⟨_, Heap.get?_push_size _ rfl, rfl, rfl⟩, (hl1.push _)⟩ ?hS0 ?hR
        case hS0 => exact new_at (Heap.get?_push_of_some _ hS)
        case hR =>
          intro z3 hm hS'
          obtain ⟨h', g2, d', tk', os'⟩ := z3
          have eg : g2 = s.gens := hm.gens
          have ed : d' = s.drawn := hm.drawn
          have eo : os' = s.os := hm.os
          subst eg; subst ed; subst eo
          show wpAny _ _ _ _ _ _
          refine wpAny_pure ?_
          show wpAny _ _ (ret Value.none) _ _ _
          refine wpAny_pure ⟨rfl, h', tk', rfl, hS', fun b o e => ?_⟩
          have hb0 : b < s.heap.objs.size := Heap.lt_size e
          have hb1 : b ≠ s.heap.objs.size := Nat.ne_of_lt hb0
          have hb2 : b ≠ (s.heap.push (emptyS w)).objs.size := by
            rw [Heap.size_push]
            exact Nat.ne_of_lt (Nat.lt_succ_of_lt hb0)
          refine hm.heap b o ?_ (Heap.get?_push_of_some _ (Heap.get?_push_of_some _ e))
          simp only [List.mem_cons, List.mem_singleton, List.not_mem_nil, or_false, not_or]
          exact ⟨hb1, hb2⟩
      · cases r2 with
        | error e => exact hr2
        | ok fl2 =>
          cases fl2 with
          | ret r =>
            obtain ⟨rfl, h', tk, rfl, hS', hk'⟩ := hr2
            repeat (any_goals (first | assumption | wp_step))
            exact h _ _ hS' hk'
          | _ => exact hr2.elim
    | _ => exact hr.elim

end
end TxSet
set_option Elab.async false
set_option linter.all false
set_option maxRecDepth 100000
set_option maxHeartbeats 2000000
namespace TxSet
open PySem PySem.Spec PyProof.Rows L2
/-! ### a | b -/
theorem entry_set_or : entryFor table "set.__or__" = some Builtin.«frozenset.__or__» :=
  entryFor_alias (id' := "frozenset.__or__") (by kernel_rfl) rfl (by decide +kernel) (by kernel_rfl)
end TxSet
set_option Elab.async false
set_option linter.all false
set_option maxRecDepth 100000
set_option maxHeartbeats 2000000
namespace TxSet
open PySem PySem.Spec PyProof.Rows L2
section
variable {P : Program} {w : World} {A : Around} {E : Value → Shared → Prop} {s : Shared} {a b : Addr} {L L1 L2 : List Str}
theorem SetT.ty {s : Shared} (R : SetT w s.heap a L) : s.TypeIs (.ref a) "set" := by
  obtain ⟨o, _, _, _, ho, hex, _⟩ := R
  exact ⟨o, ho, hex.1⟩
theorem isSet_ok {Q : Bool → Shared → Prop} (R : SetT w s.heap a L) (h : Q true s) : wpAny (model P w) A (isInstance (.ref a) (.type "set")) Q E s := wpAny_isInstance (b := true) R.ty sub_set_self h
theorem anySet_ok {Q : Bool → Shared → Prop} (R : SetT w s.heap a L) (h : Q true s) : wpAny (model P w) A (Builtin.Frozenset.isAnySet (.ref a)) Q E s := by
  unfold Builtin.Frozenset.isAnySet orM
  refine wpAny_bind (isSet_ok R ?_)
  exact wpAny_pure h
theorem newX {h : Heap} (ho : h.get? a = some (emptyS w)) : SetX w h a [] #[] 0 (.fresh 0 0 (!w.params.followText "set-order")) := by
  refine ⟨_, ho, ⟨rfl, rfl, rfl⟩, rfl, (fun e he => by simp at he), List.Perm.refl _, List.nodup_nil, (by decide), (by rfl), List.Pairwise.nil, ?_, .inl rfl, rfl⟩
  show _ ∨ (!w.params.followText "set-order") = true
  cases w.params.followText "set-order"
  · exact .inr rfl
  · exact .inl rfl
theorem sameBut_push {h h' : Heap} {o : Obj} (sb : Heap.SameBut h.objs.size (h.push o) h') : ∀ c u, h.get? c = some u → h'.get? c = some u := fun c u e => by
  have hlt : c < h.objs.size := Heap.lt_size e
  rw [sb.2 c (Nat.ne_of_lt hlt)]
  exact Heap.get?_push_of_some _ e
/-- a copy -/
theorem copy_ok (R : SetT w s.heap a L) (hn : L.length ≤ 60) {Q : Value → Shared → Prop}
    (hQ : ∀ h' d L' es ep t, (∀ c u, s.heap.get? c = some u → h'.get? c = some u) → SetX w h' s.heap.objs.size L' es ep t → (∀ x, x ∈ L' ↔ x ∈ L) → L'.length ≤ L.length → Q (.ref s.heap.objs.size) { s with heap := h', drawn := d }) :
    wpAny (model P w) A (Builtin.Frozenset.copyOf a) Q E s := by
  have hlt : a < s.heap.objs.size := by
    obtain ⟨o, _, _, _, ho, _⟩ := R
    exact Heap.lt_size ho
  unfold Builtin.Frozenset.copyOf Builtin.Frozenset.baseOf newSet
  refine wpAny_bind (wpAny_bind (isSet_ok R (wpAny_pure ?_)))
  simp only [if_true]
  refine wpAny_bind ?_
  refine wpAny_bind (wpAny_byText ?_)
  simp only [newObj]
  refine wpAny_bind (wpAny_alloc (wpAny_pure ?_))
  refine wpAny_bind (wpAny_of_eq (a := s.heap.objs.size) rfl ?_)
  have hS : (s.heap.push (emptyS w)).get? s.heap.objs.size = some (emptyS w) := Heap.get?_push_size _ rfl
  refine wpAny_bind (merge_ok (s := { s with heap := s.heap.push (emptyS w) }) (newX hS) (R.at fun o e => Heap.get?_push_of_some _ e) (Nat.ne_of_gt hlt) (by simpa using hn) (fun z Q' _ q => wpAny_pure q) fun h' d L' sb hS' hm hl hx => ?_)
  obtain ⟨es, ep, t, hX⟩ := hx rfl
  exact wpAny_pure (hQ h' d L' es ep t (sameBut_push sb) hX (fun x => by rw [hm x]; simp) (by simpa using hl))
theorem upd_ok (nm : String) {es : Array (Int × Value)} {ep : Nat} {t : SetTable} (R1 : SetX w s.heap a L1 es ep t) (R2 : SetT w s.heap b L2) (hab : a ≠ b) (hn : L1.length + L2.length ≤ 60) {Q : Unit → Shared → Prop}
    (hQ : ∀ h' d L', Heap.SameBut a s.heap h' → SetT w h' a L' → (∀ x, x ∈ L' ↔ x ∈ L1 ∨ x ∈ L2) → L'.length ≤ L1.length + L2.length → Q () { s with heap := h', drawn := d }) :
    wpAny (model P w) A (Builtin.Frozenset.updateFrom nm a (.ref b)) Q E s := by
  unfold Builtin.Frozenset.updateFrom
  refine wpAny_bind (anySet_ok R2 ?_)
  refine wp_if_pos (by rfl) ?_
  refine wpAny_bind (wpAny_of_eq (a := b) rfl ?_)
  unfold Builtin.Frozenset.merge Builtin.Frozenset.unchanged setEpoch
  obtain ⟨o2, es2, ep2, t2, ho2, hex2, hd2, g2, pm2, nd2, hb2, hf2, hr2, hl2⟩ := id R2
  refine wpAny_bind (wpAny_bind (wpAny_setState_of ho2 hd2 hf2 (wpAny_pure ?_)))
  dsimp only
  refine merge_ok R1 R2 hab hn (fun z Q' e q => ?_) fun h' d L' sb hS hm hl _ => hQ h' d L' sb hS hm hl
  refine wpAny_bind (wpAny_bind (wpAny_setState_of (by rw [e]; exact ho2) hd2 hf2 (wpAny_pure ?_)))
  dsimp only
  refine wp_if_neg (by simp) ?_
  exact wpAny_pure q
/-- all of both, in a new set -/
theorem or_ok (R1 : SetT w s.heap a L1) (R2 : SetT w s.heap b L2) (hab : a ≠ b) (hn : L1.length + L2.length ≤ 60) {Q : Value → Shared → Prop}
    (hQ : ∀ h' d L', (∀ c u, s.heap.get? c = some u → h'.get? c = some u) → SetT w h' s.heap.objs.size L' → (∀ x, x ∈ L' ↔ x ∈ L1 ∨ x ∈ L2) → L'.length ≤ L1.length + L2.length → Q (.ref s.heap.objs.size) { s with heap := h', drawn := d }) :
    wpAny (model P w) A (binaryOp .BitOr (.ref a) (.ref b)) Q E s := by
  have hlt : b < s.heap.objs.size := by
    obtain ⟨o, _, _, _, ho, _⟩ := R2
    exact Heap.lt_size ho
  refine wpAny_binaryOp_same (T := "set") (id := "set.__or__") R1.ty R2.ty F.fills_set_or F.slot_set_or ?_
  refine wpAny_call_entry F.slot_set_or R1.ty entry_set_or ?_ (F.args_set_or_2 _ _)
  refine wpAny_bind (wpAny_pure ?_)
  refine wpAny_bind ?_
  unfold andM
  refine wpAny_bind (anySet_ok R1 (anySet_ok R2 ?_))
  refine wp_if_neg (by simp) ?_
  refine wpAny_bind (wpAny_of_eq (a := a) rfl ?_)
  refine wpAny_bind (wpAny_bind (copy_ok R1 (by omega) fun h1 d1 M es ep t k1 hX hm hl => ?_))
  refine wp_if_pos (by simpa using Ne.symm hab) ?_
  refine wpAny_bind (wpAny_of_eq (a := s.heap.objs.size) rfl ?_)
  refine wpAny_bind (wpAny_holding (upd_ok (s := { s with heap := h1, drawn := d1 }) _ hX (R2.at fun o e => k1 _ _ e) (Nat.ne_of_gt hlt) (by omega) fun h2 d2 L' sb hS hm2 hl2 => ?_))
  refine wpAny_pure (wpAny_pure ⟨_, rfl, fun z => (nomatch z), hQ h2 d2 L' (fun c u e => ?_) hS (fun x => by rw [hm2 x, hm x]) (by omega)⟩)
  rw [sb.2 c (Nat.ne_of_lt (Heap.lt_size e))]
  exact k1 c u e
end
end TxSet
namespace L2
open PySem PySem.Spec PyProof.Rows
/-- a set of just these texts -/
def SetS (w : World) (a : Addr) (L : List Str) : HO := .ext fun h => TxSet.SetT w h a L
section
variable {X : Cx}
theorem setS_new {w : World} {P : Program} {H : Hp} {h : Heap} {a : Addr} {L : List Str} (R : TxSet.SetT w h a L) : ObjOk P w H h a (SetS w a L) := by
  have ⟨o, _, _, _, ho, _⟩ := R
  exact ⟨R, ⟨o, ho⟩, fun h1 h2 p k => TxSet.SetT.at p k⟩
theorem setS_get {pins : List (Addr × Obj)} {σ : St} {H : Hp} {s : Shared} {a : Addr} {L : List Str} (I : Inv X pins σ H s) (ha : H a = some (SetS X.w a L)) : TxSet.SetT X.w s.heap a L := (I.hok a _ ha).1
/-- set(texts) -/
def rSetS (X : Cx) : List V → Hp → VK → Prop := fun vs H Q => ∃ (l : Addr) (xs : List Str), vs = [V.ref l] ∧ (SqL X.K H l (xs.map V.str) ∨ SqT X.K H l (xs.map V.str)) ∧ xs.length ≤ 4000 ∧ ∀ p, H p = none → Q (.ref p) (upd H p (SetS X.w p (TxSet.dd xs)))
theorem cr_setS (hc : X.calm = true) : CallR X (.type "set") (rSetS X) := by
  intro pins s σ H vs us Q I r h
  obtain ⟨l, xs, rfl, hl, hz, q⟩ := h
  rw [Vals.ref1 r]
  have hn : H s.heap.objs.size = none := I.hok.fresh (Nat.le_refl _)
  rcases hl with hl | hl
  · obtain ⟨its, rv, pl, _⟩ := I.list hl
    refine TxSet.set_of_list (P := X.prog) (w := X.w) xs (I.ok.hd hc) pl.isList (by simpa using strsAre_of rv) (by unfold scanBound; omega) fun h' tk hS hk => ?_
    exact ⟨.ref s.heap.objs.size, _, I.laid (t' := tk) hk (Nat.le_refl _) (setS_new hS), rfl, q _ hn⟩
  · obtain ⟨its, rv, pl, _⟩ := I.tuple hl
    refine TxSet.set_of_tuple (P := X.prog) (w := X.w) xs (I.ok.hd hc) pl (by simpa using strsAre_of rv) (by unfold scanBound; omega) fun h' tk hS hk => ?_
    exact ⟨.ref s.heap.objs.size, _, I.laid (t' := tk) hk (Nat.le_refl _) (setS_new hS), rfl, q _ hn⟩
/-- a | b -/
theorem op_orS : OpR X (binaryOp .BitOr) (fun x y H Q => ∃ (a b : Addr) (L1 L2 : List Str), x = .ref a ∧ y = .ref b ∧ H a = some (SetS X.w a L1) ∧ H b = some (SetS X.w b L2) ∧ a ≠ b ∧ L1.length + L2.length ≤ 60 ∧
    ∀ p L', H p = none → L'.Nodup → (∀ x, x ∈ L' ↔ x ∈ L1 ∨ x ∈ L2) → L'.length ≤ L1.length + L2.length → Q (.ref p) (upd H p (SetS X.w p L'))) := by
  intro pins s σ H x y v u Q I rx ry h
  obtain ⟨a, b, L1, L2, rfl, rfl, ha, hb, hab, hn, q⟩ := h
  cases rx
  cases ry
  have hn0 : H s.heap.objs.size = none := I.hok.fresh (Nat.le_refl _)
  refine TxSet.or_ok (P := X.prog) (w := X.w) (setS_get I ha) (setS_get I hb) hab hn fun h' d L' k hS hm hl => ?_
  have J : Inv X pins σ (upd H s.heap.objs.size (SetS X.w s.heap.objs.size L')) { s with heap := h', drawn := d } :=
    I.call (ch := []) (Un.laid k (Nat.le_refl _) hn0) (I.hok.laid k (Nat.le_refl _) (setS_new hS)) I.bare (fun _ z => nomatch z)
  have nd : L'.Nodup := by
    obtain ⟨o, _, _, _, _, _, _, _, _, nd, _⟩ := hS
    exact nd
  exact ⟨.ref s.heap.objs.size, _, J, rfl, q _ L' hn0 nd hm hl⟩
/-- sorted(set of texts) -/
theorem cr_sortedTx (hc : X.calm = true) : CallR X (.builtin "sorted") (fun vs H Q => ∃ (a : Addr) (L : List Str), vs = [V.ref a] ∧ H a = some (SetS X.w a L) ∧ L.length < 64 ∧
    ∀ (ys : List Str) (p : Addr), ys.Perm L → sortedS ys = true → H p = none → Q (.ref p) (upd H p (.lst (ys.map V.str)))) := by
  intro pins s σ H vs us Q I r h
  obtain ⟨a, L, rfl, ha, h64, q⟩ := h
  rw [Vals.ref1 r]
  refine TxSet.sorted_txt (P := X.prog) (w := X.w) (setS_get I ha) (I.ok.hd hc) h64 fun z p out c ys k g o hp hout hys hperm hsort => ?_
  have hn : H p = none := I.hok.fresh hp
  have hlen : (ys.map V.str).length ≤ sizeLine := by
    rw [List.length_map, hperm.length_eq]
    exact Nat.le_of_lt (Nat.lt_of_lt_of_le h64 (by decide))
  obtain ⟨zh, zg, zd, zt, zo⟩ := z
  obtain rfl : zg = s.gens := g
  obtain rfl : zo = s.os := o
  have J : Inv X pins σ (upd H p (.lst (ys.map V.str))) { s with heap := zh, gens := s.gens, drawn := zd, toks := zt } :=
    I.call (ch := []) (Un.laid k hp hn) (I.hok.laid k hp ⟨hlen, out.toList, c, vals_of_strs hys, hout⟩) I.bare (fun _ z => nomatch z)
  exact ⟨.ref p, _, J, rfl, q ys p hperm hsort hn⟩
end
end L2
set_option Elab.async false
set_option linter.all false
set_option maxRecDepth 100000
set_option maxHeartbeats 2000000
/-! A walk over d.items() whose pairs are kept. -/
namespace ItN
open PySem PySem.Spec PyProof.Rows L2
/-- the iterator of d's pairs: p tells which pair it holds back, q whether it has seen that this one is kept -/
abbrev ItS (h : Heap) (it d : Addr) (i n ep : Nat) (p q ok ov : Value) : Prop :=
  h.get? it = some { cls := .type "dict_itemiterator", dict := none, data := .fields #[p, q, .ref d, .int i 0, .int n 0, .int ep 0, ok, ov], slots := #[] }
def Hb (p q : Value) : Prop := (p = .none ∧ q = .bool false) ∨ ∃ (a : Addr) (f : Bool), p = rawInt a ∧ q = .bool f
section
variable {prog : Program} {w : World} {A : Around} {E : Value → Shared → Prop} {s : Shared} {it d : Addr} {i n ep : Nat} {p q ok ov : Value}
/-- is the pair that it holds back free? -/
theorem free_ok {Q : Bool → Shared → Prop} (hit : ItS s.heap it d i n ep p q ok ov) (hb : Hb p q) (hQ : ∀ b h' q', Heap.SameBut it s.heap h' → ItS h' it d i n ep p q' ok ov → Hb p q' → Q b { s with heap := h' }) :
    wpAny (model prog w) A (Builtin.Dict_items.ownedTupleIsFree (.ref it)) Q E s := by
  have same := hQ
  unfold Builtin.Dict_items.ownedTupleIsFree
  refine wpAny_bind (wpAny_field hit rfl (i := 0) (x := p) rfl ?_)
  rcases hb with ⟨rfl, rfl⟩ | ⟨a, f, rfl, rfl⟩
  · exact wpAny_pure (hQ true s.heap _ (Heap.SameBut.refl _ _) hit (.inl ⟨rfl, rfl⟩))
  · have alive : ∀ R : Option Obj → Shared → Prop, (∀ x, R x s) → wpAny (model prog w) A (loadIfAlive (Int.toNat (a : Int))) R E s := fun R h _ _ _ => h _
    refine wpAny_bind (alive _ fun x => ?_)
    cases x with
    | none => exact wpAny_pure (hQ true s.heap _ (Heap.SameBut.refl _ _) hit (.inr ⟨a, f, rfl, rfl⟩))
    | some o =>
      refine wpAny_bind (wpAny_field hit rfl (i := 1) (x := .bool f) rfl ?_)
      cases f with
      | true => exact wpAny_pure (hQ false s.heap _ (Heap.SameBut.refl _ _) hit (.inr ⟨a, true, rfl, rfl⟩))
      | false => exact wpAny_bind (wpAny_setField_rec hit (by simp) fun h1 e1 sb => wpAny_pure (hQ false h1 (.bool true) sb e1 (.inr ⟨a, true, rfl, rfl⟩)))
/-- the pair is made -/
theorem pair_ok {k v : Value} {Q : Value → Shared → Prop} (hit : ItS s.heap it d i n ep p q ok ov) (hb : Hb p q)
    (hQ : ∀ h' p' q' ok' ov', ItS h' it d i n ep p' q' ok' ov' → Hb p' q' → h'.get? s.heap.objs.size = some { cls := .type "tuple", data := .seq #[k, v] } → h'.objs.size = s.heap.objs.size + 1 → (∀ b o, b ≠ it → s.heap.get? b = some o → h'.get? b = some o) → Q (.ref s.heap.objs.size) { s with heap := h' }) :
    wpAny (model prog w) A (Builtin.Dict_items.pairFromOwner (.ref it) 6 k v) Q E s := by
  have hlt : it < s.heap.objs.size := Heap.lt_size hit
  unfold Builtin.Dict_items.pairFromOwner
  refine wpAny_bind (wpAny_newTuple ?_)
  generalize hg : s.heap.push { cls := .type "tuple", data := .seq #[k, v] } = g
  have g1 : ItS g it d i n ep p q ok ov := hg ▸ Heap.get?_push_of_some _ hit
  have g2 : g.get? s.heap.objs.size = some { cls := .type "tuple", data := .seq #[k, v] } := hg ▸ Heap.get?_push_size _ rfl
  have g3 : ∀ b o, s.heap.get? b = some o → g.get? b = some o := fun b o e => hg ▸ Heap.get?_push_of_some _ e
  have g4 : g.objs.size = s.heap.objs.size + 1 := by rw [← hg, Heap.size_push]
  have fin : ∀ h' p' q' ok' ov', Heap.SameBut it g h' → ItS h' it d i n ep p' q' ok' ov' → Hb p' q' → Q (.ref s.heap.objs.size) { s with heap := h' } := fun h' p' q' ok' ov' sb e1 e2 =>
    hQ h' p' q' ok' ov' e1 e2 ((sb.2 _ (Nat.ne_of_gt hlt)).trans g2) (sb.1.trans g4) fun b o hb' e => (sb.2 b hb').trans (g3 b o e)
  refine wpAny_bind (free_ok (s := { s with heap := g }) g1 hb fun b h1 q1 sb1 e1 e2 => ?_)
  cases b with
  | false => exact wpAny_pure (fin h1 p q1 ok ov sb1 e1 e2)
  | true =>
    refine wpAny_bind (wpAny_field e1 rfl (i := 6) (x := ok) rfl (wpAny_bind (wpAny_field e1 rfl (i := 7) (x := ov) rfl ?_)))
    refine wpAny_bind (wpAny_setField_rec e1 (by simp) fun h2 f2 t2 => wpAny_bind (wpAny_setField_rec f2 (by simp) fun h3 f3 t3 => wpAny_bind (wpAny_setField_rec f3 (by simp) fun h4 f4 t4 => wpAny_bind (wpAny_setField_rec f4 (by simp) fun h5 f5 t5 => ?_))))
    refine wpAny_bind (wpAny_letGo (wpAny_pure ?_))
    exact fin h5 (rawInt s.heap.objs.size) (.bool false) k v (sb1.trans (t2.trans (t3.trans (t4.trans t5)))) f5 (.inr ⟨_, _, rfl, rfl⟩)
end
end ItN
set_option Elab.async false
set_option linter.all false
set_option maxRecDepth 100000
set_option maxHeartbeats 2000000
namespace ItN
open PySem PySem.Spec PyProof.Rows L2
section
variable {prog : Program} {w : World} {A : Around} {E : Value → Shared → Prop} {s : Shared} {it d : Addr} {i ep : Nat} {es : Array DictEntry} {p q ok ov : Value}
/-- its next pair, a new tuple -/
theorem next_ok {Q : Option Value → Shared → Prop} (hit : ItS s.heap it d i es.size ep p q ok ov) (hb : Hb p q) (hm : s.heap.DictRaw d es ep) (hi : i < es.size)
    (hQ : ∀ h' p' q' ok' ov', ItS h' it d (i + 1) es.size ep p' q' ok' ov' → Hb p' q' → h'.get? s.heap.objs.size = some { cls := .type "tuple", data := .seq #[es[i].key, es[i].val] } → h'.objs.size = s.heap.objs.size + 1 →
      (∀ b o, b ≠ it → s.heap.get? b = some o → h'.get? b = some o) → Q (some (.ref s.heap.objs.size)) { s with heap := h' }) : wpAny (model prog w) A (pyNext (.ref it)) Q E s := by
  obtain ⟨o, ho, _, hd⟩ := id hm
  have ty : s.TypeIs (.ref it) "dict_itemiterator" := ⟨_, hit, rfl⟩
  have two : Builtin.Dict_items.ownsTuple "dict_itemiterator" = true := by decide
  unfold pyNext
  refine wpAny_bind (wpAny_attempt (wpAny_callSpecial?_slot (name := Str.ofString "__next__") ty F.slot_dict_itemiterator_next (wpAny_call_entry F.slot_dict_itemiterator_next ty F.entry_dict_itemiterator_next ?_ (F.args_dict_itemiterator_next_1 _))))
  -- where it stands
  refine wpAny_bind (wpAny_pure (wpAny_bind (wpAny_bind (wpAny_bind (wpAny_typeNameOfWhole_itemiter ty (wpAny_pure (wpAny_bind (wpAny_fieldsOf hit rfl ?_))))))))
  simp only [two, if_true]
  refine wp_if_neg (c := (Value.ref d == Value.none) = true) (fun z => by cases z) (wpAny_bind (wpAny_of_eq (a := d) rfl (wpAny_bind (wpAny_dictEntries ho hd ?_))))
  refine wp_if_neg (by simp) (wpAny_bind (wpAny_of_eq (a := d) rfl (wpAny_bind (wpAny_dictEpoch ho hd (wp_if_neg (by simp) (wpAny_pure ?_))))))
  have here : (if (i : Int) < 0 then none else es[(i : Int).toNat]?) = some es[i] := by
    rw [if_neg (by omega), Int.toNat_natCast, Array.getElem?_eq_getElem hi]
  simp only [here]
  -- one further
  refine wpAny_bind (wpAny_bind (wpAny_typeNameOfWhole_itemiter ty (wpAny_pure (wpAny_bind (wpAny_isOneOf_itemiter ty ?_)))))
  refine wpAny_bind (wpAny_setField_rec hit (k := 3) (x := rawInt ((i : Int) + 1)) (by simp) fun h1 e1 t1 => ?_)
  have hit1 : ItS h1 it d (i + 1) es.size ep p q ok ov := e1
  have ty1 : Shared.TypeIs { s with heap := h1 } (.ref it) "dict_itemiterator" := ⟨_, hit1, rfl⟩
  -- the pair
  refine wpAny_bind (wpAny_holding (wpAny_bind (wpAny_isOneOf_itemiter ty1 (wpAny_bind (wpAny_isOneOf_itemiter ty1 ?_)))))
  have z1 : h1.objs.size = s.heap.objs.size := t1.1
  refine pair_ok (s := { s with heap := h1 }) hit1 hb fun h2 p2 q2 ok2 ov2 a1 a2 a3 a4 a5 => ?_
  rw [z1] at a3 a4 ⊢
  refine wpAny_pure ⟨_, rfl, wpAny_pure ?_⟩
  exact hQ h2 p2 q2 ok2 ov2 a1 a2 a3 a4 fun b u hb' e => a5 b u hb' ((t1.2 b hb').trans e)
end
end ItN
set_option Elab.async false
set_option linter.all false
set_option maxRecDepth 100000
set_option maxHeartbeats 2000000
namespace L2
open PySem PySem.Spec PyProof.Rows
open ItN
section
variable {P : Program} {w : World} {K : PySem.W.Frag} {o : Obj} {d : Addr} {es : Array DictEntry} {ep : Nat} {kvs : List (Key × V)} {x : Str} {tpos : Pos}
theorem turn_itemsN (it : Addr) (hod : o.data = .dict es ep) : Turn P w K (.Name x tpos) (Iti d o kvs) [it] it (fun i h => ∃ p q ok ov, ItS h it d i kvs.length ep p q ok ov ∧ Hb p q) where
  mem := List.mem_singleton.mpr rfl
  obj := fun i h st b hb => by
    obtain ⟨p, q, ok, ov, e, _⟩ := st
    rw [List.mem_singleton.mp hb]
    exact ⟨_, e, fun v z => nomatch z⟩
  keep := fun i h h' st k => by
    obtain ⟨p, q, ok, ov, e, hq⟩ := st
    exact ⟨p, q, ok, ov, k it (List.mem_singleton.mpr rfl) _ e, hq⟩
  item := by
    rintro X rfl rfl rfl hc i pins s σ H E I hf ⟨p, q, ok, ov, e, hq⟩ ⟨hd, hi⟩
    have hlt : it < s.heap.objs.size := Heap.lt_size e
    obtain ⟨_, _, _, es1, ep1, vs, hdt, _, kv, hm⟩ := I.frzK hd
    obtain ⟨rfl, rfl⟩ := dict_ep hod hdt
    have hl : kvs.length = vs.length := Paired.length kv
    obtain ⟨⟨k, v⟩, hkv⟩ : ∃ y, kvs[i]? = some y := ⟨_, List.getElem?_eq_getElem hi⟩
    obtain ⟨u, hu, ru⟩ := kv_get kv hkv
    obtain ⟨fs, raw, hz, keys⟩ := Heap.DictAt.raw hm
    have hi2 : i < fs.size := by omega
    obtain ⟨hk1, hk2⟩ := keys i hi2 k u hu
    rw [show kvs.length = fs.size by omega] at e
    refine next_ok e hq raw hi2 fun h1 p1 q1 ok1 ov1 a1 a2 a3 a4 a5 => ⟨_, rfl, wpAny_pure ?_⟩
    rw [hk2] at a3
    have ob : ObjOk X.prog X.w (upd H s.heap.objs.size (.tup [kV k, v])) h1 s.heap.objs.size (.tup [kV k, v]) :=
      ⟨by show 2 ≤ sizeLine; decide, _, .cons (relV_key hk1) (.cons ru .nil), _, a3, rfl, _, rfl⟩
    refine ⟨.ref s.heap.objs.size, _, I.turnedNew (t' := s.toks) (ch := [it]) (fun b u hb z => a5 b u (fun y => hb (by rw [y]; exact List.mem_singleton.mpr rfl)) z) hf (Nat.le_refl _) ob, rfl, ⟨_, k, v, hkv, rfl, I.hok.fresh (Nat.le_refl _), rfl⟩, ⟨p1, q1, ok1, ov1, ?_, a2⟩, fun b hb => ?_⟩
    · rw [show kvs.length = fs.size by omega]
      exact a1
    · rw [List.mem_singleton.mp hb, upd_ne (Nat.ne_of_lt hlt)]
      exact (hf it (List.mem_singleton.mpr rfl)).1
  done := by
    rintro X rfl rfl rfl hc i pins s σ H E I hf ⟨p, q, ok, ov, e, hq⟩ ⟨hd, hi⟩
    obtain ⟨f0, f1, f2, f3, f4, f5⟩ := hf it (List.mem_singleton.mpr rfl)
    obtain ⟨_, _, _, es1, ep1, vs, hdt, _, kv, hm⟩ := I.frzK hd
    obtain ⟨rfl, rfl⟩ := dict_ep hod hdt
    have hl : kvs.length = vs.length := Paired.length kv
    obtain ⟨fs, raw, hz, keys⟩ := Heap.DictAt.raw hm
    rw [show kvs.length = fs.size by omega] at e
    have fin : ∀ h', Heap.ExtBut it s.heap h' → (none : Option Value) = none ∧ Inv X pins σ H { s with heap := h' } := fun h' eb => ⟨rfl, I.turned (t' := s.toks) (fun b u hb z => eb b u hb z) f0 f1 f3 f4 f5⟩
    rcases hq with ⟨rfl, rfl⟩ | ⟨a, f, rfl, rfl⟩
    · exact wpAny_pyNext_items_end_raw (I.ok.hd hc) e raw (by omega) fin
    · exact wpAny_pyNext_items_end_out_raw (I.ok.hd hc) e raw (by omega) fin
  self := fun A i s Q E st h => by
    obtain ⟨p, q, ok, ov, e, _⟩ := st
    have ty : s.TypeIs (.ref it) "dict_itemiterator" := ⟨_, e, rfl⟩
    refine wpAny_pyIter_slot ty F.slot_dict_itemiterator_iter (wpAny_call_entry F.slot_dict_itemiterator_iter ty entry_dict_itemiterator_iter ?_ (F.args_dict_itemiterator_iter_1 _))
    exact wpAny_pure ⟨_, rfl, "dict_itemiterator", _, ty, F.slot_dict_itemiterator_next.lookup, h⟩
end
section
variable {X : Cx} {x : Str} {tpos apos cpos : Pos} {e : Expr} {td : TE}
/-- for x in d.items() -/
theorem pi_itemsN (he : PE X e td) (hbase : attributeBase e "items" X.env (eval e X.env) = eval e X.env := by rfl) (hline : (apos.endLine == cpos.line) = true := by rfl) : PI X (.Name x tpos) (.Call (.Attribute e "items" apos) [] [] cpos) (iItems td) := by
  refine ⟨fun pins s σ H R I h => wpAny_Call_method (T := "dict") (id := "dict.items") hbase rfl hline F.plainAttrs_dict F.slot_dict_items F.type_dict_items (thn (he.run pins s σ H _ I h) fun u z h2 => ?_)⟩
  obtain ⟨y, H1, J, ry, d, o, kvs, rfl, hd, q⟩ := h2
  cases ry
  obtain ⟨sz, _, _, es, ep, vs, hdt, _, kv, hm⟩ := J.frzK hd
  refine ⟨hm.dictOf.typeIs, hm.dictOf.mapOf.noDict, ?_⟩
  have J2 : Inv X pins σ H1 { z with heap := z.heap.push { cls := .type "dict_items", data := .fields #[.ref d] } } := J.kept (t' := z.toks) fun b u g => Heap.get?_push_of_some _ g
  have walk : wpAny (model X.prog X.w) X.A (pyIter (.ref z.heap.objs.size)) (PIE X pins σ (.Name x tpos) R) X.xe { z with heap := z.heap.push { cls := .type "dict_items", data := .fields #[.ref d] } } :=
    wpAny_pyIter_items (d := d) (knd := mixKind X.prog X.w) ⟨_, Heap.get?_push_size _ rfl, rfl, rfl⟩ (hm.push _) (pi_one (tk := z.toks) J2 _ (turn_itemsN _ hdt) ⟨.none, .bool false, .none, .none, by
      rw [show kvs.length = vs.length from Paired.length kv]
      exact Heap.get?_push_size _ rfl, .inl ⟨rfl, rfl⟩⟩ q)
  exact method_meetsIn (pos := cpos) F.slot_dict_items F.entry_dict_items rfl (PySem.evalArgs_none ⟨rfl, hm.dictOf.typeIs, F.args_dict_items_1 _, _, meets_dict_items (mixKind X.prog X.w) d sz, ⟨vs, hm.dictOf⟩, walk⟩)
end
end L2
set_option Elab.async false
set_option linter.all false
set_option maxRecDepth 100000
set_option maxHeartbeats 2000000
namespace K02
open PySem L2 PyProof.Rows
def top (i : Nat) : Stmt := PySem.Challenge.pw_partedvalues_k10_flat_rows_and_records.main.body.getD i (.Pass ⟨0, 0, 0, 0⟩)
abbrev sFresh : Stmt := top 2
abbrev sResP : Stmt := top 15
abbrev sKnownP : Stmt := top 16
abbrev sInPath : Stmt := top 17
abbrev sInPlace : Stmt := top 18
abbrev sItemsF : Stmt := top 19
abbrev sOthersW : Stmt := top 20
abbrev sRestRow : Stmt := top 21
abbrev sRestRec : Stmt := top 22
abbrev sToldPath : Stmt := top 23
abbrev sToldPlace : Stmt := top 24
abbrev sWithEach : Stmt := top 26
abbrev sEntries : Stmt := top 28
abbrev sWithin : Stmt := top 29
abbrev sNamesOf : Stmt := top 30
abbrev sPoS : Stmt := top 31
abbrev sNoS : Stmt := top 32
abbrev sFilled : Stmt := top 39
abbrev sCkName : Stmt := top 40
abbrev sCkOpt : Stmt := top 41
abbrev sCkTerm : Stmt := top 42
abbrev sCkDef : Stmt := top 43
abbrev sCkPart : Stmt := top 44
abbrev sCkRow : Stmt := top 45
abbrev sCkRec : Stmt := top 46
abbrev sCkStep : Stmt := top 47
abbrev sCkRules : Stmt := top 48
abbrev sPattern : Stmt := top 50
abbrev sProgram : Stmt := top 51
abbrev sStepsOf : Stmt := top 52
abbrev sFacts : Stmt := top 55
abbrev sTaking : Stmt := top 57
abbrev sGiven : Stmt := top 59
abbrev sKindOf : Stmt := top 60
abbrev sTake : Stmt := top 61
abbrev sPurse : Stmt := top 63
abbrev sCoin : Stmt := top 64
abbrev sMark : Stmt := top 65
abbrev sCopied : Stmt := top 66
abbrev sSame : Stmt := top 67
abbrev sWords : Stmt := top 68
abbrev sMade : Stmt := top 69
abbrev sFlat : Stmt := top 70
abbrev sFlatV : Stmt := top 71
abbrev sDeed : Stmt := top 72
abbrev sRight : Stmt := top 73
abbrev sLaw : Stmt := top 74
abbrev sTErr : Stmt := top 4
/-! ### heaps -/
/-- what was tracked stands, but at p -/
def But (p : Addr) (H H' : Hp) : Prop := ∀ b o, b ≠ p → H b = some o → H' b = some o
theorem But.refl (p : Addr) (H : Hp) : But p H H := fun _ _ _ h => h
theorem But.trans {p : Addr} {H H1 H2 : Hp} (a : But p H H1) (b : But p H1 H2) : But p H H2 := fun c o n h => b c o n (a c o n h)
theorem But.of {p : Addr} {H H' : Hp} (s : Same H H') : But p H H' := fun c o _ h => s c o h
theorem But.upd {p : Addr} {H : Hp} {o : HO} : But p H (upd H p o) := fun c o n h => by
  rw [upd_ne n]
  exact h
theorem But.new {p q : Addr} {H : Hp} {o : HO} (h : H q = none) : But p H (L2.upd H q o) := fun c u _ e => by
  rw [upd_ne (ne_of_none e h)]
  exact e
theorem same_new {H : Hp} {p : Addr} (h : H p = none) (o : HO) : Same H (upd H p o) := fun b u q => by
  rw [upd_ne (ne_of_none q h)]
  exact q
/-- a purse: three numbers, the last one the number of draws -/
def Purse (H : Hp) (p : Addr) (n : Nat) : Prop := ∃ a b c : Int, H p = some (.lst [.int a, .int b, .int c]) ∧ 0 ≤ b ∧ b < 10 ^ 25 ∧ 0 ≤ c ∧ c ≤ (n : Int)
theorem Purse.mono {H : Hp} {p : Addr} {m n : Nat} (h : Purse H p m) (hm : m ≤ n) : Purse H p n := by
  obtain ⟨a, b, c, e, h1, h2, h3, h4⟩ := h
  exact ⟨a, b, c, e, h1, h2, h3, by omega⟩
theorem Purse.same {H H' : Hp} {p : Addr} {n : Nat} (h : Purse H p n) (s : Same H H') : Purse H' p n := by
  obtain ⟨a, b, c, e, r⟩ := h
  exact ⟨a, b, c, s _ _ e, r⟩
theorem Purse.some {H : Hp} {p : Addr} {n : Nat} (h : Purse H p n) : ∃ o, H p = some o := by
  obtain ⟨a, b, c, e, r⟩ := h
  exact ⟨_, e⟩
/-- free behind But is free before (away from p) -/
theorem But.free {p q : Addr} {H H' : Hp} {o : HO} (s : But p H H') (hp : H p = some o) (hp' : ∃ o', H' p = some o') (h : H' q = none) : H q = none := by
  cases e : H q with
  | none => rfl
  | some u =>
    by_cases hq : q = p
    · obtain ⟨o', ho'⟩ := hp'
      rw [hq, ho'] at h
      cases h
    · rw [s q u hq e] at h
      cases h

theorem at3_0 {x y z : V} : atI [x, y, z] 0 = some x := atI_nat (j := 0) rfl
theorem at3_1 {x y z : V} : atI [x, y, z] 1 = some y := atI_nat (j := 1) rfl
theorem at3_2 {x y z : V} : atI [x, y, z] 2 = some z := atI_nat (j := 2) rfl
theorem pos_nat {a b : Int} {n : Nat} (h0 : 0 ≤ a) (h : a < b) (hb : b.toNat ≤ n) : a.natAbs < n := by omega
/-! ### the promises -/
def spPurse (K : PySem.W.Frag) : Sp := fun vs H Q _ => ∃ (a : Addr) (ns : List Int) (i : Nat), vs = [.ref a, .int (i : Int)] ∧ SqL K H a (ns.map V.int) ∧ ns.length ≤ 63 ∧ i ≤ 100 ∧
  ∀ p H', H p = none → Same H H' → Purse H' p 0 → Q (.ref p) H'
def spCoin : Sp := fun vs H Q _ => ∃ (p : Addr) (m : Int) (n : Nat), vs = [.ref p, .int m] ∧ Purse H p n ∧ n < 10 ^ 60 ∧ 0 < m ∧ m ≤ 10 ^ 12 ∧
  ∀ d H', 0 ≤ d → d < m → But p H H' → Purse H' p (n + 1) → Q (.int d) H'
structure Txt (K : PySem.W.Frag) (mg : Str → Option Value) : Prop where
  len : mg "len" = none
  max : mg "max" = none
  min : mg "min" = none
  abs : mg "abs" = none
  int : mg "int" = none
  range : mg "range" = none
  set : mg "set" = none
  list : mg "list" = none
  tuple : mg "tuple" = none
  all : mg "all" = none
  repr : mg "repr" = none
  isi : mg "isinstance" = none
section
variable {P : Program} {w : World} {K : PySem.W.Frag} {mg : Str → Option Value} {base : Heap}
theorem scP : FnScope ["script", "place", "cell"] ["script", "place"] (defScope sPurse) := ⟨rfl, rfl, rfl, by decide +kernel, rfl, by decide +kernel, by decide +kernel⟩
theorem ok_purse {f : Addr} {fd : FuncData} (F : Fun K "_law_purse" "_law_purse" sPurse f fd) (T : Txt K mg) : FnOk P w K mg base CX0 1 f fd ["script", "place"] (spPurse K) := by
  refine F.ok scP (fun vs H Q E h => ?_) (fun cdv A outer s H vs Q E hr h => ?_)
  · obtain ⟨a, ns, i, rfl, _⟩ := h
    rfl
  obtain ⟨a, ns, i, rfl, hS, hl, hi, k⟩ := h
  refine ⟨_, Evl.pss_cut (ps_set (i := 2) scP.nd rfl (Or.inl rfl) (pe_ifExp (pt_cmpR op_lt (pv 1) (pe_callB call_len_seq (by rfl) T.len PySem.boot_len (pa_cons (pv 0) pa_nil)) (nomark _)) (pe_ix ix_list (pv 0) (pv 1) (fun _ _ => rfl)) pe_int))
    (pss_one (ps_ret (pe_lst (pa_cons (pe_callB (call_max2 rfl) (by rfl) T.max boot_max (pa_cons pe_int (pa_cons (pe_op op_sub (pe_callB call_abs (by rfl) T.abs boot_abs (pa_cons (pv 2) pa_nil)) (pe_op op_pow pe_int pe_int)) pa_nil)))
      (pa_cons (pe_op op_mod (pe_callTy call_int1 (by rfl) T.int boot_int (pa_cons (pe_op op_add (pe_op op_add (pe_op op_mul (pv 2) pe_int) (pe_op op_mul (pv 1) pe_int)) pe_int) pa_nil)) (pe_op op_add (pe_op op_pow pe_int pe_int) pe_int))
      (pa_cons pe_int pa_nil)))))), ?_⟩
  refine ⟨fun σ' H' => H' = H ∧ ∃ c : Int, σ' = [some (.ref a), some (.int (i : Int)), some (.int c)], ?_, ?_⟩
  · refine ⟨_, rfl, _, rfl, a, _, rfl, .inl hS, _, _, rfl, rfl, _, rfl, ?_⟩
    refine ite2 (fun c => ?_) (fun c => ⟨rfl, 0, rfl⟩)
    have c' : (i : Int) < (((ns.map V.int).length : Nat) : Int) := of_decide_eq_true c
    rw [List.length_map] at c'
    have hi' : i < ns.length := by omega
    refine ⟨_, rfl, _, rfl, a, _, _, _, rfl, rfl, hS, atI_nat (v := .int ns[i]) (by rw [List.getElem?_map, List.getElem?_eq_getElem hi']; rfl), ?_⟩
    exact ⟨rfl, _, rfl⟩
  · rintro σ' H' ⟨rfl, c, rfl⟩
    refine ⟨_, rfl, _, rfl, _, _, rfl, rfl, ⟨by decide, by decide, by decide⟩, _, _, rfl, rfl, _, _, rfl, ?_⟩
    refine ⟨_, rfl, _, _, rfl, rfl, .inr ⟨by decide, by decide⟩, _, rfl, _, _, rfl, rfl, .inr ⟨by decide, by decide⟩, _, _, rfl, rfl, _, _, rfl, rfl, .inl ⟨_, rfl, ?_⟩⟩
    refine ⟨_, _, rfl, rfl, ⟨by decide, by decide, by decide⟩, _, _, rfl, rfl, _, _, rfl, rfl, (by show (0 : Int) < 10 ^ (24 : Nat) + 7; decide), ?_⟩
    refine ⟨(by show 3 ≤ sizeLine; decide), fun p hp => ?_⟩
    refine k p _ hp (same_new hp _) ⟨_, _, _, upd_same, ?_, ?_, Int.le_refl 0, Int.le_refl 0⟩
    · exact Int.emod_nonneg _ (by show (10 ^ (24 : Nat) + 7 : Int) ≠ 0; decide)
    · refine Int.lt_trans (Int.emod_lt_of_pos _ (by show (0 : Int) < 10 ^ (24 : Nat) + 7; decide)) ?_
      show (10 ^ (24 : Nat) + 7 : Int) < 10 ^ 25
      decide
theorem scC : FnScope ["purse", "many", "drawn", "stirred"] ["purse", "many"] (defScope sCoin) := ⟨rfl, rfl, rfl, by decide +kernel, rfl, by decide +kernel, by decide +kernel⟩
theorem ok_coin {f : Addr} {fd : FuncData} (F : Fun K "_law_coin" "_law_coin" sCoin f fd) (T : Txt K mg) : FnOk P w K mg base CX0 1 f fd ["purse", "many"] spCoin := by
  refine F.ok scC (fun vs H Q E h => ?_) (fun cdv A outer s H vs Q E hr h => ?_)
  · obtain ⟨p, m, n, rfl, _⟩ := h
    rfl
  obtain ⟨p, m, n, rfl, ⟨a, b, c, hp, hb0, hb1, hc0, hc1⟩, hn, hm0, hm1, k⟩ := h
  refine ⟨_, pss_cons (ps_if (pt_cmpR op_gt (pe_ix ix_list (pv 0) pe_int (fun _ _ => rfl)) pe_int (nomark _))
      (pss_cons (ps_set (i := 2) scC.nd rfl (Or.inl rfl) (pe_op op_mod (pe_callTy call_int1 (by rfl) T.int boot_int (pa_cons (pe_ix ix_list (pv 0) pe_int (fun _ _ => rfl)) pa_nil)) (pv 1)))
      (pss_cons (ps_asg (pe_op op_fdivW (pe_ix ix_list (pv 0) pe_int (fun _ _ => rfl)) (pv 1)) (pg_sub (pv 0) pe_int set_list))
      (pss_one (ps_ret (pv 2))))) pss_nil)
    (pss_cons (ps_asg (pe_op op_add (pe_ix ix_list (pv 0) pe_int (fun _ _ => rfl)) pe_int) (pg_sub (pv 0) pe_int set_list))
    (pss_cons (ps_set (i := 3) scC.nd rfl (Or.inl rfl) (pe_op op_mod (pe_op op_powW (pe_callTy call_int1 (by rfl) T.int boot_int (pa_cons (pe_op op_add (pe_ix ix_list (pv 0) pe_int (fun _ _ => rfl)) (pe_op op_mul pe_int (pe_ix ix_list (pv 0) pe_int (fun _ _ => rfl)))) pa_nil)) pe_int) (pe_op op_add (pe_op op_pow pe_int pe_int) pe_int)))
    (pss_cons (ps_set (i := 3) scC.nd rfl (Or.inl rfl) (pe_op op_mod (pe_op op_powW (pe_callTy call_int1 (by rfl) T.int boot_int (pa_cons (pe_op op_add (pv 3) (pe_op op_mul pe_int (pe_ix ix_list (pv 0) pe_int (fun _ _ => rfl)))) pa_nil)) pe_int) (pe_op op_add (pe_op op_pow pe_int pe_int) pe_int)))
    (pss_one (ps_ret (pe_op op_mod (pe_callTy call_int1 (by rfl) T.int boot_int (pa_cons (pe_op op_fdivW (pv 3) pe_int) pa_nil)) (pv 1))))))), ?_⟩
  refine ⟨_, rfl, p, _, _, _, rfl, rfl, SqL.of hp, at3_0, _, _, rfl, rfl, _, rfl, ?_⟩
  have m2 : m.natAbs < 2 ^ 50 := Nat.lt_of_le_of_lt (show m.natAbs ≤ 10 ^ 12 by omega) (by decide)
  refine ite2 (fun h1 => ?_) (fun h1 => ?_)
  · refine ⟨_, rfl, p, _, _, _, rfl, rfl, SqL.of hp, at3_0, .inl ⟨_, rfl, _, rfl, _, _, rfl, rfl, hm0, ?_⟩⟩
    refine ⟨_, rfl, p, _, _, _, rfl, rfl, SqL.of hp, at3_0, _, rfl, _, _, rfl, rfl, wide_div hm0 m2 (by decide) (by decide), ?_⟩
    refine ⟨_, rfl, p, _, _, 0, rfl, rfl, hp, rfl, ?_⟩
    refine ⟨_, rfl, k _ _ (Int.emod_nonneg _ (by omega)) (Int.emod_lt_of_pos _ hm0) But.upd ⟨_, _, _, upd_same, hb0, hb1, hc0, by omega⟩⟩
  · have c1 : c + 1 ≤ 10 ^ 60 := by omega
    refine ⟨_, rfl, p, _, _, _, rfl, rfl, SqL.of hp, at3_2, _, _, rfl, rfl, ?_⟩
    refine ⟨_, rfl, p, _, _, 2, rfl, rfl, hp, rfl, ?_⟩
    have hp1 : (upd H p (.lst [.int a, .int b, .int (c + 1)])) p = some (.lst [.int a, .int b, .int (c + 1)]) := upd_same
    refine ⟨_, rfl, p, _, _, _, rfl, rfl, SqL.of hp1, at3_1, _, rfl, p, _, _, _, rfl, rfl, SqL.of hp1, at3_2, ?_⟩
    refine ⟨_, _, rfl, rfl, .inl ⟨by decide, by decide⟩, _, _, rfl, rfl, .inl ⟨_, rfl, _, _, rfl, rfl, ⟨by decide, by decide, ?_⟩, ?_⟩⟩
    · exact Nat.lt_of_lt_of_le (pos_nat (b := 10 ^ 25 + 2038074743 * 10 ^ 60 + 1) (n := 2 ^ 300) (by omega) (by omega) (by decide)) (Nat.pow_le_pow_right (by decide) (by decide))
    refine ⟨_, _, rfl, rfl, ⟨by decide, by decide, by decide⟩, _, _, rfl, rfl, _, _, rfl, rfl, (by show (0 : Int) < 10 ^ (25 : Nat) + 13; decide), ?_⟩
    generalize hd : (b + 2038074743 * (c + 1)) ^ (3 : Int).toNat % (10 ^ (25 : Int).toNat + 13) = d
    have d0 : 0 ≤ d := by
      rw [← hd]
      exact Int.emod_nonneg _ (by decide)
    have d1 : d < 10 ^ 26 := by
      rw [← hd]
      exact Int.lt_trans (Int.emod_lt_of_pos _ (by decide)) (by decide)
    refine ⟨_, rfl, _, rfl, p, _, _, _, rfl, rfl, SqL.of hp1, at3_2, ?_⟩
    refine ⟨_, _, rfl, rfl, .inl ⟨by decide, by decide⟩, _, _, rfl, rfl, .inl ⟨_, rfl, _, _, rfl, rfl, ⟨by decide, by decide, ?_⟩, ?_⟩⟩
    · exact Nat.lt_of_lt_of_le (pos_nat (b := 10 ^ 26 + 982451653 * 10 ^ 60 + 1) (n := 2 ^ 300) (by omega) (by omega) (by decide)) (Nat.pow_le_pow_right (by decide) (by decide))
    refine ⟨_, _, rfl, rfl, ⟨by decide, by decide, by decide⟩, _, _, rfl, rfl, _, _, rfl, rfl, (by show (0 : Int) < 10 ^ (24 : Nat) + 7; decide), ?_⟩
    refine ⟨_, rfl, _, _, rfl, rfl, wide_div (b := 11) (by decide) (by decide) (by decide) (by decide), .inl ⟨_, rfl, _, rfl, _, _, rfl, rfl, hm0, ?_⟩⟩
    exact k _ _ (Int.emod_nonneg _ (by omega)) (Int.emod_lt_of_pos _ hm0) But.upd ⟨_, _, _, upd_same, hb0, hb1, by omega, by omega⟩
end
end K02
set_option Elab.async false
set_option linter.all false
set_option maxRecDepth 100000
set_option maxHeartbeats 4000000
namespace K02
open PySem L2 PyProof.Rows
abbrev nW : List Str := ["purse", "many", "letters", "sort_here", "menu", "stem", "start", "rank", "found", "size", "base", "word", "tail", "at", "turn"]
/-- what stands around: the purse drawn from c times at most, all else kept, a list of texts apart -/
def Around1 (H : Hp) (p : Addr) (c : Nat) (H' : Hp) : Prop := But p H H' ∧ Purse H' p c
theorem Around1.same {H H1 H2 : Hp} {p : Addr} {c : Nat} (h : Around1 H p c H1) (s : Same H1 H2) : Around1 H p c H2 := ⟨h.1.trans (.of s), h.2.same s⟩
theorem Around1.mono {H H1 : Hp} {p : Addr} {c d : Nat} (h : Around1 H p c H1) (hd : c ≤ d) : Around1 H p d H1 := ⟨h.1, h.2.mono hd⟩
theorem Around1.draw {H H1 H2 : Hp} {p : Addr} {c : Nat} (h : Around1 H p c H1) (b : But p H1 H2) (q : Purse H2 p (c + 1)) : Around1 H p (c + 1) H2 := ⟨h.1.trans b, q⟩
theorem Around1.new {H H1 : Hp} {p a : Addr} {c : Nat} {o : HO} (h : Around1 H p c H1) (ha : H1 a = none) : Around1 H p c (upd H1 a o) := h.same (same_new ha o)
theorem Around1.trans {H H1 H2 : Hp} {p : Addr} {c d : Nat} (h : Around1 H p c H1) (k : Around1 H1 p d H2) : Around1 H p d H2 := ⟨h.1.trans k.1, k.2⟩
/-- an object that is not the purse may change -/
theorem Around1.put {H H1 : Hp} {p a : Addr} {c : Nat} {o : HO} (h : Around1 H p c H1) (ha : H a = none) (hp : a ≠ p) : Around1 H p c (upd H1 a o) := by
  refine ⟨fun b u n e => ?_, ?_⟩
  · rw [upd_ne (ne_of_none e ha)]
    exact h.1 b u n e
  · obtain ⟨x, y, z, e, r⟩ := h.2
    exact ⟨x, y, z, by rw [upd_ne hp.symm]; exact e, r⟩
theorem Around1.free {H H1 : Hp} {p a : Addr} {c n : Nat} (h : Around1 H p c H1) (h0 : Purse H p n) (ha : H1 a = none) : H a = none := by
  obtain ⟨o, e⟩ := h0.some
  exact h.1.free e h.2.some ha
theorem Purse.ne {H : Hp} {p a : Addr} {n : Nat} (h : Purse H p n) (ha : H a = none) : a ≠ p := fun e => by
  obtain ⟨o, q⟩ := h.some
  rw [e, q] at ha
  cases ha
/-- small letters alone -/
def ls (z : Str) : Prop := ∀ c ∈ z.cps.toList, 97 ≤ c ∧ c ≤ 122
/-- a name: one to eight small letters -/
def okName (z : Str) : Prop := 1 ≤ z.length ∧ z.length ≤ 8 ∧ ls z
def spWords : Sp := fun vs H Q _ => ∃ (p : Addr) (m n : Nat), vs = [.ref p, .int (m : Int)] ∧ 1 ≤ m ∧ m ≤ 26 ∧ Purse H p n ∧ n + 400 < 10 ^ 60 ∧
  ∀ (r : Addr) (zs : List Str) H', Around1 H p (n + 400) H' → H r = none → H' r = some (.lst (zs.map V.str)) → zs.length = m → zs.Nodup → (∀ z ∈ zs, okName z) → Q (.ref r) H'
abbrev LT : Str := Str.ofString "abcdefghijklmnopqrstuvwxyz"
def menuT : List Str := ["soon", "late", "absent", "nothing", "name", "any", "row", "record", "a", "b", "f", "read", "call", "known"].map Str.ofString
theorem menu_small : ∀ z ∈ menuT, z.length ≤ 8 := by decide +kernel
theorem at_ofN {α : Type} {xs : List α} {z : Int} {j : Nat} {v : α} (e : z = (j : Int)) (h : xs[j]? = some v) : atI xs z = some v := by
  rw [e]
  exact atI_nat h
theorem sum_ones : ∀ {ys : List Str}, (∀ y ∈ ys, y.length = 1) → (ys.map (·.length)).sum = ys.length
  | [], _ => rfl
  | y :: ys, h => by
    rw [List.map_cons, List.sum_cons, sum_ones fun z hz => h z (List.mem_cons_of_mem _ hz), h y List.mem_cons_self, List.length_cons]
    exact Nat.add_comm _ _
theorem join_room {ys : List Str} (h : ∀ y ∈ ys, y.length = 1) (hl : ys.length ≤ 1000) : (ys.map (·.length)).sum + ys.length * (Str.ofString "").length ≤ 16777216 := by
  rw [sum_ones h, show (Str.ofString "").length = 0 by decide]
  omega
theorem lt_all : ∀ r, r < 26 → LT.cps.toList[r]? = some (97 + r) := by decide +kernel
theorem lt_at {d : Int} (h0 : 0 ≤ d) (h1 : d < 26) : atI LT.cps.toList d = some (97 + d.toNat) := at_ofN (show d = ((d.toNat : Nat) : Int) by omega) (lt_all d.toNat (by omega))
theorem ls_one {r : Nat} (h : r < 26) : ls ⟨#[97 + r]⟩ := fun c hc => by
  have e : c = 97 + r := by simpa using hc
  omega
theorem ls_app {x y : Str} (hx : ls x) (hy : ls y) : ls (x ++ y) := fun c hc => by
  have e : (x ++ y).cps.toList = x.cps.toList ++ y.cps.toList := Array.toList_append
  rw [e] at hc
  rcases List.mem_append.mp hc with h | h
  · exact hx c h
  · exact hy c h
theorem ls_cut {z : Str} (h : ls z) (lo hi : Option Int) : ls (cutS z lo hi) := fun c hc => by
  have hc' : c ∈ ((z.cps.toList.drop (HT.sIx z.length 0 lo)).take (HT.sIx z.length z.length hi - HT.sIx z.length 0 lo)).toArray.toList := hc
  rw [List.toList_toArray] at hc'
  exact h c (List.mem_of_mem_drop (List.mem_of_mem_take hc'))
theorem ls_join : ∀ {ys : List Str}, (∀ y ∈ ys, ls y) → ls (Str.join (Str.ofString "") ys)
  | [], _ => fun c hc => by
    have e : (Str.join (Str.ofString "") []).cps.toList = [] := rfl
    rw [e] at hc
    cases hc
  | [x], h => h x List.mem_cons_self
  | x :: y :: r, h => by
    have e0 : ls (Str.ofString "") := fun c hc => by
      have e : (Str.ofString "").cps.toList = [] := by decide +kernel
      rw [e] at hc
      cases hc
    show ls (x ++ Str.ofString "" ++ Str.join (Str.ofString "") (y :: r))
    exact ls_app (ls_app (h x List.mem_cons_self) e0) (ls_join fun z hz => h z (List.mem_cons_of_mem _ hz))
theorem ls_joinT {ys : List Str} (h : ∀ y ∈ ys, ls y) : ls (Txt.join (Str.ofString "") ys) := by
  have e : Txt.join (Str.ofString "") ys = Str.join (Str.ofString "") ys := StrLaws.glued_eq_join _ _
  rw [e]
  exact ls_join h
theorem cut_pre {z : Str} {k : Int} {n : Nat} (e : k = (n : Int)) : (cutS z none (some k)).length = min n z.length ∧ (cutS z none (some k)).cps.toList = z.cps.toList.take n := by
  subst e
  have e1 : (cutS z none (some (n : Int))).cps.toList = z.cps.toList.take n := by
    show ((z.cps.toList.drop (HT.sIx z.length 0 none)).take (HT.sIx z.length z.length (some (n : Int)) - HT.sIx z.length 0 none)).toArray.toList = _
    rw [HT.sIx_none, HT.sIx_nat, List.drop_zero, Nat.sub_zero, List.toList_toArray]
    rcases Nat.le_total n z.length with h | h
    · rw [Nat.min_eq_left h]
    · rw [Nat.min_eq_right h]
      have hz : z.length = z.cps.toList.length := rfl
      rw [List.take_of_length_le (by rw [hz]; exact Nat.le_refl _), List.take_of_length_le (by rw [← hz]; exact h)]
  refine ⟨?_, e1⟩
  show (cutS z none (some (n : Int))).cps.toList.length = _
  rw [e1, List.length_take]
  rfl
theorem cut_post {z : Str} {k : Int} {n : Nat} (e : k = (n : Int)) (hn : n ≤ z.length) : (cutS z (some k) none).cps.toList = z.cps.toList.drop n := by
  subst e
  show ((z.cps.toList.drop (HT.sIx z.length 0 (some (n : Int)))).take (HT.sIx z.length z.length none - HT.sIx z.length 0 (some (n : Int)))).toArray.toList = _
  rw [HT.sIx_none, HT.sIx_nat, List.toList_toArray, Nat.min_eq_left hn]
  refine List.take_of_length_le ?_
  rw [List.length_drop]
  exact Nat.le_refl _
theorem nodup_map {f : Nat → Str} {m : Nat} (h : ∀ i j, i < m → j < m → f i = f j → i = j) : ((List.range m).map f).Nodup := by
  rw [List.nodup_iff_pairwise_ne, List.pairwise_map]
  refine List.Pairwise.imp_of_mem (fun {a b} ha hb hab e => ?_) (List.nodup_iff_pairwise_ne.mp (List.nodup_range (n := m)))
  exact hab (h a b (List.mem_range.mp ha) (List.mem_range.mp hb) e)
theorem more_map {H : Hp} {D : Addr} {f : Nat → Str} {i : Nat} {y : V} (e : y = .str (f i)) : (upd H D (.lst (((List.range i).map f).map V.str ++ [y]))) D = some (.lst (((List.range (i + 1)).map f).map V.str)) := by
  rw [upd_same, e, List.range_succ, List.map_append, List.map_append]
  rfl
theorem room_map {f : Nat → Str} {i : Nat} (h : i ≤ 1000) : (((List.range i).map f).map V.str).length < sizeLine := by
  rw [List.length_map, List.length_map, List.length_range]
  exact Nat.lt_of_le_of_lt h (by decide)
theorem menu_ok : ∀ z ∈ menuT, 1 ≤ z.length ∧ z.length ≤ 8 ∧ z.cps.toList.all (fun c => decide (97 ≤ c ∧ c ≤ 122)) = true := by decide +kernel
theorem menu_name {z : Str} (h : z ∈ menuT) : okName z := by
  obtain ⟨h1, h2, h3⟩ := menu_ok z h
  exact ⟨h1, h2, fun c hc => of_decide_eq_true (List.all_eq_true.mp h3 c hc)⟩
theorem menu_inj : ∀ i, i < 14 → ∀ j, j < 14 → menuT.getD i Str.empty = menuT.getD j Str.empty → i = j := by decide +kernel
theorem menu_at {d : Int} (h0 : 0 ≤ d) (h1 : d < 14) : atI (menuT.map V.str) d = some (.str (menuT.getD d.toNat Str.empty)) ∧ menuT.getD d.toNat Str.empty ∈ menuT := by
  have hl : menuT.length = 14 := rfl
  have hd : d.toNat < menuT.length := by omega
  have e : menuT.getD d.toNat Str.empty = menuT[d.toNat] := by
    rw [List.getD_eq_getElem?_getD, List.getElem?_eq_getElem hd]
    rfl
  refine ⟨at_ofN (show d = ((d.toNat : Nat) : Int) by omega) ?_, by rw [e]; exact List.getElem_mem hd⟩
  rw [List.getElem?_map, List.getElem?_eq_getElem hd, e]
  rfl
theorem same_put {H H' : Hp} {a : Addr} {o : HO} (s : Same H H') (ha : H a = none) : Same H (upd H' a o) := fun b u e => by
  rw [upd_ne (ne_of_none e ha)]
  exact s b u e
/-- one more text behind a list of texts -/
theorem more_str {H : Hp} {D : Addr} {ys : List Str} {z : Str} : (upd H D (.lst (ys.map V.str ++ [.str z]))) D = some (.lst ((ys ++ [z]).map V.str)) := by
  rw [upd_same, List.map_append]
  rfl
theorem all_more {ys : List Str} {z : Str} {n : Nat} (h : ∀ y ∈ ys, y.length ≤ n) (hz : z.length ≤ n) : ∀ y ∈ ys ++ [z], y.length ≤ n := fun y hy => by
  rcases List.mem_append.mp hy with hy | hy
  · exact h y hy
  · rw [List.mem_singleton.mp hy]
    exact hz
theorem len_more {ys : List Str} {z : Str} {i : Nat} (h : ys.length = i) : (ys ++ [z]).length = i + 1 := by
  rw [List.length_append, h]
  rfl
theorem room_more {ys : List Str} {n : Nat} (h : ys.length ≤ n) (hn : n ≤ 1000) : (ys.map V.str).length < sizeLine := by
  rw [List.length_map]
  exact Nat.lt_of_lt_of_le (show ys.length < 1001 by omega) (by decide)
theorem only_one {ys : List Str} (h : ys.length = 1) : ∃ z, ys = [z] := by
  match ys, h with
  | [z], _ => exact ⟨z, rfl⟩
theorem two_at {x y : Str} {d : Int} {n : Nat} (h0 : 0 ≤ d) (h1 : d < 2) (hx : x.length ≤ n) (hy : y.length ≤ n) : ∃ z : Str, atI [V.str x, V.str y] d = some (.str z) ∧ z.length ≤ n := by
  have e : d = ((0 : Nat) : Int) ∨ d = ((1 : Nat) : Int) := by omega
  rcases e with e | e
  · exact ⟨x, at_ofN e rfl, hx⟩
  · exact ⟨y, at_ofN e rfl, hy⟩
theorem cut_one (ys : List Str) : cutV (ys.map V.str) none (some 1) = (ys.take 1).map V.str := by
  have e : cutV (ys.map V.str) none (some ((1 : Nat) : Int)) = (ys.take 1).map V.str := by
    unfold cutV
    rw [HT.sIx_none, HT.sIx_nat, List.drop_zero, Nat.sub_zero, List.map_take]
    cases ys with
    | nil => rfl
    | cons y r => rfl
  exact e
theorem cut_many (ys : List Str) (m : Nat) : cutV (ys.map V.str) none (some (m : Int)) = (ys.take m).map V.str := by
  unfold cutV
  rw [HT.sIx_none, HT.sIx_nat, List.drop_zero, Nat.sub_zero, List.map_take]
  rcases Nat.le_total m (ys.map V.str).length with h | h
  · rw [Nat.min_eq_left h]
  · rw [Nat.min_eq_right h, List.take_of_length_le (Nat.le_refl _), List.take_of_length_le h]
theorem small100 {n : Nat} (h : n ≤ 1000) : n ≤ sizeLine := Nat.le_trans h (by decide)
theorem lst_ne {xs ys : List V} (h : xs ≠ ys) : HO.lst xs ≠ HO.lst ys := fun e => h (HO.lst.inj e)
/-- [letters[_law_coin(purse, 26)] for turn in range(m)], the loop alone -/
theorem letters_go {σ : L2.St} {H0 H : Hp} {p D : Addr} {c m : Nat} {Qd : Hp → Prop} (h0 : ∀ v, ((wipe σ [14]).set 14 (some v))[0]? = some (some (.ref p))) (h2 : ∀ v, ((wipe σ [14]).set 14 (some v))[2]? = some (some (.str LT)))
    (hw : ∀ v, wipe ((wipe σ [14]).set 14 (some v)) [14] = wipe σ [14]) (hA : Around1 H0 p c H) (hc : c + m < 10 ^ 60) (hm : m ≤ 1000) (hD : H D = none)
    (hd : ∀ (ys : List Str) H', Around1 H p (c + m) H' → H' D = some (.lst (ys.map V.str)) → ys.length = m → (∀ y ∈ ys, y.length = 1) → (∀ y ∈ ys, ls y) → Qd H') :
    ∃ W : Nat → Nat → Hp → Prop, (∃ m, W 0 m (upd H D (.lst []))) ∧ ∀ i k H1, W i k H1 →
      ((Itr 0 m).stop i H1 ∧ Qd H1) ∨ ((Itr 0 m).go i H1 ∧ ∃ Nx : Hp → Prop, (∀ H', Nx H' → ∃ m', m' < k ∧ W (i + 1) m' H') ∧ ∀ x H', (Itr 0 m).yld i H1 x H' → gName 14 x (wipe σ [14]) H' fun σ2 H2 => wipe σ2 [14] = wipe σ [14] ∧ tYes σ2 H2 fun b H3 =>
        if b = true then tOp rIxS (tVar 2) (tCall spCoin [] E0 (tCons (tVar 0) (tCons (tC (.int 26)) tNil))) σ2 H3 fun y H4 => ∃ acc, H4 D = some (.lst acc) ∧ acc.length < sizeLine ∧ Nx (upd H4 D (.lst (acc ++ [y]))) else Nx H3) := by
  have hDp : D ≠ p := hA.2.ne hD
  refine lc_range (lo := 0) (n := m) (fun i H' => ∃ ys : List Str, Around1 H p (c + i) H' ∧ H' D = some (.lst (ys.map V.str)) ∧ ys.length = i ∧ (∀ y ∈ ys, y.length = 1) ∧ ∀ y ∈ ys, ls y)
    ⟨[], ⟨.of (same_new hD _), hA.2.same (same_new hD _)⟩, upd_same, rfl, (fun _ h => nomatch h), fun _ h => nomatch h⟩ ?_ ?_
  · rintro i H1 hi ⟨ys, hA1, hD1, hl, h1, hs1⟩
    refine ⟨hw _, ?_⟩
    show tOp rIxS (tVar 2) (tCall spCoin [] E0 (tCons (tVar 0) (tCons (tC (.int 26)) tNil))) _ H1 _
    refine ⟨_, h2 _, _, h0 _, p, 26, c + i, rfl, hA1.2, by omega, by decide, by decide, fun d H2 d0 d1 hb hp2 => ?_⟩
    refine ⟨LT, d, _, rfl, rfl, by decide +kernel, lt_at d0 d1, ?_⟩
    have hD2 : H2 D = some (.lst (ys.map V.str)) := hb _ _ hDp hD1
    refine ⟨_, hD2, by rw [List.length_map]; exact Nat.lt_of_lt_of_le (show ys.length < 1000 by omega) (by decide), ys ++ [⟨#[97 + d.toNat]⟩], ?_, ?_, ?_, ?_, ?_⟩
    · exact (hA1.draw hb hp2).put hD hDp
    · rw [upd_same, List.map_append]
      rfl
    · rw [List.length_append, hl]
      rfl
    · intro y hy
      rcases List.mem_append.mp hy with hy | hy
      · exact h1 y hy
      · rw [List.mem_singleton.mp hy]
        rfl
    · intro y hy
      rcases List.mem_append.mp hy with hy | hy
      · exact hs1 y hy
      · rw [List.mem_singleton.mp hy]
        exact ls_one (by omega)
  · rintro H1 ⟨ys, hA1, hD1, hl, h1, hs1⟩
    exact hd ys H1 hA1 hD1 hl h1 hs1
end K02
set_option Elab.async false
set_option linter.all false
set_option maxRecDepth 100000
set_option maxHeartbeats 4000000
namespace K02
open PySem L2 PyProof.Rows
/-! ### data, apart from where it lies -/
inductive D where
  | leaf (v : V)
  | lst (ds : List D)
  | tup (ds : List D)
def Leaf (v : V) : Prop := v = .non ∨ (∃ b, v = .bl b) ∨ (∃ i, v = .int i) ∨ ∃ z, v = .str z
/-- depth and width -/
def Fits (c : Nat) : Nat → D → Prop
  | 0, d => ∃ v, d = .leaf v
  | _ + 1, .leaf _ => True
  | n + 1, .lst ds => ds.length ≤ c ∧ ∀ d ∈ ds, Fits c n d
  | n + 1, .tup ds => ds.length ≤ c ∧ ∀ d ∈ ds, Fits c n d
theorem Fits.leaf {c n : Nat} {v : V} : Fits c n (.leaf v) := by
  cases n with
  | zero => exact ⟨v, rfl⟩
  | succ n => trivial
mutual
/-- v is d in the heap; the lists of it stand at F, each in one place -/
def Rep (H : Hp) : D → V → List Addr → Prop
  | .leaf w, u, F => u = w ∧ Leaf w ∧ F = []
  | .lst ds, u, F => ∃ a xs G, u = .ref a ∧ H a = some (.lst xs) ∧ Reps H ds xs G ∧ a ∉ G ∧ F = a :: G
  | .tup ds, u, F => ∃ a xs, u = .ref a ∧ H a = some (.tup xs) ∧ Reps H ds xs F
def Reps (H : Hp) : List D → List V → List Addr → Prop
  | [], xs, F => xs = [] ∧ F = []
  | d :: ds, xs, F => ∃ x ys F1 F2, xs = x :: ys ∧ Rep H d x F1 ∧ Reps H ds ys F2 ∧ (∀ a ∈ F1, a ∉ F2) ∧ F = F1 ++ F2
end
/-- lists of S may change; all else that was tracked stands -/
def Kp (S : Addr → Prop) (H H' : Hp) : Prop := ∀ b o, H b = some o → (¬ S b ∨ ∀ xs, o ≠ HO.lst xs) → H' b = some o
section
variable {S T : Addr → Prop} {H H1 H2 : Hp}
theorem Kp.same (s : Same H H1) : Kp S H H1 := fun b o e _ => s b o e
theorem Kp.trans (h : Kp S H H1) (k : Kp S H1 H2) : Kp S H H2 := fun b o e n => k b o (h b o e n) n
theorem Kp.wide (h : Kp S H H1) (hs : ∀ a, S a → T a) : Kp T H H1 := fun b o e n => h b o e (n.imp (fun z y => z (hs b y)) id)
theorem Kp.toSame (h : Kp S H H1) (hs : ∀ a, S a → H a = none) : Same H H1 := fun b o e => h b o e (.inl fun z => by
  rw [hs b z] at e
  cases e)
theorem Kp.set {a : Addr} {xs ys : List V} (ha : H a = some (.lst xs)) (hs : S a) : Kp S H (upd H a (.lst ys)) := fun b o e n => by
  by_cases hb : b = a
  · subst hb
    rw [ha] at e
    rcases n with n | n
    · exact absurd hs n
    · exact absurd (Option.some.inj e).symm (n xs)
  · rw [upd_ne hb]
    exact e
theorem Kp.new {a : Addr} {o : HO} (ha : H a = none) : Kp S H (upd H a o) := .same (same_new ha o)
/-- a new object may change behind -/
theorem Kp.put {a : Addr} {o : HO} (h : Kp S H H1) (ha : H a = none) : Kp S H (upd H1 a o) := fun b u e n => by
  rw [upd_ne (ne_of_none e ha)]
  exact h b u e n
theorem Kp.there (h : Kp S H H1) {b : Addr} {o : HO} (e : H b = some o) (n : ∀ xs, o ≠ HO.lst xs) : H1 b = some o := h b o e (.inr n)
end
mutual
theorem Rep.kp {S : Addr → Prop} {H H1 : Hp} (k : Kp S H H1) : ∀ {d : D} {v : V} {F : List Addr}, Rep H d v F → (∀ a ∈ F, ¬ S a) → Rep H1 d v F
  | .leaf w, u, F, h, _ => h
  | .lst ds, u, F, h, n => by
    obtain ⟨a, xs, G, e, ha, hr, hn, rfl⟩ := h
    exact ⟨a, xs, G, e, k _ _ ha (.inl (n a List.mem_cons_self)), Reps.kp k hr fun b hb => n b (List.mem_cons_of_mem _ hb), hn, rfl⟩
  | .tup ds, u, F, h, n => by
    obtain ⟨a, xs, e, ha, hr⟩ := h
    exact ⟨a, xs, e, k _ _ ha (.inr fun _ z => nomatch z), Reps.kp k hr n⟩
theorem Reps.kp {S : Addr → Prop} {H H1 : Hp} (k : Kp S H H1) : ∀ {ds : List D} {xs : List V} {F : List Addr}, Reps H ds xs F → (∀ a ∈ F, ¬ S a) → Reps H1 ds xs F
  | [], xs, F, h, _ => h
  | d :: ds, xs, F, h, n => by
    obtain ⟨x, ys, F1, F2, e, h1, h2, hd, rfl⟩ := h
    exact ⟨x, ys, F1, F2, e, Rep.kp k h1 fun a ha => n a (List.mem_append_left _ ha), Reps.kp k h2 fun a ha => n a (List.mem_append_right _ ha), hd, rfl⟩
end
theorem Rep.same {H H1 : Hp} {d : D} {v : V} {F : List Addr} (h : Rep H d v F) (s : Same H H1) : Rep H1 d v F := h.kp (S := fun _ => False) (.same s) fun _ _ z => z
theorem Reps.same {H H1 : Hp} {ds : List D} {xs : List V} {F : List Addr} (h : Reps H ds xs F) (s : Same H H1) : Reps H1 ds xs F := Reps.kp (S := fun _ => False) (.same s) h fun _ _ z => z
mutual
/-- where its lists stand something stands -/
theorem Rep.at_ {H : Hp} : ∀ {d : D} {v : V} {F : List Addr}, Rep H d v F → ∀ a ∈ F, ∃ xs, H a = some (.lst xs)
  | .leaf w, u, F, h, a, ha => by
    obtain ⟨_, _, rfl⟩ := h
    cases ha
  | .lst ds, u, F, h, a, ha => by
    obtain ⟨b, xs, G, e, hb, hr, hn, rfl⟩ := h
    rcases List.mem_cons.mp ha with z | z
    · exact ⟨xs, z ▸ hb⟩
    · exact Reps.at_ hr a z
  | .tup ds, u, F, h, a, ha => by
    obtain ⟨b, xs, e, hb, hr⟩ := h
    exact Reps.at_ hr a ha
theorem Reps.at_ {H : Hp} : ∀ {ds : List D} {xs : List V} {F : List Addr}, Reps H ds xs F → ∀ a ∈ F, ∃ xs, H a = some (.lst xs)
  | [], xs, F, h, a, ha => by
    obtain ⟨_, rfl⟩ := h
    cases ha
  | d :: ds, xs, F, h, a, ha => by
    obtain ⟨x, ys, F1, F2, e, h1, h2, hd, rfl⟩ := h
    rcases List.mem_append.mp ha with z | z
    · exact Rep.at_ h1 a z
    · exact Reps.at_ h2 a z
end
theorem Reps.len {H : Hp} : ∀ {ds : List D} {xs : List V} {F : List Addr}, Reps H ds xs F → xs.length = ds.length
  | [], xs, F, h => by
    obtain ⟨rfl, _⟩ := h
    rfl
  | d :: ds, xs, F, h => by
    obtain ⟨x, ys, F1, F2, rfl, h1, h2, hd, rfl⟩ := h
    rw [List.length_cons, List.length_cons, h2.len]
/-- the item at a place, and what a change of it makes of the whole -/
theorem Reps.item {H : Hp} : ∀ {ds : List D} {xs : List V} {F : List Addr} {i : Nat} {x : V}, Reps H ds xs F → xs[i]? = some x →
    ∃ d G, ds[i]? = some d ∧ Rep H d x G ∧ (∀ a ∈ G, a ∈ F) ∧ ∀ (t : Addr) (H1 : Hp) (d' : D), t ∉ F → Kp (fun a => a ∈ G ∨ a = t) H H1 → Rep H1 d' x G → Reps H1 (ds.set i d') xs F
  | [], xs, F, i, x, h, e => by
    obtain ⟨rfl, _⟩ := h
    simp at e
  | d :: ds, xs, F, 0, x, h, e => by
    obtain ⟨y, ys, F1, F2, rfl, h1, h2, hd, rfl⟩ := h
    have ey : y = x := Option.some.inj e
    subst ey
    refine ⟨d, F1, rfl, h1, fun a ha => List.mem_append_left _ ha, fun t H1 d' ht k hr => ⟨y, ys, F1, F2, rfl, hr, h2.kp k (fun a ha z => ?_), hd, rfl⟩⟩
    rcases z with z | z
    · exact hd a z ha
    · exact ht (z ▸ List.mem_append_right _ ha)
  | d :: ds, xs, F, i + 1, x, h, e => by
    obtain ⟨y, ys, F1, F2, rfl, h1, h2, hd, rfl⟩ := h
    have e' : ys[i]? = some x := e
    obtain ⟨d0, G, e1, hr, hG, hset⟩ := Reps.item h2 e'
    refine ⟨d0, G, e1, hr, fun a ha => List.mem_append_right _ (hG a ha), fun t H1 d' ht k hr' => ⟨y, ys, F1, F2, rfl, h1.kp k (fun a ha z => ?_), hset t H1 d' (fun z => ht (List.mem_append_right _ z)) k hr', hd, rfl⟩⟩
    rcases z with z | z
    · exact hd a ha (hG a z)
    · exact ht (z ▸ List.mem_append_left _ ha)
/-- one more behind -/
theorem Reps.snoc {H : Hp} : ∀ {ds : List D} {xs : List V} {F G : List Addr} {d : D} {x : V}, Reps H ds xs F → Rep H d x G → (∀ a ∈ F, a ∉ G) → Reps H (ds ++ [d]) (xs ++ [x]) (F ++ G)
  | [], xs, F, G, d, x, h, hr, hn => by
    obtain ⟨rfl, rfl⟩ := h
    exact ⟨x, [], G, [], rfl, hr, ⟨rfl, rfl⟩, (fun _ _ z => nomatch z), by rw [List.append_nil]; rfl⟩
  | d0 :: ds, xs, F, G, d, x, h, hr, hn => by
    obtain ⟨y, ys, F1, F2, rfl, h1, h2, hd, rfl⟩ := h
    refine ⟨y, ys ++ [x], F1, F2 ++ G, rfl, h1, Reps.snoc h2 hr (fun a ha => hn a (List.mem_append_right _ ha)), fun a ha z => ?_, by rw [List.append_assoc]⟩
    rcases List.mem_append.mp z with z | z
    · exact hd a ha z
    · exact hn a (List.mem_append_left _ ha) z
/-! ### the marks -/
mutual
def mark : D → Int → D × Int
  | .leaf v, k => (.leaf v, k + 1)
  | .lst ds, k => (.lst ((marks ds k).1 ++ [.leaf (.int ((marks ds k).2 + 1))]), (marks ds k).2 + 1)
  | .tup ds, k => (.tup (marks ds k).1, (marks ds k).2 + 1)
def marks : List D → Int → List D × Int
  | [], k => ([], k)
  | d :: ds, k => ((mark d k).1 :: (marks ds (mark d k).2).1, (marks ds (mark d k).2).2)
end
theorem marks_len : ∀ (ds : List D) (k : Int), (marks ds k).1.length = ds.length
  | [], _ => rfl
  | d :: ds, k => by
    show (marks ds (mark d k).2).1.length + 1 = ds.length + 1
    rw [marks_len ds]
theorem marks_snoc : ∀ (ds : List D) (d : D) (k : Int), marks (ds ++ [d]) k = ((marks ds k).1 ++ [(mark d (marks ds k).2).1], (mark d (marks ds k).2).2)
  | [], d, k => rfl
  | c :: ds, d, k => by
    have h := marks_snoc ds d (mark c k).2
    show ((mark c k).1 :: (marks (ds ++ [d]) (mark c k).2).1, (marks (ds ++ [d]) (mark c k).2).2) = _
    rw [h]
    rfl
/-- behind i marks: the first i marked, the others as they were -/
theorem marks_step {ds : List D} {i : Nat} {d : D} (h : ds[i]? = some d) (k : Int) :
    ((marks (ds.take i) k).1 ++ ds.drop i)[i]? = some d ∧ ((marks (ds.take i) k).1 ++ ds.drop i).set i (mark d (marks (ds.take i) k).2).1 = (marks (ds.take (i + 1)) k).1 ++ ds.drop (i + 1) ∧ (marks (ds.take (i + 1)) k).2 = (mark d (marks (ds.take i) k).2).2 := by
  have hi := (List.getElem?_eq_some_iff.mp h).1
  have hl : (marks (ds.take i) k).1.length = i := by
    rw [marks_len, List.length_take]
    omega
  have e1 : ds.take (i + 1) = ds.take i ++ [d] := by
    rw [List.take_add_one, h]
    rfl
  have e2 : ds.drop i = d :: ds.drop (i + 1) := by
    have z := List.drop_eq_getElem_cons hi
    have y := (List.getElem?_eq_some_iff.mp h).2
    rw [y] at z
    exact z
  rw [e1, marks_snoc, e2]
  refine ⟨?_, ?_, rfl⟩
  · rw [List.getElem?_append_right (by omega), hl, Nat.sub_self]
    rfl
  · rw [List.set_append_right _ _ (by omega), hl, Nat.sub_self, List.append_assoc]
    rfl
/-! ### what isinstance tells of them -/
theorem leaf_ty {K : PySem.W.Frag} {H : Hp} {v : V} (h : Leaf v) : ∃ s : String, TyX K H v (.type s) ∧ (s = "NoneType" ∧ v = .non ∨ s = "bool" ∧ (∃ b, v = .bl b) ∨ s = "int" ∧ (∃ i, v = .int i) ∨ s = "str" ∧ ∃ z, v = .str z) := by
  rcases h with rfl | ⟨b, rfl⟩ | ⟨i, rfl⟩ | ⟨z, rfl⟩
  · exact ⟨_, .base .non, .inl ⟨rfl, rfl⟩⟩
  · exact ⟨_, .base (.bl b), .inr (.inl ⟨rfl, b, rfl⟩)⟩
  · exact ⟨_, .base (.int i), .inr (.inr (.inl ⟨rfl, i, rfl⟩))⟩
  · exact ⟨_, .base (.str z), .inr (.inr (.inr ⟨rfl, z, rfl⟩))⟩
/-- the kind of a datum: its type's name, whether it is a list, a tuple -/
def D.isL : D → Bool
  | .lst _ => true
  | _ => false
def D.isT : D → Bool
  | .tup _ => true
  | _ => false
def D.its : D → List D
  | .lst ds => ds
  | .tup ds => ds
  | .leaf _ => []
theorem Rep.ty {K : PySem.W.Frag} {H : Hp} {d : D} {v : V} {F : List Addr} (h : Rep H d v F) : ∃ s : String, TyX K H v (.type s) ∧ kitB s "list" = some d.isL ∧ kitB s "tuple" = some d.isT ∧ kitB s "dict" = some false := by
  cases d with
  | leaf w =>
    obtain ⟨rfl, hl, _⟩ := h
    obtain ⟨s, ht, hs⟩ := leaf_ty (K := K) (H := H) hl
    refine ⟨s, ht, ?_⟩
    rcases hs with ⟨rfl, _⟩ | ⟨rfl, _⟩ | ⟨rfl, _⟩ | ⟨rfl, _⟩ <;> exact ⟨(by show kitB _ _ = some false; decide +kernel), (by show kitB _ _ = some false; decide +kernel), by decide +kernel⟩
  | lst ds =>
    obtain ⟨a, xs, G, rfl, ha, _⟩ := h
    exact ⟨"list", .base (.lst ha), (by show kitB _ _ = some true; decide +kernel), (by show kitB _ _ = some false; decide +kernel), by decide +kernel⟩
  | tup ds =>
    obtain ⟨a, xs, rfl, ha, _⟩ := h
    exact ⟨"tuple", .base (.tup ha), (by show kitB _ _ = some false; decide +kernel), (by show kitB _ _ = some true; decide +kernel), by decide +kernel⟩
theorem kit_two {K : PySem.W.Frag} {s : String} {x y : Bool} (h1 : kitB s "list" = some x) (h2 : kitB s "tuple" = some y) : PySem.W.kitAny K (.type s) [.type "list", .type "tuple"] = some (x || y) := by
  refine kitAny_cons (kit_ty h1) (fun e => ?_) (fun e => by rw [e]; rfl)
  refine kitAny_cons (kit_ty h2) (fun e2 => ?_) (fun e2 => by rw [e2, Bool.or_true])
  rw [e, e2]
  exact kitAny_nil
theorem ifT {c : Bool} {A B : Prop} (hc : c = true) (h : A) : if c = true then A else B := by
  rw [hc]
  exact iteT h
theorem ifF {c : Bool} {A B : Prop} (hc : c = false) (h : B) : if c = true then A else B := by
  rw [hc]
  exact iteF h
theorem one_at {x : V} : atI [x] 0 = some x := atI_nat (j := 0) rfl
end K02
set_option Elab.async false
set_option linter.all false
set_option maxRecDepth 100000
set_option maxHeartbeats 4000000
namespace K02
open PySem L2 PyProof.Rows
mutual
/-- v is d in the heap, wherever its lists stand -/
def RW (H : Hp) : D → V → Prop
  | .leaf w, u => u = w ∧ Leaf w
  | .lst ds, u => ∃ a xs, u = .ref a ∧ H a = some (.lst xs) ∧ RWs H ds xs
  | .tup ds, u => ∃ a xs, u = .ref a ∧ H a = some (.tup xs) ∧ RWs H ds xs
def RWs (H : Hp) : List D → List V → Prop
  | [], xs => xs = []
  | d :: ds, xs => ∃ x ys, xs = x :: ys ∧ RW H d x ∧ RWs H ds ys
end
mutual
theorem RW.same {H H1 : Hp} (s : Same H H1) : ∀ {d : D} {v : V}, RW H d v → RW H1 d v
  | .leaf w, u, h => h
  | .lst ds, u, h => by
    obtain ⟨a, xs, e, ha, hr⟩ := h
    exact ⟨a, xs, e, s _ _ ha, RWs.same s hr⟩
  | .tup ds, u, h => by
    obtain ⟨a, xs, e, ha, hr⟩ := h
    exact ⟨a, xs, e, s _ _ ha, RWs.same s hr⟩
theorem RWs.same {H H1 : Hp} (s : Same H H1) : ∀ {ds : List D} {xs : List V}, RWs H ds xs → RWs H1 ds xs
  | [], xs, h => h
  | d :: ds, xs, h => by
    obtain ⟨x, ys, e, h1, h2⟩ := h
    exact ⟨x, ys, e, RW.same s h1, RWs.same s h2⟩
end
mutual
theorem Rep.rw {H : Hp} : ∀ {d : D} {v : V} {F : List Addr}, Rep H d v F → RW H d v
  | .leaf w, u, F, h => ⟨h.1, h.2.1⟩
  | .lst ds, u, F, h => by
    obtain ⟨a, xs, G, e, ha, hr, _⟩ := h
    exact ⟨a, xs, e, ha, Reps.rw hr⟩
  | .tup ds, u, F, h => by
    obtain ⟨a, xs, e, ha, hr⟩ := h
    exact ⟨a, xs, e, ha, Reps.rw hr⟩
theorem Reps.rw {H : Hp} : ∀ {ds : List D} {xs : List V} {F : List Addr}, Reps H ds xs F → RWs H ds xs
  | [], xs, F, h => h.1
  | d :: ds, xs, F, h => by
    obtain ⟨x, ys, F1, F2, e, h1, h2, _⟩ := h
    exact ⟨x, ys, e, Rep.rw h1, Reps.rw h2⟩
end
theorem RWs.len {H : Hp} : ∀ {ds : List D} {xs : List V}, RWs H ds xs → xs.length = ds.length
  | [], xs, h => by
    have e : xs = [] := h
    rw [e]
    rfl
  | d :: ds, xs, h => by
    obtain ⟨x, ys, rfl, h1, h2⟩ := h
    rw [List.length_cons, List.length_cons, h2.len]
theorem RWs.item {H : Hp} : ∀ {ds : List D} {xs : List V} {i : Nat} {x : V}, RWs H ds xs → xs[i]? = some x → ∃ d, ds[i]? = some d ∧ RW H d x
  | [], xs, i, x, h, e => by
    have z : xs = [] := h
    rw [z] at e
    simp at e
  | d :: ds, xs, 0, x, h, e => by
    obtain ⟨y, ys, rfl, h1, h2⟩ := h
    have ey : y = x := Option.some.inj e
    exact ⟨d, rfl, ey ▸ h1⟩
  | d :: ds, xs, i + 1, x, h, e => by
    obtain ⟨y, ys, rfl, h1, h2⟩ := h
    exact RWs.item h2 (i := i) e
theorem RW.ty {K : PySem.W.Frag} {H : Hp} {d : D} {v : V} (h : RW H d v) : ∃ s : String, TyX K H v (.type s) ∧ kitB s "list" = some d.isL ∧ kitB s "tuple" = some d.isT ∧ kitB s "dict" = some false := by
  cases d with
  | leaf w =>
    obtain ⟨rfl, hl⟩ := h
    obtain ⟨s, ht, hs⟩ := leaf_ty (K := K) (H := H) hl
    refine ⟨s, ht, ?_⟩
    rcases hs with ⟨rfl, _⟩ | ⟨rfl, _⟩ | ⟨rfl, _⟩ | ⟨rfl, _⟩ <;> exact ⟨(by show kitB _ _ = some false; decide +kernel), (by show kitB _ _ = some false; decide +kernel), by decide +kernel⟩
  | lst ds =>
    obtain ⟨a, xs, rfl, ha, _⟩ := h
    exact ⟨"list", .base (.lst ha), (by show kitB _ _ = some true; decide +kernel), (by show kitB _ _ = some false; decide +kernel), by decide +kernel⟩
  | tup ds =>
    obtain ⟨a, xs, rfl, ha, _⟩ := h
    exact ⟨"tuple", .base (.tup ha), (by show kitB _ _ = some false; decide +kernel), (by show kitB _ _ = some true; decide +kernel), by decide +kernel⟩
/-- a copy: the same datum, all its lists new -/
def spCopy (n : Nat) : Sp := fun vs H Q _ => ∃ (v : V) (d : D) (m : Nat), vs = [v] ∧ m + 1 ≤ n ∧ RW H d v ∧ Fits 1000 m d ∧
  ∀ u H' G, Same H H' → Rep H' d u G → (∀ a ∈ G, H a = none) → Q u H'
def spMark (n : Nat) : Sp := fun vs H Q _ => ∃ (v : V) (t : Addr) (d : D) (F : List Addr) (m : Nat) (k : Int), vs = [v, .ref t] ∧ m + 1 ≤ n ∧ Rep H d v F ∧ Fits 1000 m d ∧ H t = some (.lst [.int k]) ∧ t ∉ F ∧
  ∀ H', Kp (fun a => a ∈ F ∨ a = t) H H' → Rep H' (mark d k).1 v F → H' t = some (.lst [.int (mark d k).2]) → Q .non H'
def spSame (n : Nat) : Sp := fun vs H Q _ => ∃ (v u : V) (d : D) (m : Nat), vs = [v, u] ∧ m + 1 ≤ n ∧ RW H d v ∧ RW H d u ∧ Fits 1000 m d ∧ ∀ H', Same H H' → Q (.bl true) H'
theorem Fits.its {c m : Nat} {d : D} (h : Fits c m d) (hd : d.isL = true ∨ d.isT = true) : ∃ m', m = m' + 1 ∧ d.its.length ≤ c ∧ ∀ e ∈ d.its, Fits c m' e := by
  cases m with
  | zero =>
    obtain ⟨v, rfl⟩ := h
    rcases hd with z | z <;> cases z
  | succ m =>
    cases d with
    | leaf v => rcases hd with z | z <;> cases z
    | lst ds => exact ⟨m, rfl, h.1, h.2⟩
    | tup ds => exact ⟨m, rfl, h.1, h.2⟩
/-- a list or a tuple, with its items -/
theorem Rep.seq {H : Hp} {d : D} {v : V} {F : List Addr} (h : Rep H d v F) (hd : d.isL = true ∨ d.isT = true) : ∃ a xs G, v = .ref a ∧ (d.isL = true ∧ H a = some (.lst xs) ∧ a ∉ G ∧ F = a :: G ∨ d.isT = true ∧ H a = some (.tup xs) ∧ F = G) ∧ Reps H d.its xs G := by
  cases d with
  | leaf w => rcases hd with z | z <;> cases z
  | lst ds =>
    obtain ⟨a, xs, G, e, ha, hr, hn, eF⟩ := h
    exact ⟨a, xs, G, e, .inl ⟨rfl, ha, hn, eF⟩, hr⟩
  | tup ds =>
    obtain ⟨a, xs, e, ha, hr⟩ := h
    exact ⟨a, xs, F, e, .inr ⟨rfl, ha, rfl⟩, hr⟩
section
variable {P : Program} {w : World} {K : PySem.W.Frag} {mg : Str → Option Value} {base : Heap}
theorem none_of {f : Addr} {fd : FuncData} {ps : List Str} {sp : Sp} (h : ∀ vs H Q E, ¬ sp vs H Q E) : FnOk P w K mg base CX0 0 f fd ps sp :=
  ⟨fun vs H Q E x => absurd x (h vs H Q E), fun A outer s H args us vs Q E _ _ _ _ x => absurd x (h vs H Q E)⟩
theorem copy_none {f : Addr} {fd : FuncData} {ps : List Str} : FnOk P w K mg base CX0 0 f fd ps (spCopy 0) := none_of fun vs H Q E h => by
  obtain ⟨v, d, m, _, h1, _⟩ := h
  omega
theorem mark_none {f : Addr} {fd : FuncData} {ps : List Str} : FnOk P w K mg base CX0 0 f fd ps (spMark 0) := none_of fun vs H Q E h => by
  obtain ⟨v, t, d, F, m, k, _, h1, _⟩ := h
  omega
theorem same_none {f : Addr} {fd : FuncData} {ps : List Str} : FnOk P w K mg base CX0 0 f fd ps (spSame 0) := none_of fun vs H Q E h => by
  obtain ⟨v, u, d, m, _, h1, _⟩ := h
  omega
/-- the turns of [copy(one) for one in thing], D the new list -/
theorem copies_go {te : TE} {σ2 : V → L2.St} {n : Nat} {H1 : Hp} {D0 : Addr} {ds : List D} {xs : List V} {m : Nat} (hte : ∀ x H Q, spCopy n [x] H Q E0 → te (σ2 x) H Q) (hR : RWs H1 ds xs) (hf : ∀ e ∈ ds, Fits 1000 m e) (hm : m + 1 ≤ n) (hD : H1 D0 = none) (hl : ds.length ≤ 1000) :
    (∃ ys G, Same H1 (upd H1 D0 (.lst [])) ∧ (upd H1 D0 (.lst [])) D0 = some (.lst ys) ∧ Reps (upd H1 D0 (.lst [])) (ds.take 0) ys G ∧ (∀ a ∈ G, H1 a = none ∧ a ≠ D0)) ∧
    ∀ i x H2, xs[i]? = some x → (∃ ys G, Same H1 H2 ∧ H2 D0 = some (.lst ys) ∧ Reps H2 (ds.take i) ys G ∧ (∀ a ∈ G, H1 a = none ∧ a ≠ D0)) →
      te (σ2 x) H2 fun y H4 => ∃ acc, H4 D0 = some (.lst acc) ∧ acc.length < sizeLine ∧ ∃ ys G, Same H1 (upd H4 D0 (.lst (acc ++ [y]))) ∧ (upd H4 D0 (.lst (acc ++ [y]))) D0 = some (.lst ys) ∧ Reps (upd H4 D0 (.lst (acc ++ [y]))) (ds.take (i + 1)) ys G ∧ (∀ a ∈ G, H1 a = none ∧ a ≠ D0) := by
  refine ⟨⟨[], [], same_new hD _, upd_same, ⟨rfl, rfl⟩, fun _ z => nomatch z⟩, ?_⟩
  rintro i x H2 hi ⟨ys, G, hs2, hD2, hr, hG⟩
  obtain ⟨e, he, hrep⟩ := RWs.item (hR.same hs2) hi
  have hil := (List.getElem?_eq_some_iff.mp he).1
  refine hte x H2 _ ⟨x, e, m, rfl, hm, hrep, hf e (List.mem_of_getElem? he), fun u H3 G3 hs3 hr3 hG3 => ?_⟩
  have hD3 := hs3 _ _ hD2
  have hyl : ys.length = i := by
    rw [hr.len, List.length_take]
    omega
  have nD : ∀ a ∈ G3, a ≠ D0 := fun a ha z => by
    rw [← z, hG3 a ha] at hD2
    cases hD2
  have n1 : ∀ a ∈ G3, H1 a = none := fun a ha => hs2.free (hG3 a ha)
  have kp : Kp (fun a => a = D0) H3 (upd H3 D0 (.lst (ys ++ [u]))) := Kp.set hD3 rfl
  refine ⟨ys, hD3, Nat.lt_of_le_of_lt (show ys.length ≤ 1000 by omega) (by decide), ys ++ [u], G ++ G3, same_put (hs2.trans hs3) hD, upd_same, ?_, fun a ha => ?_⟩
  · have et : ds.take (i + 1) = ds.take i ++ [e] := by
      rw [List.take_add_one, he]
      rfl
    rw [et]
    refine Reps.snoc ((hr.same hs3).kp kp fun a ha => (hG a ha).2) (hr3.kp kp nD) fun a ha z => ?_
    obtain ⟨zs, hz⟩ := hr.at_ a ha
    rw [hG3 a z] at hz
    cases hz
  · rcases List.mem_append.mp ha with z | z
    · exact hG a z
    · exact ⟨n1 a z, nD a z⟩
end
end K02
set_option Elab.async false
set_option linter.all false
set_option maxRecDepth 100000
set_option maxHeartbeats 4000000
namespace K02
open PySem L2 PyProof.Rows
/-- a datum, its items, where their lists stand -/
inductive Shp (H : Hp) : D → V → List Addr → List V → List Addr → Prop where
  | leaf {v : V} (h : Leaf v) : Shp H (.leaf v) v [] [] []
  | lst {ds : List D} {a : Addr} {xs : List V} {G : List Addr} (h : H a = some (.lst xs)) (r : Reps H ds xs G) (n : a ∉ G) : Shp H (.lst ds) (.ref a) (a :: G) xs G
  | tup {ds : List D} {a : Addr} {xs : List V} {G : List Addr} (h : H a = some (.tup xs)) (r : Reps H ds xs G) : Shp H (.tup ds) (.ref a) G xs G
theorem Rep.shp {H : Hp} {d : D} {v : V} {F : List Addr} (h : Rep H d v F) : ∃ xs G, Shp H d v F xs G := by
  cases d with
  | leaf w =>
    obtain ⟨rfl, hl, rfl⟩ := h
    exact ⟨_, _, .leaf hl⟩
  | lst ds =>
    obtain ⟨a, xs, G, rfl, ha, hr, hn, rfl⟩ := h
    exact ⟨_, _, .lst ha hr hn⟩
  | tup ds =>
    obtain ⟨a, xs, rfl, ha, hr⟩ := h
    exact ⟨_, _, .tup ha hr⟩
theorem Shp.reps {H : Hp} {d : D} {v : V} {F G : List Addr} {xs : List V} (h : Shp H d v F xs G) : Reps H d.its xs G ∧ ∀ a ∈ G, a ∈ F := by
  cases h with
  | leaf h => exact ⟨⟨rfl, rfl⟩, fun _ z => z⟩
  | lst h r n => exact ⟨r, fun _ z => List.mem_cons_of_mem _ z⟩
  | tup h r => exact ⟨r, fun _ z => z⟩
theorem Fits.its0 {c m : Nat} {d : D} (h : Fits c m d) : d.its.length ≤ c ∧ ∀ e ∈ d.its, ∃ m', m = m' + 1 ∧ Fits c m' e := by
  cases d with
  | leaf v => exact ⟨Nat.zero_le _, fun _ z => nomatch z⟩
  | lst ds =>
    obtain ⟨m', rfl, a, b⟩ := h.its (.inl rfl)
    exact ⟨a, fun e he => ⟨m', rfl, b e he⟩⟩
  | tup ds =>
    obtain ⟨m', rfl, a, b⟩ := h.its (.inr rfl)
    exact ⟨a, fun e he => ⟨m', rfl, b e he⟩⟩
section
variable {P : Program} {w : World} {K : PySem.W.Frag} {mg : Str → Option Value} {base : Heap}
theorem scFr : FnScope ["thing", "each", "key"] ["thing"] (defScope sFresh) := ⟨rfl, rfl, rfl, by decide +kernel, rfl, by decide +kernel, by decide +kernel⟩
theorem ok_fresh {f : Addr} {fd : FuncData} {n : Nat} (F : Fun K "fresh" "fresh" sFresh f fd) (T : Txt K mg) (G : FnOk P w K mg base CX0 n f fd ["thing"] (spCopy n)) (b : Binds K fd ["thing"] []) (m : mg "fresh" = some (.ref f)) (zD : mg "dict" = none) :
    FnOk P w K mg base CX0 (n + 1) f fd ["thing"] (spCopy (n + 1)) := by
  refine F.ok scFr (fun vs H Q E h => ?_) (fun cdv A outer s H vs Q E hr h => ?_)
  · obtain ⟨v, d, m0, rfl, _⟩ := h
    rfl
  obtain ⟨v, d, m0, rfl, hm, hR, hF, kk⟩ := h
  refine ⟨_, pss_cons (ps_if (pt_val (pe_callB call_isi (by rfl) T.isi boot_isinstance (pa_cons (pv 0) (pa_cons (pe_bltn (v := .ty "list") (by rfl) T.list boot_list rfl) pa_nil))))
      (pss_one (ps_ret (pe_lc (own := [("each", 1)]) (g := gName 1) (tt := tYes) rfl scFr.nd (pi_list (pv 0)) (blkOk_by (N := ["thing", "each", "key"]) (sc := defScope sFresh) (by decide +kernel)) (fun _ _ _ _ _ => pg_name (i := 1) scFr.nd rfl (Or.inl rfl)) (fun _ _ _ _ _ => pts_nil)
        (fun _ _ _ _ _ => pe_call G hr rfl m F.kp b .nil pass0 (pa_cons (pv 1) pa_nil))))) pss_nil)
    (pss_cons (ps_if (pt_val (pe_callB call_isi (by rfl) T.isi boot_isinstance (pa_cons (pv 0) (pa_cons (pe_bltn (v := .ty "tuple") (by rfl) T.tuple boot_tuple rfl) pa_nil))))
      (pss_one (ps_ret (pe_callTy call_tuple_of (by rfl) T.tuple boot_tuple (pa_cons (pe_lc (own := [("each", 1)]) (g := gName 1) (tt := tYes) rfl scFr.nd (pi_tup (pv 0)) (blkOk_by (N := ["thing", "each", "key"]) (sc := defScope sFresh) (by decide +kernel)) (fun _ _ _ _ _ => pg_name (i := 1) scFr.nd rfl (Or.inl rfl)) (fun _ _ _ _ _ => pts_nil)
        (fun _ _ _ _ _ => pe_call G hr rfl m F.kp b .nil pass0 (pa_cons (pv 1) pa_nil))) pa_nil)))) pss_nil)
    (pss_cons (ps_if (pt_val (pe_callB call_isi (by rfl) T.isi boot_isinstance (pa_cons (pv 0) (pa_cons (pe_bltn (v := .ty "dict") (by rfl) zD boot_dict rfl) pa_nil)))) pss_never pss_nil)
    (pss_one (ps_ret (pv 0))))), ?_⟩
  obtain ⟨sT, hty, k1, k2, k3⟩ := hR.ty (K := K)
  refine ⟨_, rfl, v, _, _, _, _, rfl, .ty _, hty, kit_ty k1, _, rfl, ?_⟩
  cases d with
  | leaf w0 =>
    refine iteF ⟨_, rfl, v, _, _, _, _, rfl, .ty _, hty, kit_ty k2, _, rfl, iteF ⟨_, rfl, v, _, _, _, _, rfl, .ty _, hty, kit_ty k3, _, rfl, iteF ⟨_, rfl, ?_⟩⟩⟩
    obtain ⟨rfl, hl⟩ := hR
    exact kk _ H [] (Same.refl H) ⟨rfl, hl, rfl⟩ fun _ z => nomatch z
  | lst ds =>
    refine iteT ?_
    obtain ⟨a, xs, rfl, ha, hr0⟩ := hR
    obtain ⟨m', rfl, hl, hf⟩ := hF.its (.inl rfl)
    refine ⟨_, rfl, a, rfl, ⟨_, SqL.of ha⟩, fun D0 hD => ?_⟩
    obtain ⟨g0, g1⟩ := copies_go (te := tCall (spCopy n) [] E0 (tCons (tVar 1) tNil)) (σ2 := fun x => [some (.ref a), some x, none]) (m := m') (fun x H Q h => ⟨x, rfl, h⟩) hr0 hf (by omega) hD hl
    refine lc_list (K := K) (a := a) (xs := xs) (fun i H2 => ∃ ys G, Same H H2 ∧ H2 D0 = some (.lst ys) ∧ Reps H2 (ds.take i) ys G ∧ (∀ a ∈ G, H a = none ∧ a ≠ D0)) g0 (fun i H2 _ ⟨_, _, h, _⟩ => SqL.of (h _ _ ha)) ?_ ?_
    · rintro i x H2 hi h
      exact ⟨rfl, g1 i x H2 hi h⟩
    · rintro H2 ⟨ys, G, hs, hD2, hr2, hG⟩
      rw [hr0.len, List.take_length] at hr2
      exact kk _ H2 (D0 :: G) hs ⟨D0, ys, G, rfl, hD2, hr2, fun z => (hG _ z).2 rfl, rfl⟩ fun b hb => by
        rcases List.mem_cons.mp hb with z | z
        · exact z ▸ hD
        · exact (hG b z).1
  | tup ds =>
    refine iteF ⟨_, rfl, v, _, _, _, _, rfl, .ty _, hty, kit_ty k2, _, rfl, iteT ?_⟩
    obtain ⟨a, xs, rfl, ha, hr0⟩ := hR
    obtain ⟨m', rfl, hl, hf⟩ := hF.its (.inr rfl)
    refine ⟨_, rfl, a, rfl, ⟨_, SqT.of ha⟩, fun D0 hD => ?_⟩
    obtain ⟨g0, g1⟩ := copies_go (te := tCall (spCopy n) [] E0 (tCons (tVar 1) tNil)) (σ2 := fun x => [some (.ref a), some x, none]) (m := m') (fun x H Q h => ⟨x, rfl, h⟩) hr0 hf (by omega) hD hl
    refine lc_tup (K := K) (a := a) (xs := xs) (fun i H2 => ∃ ys G, Same H H2 ∧ H2 D0 = some (.lst ys) ∧ Reps H2 (ds.take i) ys G ∧ (∀ a ∈ G, H a = none ∧ a ≠ D0)) g0 (fun i H2 _ ⟨_, _, h, _⟩ => SqT.of (h _ _ ha)) ?_ ?_
    · rintro i x H2 hi h
      exact ⟨rfl, g1 i x H2 hi h⟩
    · rintro H2 ⟨ys, G, hs, hD2, hr2, hG⟩
      rw [hr0.len, List.take_length] at hr2
      refine ⟨D0, ys, rfl, .inl ⟨SqL.of hD2, fun l hl2 => ?_⟩⟩
      have s3 := same_new hl2 (.tup ys)
      exact kk _ _ G (hs.trans s3) ⟨l, ys, rfl, upd_same, hr2.same s3⟩ fun b hb => (hG b hb).1
theorem scCo2 : FnScope ["thing", "one", "name"] ["thing"] (defScope sCopied) := ⟨rfl, rfl, rfl, by decide +kernel, rfl, by decide +kernel, by decide +kernel⟩
theorem ok_tcopy {f : Addr} {fd : FuncData} {n : Nat} (F : Fun K "_law_ta_copy" "_law_ta_copy" sCopied f fd) (T : Txt K mg) (G : FnOk P w K mg base CX0 n f fd ["thing"] (spCopy n)) (b : Binds K fd ["thing"] []) (m : mg "_law_ta_copy" = some (.ref f)) (zD : mg "dict" = none) :
    FnOk P w K mg base CX0 (n + 1) f fd ["thing"] (spCopy (n + 1)) := by
  refine F.ok scCo2 (fun vs H Q E h => ?_) (fun cdv A outer s H vs Q E hr h => ?_)
  · obtain ⟨v, d, m0, rfl, _⟩ := h
    rfl
  obtain ⟨v, d, m0, rfl, hm, hR, hF, kk⟩ := h
  refine ⟨_, pss_cons (ps_if (pt_val (pe_callB call_isi (by rfl) T.isi boot_isinstance (pa_cons (pv 0) (pa_cons (pe_bltn (v := .ty "list") (by rfl) T.list boot_list rfl) pa_nil))))
      (pss_one (ps_ret (pe_lc (own := [("one", 1)]) (g := gName 1) (tt := tYes) rfl scCo2.nd (pi_list (pv 0)) (blkOk_by (N := ["thing", "one", "name"]) (sc := defScope sCopied) (by decide +kernel)) (fun _ _ _ _ _ => pg_name (i := 1) scCo2.nd rfl (Or.inl rfl)) (fun _ _ _ _ _ => pts_nil)
        (fun _ _ _ _ _ => pe_call G hr rfl m F.kp b .nil pass0 (pa_cons (pv 1) pa_nil))))) pss_nil)
    (pss_cons (ps_if (pt_val (pe_callB call_isi (by rfl) T.isi boot_isinstance (pa_cons (pv 0) (pa_cons (pe_bltn (v := .ty "tuple") (by rfl) T.tuple boot_tuple rfl) pa_nil))))
      (pss_one (ps_ret (pe_callTy call_tuple_of (by rfl) T.tuple boot_tuple (pa_cons (pe_lc (own := [("one", 1)]) (g := gName 1) (tt := tYes) rfl scCo2.nd (pi_tup (pv 0)) (blkOk_by (N := ["thing", "one", "name"]) (sc := defScope sCopied) (by decide +kernel)) (fun _ _ _ _ _ => pg_name (i := 1) scCo2.nd rfl (Or.inl rfl)) (fun _ _ _ _ _ => pts_nil)
        (fun _ _ _ _ _ => pe_call G hr rfl m F.kp b .nil pass0 (pa_cons (pv 1) pa_nil))) pa_nil)))) pss_nil)
    (pss_cons (ps_if (pt_val (pe_callB call_isi (by rfl) T.isi boot_isinstance (pa_cons (pv 0) (pa_cons (pe_bltn (v := .ty "dict") (by rfl) zD boot_dict rfl) pa_nil)))) pss_never pss_nil)
    (pss_one (ps_ret (pv 0))))), ?_⟩
  obtain ⟨sT, hty, k1, k2, k3⟩ := hR.ty (K := K)
  refine ⟨_, rfl, v, _, _, _, _, rfl, .ty _, hty, kit_ty k1, _, rfl, ?_⟩
  cases d with
  | leaf w0 =>
    refine iteF ⟨_, rfl, v, _, _, _, _, rfl, .ty _, hty, kit_ty k2, _, rfl, iteF ⟨_, rfl, v, _, _, _, _, rfl, .ty _, hty, kit_ty k3, _, rfl, iteF ⟨_, rfl, ?_⟩⟩⟩
    obtain ⟨rfl, hl⟩ := hR
    exact kk _ H [] (Same.refl H) ⟨rfl, hl, rfl⟩ fun _ z => nomatch z
  | lst ds =>
    refine iteT ?_
    obtain ⟨a, xs, rfl, ha, hr0⟩ := hR
    obtain ⟨m', rfl, hl, hf⟩ := hF.its (.inl rfl)
    refine ⟨_, rfl, a, rfl, ⟨_, SqL.of ha⟩, fun D0 hD => ?_⟩
    obtain ⟨g0, g1⟩ := copies_go (te := tCall (spCopy n) [] E0 (tCons (tVar 1) tNil)) (σ2 := fun x => [some (.ref a), some x, none]) (m := m') (fun x H Q h => ⟨x, rfl, h⟩) hr0 hf (by omega) hD hl
    refine lc_list (K := K) (a := a) (xs := xs) (fun i H2 => ∃ ys G, Same H H2 ∧ H2 D0 = some (.lst ys) ∧ Reps H2 (ds.take i) ys G ∧ (∀ a ∈ G, H a = none ∧ a ≠ D0)) g0 (fun i H2 _ ⟨_, _, h, _⟩ => SqL.of (h _ _ ha)) ?_ ?_
    · rintro i x H2 hi h
      exact ⟨rfl, g1 i x H2 hi h⟩
    · rintro H2 ⟨ys, G, hs, hD2, hr2, hG⟩
      rw [hr0.len, List.take_length] at hr2
      exact kk _ H2 (D0 :: G) hs ⟨D0, ys, G, rfl, hD2, hr2, fun z => (hG _ z).2 rfl, rfl⟩ fun b hb => by
        rcases List.mem_cons.mp hb with z | z
        · exact z ▸ hD
        · exact (hG b z).1
  | tup ds =>
    refine iteF ⟨_, rfl, v, _, _, _, _, rfl, .ty _, hty, kit_ty k2, _, rfl, iteT ?_⟩
    obtain ⟨a, xs, rfl, ha, hr0⟩ := hR
    obtain ⟨m', rfl, hl, hf⟩ := hF.its (.inr rfl)
    refine ⟨_, rfl, a, rfl, ⟨_, SqT.of ha⟩, fun D0 hD => ?_⟩
    obtain ⟨g0, g1⟩ := copies_go (te := tCall (spCopy n) [] E0 (tCons (tVar 1) tNil)) (σ2 := fun x => [some (.ref a), some x, none]) (m := m') (fun x H Q h => ⟨x, rfl, h⟩) hr0 hf (by omega) hD hl
    refine lc_tup (K := K) (a := a) (xs := xs) (fun i H2 => ∃ ys G, Same H H2 ∧ H2 D0 = some (.lst ys) ∧ Reps H2 (ds.take i) ys G ∧ (∀ a ∈ G, H a = none ∧ a ≠ D0)) g0 (fun i H2 _ ⟨_, _, h, _⟩ => SqT.of (h _ _ ha)) ?_ ?_
    · rintro i x H2 hi h
      exact ⟨rfl, g1 i x H2 hi h⟩
    · rintro H2 ⟨ys, G, hs, hD2, hr2, hG⟩
      rw [hr0.len, List.take_length] at hr2
      refine ⟨D0, ys, rfl, .inl ⟨SqL.of hD2, fun l hl2 => ?_⟩⟩
      have s3 := same_new hl2 (.tup ys)
      exact kk _ _ G (hs.trans s3) ⟨l, ys, rfl, upd_same, hr2.same s3⟩ fun b hb => (hG b hb).1
/-! ### marks -/
theorem scM : FnScope ["thing", "tally", "inner", "name", "one"] ["thing", "tally"] (defScope sMark) := ⟨rfl, rfl, rfl, by decide +kernel, rfl, by decide +kernel, by decide +kernel⟩
theorem ok_mark {f : Addr} {fd : FuncData} {n : Nat} (F : Fun K "_law_ta_mark" "_law_ta_mark" sMark f fd) (T : Txt K mg) (G : FnOk P w K mg base CX0 n f fd ["thing", "tally"] (spMark n)) (b : Binds K fd ["thing", "tally"] []) (m : mg "_law_ta_mark" = some (.ref f)) (zD : mg "dict" = none) :
    FnOk P w K mg base CX0 (n + 1) f fd ["thing", "tally"] (spMark (n + 1)) := by
  refine F.ok scM (fun vs H Q E h => ?_) (fun cdv A outer s H vs Q E hr h => ?_)
  · obtain ⟨v, t, d, F0, m0, k, rfl, _⟩ := h
    rfl
  obtain ⟨v, t, d, F0, m0, k, rfl, hm, hR, hF, ht, htF, kk⟩ := h
  refine ⟨_, Evl.pss_cut (ps_set (i := 2) scM.nd rfl (Or.inl rfl) (pe_ifExp (pt_val (pe_callB call_isiT (by rfl) T.isi boot_isinstance (pa_cons (pv 0) (pa_cons (pe_tup (pa_cons (pe_bltn (v := .ty "list") (by rfl) T.list boot_list rfl) (pa_cons (pe_bltn (v := .ty "tuple") (by rfl) T.tuple boot_tuple rfl) pa_nil))) pa_nil))))
      (pe_callTy call_list_of (by rfl) T.list boot_list (pa_cons (pv 0) pa_nil)) (pe_lst pa_nil)))
    (pss_cons (ps_if (pt_val (pe_callB call_isi (by rfl) T.isi boot_isinstance (pa_cons (pv 0) (pa_cons (pe_bltn (v := .ty "dict") (by rfl) zD boot_dict rfl) pa_nil)))) pss_never pss_nil)
    (Evl.pss_cut (ps_for PassesOwn.never rfl (pi_list (pv 2)) (pg_name (i := 4) scM.nd rfl (Or.inl rfl)) (pss_one (ps_expr (pe_call G hr rfl m F.kp b .nil pass0 (pa_cons (pv 4) (pa_cons (pv 1) pa_nil))))))
    (pss_cons (ps_asg (pe_op op_add (pe_ix ix_list (pv 1) pe_int (fun _ _ => rfl)) pe_int) (pg_sub (pv 1) pe_int set_list))
    (pss_cons (ps_if (pt_val (pe_callB call_isi (by rfl) T.isi boot_isinstance (pa_cons (pv 0) (pa_cons (pe_bltn (v := .ty "list") (by rfl) T.list boot_list rfl) pa_nil))))
      (pss_one (ps_expr (pe_bm PySem.F.plainAttrs_list PySem.F.slot_list_append PySem.F.type_list_append mt_append (pv 0) (pa_cons (pe_ix ix_list (pv 1) pe_int (fun _ _ => rfl)) pa_nil)))) pss_nil)
    (pss_one (ps_if (pt_val (pe_callB call_isi (by rfl) T.isi boot_isinstance (pa_cons (pv 0) (pa_cons (pe_bltn (v := .ty "dict") (by rfl) zD boot_dict rfl) pa_nil)))) pss_never pss_nil)))))), ?_⟩
  obtain ⟨xs, G0, hS⟩ := hR.shp
  obtain ⟨hr0, hGF⟩ := hS.reps
  obtain ⟨hlen, hits⟩ := hF.its0
  have htG : t ∉ G0 := fun z => htF (hGF t z)
  have hxl : xs.length = d.its.length := hr0.len
  -- inner
  refine ⟨fun σ' H' => Same H H' ∧ ∃ l, H l = none ∧ H' l = some (.lst xs) ∧ σ' = [some v, some (.ref t), some (.ref l), none, none], ?_, ?_⟩
  · refine ⟨_, rfl, by show 2 ≤ sizeLine; decide, fun tp htp => ?_⟩
    have hs1 := same_new htp (.tup [V.ty "list", V.ty "tuple"])
    obtain ⟨sT, hty, k1, k2, k3⟩ := (hR.same hs1).ty (K := K)
    refine ⟨v, tp, _, _, _, _, rfl, upd_same, .cons (.ty _) (.cons (.ty _) .nil), hty, kit_two k1 k2, _, rfl, ?_⟩
    cases hS with
    | leaf h =>
      refine iteF ⟨by show 0 ≤ sizeLine; decide, fun l hl => ?_⟩
      exact ⟨hs1.trans (same_new hl _), l, hs1.free hl, upd_same, rfl⟩
    | @lst ds a xs G0 h r n =>
      refine iteT ⟨_, rfl, a, xs, rfl, .inl (SqL.of (hs1 _ _ h)), fun l hl => ?_⟩
      exact ⟨hs1.trans (same_new hl _), l, hs1.free hl, upd_same, rfl⟩
    | @tup ds a xs G0 h r =>
      refine iteT ⟨_, rfl, a, xs, rfl, .inr (SqT.of (hs1 _ _ h)), fun l hl => ?_⟩
      exact ⟨hs1.trans (same_new hl _), l, hs1.free hl, upd_same, rfl⟩
  rintro _ H1 ⟨hs1, l, hl0, hl1, rfl⟩
  obtain ⟨sT, hty, k1, k2, k3⟩ := (hR.same hs1).ty (K := K)
  refine ⟨_, rfl, v, _, _, _, _, rfl, .ty _, hty, kit_ty k3, _, rfl, iteF ?_⟩
  clear hty k1 k2 k3 sT
  have hlt : l ≠ t := (ne_of_none ht hl0).symm
  have hlG : l ∉ G0 := fun z => by
    obtain ⟨ys, e⟩ := hr0.at_ l z
    rw [hl0] at e
    cases e
  -- the things within
  refine ⟨fun σ' H' => Kp (fun a => a ∈ G0 ∨ a = t) H H' ∧ Reps H' (marks d.its k).1 xs G0 ∧ H' t = some (.lst [.int (marks d.its k).2]) ∧ ∃ v4, σ' = [some v, some (.ref t), some (.ref l), none, v4], ?_, ?_⟩
  · refine ⟨_, rfl, l, rfl, ⟨_, SqL.of hl1⟩, ?_⟩
    refine for_list (K := K) (a := l) (xs := xs) (fun i σ' H' => Kp (fun a => a ∈ G0 ∨ a = t) H H' ∧ Kp (fun a => a ∈ G0 ∨ a = t) H1 H' ∧ Reps H' ((marks (d.its.take i) k).1 ++ d.its.drop i) xs G0 ∧ H' t = some (.lst [.int (marks (d.its.take i) k).2]) ∧ ∃ v4, σ' = [some v, some (.ref t), some (.ref l), none, v4])
      ⟨.same hs1, .same (Same.refl _), hr0.same hs1, hs1 _ _ ht, none, rfl⟩ (fun i σ' H' _ ⟨_, h, _⟩ => SqL.of (h _ _ hl1 (.inl fun z => ?_))) ?_ ?_
    · rcases z with z | z
      · exact hlG z
      · exact hlt z
    · rintro i y σ' H2 hi ⟨hg2, hg1, hr2, ht2, v4, rfl⟩
      obtain ⟨e0, G1, he0, hrep, hG1, hset⟩ := hr2.item hi
      have hil : i < d.its.length := by
        have := (List.getElem?_eq_some_iff.mp hi).1
        omega
      obtain ⟨s1, s2, s3⟩ := marks_step (List.getElem?_eq_getElem hil) k
      rw [s1] at he0
      cases he0
      obtain ⟨m', rfl, hf⟩ := hits _ (List.getElem_mem hil)
      refine ⟨_, rfl, _, rfl, y, t, _, G1, m', _, rfl, by omega, hrep, hf, ht2, fun z => htG (hG1 t z), fun H3 hk hr3 ht3 => ?_⟩
      have hw : Kp (fun a => a ∈ G0 ∨ a = t) H2 H3 := hk.wide fun a z => z.imp (hG1 a) id
      rw [← s2]
      rw [← s3] at ht3
      exact ⟨hg2.trans hw, hg1.trans hw, hset t H3 _ htG hk hr3, ht3, _, rfl⟩
    · rintro σ' H2 ⟨hg2, _, hr2, ht2, r⟩
      rw [hxl, List.take_length, List.drop_length, List.append_nil] at hr2
      rw [hxl, List.take_length] at ht2
      exact ⟨hg2, hr2, ht2, r⟩
  rintro _ H2 ⟨hg2, hr2, ht2, v4, rfl⟩
  generalize hk' : (marks d.its k).2 = k' at ht2
  generalize hds' : (marks d.its k).1 = ds' at hr2
  -- the number
  refine ⟨_, rfl, t, _, _, _, rfl, rfl, SqL.of ht2, one_at, _, _, rfl, rfl, _, rfl, t, _, _, 0, rfl, rfl, ht2, rfl, ?_⟩
  have kp3 : Kp (fun a => a = t) H2 (upd H2 t (.lst [.int (k' + 1)])) := Kp.set ht2 rfl
  generalize hH3 : upd H2 t (.lst [.int (k' + 1)]) = H3 at kp3
  have hg3 : Kp (fun a => a ∈ G0 ∨ a = t) H H3 := hg2.trans (kp3.wide fun a z => .inr z)
  have hr3 : Reps H3 ds' xs G0 := hr2.kp kp3 fun a ha z => htG (z ▸ ha)
  have ht3 : H3 t = some (.lst [.int (k' + 1)]) := by
    rw [← hH3]
    exact upd_same
  have e3 : upd H2 t (.lst (([V.int k'] : List V).set 0 (.int (k' + 1)))) = H3 := hH3
  show tSeq _ _ _ _ (upd H2 t (.lst (([V.int k'] : List V).set 0 (.int (k' + 1)))))
  rw [e3]
  cases hS with
  | leaf h =>
    obtain ⟨sT, hty, k1, k2, k3⟩ := (show Rep H3 (.leaf v) v [] from ⟨rfl, h, rfl⟩).ty (K := K)
    refine ⟨_, rfl, v, _, _, _, _, rfl, .ty _, hty, kit_ty k1, _, rfl, iteF ?_⟩
    refine ⟨_, rfl, v, _, _, _, _, rfl, .ty _, hty, kit_ty k3, _, rfl, iteF ?_⟩
    refine kk H3 hg3 ⟨rfl, h, rfl⟩ ?_
    rw [ht3, ← hk']
    rfl
  | @lst ds a xs G0 h r n =>
    have hat : a ≠ t := fun z => htF (z ▸ List.mem_cons_self)
    have ha3 : H3 a = some (.lst xs) := hg3 _ _ h (.inl fun z => z.elim n hat)
    obtain ⟨sT, hty, k1, k2, k3⟩ := (show Rep H3 (.lst ds') (.ref a) (a :: G0) from ⟨a, xs, G0, rfl, ha3, hr3, n, rfl⟩).ty (K := K)
    refine ⟨_, rfl, _, _, _, _, _, rfl, .ty _, hty, kit_ty k1, _, rfl, iteT ?_⟩
    refine ⟨_, rfl, .inl ⟨rfl, _, SqL.of ha3⟩, _, rfl, t, _, _, _, rfl, rfl, SqL.of ht3, one_at, a, _, _, rfl, rfl, ha3, Nat.lt_of_le_of_lt (show xs.length ≤ 1000 by rw [hxl]; exact hlen) (by decide), ?_⟩
    have kp4 : Kp (fun b => b = a) H3 (upd H3 a (.lst (xs ++ [.int (k' + 1)]))) := Kp.set ha3 rfl
    generalize hH4 : upd H3 a (.lst (xs ++ [.int (k' + 1)])) = H4 at kp4
    have ha4 : H4 a = some (.lst (xs ++ [.int (k' + 1)])) := by
      rw [← hH4]
      exact upd_same
    have hr4 : Reps H4 ds' xs G0 := hr3.kp kp4 fun b hb z => n (z ▸ hb)
    have hs4 := hr4.snoc (d := .leaf (.int (k' + 1))) (x := .int (k' + 1)) (G := []) ⟨rfl, .inr (.inr (.inl ⟨_, rfl⟩)), rfl⟩ (fun _ _ z => nomatch z)
    rw [List.append_nil] at hs4
    have R4 : Rep H4 (.lst (ds' ++ [.leaf (.int (k' + 1))])) (.ref a) (a :: G0) := ⟨a, _, G0, rfl, ha4, hs4, n, rfl⟩
    obtain ⟨s4, hty4, q1, q2, q3⟩ := R4.ty (K := K)
    refine ⟨_, rfl, _, _, _, _, _, rfl, .ty _, hty4, kit_ty q3, _, rfl, iteF ?_⟩
    refine kk H4 ((hg3.wide fun b z => z.imp (fun y => List.mem_cons_of_mem _ y) id).trans (kp4.wide fun b z => .inl (z ▸ List.mem_cons_self))) ?_ ?_
    · rw [← hds', ← hk'] at R4
      exact R4
    · rw [← hH4, upd_ne (Ne.symm hat), ht3, ← hk']
      rfl
  | @tup ds a xs G0 h r =>
    have ha3 : H3 a = some (.tup xs) := hg3 _ _ h (.inr fun _ z => nomatch z)
    have R3 : Rep H3 (.tup ds') (.ref a) F0 := ⟨a, xs, rfl, ha3, hr3⟩
    obtain ⟨sT, hty, k1, k2, k3⟩ := R3.ty (K := K)
    refine ⟨_, rfl, _, _, _, _, _, rfl, .ty _, hty, kit_ty k1, _, rfl, iteF ?_⟩
    refine ⟨_, rfl, _, _, _, _, _, rfl, .ty _, hty, kit_ty k3, _, rfl, iteF ?_⟩
    refine kk H3 hg3 ?_ ?_
    · rw [← hds'] at R3
      exact R3
    · rw [ht3, ← hk']
      rfl
end
end K02
set_option Elab.async false
set_option linter.all false
set_option maxRecDepth 100000
set_option maxHeartbeats 4000000
namespace K02
open PySem L2 PyProof.Rows
/-! ### values -/
inductive Wv where
  | non
  | int (i : Int)
  | row (ws : List Wv)
  | rcd (ns : List Str) (ws : List Wv)
def kz (ns : List Str) (xs : List V) : List (Key × V) := (ns.zip xs).map fun q => (Sum.inr q.1, q.2)
mutual
def RV (H : Hp) : Wv → V → Prop
  | .non, v => v = .non
  | .int i, v => v = .int i
  | .row ws, v => ∃ a xs, v = .ref a ∧ H a = some (.lst xs) ∧ RVs H ws xs
  | .rcd ns ws, v => ∃ a xs, v = .ref a ∧ H a = some (.dK (kz ns xs)) ∧ ns.length = ws.length ∧ RVs H ws xs
def RVs (H : Hp) : List Wv → List V → Prop
  | [], xs => xs = []
  | w :: ws, xs => ∃ x ys, xs = x :: ys ∧ RV H w x ∧ RVs H ws ys
end
mutual
theorem RV.same {H H1 : Hp} (s : Same H H1) : ∀ {w : Wv} {v : V}, RV H w v → RV H1 w v
  | .non, v, h => h
  | .int i, v, h => h
  | .row ws, v, h => by
    obtain ⟨a, xs, e, ha, hr⟩ := h
    exact ⟨a, xs, e, s _ _ ha, RVs.same s hr⟩
  | .rcd ns ws, v, h => by
    obtain ⟨a, xs, e, ha, hl, hr⟩ := h
    exact ⟨a, xs, e, s _ _ ha, hl, RVs.same s hr⟩
theorem RVs.same {H H1 : Hp} (s : Same H H1) : ∀ {ws : List Wv} {xs : List V}, RVs H ws xs → RVs H1 ws xs
  | [], xs, h => h
  | w :: ws, xs, h => by
    obtain ⟨x, ys, e, h1, h2⟩ := h
    exact ⟨x, ys, e, RV.same s h1, RVs.same s h2⟩
end
theorem RVs.len {H : Hp} : ∀ {ws : List Wv} {xs : List V}, RVs H ws xs → xs.length = ws.length
  | [], xs, h => by
    have e : xs = [] := h
    rw [e]
    rfl
  | w :: ws, xs, h => by
    obtain ⟨x, ys, rfl, h1, h2⟩ := h
    rw [List.length_cons, List.length_cons, h2.len]
theorem RVs.item {H : Hp} : ∀ {ws : List Wv} {xs : List V} {i : Nat} {x : V}, RVs H ws xs → xs[i]? = some x → ∃ w, ws[i]? = some w ∧ RV H w x
  | [], xs, i, x, h, e => by
    have z : xs = [] := h
    rw [z] at e
    simp at e
  | w :: ws, xs, 0, x, h, e => by
    obtain ⟨y, ys, rfl, h1, h2⟩ := h
    have ey : y = x := Option.some.inj e
    exact ⟨w, rfl, ey ▸ h1⟩
  | w :: ws, xs, i + 1, x, h, e => by
    obtain ⟨y, ys, rfl, h1, h2⟩ := h
    exact RVs.item h2 (i := i) e
theorem RVs.back {H : Hp} : ∀ {ws : List Wv} {xs : List V} {i : Nat} {w : Wv}, RVs H ws xs → ws[i]? = some w → ∃ x, xs[i]? = some x ∧ RV H w x
  | [], xs, i, w, h, e => by simp at e
  | w' :: ws, xs, 0, w, h, e => by
    obtain ⟨y, ys, rfl, h1, h2⟩ := h
    have ey : w' = w := Option.some.inj e
    exact ⟨y, rfl, ey ▸ h1⟩
  | w' :: ws, xs, i + 1, w, h, e => by
    obtain ⟨y, ys, rfl, h1, h2⟩ := h
    exact RVs.back h2 (i := i) e
theorem RVs.snoc {H : Hp} {w : Wv} {x : V} : ∀ {ws : List Wv} {xs : List V}, RVs H ws xs → RV H w x → RVs H (ws ++ [w]) (xs ++ [x])
  | [], xs, h, k => by
    have e : xs = [] := h
    rw [e]
    exact ⟨x, [], rfl, k, rfl⟩
  | w' :: ws, xs, h, k => by
    obtain ⟨y, ys, rfl, h1, h2⟩ := h
    exact ⟨y, _, rfl, h1, RVs.snoc h2 k⟩
def Wv.isR : Wv → Bool
  | .row _ => true
  | _ => false
def Wv.isD : Wv → Bool
  | .rcd _ _ => true
  | _ => false
def kindS : Wv → String
  | .non => "none"
  | .int _ => "integer"
  | .row _ => "row"
  | .rcd _ _ => "record"
theorem RV.ty {K : PySem.W.Frag} {H : Hp} {w : Wv} {v : V} (h : RV H w v) : ∃ s : String, TyX K H v (.type s) ∧ kitB s "list" = some w.isR ∧ kitB s "dict" = some w.isD := by
  cases w with
  | non =>
    obtain rfl : v = .non := h
    exact ⟨"NoneType", .base .non, (by show kitB _ _ = some false; decide +kernel), (by show kitB _ _ = some false; decide +kernel)⟩
  | int i =>
    obtain rfl : v = .int i := h
    exact ⟨"int", .base (.int i), (by show kitB _ _ = some false; decide +kernel), (by show kitB _ _ = some false; decide +kernel)⟩
  | row ws =>
    obtain ⟨a, xs, rfl, ha, _⟩ := h
    exact ⟨"list", .base (.lst ha), (by show kitB _ _ = some true; decide +kernel), (by show kitB _ _ = some false; decide +kernel)⟩
  | rcd ns ws =>
    obtain ⟨a, xs, rfl, ha, _⟩ := h
    exact ⟨"dict", .base (.dK ha), (by show kitB _ _ = some false; decide +kernel), (by show kitB _ _ = some true; decide +kernel)⟩
/-! ### what stands in a record -/
def wFd : List Str → List Wv → Str → Option Wv
  | n :: ns, w :: ws, z => if n = z then some w else wFd ns ws z
  | _, _, _ => none
theorem kz_val {H : Hp} : ∀ {ns : List Str} {ws : List Wv} {xs : List V} {z : Str}, RVs H ws xs → (∀ w, wFd ns ws z = some w → ∃ x, valV (kz ns xs) (Sum.inr z) = some x ∧ RV H w x) ∧ (wFd ns ws z = none → ns.length = ws.length → valV (kz ns xs) (Sum.inr z) = none)
  | [], ws, xs, z, h => ⟨fun w e => (by unfold wFd at e; cases e), fun _ _ => rfl⟩
  | n :: ns, [], xs, z, h => ⟨fun w e => (by unfold wFd at e; cases e), fun _ e => nomatch e⟩
  | n :: ns, w :: ws, xs, z, h => by
    obtain ⟨x, ys, rfl, h1, h2⟩ := h
    have ih := kz_val (ns := ns) (z := z) h2
    have ek : kz (n :: ns) (x :: ys) = (Sum.inr n, x) :: kz ns ys := rfl
    by_cases e : n = z
    · refine ⟨fun w' e' => ?_, fun e' => ?_⟩
      · unfold wFd at e'
        rw [if_pos e] at e'
        cases e'
        exact ⟨x, by rw [ek]; exact valV_pos (p := (Sum.inr n, x)) (by rw [e]), h1⟩
      · unfold wFd at e'
        rw [if_pos e] at e'
        cases e'
    · have ne : ¬ (Sum.inr n : Key) = Sum.inr z := fun q => e (Sum.inr.inj q)
      refine ⟨fun w' e' => ?_, fun e' el => ?_⟩
      · unfold wFd at e'
        rw [if_neg e] at e'
        obtain ⟨y, q1, q2⟩ := ih.1 w' e'
        exact ⟨y, by rw [ek, valV_neg (p := (Sum.inr n, x)) ne]; exact q1, q2⟩
      · unfold wFd at e'
        rw [if_neg e] at e'
        rw [ek, valV_neg (p := (Sum.inr n, x)) ne]
        exact ih.2 e' (Nat.succ.inj el)
/-! ### places -/
inductive Pl where
  | value
  | res (n : Nat)
  | item (p : Pl) (i : Nat)
  | field (p : Pl) (z : Str)
def S (s : String) : D := .leaf (.str (Str.ofString s))
def plD : Pl → D
  | .value => .tup [S "value"]
  | .res n => .tup [S "result", .leaf (.int (n : Int))]
  | .item p i => .tup [S "item", plD p, .leaf (.int (i : Int))]
  | .field p z => .tup [S "field", plD p, .leaf (.str z)]
/-- a key within -/
inductive Ky where
  | ix (i : Nat)
  | fd (z : Str)
def Ky.v : Ky → V
  | .ix i => .int (i : Int)
  | .fd z => .str z
def wIn : Wv → Ky → Option Wv
  | .row ws, .ix i => ws[i]?
  | .rcd ns ws, .fd z => wFd ns ws z
  | _, _ => none
def wKs (w : Wv) : List Ky → Option Wv
  | [] => some w
  | k :: ks => (wIn w k).bind fun u => wKs u ks
/-- what leads to a place: the value or a result, and keys -/
def plB : Pl → Option Nat
  | .value => none
  | .res n => some n
  | .item p _ => plB p
  | .field p _ => plB p
def plK : Pl → List Ky
  | .value => []
  | .res _ => []
  | .item p i => plK p ++ [.ix i]
  | .field p z => plK p ++ [.fd z]
def bV : Option Nat → V
  | none => .str (Str.ofString "value")
  | some n => .int (n : Int)
def wB (w : Wv) (rs : List Wv) : Option Nat → Option Wv
  | none => some w
  | some n => rs[n]?
def wAt (w : Wv) (rs : List Wv) (p : Pl) : Option Wv := (wB w rs (plB p)).bind fun u => wKs u (plK p)
theorem wKs_snoc (k : Ky) : ∀ (ks : List Ky) (w : Wv), wKs w (ks ++ [k]) = (wKs w ks).bind fun u => wIn u k
  | [], w => by
    show ((wIn w k).bind fun u => some u) = wIn w k
    cases wIn w k <;> rfl
  | j :: ks, w => by
    show ((wIn w j).bind fun u => wKs u (ks ++ [k])) = ((wIn w j).bind fun u => wKs u ks).bind _
    cases wIn w j with
    | none => rfl
    | some u => exact wKs_snoc k ks u
theorem wAt_item {w : Wv} {rs : List Wv} {p : Pl} {i : Nat} : wAt w rs (.item p i) = (wAt w rs p).bind fun u => wIn u (.ix i) := by
  unfold wAt
  show ((wB w rs (plB p)).bind fun u => wKs u (plK p ++ [.ix i])) = _
  cases wB w rs (plB p) with
  | none => rfl
  | some u => exact wKs_snoc _ _ u
theorem wAt_field {w : Wv} {rs : List Wv} {p : Pl} {z : Str} : wAt w rs (.field p z) = (wAt w rs p).bind fun u => wIn u (.fd z) := by
  unfold wAt
  show ((wB w rs (plB p)).bind fun u => wKs u (plK p ++ [.fd z])) = _
  cases wB w rs (plB p) with
  | none => rfl
  | some u => exact wKs_snoc _ _ u
def plN : Pl → Nat
  | .value => 0
  | .res _ => 0
  | .item p _ => plN p + 1
  | .field p _ => plN p + 1
/-! ### looks and their answers -/
inductive Lk where
  | what (p : Pl)
  | none (p : Pl)
  | has (p : Pl) (k : Ky)
def lkP : Lk → Pl
  | .what p => p
  | .none p => p
  | .has p _ => p
def lkD : Lk → D
  | .what p => .tup [S "what", plD p]
  | .none p => .tup [S "none", plD p]
  | .has p k => .tup [S "has", plD p, .leaf k.v]
def Wv.isN : Wv → Bool
  | .non => true
  | _ => false
/-- may be asked: a row by an index, a record by a name -/
def okKy : Wv → Ky → Prop
  | .row _, .ix _ => True
  | .rcd _ _, .fd _ => True
  | _, _ => False
def ansW (w : Wv) : Lk → V
  | .what _ => .str (Str.ofString (kindS w))
  | .none _ => .bl w.isN
  | .has _ k => .bl (wIn w k).isSome
def okLk (w : Wv) : Lk → Prop
  | .has _ k => okKy w k
  | _ => True
/-! ### trees -/
inductive Tr where
  | fin (d : D)
  | look (l : Lk) (as : List V) (ts : List Tr)
def wayD (a : V) (t : D) : D := .tup [.leaf a, t]
mutual
def trD : Tr → D
  | .fin d => .tup [S "end", d]
  | .look l as ts => .tup [S "look", lkD l, .lst (List.zipWith wayD as (trDs ts))]
def trDs : List Tr → List D
  | [] => []
  | t :: ts => trD t :: trDs ts
end
theorem trDs_map : ∀ ts : List Tr, trDs ts = ts.map trD
  | [] => by rw [trDs]; rfl
  | t :: ts => by rw [trDs, trDs_map ts]; rfl
/-- a value leads through so many looks to what stands at the end -/
inductive Leads (w : Wv) (rs : List Wv) : Nat → Tr → D → Prop
  | done (n : Nat) (d : D) : Leads w rs n (.fin d) d
  | step {n : Nat} {l : Lk} {u : Wv} {as : List V} {ts : List Tr} {i : Nat} {t : Tr} {d : D} (h1 : wAt w rs (lkP l) = some u) (h2 : okLk u l) (hp : plN (lkP l) ≤ 20) (h3 : as[i]? = some (ansW u l)) (h4 : ∀ j, j < i → as[j]? ≠ some (ansW u l)) (h5 : ts[i]? = some t) (h6 : Leads w rs n t d) (hl : as.length = ts.length) (ha : ∀ a ∈ as, (∃ b, a = .bl b) ∧ (∃ b, ansW u l = .bl b) ∨ (∃ z, a = .str z) ∧ ∃ z, ansW u l = .str z) : Leads w rs (n + 1) (.look l as ts) d
mutual
def nEnds : Tr → Nat
  | .fin _ => 1
  | .look _ _ ts => nEndss ts
def nEndss : List Tr → Nat
  | [] => 0
  | t :: ts => nEnds t + nEndss ts
end
/-- so deep at most, of few ways -/
def TrOk : Nat → Tr → Prop
  | _, .fin _ => True
  | 0, .look _ _ _ => False
  | n + 1, .look _ as ts => as.length = ts.length ∧ ts.length ≤ 4 ∧ ∀ t ∈ ts, TrOk n t
end K02
set_option Elab.async false
set_option linter.all false
set_option maxRecDepth 100000
set_option maxHeartbeats 4000000
namespace K02
open PySem L2 PyProof.Rows
/-! ### paths and places, as the program keeps them -/
def kyK : Ky → Key
  | .ix i => .inl (i : Int)
  | .fd z => .inr z
theorem kyK_v (k : Ky) : kV (kyK k) = k.v := by cases k <;> rfl
theorem kyK_inj {a b : Ky} (h : kyK a = kyK b) : a = b := by
  cases a <;> cases b
  · have := Sum.inl.inj h
    rw [show _ = _ from Int.ofNat.inj this]
  · cases h
  · cases h
  · rw [Sum.inr.inj h]
instance : DecidableEq Ky := fun a b => match a, b with
  | .ix i, .ix j => if h : i = j then isTrue (congrArg Ky.ix h) else isFalse fun e => h (Ky.ix.inj e)
  | .fd y, .fd z => if h : y = z then isTrue (congrArg Ky.fd h) else isFalse fun e => h (Ky.fd.inj e)
  | .ix _, .fd _ => isFalse fun e => nomatch e
  | .fd _, .ix _ => isFalse fun e => nomatch e
structure Pth where
  b : Option Nat
  ks : List Ky
deriving DecidableEq
def bK : Option Nat → Key
  | none => .inr (Str.ofString "value")
  | some n => .inl (n : Int)
theorem bK_v (b : Option Nat) : kV (bK b) = bV b := by cases b <;> rfl
def pvs (p : Pth) : List V := bV p.b :: p.ks.map Ky.v
def pks (p : Pth) : List Key := bK p.b :: p.ks.map kyK
theorem pks_v (p : Pth) : (pks p).map kV = pvs p := by
  unfold pks pvs
  rw [List.map_cons, bK_v, List.map_map]
  congr 1
  exact List.map_congr_left fun k _ => kyK_v k
theorem pks_inj {p q : Pth} (h : pks p = pks q) : p = q := by
  obtain ⟨b, ks⟩ := p
  obtain ⟨c, js⟩ := q
  obtain ⟨h1, h2⟩ := List.cons.inj h
  have e1 : b = c := by
    cases b <;> cases c
    · rfl
    · cases h1
    · cases h1
    · have := Sum.inl.inj h1
      rw [show _ = _ from Int.ofNat.inj this]
  have e2 : ks = js := List.map_inj_right (fun _ _ => kyK_inj) |>.mp h2
  rw [e1, e2]
def Pth.push (p : Pth) (k : Ky) : Pth := ⟨p.b, p.ks ++ [k]⟩
theorem pvs_push (p : Pth) (k : Ky) : pvs (p.push k) = pvs p ++ [k.v] := by
  unfold pvs Pth.push
  rw [List.map_append]
  rfl
theorem pvs_len (p : Pth) : (pvs p).length = p.ks.length + 1 := by
  unfold pvs
  rw [List.length_cons, List.length_map]
def pV0 : Pth := ⟨none, []⟩
inductive Pc where
  | «at» (p : Pth)
  | items (p : Pth) (n : Nat)
  | others (p : Pth) (zs : List Str)
  | known (x : V)
  | step
def PthAt (K : PySem.W.Frag) (H : Hp) (b : Addr) (p : Pth) : Prop := SqT K H b (pvs p)
def PcAt (K : PySem.W.Frag) (H : Hp) (v : V) : Pc → Prop
  | .at p => ∃ a b, v = .ref a ∧ SqT K H a [.str (Str.ofString "at"), .ref b] ∧ PthAt K H b p
  | .items p n => ∃ a b, v = .ref a ∧ SqT K H a [.str (Str.ofString "items"), .ref b, .int (n : Int)] ∧ PthAt K H b p
  | .others p zs => ∃ a b c, v = .ref a ∧ SqT K H a [.str (Str.ofString "others"), .ref b, .ref c] ∧ PthAt K H b p ∧ SqT K H c (zs.map V.str)
  | .known x => ∃ a, v = .ref a ∧ SqT K H a [.str (Str.ofString "known"), x]
  | .step => ∃ a, v = .ref a ∧ SqT K H a [.str (Str.ofString "step")]
def pcW : Pc → String
  | .at _ => "at"
  | .items _ _ => "items"
  | .others _ _ => "others"
  | .known _ => "known"
  | .step => "step"
def pcB : Pc → Pth
  | .at p => p
  | .items p _ => p
  | .others p _ => p
  | _ => pV0
theorem PthAt.st {K : PySem.W.Frag} {H H1 : Hp} {b : Addr} {p : Pth} (h : PthAt K H b p) (s : TupSt H H1) : PthAt K H1 b p := SqT.st h s
theorem PcAt.st {K : PySem.W.Frag} {H H1 : Hp} {v : V} {p : Pc} (h : PcAt K H v p) (s : TupSt H H1) : PcAt K H1 v p := by
  cases p with
  | «at» p =>
    obtain ⟨a, b, e, h1, h2⟩ := h
    exact ⟨a, b, e, h1.st s, h2.st s⟩
  | items p n =>
    obtain ⟨a, b, e, h1, h2⟩ := h
    exact ⟨a, b, e, h1.st s, h2.st s⟩
  | others p zs =>
    obtain ⟨a, b, c, e, h1, h2, h3⟩ := h
    exact ⟨a, b, c, e, h1.st s, h2.st s, h3.st s⟩
  | known x =>
    obtain ⟨a, e, h1⟩ := h
    exact ⟨a, e, h1.st s⟩
  | step =>
    obtain ⟨a, e, h1⟩ := h
    exact ⟨a, e, h1.st s⟩
theorem PcAt.same {K : PySem.W.Frag} {H H1 : Hp} {v : V} {p : Pc} (h : PcAt K H v p) (s : Same H H1) : PcAt K H1 v p := h.st (TupSt.of s)
theorem PthAt.same {K : PySem.W.Frag} {H H1 : Hp} {b : Addr} {p : Pth} (h : PthAt K H b p) (s : Same H H1) : PthAt K H1 b p := h.st (TupSt.of s)
/-- the word of a place stands first -/
theorem PcAt.head {K : PySem.W.Frag} {H : Hp} {v : V} {p : Pc} (h : PcAt K H v p) : ∃ a xs, v = .ref a ∧ SqT K H a (.str (Str.ofString (pcW p)) :: xs) := by
  cases p with
  | «at» p =>
    obtain ⟨a, b, e, h1, h2⟩ := h
    exact ⟨a, _, e, h1⟩
  | items p n =>
    obtain ⟨a, b, e, h1, h2⟩ := h
    exact ⟨a, _, e, h1⟩
  | others p zs =>
    obtain ⟨a, b, c, e, h1, h2, h3⟩ := h
    exact ⟨a, _, e, h1⟩
  | known x =>
    obtain ⟨a, e, h1⟩ := h
    exact ⟨a, _, e, h1⟩
  | step =>
    obtain ⟨a, e, h1⟩ := h
    exact ⟨a, _, e, h1⟩
/-- a place with a path: the path stands second -/
def Pc.isB : Pc → Bool
  | .at _ => true
  | .items _ _ => true
  | .others _ _ => true
  | _ => false
theorem PcAt.base {K : PySem.W.Frag} {H : Hp} {v : V} {p : Pc} (h : PcAt K H v p) (hb : p.isB = true) : ∃ a b xs, v = .ref a ∧ SqT K H a (.str (Str.ofString (pcW p)) :: .ref b :: xs) ∧ PthAt K H b (pcB p) := by
  cases p with
  | «at» p =>
    obtain ⟨a, b, e, h1, h2⟩ := h
    exact ⟨a, b, _, e, h1, h2⟩
  | items p n =>
    obtain ⟨a, b, e, h1, h2⟩ := h
    exact ⟨a, b, _, e, h1, h2⟩
  | others p zs =>
    obtain ⟨a, b, c, e, h1, h2, h3⟩ := h
    exact ⟨a, b, _, e, h1, h2⟩
  | known x => cases hb
  | step => cases hb
/-- what a place leads to inwards -/
def kyIn : Pc → Ky → Ky
  | .items _ n, .ix i => .ix (n + i)
  | _, k => k
def pcIn (p : Pc) (k : Ky) : Pth := (pcB p).push (kyIn p k)
def okIn : Pc → Ky → Prop
  | .at _, _ => True
  | .items _ _, .ix _ => True
  | .others _ _, _ => True
  | _, _ => False
theorem okIn.isB {p : Pc} {k : Ky} (h : okIn p k) : p.isB = true := by
  cases p <;> first | rfl | exact h.elim
def spResP (K : PySem.W.Frag) : Sp := fun vs H Q _ => ∃ n : Nat, vs = [.int (n : Int)] ∧ ∀ u H', Same H H' → PcAt K H' u (.at ⟨some n, []⟩) → Q u H'
def spKnownP (K : PySem.W.Frag) : Sp := fun vs H Q _ => ∃ x : V, vs = [x] ∧ ∀ u H', Same H H' → PcAt K H' u (.known x) → Q u H'
def spInPath (K : PySem.W.Frag) : Sp := fun vs H Q _ => ∃ (v : V) (p : Pc) (k : Ky), vs = [v, k.v] ∧ PcAt K H v p ∧ okIn p k ∧ (pcB p).ks.length ≤ 100000 ∧ ∀ b H', Same H H' → PthAt K H' b (pcIn p k) → Q (.ref b) H'
def spInPlace (K : PySem.W.Frag) : Sp := fun vs H Q _ => ∃ (v : V) (p : Pc) (k : Ky), vs = [v, k.v] ∧ PcAt K H v p ∧ okIn p k ∧ (pcB p).ks.length ≤ 100000 ∧ ∀ u H', Same H H' → PcAt K H' u (.at (pcIn p k)) → Q u H'
/-- the rest of a row from an index on -/
def itemsFrom : Pc → Nat → Nat
  | .items _ m, n => m + n
  | _, n => n
def restRow (p : Pc) (n : Nat) : Pc := if itemsFrom p n = 0 then p else .items (pcB p) (itemsFrom p n)
def okRow : Pc → Prop
  | .at _ => True
  | .items _ _ => True
  | _ => False
def okRec : Pc → Prop
  | .at _ => True
  | .others _ _ => True
  | _ => False
def spItemsF (K : PySem.W.Frag) : Sp := fun vs H Q _ => ∃ (v : V) (p : Pc) (n : Nat), vs = [v, .int (n : Int)] ∧ PcAt K H v p ∧ okRow p ∧ ∀ u H', Same H H' → PcAt K H' u (.items (pcB p) (itemsFrom p n)) → Q u H'
def spRestRow (K : PySem.W.Frag) : Sp := fun vs H Q _ => ∃ (v : V) (p : Pc) (n : Nat), vs = [v, .int (n : Int)] ∧ PcAt K H v p ∧ okRow p ∧ ∀ u H', Same H H' → PcAt K H' u (restRow p n) → Q u H'
theorem so_ne {s t : String} (h : ¬ Str.ofString s = Str.ofString t) : decide (V.str (Str.ofString s) = V.str (Str.ofString t)) = false := decide_eq_false fun e => h (V.str.inj e)
section
variable {P : Program} {w : World} {K : PySem.W.Frag} {mg : Str → Option Value} {base : Heap}
theorem scRp : FnScope ["number"] ["number"] (defScope sResP) := ⟨rfl, rfl, rfl, by decide +kernel, rfl, by decide +kernel, by decide +kernel⟩
theorem ok_resp {f : Addr} {fd : FuncData} (F : Fun K "result_place" "result_place" sResP f fd) : FnOk P w K mg base CX0 1 f fd ["number"] (spResP K) := by
  refine F.ok scRp (fun vs H Q E h => ?_) (fun cdv A outer s H vs Q E hr h => ?_)
  · obtain ⟨n, rfl, _⟩ := h
    rfl
  obtain ⟨n, rfl, kk⟩ := h
  refine ⟨_, pss_one (ps_ret (pe_tup (pa_cons pe_str (pa_cons (pe_tup (pa_cons (pv 0) pa_nil)) pa_nil)))), ?_⟩
  refine ⟨_, rfl, by show 1 ≤ sizeLine; decide, fun b hb => ⟨by show 2 ≤ sizeLine; decide, fun a ha => ?_⟩⟩
  have s1 := same_new hb (.tup [V.int (n : Int)])
  have s2 := same_new ha (.tup [V.str (Str.ofString "at"), V.ref b])
  exact kk _ _ (s1.trans s2) ⟨a, b, rfl, SqT.of upd_same, SqT.of (s2 _ _ upd_same)⟩
theorem scKnp : FnScope ["number"] ["number"] (defScope sKnownP) := ⟨rfl, rfl, rfl, by decide +kernel, rfl, by decide +kernel, by decide +kernel⟩
theorem ok_knownp {f : Addr} {fd : FuncData} (F : Fun K "known_place" "known_place" sKnownP f fd) : FnOk P w K mg base CX0 1 f fd ["number"] (spKnownP K) := by
  refine F.ok scKnp (fun vs H Q E h => ?_) (fun cdv A outer s H vs Q E hr h => ?_)
  · obtain ⟨x, rfl, _⟩ := h
    rfl
  obtain ⟨x, rfl, kk⟩ := h
  refine ⟨_, pss_one (ps_ret (pe_tup (pa_cons pe_str (pa_cons (pv 0) pa_nil)))), ?_⟩
  refine ⟨_, rfl, by show 2 ≤ sizeLine; decide, fun a ha => ?_⟩
  exact kk _ _ (same_new ha _) ⟨a, rfl, SqT.of upd_same⟩
theorem scIp : FnScope ["place", "key"] ["place", "key"] (defScope sInPath) := ⟨rfl, rfl, rfl, by decide +kernel, rfl, by decide +kernel, by decide +kernel⟩
theorem ok_inpath {f : Addr} {fd : FuncData} (F : Fun K "inner_path" "inner_path" sInPath f fd) : FnOk P w K mg base CX0 1 f fd ["place", "key"] (spInPath K) := by
  refine F.ok scIp (fun vs H Q E h => ?_) (fun cdv A outer s H vs Q E hr h => ?_)
  · obtain ⟨v, p, k, rfl, _⟩ := h
    rfl
  obtain ⟨v, p, k, rfl, hp, hok, hl, kk⟩ := h
  refine ⟨_, pss_cons (ps_if (pt_cmpR op_eq (pe_ix ix_tup (pv 0) pe_int (fun _ _ => rfl)) pe_str (nomark _))
      (pss_one (ps_ret (pe_op op_catT (pe_ix ix_tup (pv 0) pe_int (fun _ _ => rfl)) (pe_tup (pa_cons (pe_op op_add (pe_ix ix_tup (pv 0) pe_int (fun _ _ => rfl)) (pv 1)) pa_nil))))) pss_nil)
    (pss_one (ps_ret (pe_op op_catT (pe_ix ix_tup (pv 0) pe_int (fun _ _ => rfl)) (pe_tup (pa_cons (pv 1) pa_nil))))), ?_⟩
  have fin : ∀ (b t : Addr) (k' : Ky) (H1 : Hp), Same H H1 → SqT K H1 b (pvs (pcB p)) → SqT K H1 t [k'.v] → kyIn p k = k' → rCatT K (.ref b) (.ref t) H1 Q := fun b t k' H1 hs1 hb ht ek => by
    refine ⟨b, t, _, _, rfl, rfl, hb, ht, (fun e => nomatch e), ?_, (fun e => nomatch e), fun _ q hq => ?_⟩
    · rw [pvs_len]
      exact Nat.le_trans (show (pcB p).ks.length + 1 + 1 ≤ 200000 by omega) (by decide)
    · have s2 := same_new hq (.tup (pvs (pcB p) ++ [k'.v]))
      refine kk q _ (hs1.trans s2) ?_
      show SqT K _ q _
      unfold pcIn
      rw [pvs_push, ek]
      exact SqT.of upd_same
  cases p with
  | «at» p =>
    obtain ⟨a, b, rfl, ha, hb⟩ := hp
    refine ⟨_, rfl, a, _, 0, _, rfl, rfl, ha, atI_nat (j := 0) rfl, rfl, _, rfl, ifF (so_ne (s := "at") (t := "items") (by decide)) ?_⟩
    refine ⟨_, rfl, a, _, 1, _, rfl, rfl, ha, atI_nat (j := 1) rfl, _, rfl, by show 1 ≤ sizeLine; decide, fun t ht => ?_⟩
    have s1 := same_new ht (.tup [k.v])
    exact fin b t k _ s1 (SqT.same hb s1) (SqT.of upd_same) (by cases k <;> rfl)
  | items p n =>
    cases k with
    | fd z => exact hok.elim
    | ix i =>
      obtain ⟨a, b, rfl, ha, hb⟩ := hp
      refine ⟨_, rfl, a, _, 0, _, rfl, rfl, ha, atI_nat (j := 0) rfl, rfl, _, rfl, ifT (decide_eq_true rfl) ?_⟩
      refine ⟨_, rfl, a, _, 1, _, rfl, rfl, ha, atI_nat (j := 1) rfl, _, rfl, a, _, 2, _, rfl, rfl, ha, atI_nat (j := 2) rfl, _, rfl, _, _, rfl, rfl, by show 1 ≤ sizeLine; decide, fun t ht => ?_⟩
      have s1 := same_new ht (.tup [V.int ((n : Int) + (i : Int))])
      exact fin b t (.ix (n + i)) _ s1 (SqT.same hb s1) (SqT.of (by rw [upd_same]; rfl)) rfl
  | others p zs =>
    obtain ⟨a, b, c, rfl, ha, hb, hc⟩ := hp
    refine ⟨_, rfl, a, _, 0, _, rfl, rfl, ha, atI_nat (j := 0) rfl, rfl, _, rfl, ifF (so_ne (s := "others") (t := "items") (by decide)) ?_⟩
    refine ⟨_, rfl, a, _, 1, _, rfl, rfl, ha, atI_nat (j := 1) rfl, _, rfl, by show 1 ≤ sizeLine; decide, fun t ht => ?_⟩
    have s1 := same_new ht (.tup [k.v])
    exact fin b t k _ s1 (SqT.same hb s1) (SqT.of upd_same) (by cases k <;> rfl)
  | known x => exact hok.elim
  | step => exact hok.elim
theorem scIq : FnScope ["place", "key"] ["place", "key"] (defScope sInPlace) := ⟨rfl, rfl, rfl, by decide +kernel, rfl, by decide +kernel, by decide +kernel⟩
theorem ok_inplace {f fP : Addr} {fd fdP : FuncData} (F : Fun K "inner_place" "inner_place" sInPlace f fd)
    (FP : Fun K "inner_path" "inner_path" sInPath fP fdP) (GP : FnOk P w K mg base CX0 1 fP fdP ["place", "key"] (spInPath K)) (bP : Binds K fdP ["place", "key"] []) (mP : mg "inner_path" = some (.ref fP)) : FnOk P w K mg base CX0 2 f fd ["place", "key"] (spInPlace K) := by
  refine F.ok scIq (fun vs H Q E h => ?_) (fun cdv A outer s H vs Q E hr h => ?_)
  · obtain ⟨v, p, k, rfl, _⟩ := h
    rfl
  obtain ⟨v, p, k, rfl, hp, hok, hl, kk⟩ := h
  refine ⟨_, pss_one (ps_ret (pe_tup (pa_cons pe_str (pa_cons (pe_call GP hr rfl mP FP.kp bP .nil pass0 (pa_cons (pv 0) (pa_cons (pv 1) pa_nil))) pa_nil)))), ?_⟩
  refine ⟨_, rfl, _, rfl, v, p, k, rfl, hp, hok, hl, fun b H1 hs1 hb => ⟨by show 2 ≤ sizeLine; decide, fun a ha => ?_⟩⟩
  have s2 := same_new ha (.tup [V.str (Str.ofString "at"), V.ref b])
  exact kk _ _ (hs1.trans s2) ⟨a, b, rfl, SqT.of upd_same, hb.same s2⟩
theorem scIf : FnScope ["place", "index", "start"] ["place", "index"] (defScope sItemsF) := ⟨rfl, rfl, rfl, by decide +kernel, rfl, by decide +kernel, by decide +kernel⟩
theorem ok_itemsf {f : Addr} {fd : FuncData} (F : Fun K "items_from" "items_from" sItemsF f fd) : FnOk P w K mg base CX0 1 f fd ["place", "index"] (spItemsF K) := by
  refine F.ok scIf (fun vs H Q E h => ?_) (fun cdv A outer s H vs Q E hr h => ?_)
  · obtain ⟨v, p, n, rfl, _⟩ := h
    rfl
  obtain ⟨v, p, n, rfl, hp, hok, kk⟩ := h
  refine ⟨_, pss_cons (ps_set (i := 2) scIf.nd rfl (Or.inl rfl) (pe_ifExp (pt_cmpR op_eq (pe_ix ix_tup (pv 0) pe_int (fun _ _ => rfl)) pe_str (nomark _)) (pe_op op_add (pe_ix ix_tup (pv 0) pe_int (fun _ _ => rfl)) (pv 1)) (pv 1)))
    (pss_one (ps_ret (pe_tup (pa_cons pe_str (pa_cons (pe_ix ix_tup (pv 0) pe_int (fun _ _ => rfl)) (pa_cons (pv 2) pa_nil)))))), ?_⟩
  cases p with
  | «at» p =>
    obtain ⟨a, b, rfl, ha, hb⟩ := hp
    refine ⟨_, rfl, a, _, 0, _, rfl, rfl, ha, atI_nat (j := 0) rfl, rfl, _, rfl, ifF (so_ne (s := "at") (t := "items") (by decide)) ⟨_, rfl, ?_⟩⟩
    refine ⟨_, rfl, a, _, 1, _, rfl, rfl, ha, atI_nat (j := 1) rfl, _, rfl, by show 3 ≤ sizeLine; decide, fun t ht => ?_⟩
    have s1 := same_new ht (.tup [.str (Str.ofString "items"), .ref b, .int (n : Int)])
    exact kk _ _ s1 ⟨t, b, rfl, SqT.of upd_same, hb.same s1⟩
  | items p m =>
    obtain ⟨a, b, rfl, ha, hb⟩ := hp
    refine ⟨_, rfl, a, _, 0, _, rfl, rfl, ha, atI_nat (j := 0) rfl, rfl, _, rfl, ifT (decide_eq_true rfl) ⟨_, rfl, a, _, 2, _, rfl, rfl, ha, atI_nat (j := 2) rfl, _, rfl, _, _, rfl, rfl, ?_⟩⟩
    refine ⟨_, rfl, a, _, 1, _, rfl, rfl, ha, atI_nat (j := 1) rfl, _, rfl, by show 3 ≤ sizeLine; decide, fun t ht => ?_⟩
    have s1 := same_new ht (.tup [.str (Str.ofString "items"), .ref b, .int ((m : Int) + (n : Int))])
    exact kk _ _ s1 ⟨t, b, rfl, SqT.of (by rw [upd_same]; rfl), hb.same s1⟩
  | others p zs => exact hok.elim
  | known x => exact hok.elim
  | step => exact hok.elim
theorem scRr : FnScope ["place", "index", "rest"] ["place", "index"] (defScope sRestRow) := ⟨rfl, rfl, rfl, by decide +kernel, rfl, by decide +kernel, by decide +kernel⟩
theorem ok_restrow {f fI : Addr} {fd fdI : FuncData} (F : Fun K "rest_of_row" "rest_of_row" sRestRow f fd)
    (FI : Fun K "items_from" "items_from" sItemsF fI fdI) (GI : FnOk P w K mg base CX0 1 fI fdI ["place", "index"] (spItemsF K)) (bI : Binds K fdI ["place", "index"] []) (mI : mg "items_from" = some (.ref fI)) : FnOk P w K mg base CX0 2 f fd ["place", "index"] (spRestRow K) := by
  refine F.ok scRr (fun vs H Q E h => ?_) (fun cdv A outer s H vs Q E hr h => ?_)
  · obtain ⟨v, p, n, rfl, _⟩ := h
    rfl
  obtain ⟨v, p, n, rfl, hp, hok, kk⟩ := h
  refine ⟨_, pss_cons (ps_set (i := 2) scRr.nd rfl (Or.inl rfl) (pe_call GI hr rfl mI FI.kp bI .nil pass0 (pa_cons (pv 0) (pa_cons (pv 1) pa_nil))))
    (pss_one (ps_ret (pe_ifExp (pt_cmpR op_gt (pe_ix ix_tup (pv 2) pe_int (fun _ _ => rfl)) pe_int (nomark _)) (pv 2) (pv 0)))), ?_⟩
  refine ⟨_, rfl, _, rfl, v, p, n, rfl, hp, hok, fun u H1 hs1 hu => ?_⟩
  obtain ⟨a, b, rfl, ha, hb⟩ := id hu
  refine ⟨_, rfl, a, _, 2, _, rfl, rfl, ha, atI_nat (j := 2) rfl, _, _, rfl, rfl, _, rfl, ?_⟩
  have e : restRow p n = if itemsFrom p n = 0 then p else .items (pcB p) (itemsFrom p n) := rfl
  by_cases c : itemsFrom p n = 0
  · refine ifF (decide_eq_false (by omega)) ⟨_, rfl, kk v H1 hs1 ?_⟩
    rw [e, if_pos c]
    exact hp.same hs1
  · refine ifT (decide_eq_true (by omega)) ⟨_, rfl, kk _ H1 hs1 ?_⟩
    rw [e, if_neg c]
    exact hu
end
end K02
set_option Elab.async false
set_option linter.all false
set_option maxRecDepth 100000
set_option maxHeartbeats 4000000
namespace K02
open PySem L2 PyProof.Rows
/-! ### what is known of values by the answers of looks -/
inductive Lq where
  | what (p : Pth)
  | none (p : Pth)
  | has (p : Pth) (k : Ky)
def lqP : Lq → Pth
  | .what p => p
  | .none p => p
  | .has p _ => p
def lqW : Lq → String
  | .what _ => "what"
  | .none _ => "none"
  | .has _ _ => "has"
def lqX : Lq → List V
  | .has _ k => [k.v]
  | _ => []
def LqAt (K : PySem.W.Frag) (H : Hp) (v : V) (l : Lq) : Prop := ∃ a b, v = .ref a ∧ SqT K H a (.str (Str.ofString (lqW l)) :: .ref b :: lqX l) ∧ PthAt K H b (lqP l)
theorem LqAt.st {K : PySem.W.Frag} {H H1 : Hp} {v : V} {l : Lq} (h : LqAt K H v l) (s : TupSt H H1) : LqAt K H1 v l := by
  obtain ⟨a, b, e, h1, h2⟩ := h
  exact ⟨a, b, e, h1.st s, h2.st s⟩
theorem LqAt.same {K : PySem.W.Frag} {H H1 : Hp} {v : V} {l : Lq} (h : LqAt K H v l) (s : Same H H1) : LqAt K H1 v l := h.st (TupSt.of s)
structure Fx where
  kinds : Pth → Option Str
  filled : Pth → Bool
  fields : Pth → Option Bool
  least : Pth → Option Nat
  most : Pth → Option Nat
def Fx.nil : Fx := ⟨fun _ => none, fun _ => false, fun _ => none, fun _ => none, fun _ => none⟩
def put1 {α : Type} (m : Pth → α) (p : Pth) (v : α) : Pth → α := fun q => if q = p then v else m q
def sNone : Str := Str.ofString "none"
def follows (f : Fx) : Lq → V
  | .what p => ((f.kinds p).map V.str).getD .non
  | .none p => match f.kinds p with
    | some s => .bl (decide (s = sNone))
    | none => if f.filled p = true then .bl false else .non
  | .has p (.fd z) => ((f.fields (p.push (.fd z))).map V.bl).getD .non
  | .has p (.ix i) => if i < (f.least p).getD 0 then .bl true else match f.most p with
    | some m => if m ≤ i then .bl false else .non
    | none => .non
def learn (f : Fx) : Lq → V → Fx
  | .what p, .str s => { f with kinds := put1 f.kinds p (some s) }
  | .none p, .bl true => { f with kinds := put1 f.kinds p (some sNone) }
  | .none p, .bl false => { f with filled := put1 f.filled p true }
  | .has p (.fd z), .bl b => { f with fields := put1 f.fields (p.push (.fd z)) (some b) }
  | .has p (.ix i), .bl true => { f with least := put1 f.least p (some (i + 1)) }
  | .has p (.ix i), .bl false => { f with most := put1 f.most p (some i) }
  | _, _ => f
def kindsT : List Str := ["integer", "none", "record", "row"].map Str.ofString
def answersOf (f : Fx) (l : Lq) : List V :=
  if follows f l ≠ .non then [follows f l] else match l with
    | .what p => (kindsT.filter fun k => decide (k ≠ sNone) || !(f.filled p)).map V.str
    | _ => [.bl true, .bl false]
/-- an answer of the kind that a look has -/
def okAn : Lq → V → Prop
  | .what _, v => ∃ s, v = .str s
  | _, v => ∃ b, v = .bl b
/-- a dict keyed by paths -/
def PDm (P : Program) (w : World) (K : PySem.W.Frag) (H : Hp) (a : Addr) (n : Nat) (m : Pth → Option V) : Prop := ∃ kvs, PD P w K H a kvs ∧ kvs.length ≤ n ∧ ∀ p, valV kvs (pks p) = m p
section
variable {P : Program} {w : World} {K : PySem.W.Frag} {H H1 : Hp} {a b : Addr} {n : Nat} {m : Pth → Option V}
theorem PDm.is (h : PDm P w K H a n m) : ∃ kvs, PD P w K H a kvs := let ⟨kvs, h, _⟩ := h; ⟨kvs, h⟩
theorem PDm.get (h : PDm P w K H a n m) {p : Pth} (hb : PthAt K H b p) : PaG P w K H a (.ref b) (m p) := by
  obtain ⟨kvs, h1, h2, h3⟩ := h
  exact ⟨kvs, pks p, b, h1, rfl, by rw [pks_v]; exact hb, (h3 p).symm⟩
theorem PDm.put (h : PDm P w K H a n m) (hn : n < 1000000) {p : Pth} (hb : PthAt K H b p) {v : V} {D : Hp → Prop} (k : ∀ φ, PDm P w K (upd H a (.ext φ)) a (n + 1) (put1 m p (some v)) → D (upd H a (.ext φ))) : PaP P w K H a (.ref b) v D := by
  obtain ⟨kvs, h1, h2, h3⟩ := h
  refine ⟨kvs, pks p, b, h1, rfl, by rw [pks_v]; exact hb, Nat.lt_of_le_of_lt (show kvs.length ≤ 1000000 by omega) (by decide), fun φ hp => k φ ⟨_, hp, Nat.le_trans (length_putK _ _ _) (by omega), fun q => ?_⟩⟩
  rw [valV_put]
  unfold put1
  by_cases e : q = p
  · rw [if_pos (by rw [e]), if_pos e]
  · rw [if_neg (fun z => e (pks_inj z)), if_neg e]
    exact h3 q
theorem PDm.st (h : PDm P w K H a n m) (s : TupSt H H1) (e : H1 a = H a) : PDm P w K H1 a n m := by
  obtain ⟨kvs, h1, h2, h3⟩ := h
  exact ⟨kvs, h1.st s e, h2, h3⟩
theorem PDm.same (h : PDm P w K H a n m) (s : Same H H1) : PDm P w K H1 a n m := by
  refine h.st (TupSt.of s) ?_
  obtain ⟨kvs, ⟨_, _, xs, _, ha⟩, _⟩ := h
  rw [ha]
  exact s _ _ ha
theorem PDm.mono {n' : Nat} (h : PDm P w K H a n m) (hn : n ≤ n') : PDm P w K H a n' m := by
  obtain ⟨kvs, h1, h2, h3⟩ := h
  exact ⟨kvs, h1, Nat.le_trans h2 hn, h3⟩
theorem PDm.to {m' : Pth → Option V} (h : PDm P w K H a n m) (e : m = m') : PDm P w K H a n m' := e ▸ h
theorem PDm.ext (h : PDm P w K H a n m) : ∃ φ, H a = some (.ext φ) := by
  obtain ⟨kvs, ⟨_, _, xs, _, ha⟩, _⟩ := h
  exact ⟨_, ha⟩
end
def fN : List Str := ["kinds", "filled", "fields", "least", "most"].map Str.ofString
def fM : List Str := ["follows", "answers", "learn", "_is_none", "_has", "_learn_has"].map Str.ofString
theorem fNam : FNam fN fM := ⟨by decide +kernel, by decide +kernel⟩
def fxM (f : Fx) : Nat → Pth → Option V
  | 0 => fun p => (f.kinds p).map V.str
  | 1 => fun p => if f.filled p = true then some (.bl true) else none
  | 2 => fun p => (f.fields p).map V.bl
  | 3 => fun p => (f.least p).map fun (n : Nat) => V.int (n : Int)
  | _ => fun p => (f.most p).map fun (n : Nat) => V.int (n : Int)
/-- the facts at o 0, their dicts at o 1 to o 5 -/
structure FxAt (P : Program) (w : World) (K : PySem.W.Frag) (C : Addr) (H : Hp) (o : Nat → Addr) (n : Nat) (f : Fx) : Prop where
  ins : ∃ dx fs, H (o 0) = some (.ins C dx fs) ∧ FsK fN fM 5 fs fun i => .ref (o (i + 1))
  ds : ∀ i, i < 5 → PDm P w K H (o (i + 1)) n (fxM f i)
  inj : ∀ i j, i < 6 → j < 6 → o i = o j → i = j
section
variable {P : Program} {w : World} {K : PySem.W.Frag} {C : Addr} {H H1 : Hp} {o : Nat → Addr} {n : Nat} {f : Fx}
theorem FxAt.same (h : FxAt P w K C H o n f) (s : Same H H1) : FxAt P w K C H1 o n f := by
  obtain ⟨dx, fs, h1, h2⟩ := h.ins
  exact ⟨⟨dx, fs, s _ _ h1, h2⟩, fun i hi => (h.ds i hi).same s, h.inj⟩
theorem FxAt.st (h : FxAt P w K C H o n f) (s : TupSt H H1) (e : ∀ i, i < 6 → H1 (o i) = H (o i)) : FxAt P w K C H1 o n f := by
  obtain ⟨dx, fs, h1, h2⟩ := h.ins
  exact ⟨⟨dx, fs, (e 0 (by decide)).trans h1, h2⟩, fun i hi => (h.ds i hi).st s (e (i + 1) (by omega)), h.inj⟩
theorem FxAt.mono {n' : Nat} (h : FxAt P w K C H o n f) (hn : n ≤ n') : FxAt P w K C H o n' f := ⟨h.ins, fun i hi => (h.ds i hi).mono hn, h.inj⟩
theorem fxM_learn (i j : Nat) (hi : i < 5) (hj : j < 5) (g : Fx) (p : Pth) (v : V) (h1 : fxM g j = put1 (fxM f j) p (some v)) (h2 : ∀ k, k < 5 → k ≠ j → fxM g k = fxM f k) (c : i = j → PDm P w K H1 (o (j + 1)) (n + 1) (put1 (fxM f j) p (some v))) (d : i ≠ j → PDm P w K H1 (o (i + 1)) n (fxM f i)) : PDm P w K H1 (o (i + 1)) (n + 1) (fxM g i) := by
  by_cases e : i = j
  · subst e
    rw [h1]
    exact c rfl
  · rw [h2 i hi e]
    exact (d e).mono (Nat.le_succ n)
/-- a dict of the facts is written -/
theorem FxAt.wr (h : FxAt P w K C H o n f) {j : Nat} (hj : j < 5) {g : Fx} {p : Pth} {v : V} {φ : Heap → Prop} (h1 : fxM g j = put1 (fxM f j) p (some v)) (h2 : ∀ k, k < 5 → k ≠ j → fxM g k = fxM f k)
    (hp : PDm P w K (upd H (o (j + 1)) (.ext φ)) (o (j + 1)) (n + 1) (put1 (fxM f j) p (some v))) : FxAt P w K C (upd H (o (j + 1)) (.ext φ)) o (n + 1) g := by
  obtain ⟨dx, fs, e1, e2⟩ := h.ins
  obtain ⟨ψ, he⟩ := (h.ds j hj).ext
  have ts : TupSt H (upd H (o (j + 1)) (.ext φ)) := TupSt.upd he (fun _ z => nomatch z) fun _ _ z => nomatch z
  refine ⟨⟨dx, fs, ?_, e2⟩, fun i hi => fxM_learn i j hi hj g p v h1 h2 (fun _ => hp) fun ne => ?_, h.inj⟩
  · rw [upd_ne fun z => absurd (h.inj 0 (j + 1) (by omega) (by omega) z) (by omega)]
    exact e1
  · exact (h.ds i hi).st ts (upd_ne fun z => ne (by have := h.inj (i + 1) (j + 1) (by omega) (by omega) z; omega))
end
abbrev sFInit : Stmt := inClass sFacts 0
abbrev sFollows : Stmt := inClass sFacts 1
abbrev sAnswers : Stmt := inClass sFacts 2
abbrev sLearn : Stmt := inClass sFacts 6
abbrev sIsNone : Stmt := inClass sFacts 7
abbrev sHas : Stmt := inClass sFacts 8
abbrev sLearnHas : Stmt := inClass sFacts 9
section
variable (P : Program) (w : World) (K : PySem.W.Frag) (C : Addr)
def spFInit : Sp := fun vs H Q _ => ∃ (x dx : Addr), vs = [.ref x] ∧ H x = some (.ins C dx []) ∧ H dx ≠ none ∧ ∀ (o : Nat → Addr) H', o 0 = x → (∀ i, 0 < i → i < 6 → H (o i) = none) → But x H H' → FxAt P w K C H' o 0 Fx.nil → Q .non H'
def spFollows : Sp := fun vs H Q _ => ∃ (o : Nat → Addr) (n : Nat) (f : Fx) (v : V) (l : Lq), vs = [.ref (o 0), v] ∧ FxAt P w K C H o n f ∧ LqAt K H v l ∧ (lqP l).ks.length ≤ 100000 ∧ ∀ H', Same H H' → Q (follows f l) H'
def spIsNone : Sp := fun vs H Q _ => ∃ (o : Nat → Addr) (n : Nat) (f : Fx) (b : Addr) (p : Pth), vs = [.ref (o 0), .ref b] ∧ FxAt P w K C H o n f ∧ PthAt K H b p ∧ ∀ H', Same H H' → Q (follows f (.none p)) H'
def spHas : Sp := fun vs H Q _ => ∃ (o : Nat → Addr) (n : Nat) (f : Fx) (b : Addr) (p : Pth) (k : Ky), vs = [.ref (o 0), .ref b, k.v] ∧ FxAt P w K C H o n f ∧ PthAt K H b p ∧ p.ks.length ≤ 100000 ∧ ∀ H', Same H H' → Q (follows f (.has p k)) H'
def spAnswers : Sp := fun vs H Q _ => ∃ (o : Nat → Addr) (n : Nat) (f : Fx) (v : V) (l : Lq), vs = [.ref (o 0), v] ∧ FxAt P w K C H o n f ∧ LqAt K H v l ∧ (lqP l).ks.length ≤ 100000 ∧ ∀ a H', Same H H' → H a = none → H' a = some (.lst (answersOf f l)) → Q (.ref a) H'
/-- all stands but the facts' own dicts -/
def FBut (o : Nat → Addr) (H H' : Hp) : Prop := ∀ b u, (∀ i, 0 < i → i < 6 → b ≠ o i) → H b = some u → H' b = some u
def spLearn : Sp := fun vs H Q _ => ∃ (o : Nat → Addr) (n : Nat) (f : Fx) (v : V) (l : Lq) (a : V), vs = [.ref (o 0), v, a] ∧ FxAt P w K C H o n f ∧ n < 1000000 ∧ LqAt K H v l ∧ (lqP l).ks.length ≤ 100000 ∧ okAn l a ∧ ∀ H', FBut o H H' → FxAt P w K C H' o (n + 1) (learn f l a) → Q .non H'
def spLearnHas : Sp := fun vs H Q _ => ∃ (o : Nat → Addr) (n : Nat) (f : Fx) (b : Addr) (p : Pth) (k : Ky) (r : Bool), vs = [.ref (o 0), .ref b, k.v, .bl r] ∧ FxAt P w K C H o n f ∧ n < 1000000 ∧ PthAt K H b p ∧ p.ks.length ≤ 100000 ∧ ∀ H', FBut o H H' → FxAt P w K C H' o (n + 1) (learn f (.has p k) (.bl r)) → Q .non H'
end
theorem FBut.same {o : Nat → Addr} {H H1 : Hp} (s : Same H H1) : FBut o H H1 := fun b u _ e => s b u e
theorem FBut.trans {o : Nat → Addr} {H H1 H2 : Hp} (a : FBut o H H1) (b : FBut o H1 H2) : FBut o H H2 := fun c u n e => b c u n (a c u n e)
theorem FBut.upd {o : Nat → Addr} {H : Hp} {j : Nat} (hj : j < 5) {u : HO} : FBut o H (L2.upd H (o (j + 1)) u) := fun b v n e => by
  rw [upd_ne (n (j + 1) (by omega) (by omega))]
  exact e
section
variable {P : Program} {w : World} {K : PySem.W.Frag} {mg : Str → Option Value} {base : Heap} {C : Addr}
theorem scFi : FnScope ["self", "look"] ["self", "look"] (defScope sFollows) := ⟨rfl, rfl, rfl, by decide +kernel, rfl, by decide +kernel, by decide +kernel⟩
theorem scFn : FnScope ["self", "path"] ["self", "path"] (defScope sIsNone) := ⟨rfl, rfl, rfl, by decide +kernel, rfl, by decide +kernel, by decide +kernel⟩
theorem ok_isnone {g : Addr} {gd : FuncData} (F : Fun K "_is_none" "Facts._is_none" sIsNone g gd) (CC : FCls K C fN) : FnOk P w K mg base CX0 1 g gd ["self", "path"] (spIsNone P w K C) := by
  refine F.ok scFn (fun vs H Q E h => ?_) (fun cdv A outer s H vs Q E hr h => ?_)
  · obtain ⟨o, n, f, b, p, rfl, _⟩ := h
    rfl
  obtain ⟨o, n, f, b, p, rfl, hf, hb, kk⟩ := h
  refine ⟨_, pss_cons (ps_if (pt_cmp (pc_pin (hu_of hr) (pv 1) (pe_fld (pv 0) rfl)) rfl) (pss_one (ps_ret (pe_cmpR op_eq (pe_pget (hu_of hr) (pe_fld (pv 0) rfl) (pv 1) (fun _ _ => rfl)) pe_str (nomark _)))) pss_nil)
    (pss_one (ps_ret (pe_ifExp (pt_cmp (pc_pin (hu_of hr) (pv 1) (pe_fld (pv 0) rfl)) rfl) pe_bl pe_non))), ?_⟩
  obtain ⟨dx, fs, hi, hF⟩ := hf.ins
  have g0 := (hf.ds 0 (by decide)).get hb
  have g1 := (hf.ds 1 (by decide)).get hb
  refine ⟨_, rfl, _, rfl, _, C, dx, fs, _, rfl, hi, CC.cl, CC.at_ (i := 0) rfl, hF.look (i := 0) rfl (by decide), _, _, rfl, g0, _, rfl, ?_⟩
  have ef : follows f (.none p) = match f.kinds p with
    | some s => .bl (decide (s = sNone))
    | none => if f.filled p = true then .bl false else .non := rfl
  cases e : f.kinds p with
  | some z =>
    have e0 : fxM f 0 p = some (.str z) := by
      show (f.kinds p).map V.str = _
      rw [e]
      rfl
    rw [e0] at g0
    refine ifT (by rw [e0]; rfl) ⟨_, rfl, _, C, dx, fs, _, rfl, hi, CC.cl, CC.at_ (i := 0) rfl, hF.look (i := 0) rfl (by decide), _, rfl, _, _, rfl, g0, rfl, ?_⟩
    have := kk H (Same.refl H)
    rw [ef, e] at this
    have e3 : (decide (V.str z = V.str (Str.ofString "none"))) = decide (z = sNone) := decide_eq_decide.mpr ⟨fun h => V.str.inj h, fun h => by rw [h]; rfl⟩
    show Q (.bl (decide (V.str z = V.str (Str.ofString "none")))) H
    rw [e3]
    exact this
  | none =>
    have e0 : fxM f 0 p = none := by
      show (f.kinds p).map V.str = _
      rw [e]
      rfl
    refine ifF (by rw [e0]; rfl) ⟨_, rfl, _, rfl, _, C, dx, fs, _, rfl, hi, CC.cl, CC.at_ (i := 1) rfl, hF.look (i := 1) rfl (by decide), _, _, rfl, g1, _, rfl, ?_⟩
    have := kk H (Same.refl H)
    rw [ef, e] at this
    cases e1 : f.filled p with
    | true =>
      rw [e1] at this
      exact ifT (by show (if f.filled p = true then some (V.bl true) else none).isSome = true; rw [e1]; rfl) this
    | false =>
      rw [e1] at this
      exact ifF (by show (if f.filled p = true then some (V.bl true) else none).isSome = false; rw [e1]; rfl) this
theorem scFh : FnScope ["self", "path", "key"] ["self", "path", "key"] (defScope sHas) := ⟨rfl, rfl, rfl, by decide +kernel, rfl, by decide +kernel, by decide +kernel⟩
theorem ok_has {g : Addr} {gd : FuncData} (F : Fun K "_has" "Facts._has" sHas g gd) (T : Txt K mg) (zS : mg "str" = none) (CC : FCls K C fN) : FnOk P w K mg base CX0 1 g gd ["self", "path", "key"] (spHas P w K C) := by
  refine F.ok scFh (fun vs H Q E h => ?_) (fun cdv A outer s H vs Q E hr h => ?_)
  · obtain ⟨o, n, f, b, p, k, rfl, _⟩ := h
    rfl
  obtain ⟨o, n, f, b, p, k, rfl, hf, hb, hl, kk⟩ := h
  refine ⟨_, pss_cons (ps_if (pt_val (pe_callB call_isi (by rfl) T.isi boot_isinstance (pa_cons (pv 2) (pa_cons (pe_bltn (v := .ty "str") (by rfl) zS boot_str rfl) pa_nil))))
      (pss_one (ps_ret (pe_pget1 (hu_of hr) (pe_fld (pv 0) rfl) (pe_op op_catT (pv 1) (pe_tup (pa_cons (pv 2) pa_nil))) ⟨rfl, rfl, rfl, rfl⟩))) pss_nil)
    (pss_cons (ps_if (pt_cmpR op_lt (pv 2) (pe_pget2 (hu_of hr) (pe_fld (pv 0) rfl) (pv 1) pe_int ⟨rfl, rfl, rfl, rfl⟩) (nomark _)) (pss_one (ps_ret pe_bl)) pss_nil)
    (pss_one (ps_ret (pe_ifExp (PW.pt (pw_and (pt_cmp (pc_pin (hu_of hr) (pv 1) (pe_fld (pv 0) rfl)) rfl) (pw_and1 (pt_cmpR op_ge (pv 2) (pe_pget (hu_of hr) (pe_fld (pv 0) rfl) (pv 1) (fun _ _ => rfl)) (nomark _))))) pe_bl pe_non)))), ?_⟩
  obtain ⟨dx, fs, hi, hF⟩ := hf.ins
  cases k with
  | fd z =>
    refine ⟨_, rfl, _, _, _, _, _, rfl, .ty _, .base (.str _), kit_ty (a := "str") (b := "str") (r := true) (by decide +kernel), _, rfl, iteT ?_⟩
    refine ⟨_, rfl, _, C, dx, fs, _, rfl, hi, CC.cl, CC.at_ (i := 2) rfl, hF.look (i := 2) rfl (by decide), _, rfl, (hf.ds 2 (by decide)).is, _, rfl, _, rfl, by show 1 ≤ sizeLine; decide, fun t ht => ?_⟩
    have s1 := same_new ht (.tup [V.str z])
    refine ⟨b, t, _, _, rfl, rfl, SqT.same hb s1, SqT.of upd_same, (fun e => nomatch e), ?_, (fun e => nomatch e), fun _ q hq => ?_⟩
    · rw [pvs_len]
      exact Nat.le_trans (show p.ks.length + 1 + 1 ≤ 200000 by omega) (by decide)
    have s2 := same_new hq (.tup (pvs p ++ [V.str z]))
    have hq2 : PthAt K (upd (upd H t (.tup [V.str z])) q (.tup (pvs p ++ [V.str z]))) q (p.push (.fd z)) := by
      unfold PthAt
      rw [pvs_push]
      exact SqT.of upd_same
    have g2 := ((hf.ds 2 (by decide)).same (s1.trans s2)).get hq2
    exact ⟨_, g2, kk _ (s1.trans s2)⟩
  | ix i =>
    refine ⟨_, rfl, _, _, _, _, _, rfl, .ty _, .base (.int _), kit_ty (a := "int") (b := "str") (r := false) (by decide +kernel), _, rfl, iteF ?_⟩
    have g3 := (hf.ds 3 (by decide)).get hb
    have g4 := (hf.ds 4 (by decide)).get hb
    refine ⟨_, rfl, _, rfl, _, C, dx, fs, _, rfl, hi, CC.cl, CC.at_ (i := 3) rfl, hF.look (i := 3) rfl (by decide), _, rfl, (hf.ds 3 (by decide)).is, _, rfl, _, g3, ?_⟩
    have kk' := kk H (Same.refl H)
    have ef : follows f (.has p (.ix i)) = if i < (f.least p).getD 0 then .bl true else match f.most p with
      | some m => if m ≤ i then .bl false else .non
      | none => .non := rfl
    rw [ef] at kk'
    have el : ((fxM f 3 p).getD (V.int 0)) = V.int (((f.least p).getD 0 : Nat) : Int) := by
      show (((f.least p).map fun (n : Nat) => V.int (n : Int)).getD (V.int 0)) = _
      cases f.least p <;> rfl
    rw [el]
    refine ⟨_, _, rfl, rfl, _, rfl, ?_⟩
    by_cases c : i < (f.least p).getD 0
    · rw [if_pos c] at kk'
      exact ifT (decide_eq_true (by omega)) kk'
    · rw [if_neg c] at kk'
      refine ifF (decide_eq_false (by omega)) ⟨_, rfl, _, rfl, _, C, dx, fs, _, rfl, hi, CC.cl, CC.at_ (i := 4) rfl, hF.look (i := 4) rfl (by decide), _, _, rfl, g4, _, rfl, ?_⟩
      cases e : f.most p with
      | none =>
        rw [e] at kk'
        refine ifF (by show ((f.most p).map fun (n : Nat) => V.int (n : Int)).isSome = false; rw [e]; rfl) (iteF kk')
      | some m =>
        rw [e] at kk'
        have e4 : fxM f 4 p = some (.int (m : Int)) := by
          show (f.most p).map (fun (n : Nat) => V.int (n : Int)) = _
          rw [e]
          rfl
        rw [e4] at g4
        refine ifT (by rw [e4]; rfl) ⟨_, rfl, _, rfl, _, C, dx, fs, _, rfl, hi, CC.cl, CC.at_ (i := 4) rfl, hF.look (i := 4) rfl (by decide), _, rfl, _, _, rfl, g4, _, _, rfl, rfl, _, rfl, ?_⟩
        have kk2 : Q (if m ≤ i then V.bl false else V.non) H := kk'
        by_cases d : m ≤ i
        · rw [if_pos d] at kk2
          exact ifT (decide_eq_true (by omega)) kk2
        · rw [if_neg d] at kk2
          exact ifF (decide_eq_false (by omega)) kk2
theorem ok_follows {g gN gH : Addr} {gd gdN gdH : FuncData} (F : Fun K "follows" "Facts.follows" sFollows g gd) (CC : FCls K C fN)
    (FN : Fun K "_is_none" "Facts._is_none" sIsNone gN gdN) (GN : FnOk P w K mg base CX0 1 gN gdN ["self", "path"] (spIsNone P w K C)) (bN : Binds K gdN ["self", "path"] []) (mN : Meth K C "_is_none" gN)
    (FH : Fun K "_has" "Facts._has" sHas gH gdH) (GH : FnOk P w K mg base CX0 1 gH gdH ["self", "path", "key"] (spHas P w K C)) (bH : Binds K gdH ["self", "path", "key"] []) (mH : Meth K C "_has" gH) :
    FnOk P w K mg base CX0 2 g gd ["self", "look"] (spFollows P w K C) := by
  refine F.ok scFi (fun vs H Q E h => ?_) (fun cdv A outer s H vs Q E hr h => ?_)
  · obtain ⟨o, n, f, v, l, rfl, _⟩ := h
    rfl
  obtain ⟨o, n, f, v, l, rfl, hf, hv, hl, kk⟩ := h
  refine ⟨_, pss_cons (ps_if (pt_cmpR op_eq (pe_ix ix_tup (pv 1) pe_int (fun _ _ => rfl)) pe_str (nomark _)) (pss_one (ps_ret (pe_pget1 (hu_of hr) (pe_fld (pv 0) rfl) (pe_ix ix_tup (pv 1) pe_int (fun _ _ => rfl)) ⟨rfl, rfl, rfl, rfl⟩))) pss_nil)
    (pss_cons (ps_if (pt_cmpR op_eq (pe_ix ix_tup (pv 1) pe_int (fun _ _ => rfl)) pe_str (nomark _)) (pss_one (ps_ret (pe_meth (pv 0) CC.cl mN GN hr bN .nil pass0 (pa_cons (pe_ix ix_tup (pv 1) pe_int (fun _ _ => rfl)) pa_nil)))) pss_nil)
    (pss_one (ps_ret (pe_meth (pv 0) CC.cl mH GH hr bH .nil pass0 (pa_cons (pe_ix ix_tup (pv 1) pe_int (fun _ _ => rfl)) (pa_cons (pe_ix ix_tup (pv 1) pe_int (fun _ _ => rfl)) pa_nil)))))), ?_⟩
  obtain ⟨a, b, rfl, ha, hb⟩ := hv
  obtain ⟨dx, fs, hi, hF⟩ := hf.ins
  refine ⟨_, rfl, a, _, 0, _, rfl, rfl, ha, atI_nat (j := 0) rfl, rfl, _, rfl, ?_⟩
  cases l with
  | what p =>
    refine ifT (decide_eq_true rfl) ⟨_, rfl, _, C, dx, fs, _, rfl, hi, CC.cl, CC.at_ (i := 0) rfl, hF.look (i := 0) rfl (by decide), _, rfl, (hf.ds 0 (by decide)).is, _, rfl, a, _, 1, _, rfl, rfl, ha, atI_nat (j := 1) rfl, _, (hf.ds 0 (by decide)).get hb, kk H (Same.refl H)⟩
  | none p =>
    refine ifF (so_ne (s := "none") (t := "what") (by decide)) ⟨_, rfl, a, _, 0, _, rfl, rfl, ha, atI_nat (j := 0) rfl, rfl, _, rfl, ifT (decide_eq_true rfl) ?_⟩
    exact ⟨_, rfl, _, dx, fs, rfl, hi, hF.non _ (by decide +kernel), _, rfl, a, _, 1, _, rfl, rfl, ha, atI_nat (j := 1) rfl, o, n, f, b, p, rfl, hf, hb, kk⟩
  | has p k =>
    refine ifF (so_ne (s := "has") (t := "what") (by decide)) ⟨_, rfl, a, _, 0, _, rfl, rfl, ha, atI_nat (j := 0) rfl, rfl, _, rfl, ifF (so_ne (s := "has") (t := "none") (by decide)) ?_⟩
    exact ⟨_, rfl, _, dx, fs, rfl, hi, hF.non _ (by decide +kernel), _, rfl, a, _, 1, _, rfl, rfl, ha, atI_nat (j := 1) rfl, _, rfl, a, _, 2, _, rfl, rfl, ha, atI_nat (j := 2) rfl, o, n, f, b, p, k, rfl, hf, hb, hl, kk⟩
end
end K02
set_option Elab.async false
set_option linter.all false
set_option maxRecDepth 100000
set_option maxHeartbeats 4000000
namespace K02
open PySem L2 PyProof.Rows
theorem map_put1 {α : Type} (m : Pth → Option α) (p : Pth) (x : α) (g : α → V) : (fun q => (put1 m p (some x) q).map g) = put1 (fun q => (m q).map g) p (some (g x)) := by
  funext q
  unfold put1
  split <;> rfl
theorem fill_put1 (m : Pth → Bool) (p : Pth) : (fun q => if put1 m p true q = true then some (V.bl true) else none) = put1 (fun q => if m q = true then some (V.bl true) else none) p (some (V.bl true)) := by
  funext q
  unfold put1
  by_cases e : q = p
  · rw [if_pos e, if_pos e, if_pos rfl]
  · rw [if_neg e, if_neg e]
theorem five {p : Nat → Prop} (h0 : p 0) (h1 : p 1) (h2 : p 2) (h3 : p 3) (h4 : p 4) : ∀ k, k < 5 → p k := fun k hk => by
  rcases (by omega : k = 0 ∨ k = 1 ∨ k = 2 ∨ k = 3 ∨ k = 4) with rfl | rfl | rfl | rfl | rfl <;> assumption
theorem fx5 {g f : Fx} (j : Nat) (h0 : 0 ≠ j → fxM g 0 = fxM f 0) (h1 : 1 ≠ j → fxM g 1 = fxM f 1) (h2 : 2 ≠ j → fxM g 2 = fxM f 2) (h3 : 3 ≠ j → fxM g 3 = fxM f 3) (h4 : 4 ≠ j → fxM g 4 = fxM f 4) : ∀ k, k < 5 → k ≠ j → fxM g k = fxM f k := five (p := fun k => k ≠ j → fxM g k = fxM f k) h0 h1 h2 h3 h4
section
variable {P : Program} {w : World} {K : PySem.W.Frag} {mg : Str → Option Value} {base : Heap} {C : Addr}
theorem scFl : FnScope ["self", "path", "key", "answer"] ["self", "path", "key", "answer"] (defScope sLearnHas) := ⟨rfl, rfl, rfl, by decide +kernel, rfl, by decide +kernel, by decide +kernel⟩
theorem ok_learnhas {g : Addr} {gd : FuncData} (F : Fun K "_learn_has" "Facts._learn_has" sLearnHas g gd) (T : Txt K mg) (zS : mg "str" = none) (CC : FCls K C fN) : FnOk P w K mg base CX0 1 g gd ["self", "path", "key", "answer"] (spLearnHas P w K C) := by
  refine F.ok scFl (fun vs H Q E h => ?_) (fun cdv A outer s H vs Q E hr h => ?_)
  · obtain ⟨o, n, f, b, p, k, r, rfl, _⟩ := h
    rfl
  obtain ⟨o, n, f, b, p, k, r, rfl, hf, hn, hb, hl, kk⟩ := h
  refine ⟨_, pss_one (ps_if (pt_val (pe_callB call_isi (by rfl) T.isi boot_isinstance (pa_cons (pv 2) (pa_cons (pe_bltn (v := .ty "str") (by rfl) zS boot_str rfl) pa_nil))))
      (pss_one (ps_pput (hu_of hr) (pe_fld (pv 0) rfl) (pe_op op_catT (pv 1) (pe_tup (pa_cons (pv 2) pa_nil))) (pv 3) rfl))
      (pss_one (ps_if (pt_val (pv 3)) (pss_one (ps_pput (hu_of hr) (pe_fld (pv 0) rfl) (pv 1) (pe_op op_add (pv 2) pe_int) rfl))
        (pss_one (ps_pput (hu_of hr) (pe_fld (pv 0) rfl) (pv 1) (pv 2) rfl))))), ?_⟩
  obtain ⟨dx, fs, hi, hF⟩ := hf.ins
  cases k with
  | fd z =>
    refine ⟨_, rfl, _, _, _, _, _, rfl, .ty _, .base (.str _), kit_ty (a := "str") (b := "str") (r := true) (by decide +kernel), _, rfl, iteT ?_⟩
    refine ⟨_, rfl, _, rfl, _, C, dx, fs, _, rfl, hi, CC.cl, CC.at_ (i := 2) rfl, hF.look (i := 2) rfl (by decide), _, rfl, _, rfl, by show 1 ≤ sizeLine; decide, fun t ht => ?_⟩
    have s1 := same_new ht (.tup [V.str z])
    refine ⟨b, t, _, _, rfl, rfl, SqT.same hb s1, SqT.of upd_same, (fun e => nomatch e), ?_, (fun e => nomatch e), fun _ q hq => ?_⟩
    · rw [pvs_len]
      exact Nat.le_trans (show p.ks.length + 1 + 1 ≤ 200000 by omega) (by decide)
    have s2 := same_new hq (.tup (pvs p ++ [V.str z]))
    have hq2 : PthAt K (upd (upd H t (.tup [V.str z])) q (.tup (pvs p ++ [V.str z]))) q (p.push (.fd z)) := by
      unfold PthAt
      rw [pvs_push]
      exact SqT.of upd_same
    have hf2 := hf.same (s1.trans s2)
    refine ⟨_, rfl, (hf2.ds 2 (by decide)).put hn hq2 fun φ hp => ?_⟩
    refine kk _ ((FBut.same (s1.trans s2)).trans (FBut.upd (j := 2) (by decide))) (hf2.wr (j := 2) (by decide) (g := learn f (.has p (.fd z)) (.bl r)) (p := p.push (.fd z)) (v := .bl r) (map_put1 _ _ _ _) (fun k hk ne => ?_) hp)
    exact fx5 2 (fun _ => by rfl) (fun _ => by rfl) (fun ne => absurd rfl ne) (fun _ => by rfl) (fun _ => by rfl) k hk ne
  | ix i =>
    refine ⟨_, rfl, _, _, _, _, _, rfl, .ty _, .base (.int _), kit_ty (a := "int") (b := "str") (r := false) (by decide +kernel), _, rfl, iteF ⟨_, rfl, r, rfl, ?_⟩⟩
    cases r with
    | true =>
      refine iteT ⟨_, rfl, _, _, rfl, rfl, _, rfl, _, C, dx, fs, _, rfl, hi, CC.cl, CC.at_ (i := 3) rfl, hF.look (i := 3) rfl (by decide), _, rfl, _, rfl, (hf.ds 3 (by decide)).put hn hb fun φ hp => ?_⟩
      refine kk _ (FBut.upd (j := 3) (by decide)) (hf.wr (j := 3) (by decide) (g := learn f (.has p (.ix i)) (.bl true)) (p := p) (v := .int ((i : Int) + 1)) (map_put1 f.least p (i + 1) _) (fun k hk ne => ?_) hp)
      exact fx5 3 (fun _ => by rfl) (fun _ => by rfl) (fun _ => by rfl) (fun ne => absurd rfl ne) (fun _ => by rfl) k hk ne
    | false =>
      refine iteF ⟨_, rfl, _, rfl, _, C, dx, fs, _, rfl, hi, CC.cl, CC.at_ (i := 4) rfl, hF.look (i := 4) rfl (by decide), _, rfl, _, rfl, (hf.ds 4 (by decide)).put hn hb fun φ hp => ?_⟩
      refine kk _ (FBut.upd (j := 4) (by decide)) (hf.wr (j := 4) (by decide) (g := learn f (.has p (.ix i)) (.bl false)) (p := p) (v := .int (i : Int)) (map_put1 f.most p i _) (fun k hk ne => ?_) hp)
      exact fx5 4 (fun _ => by rfl) (fun _ => by rfl) (fun _ => by rfl) (fun _ => by rfl) (fun ne => absurd rfl ne) k hk ne
theorem scFe : FnScope ["self", "look", "answer", "path"] ["self", "look", "answer"] (defScope sLearn) := ⟨rfl, rfl, rfl, by decide +kernel, rfl, by decide +kernel, by decide +kernel⟩
theorem ok_learn {g gH : Addr} {gd gdH : FuncData} (F : Fun K "learn" "Facts.learn" sLearn g gd) (CC : FCls K C fN)
    (FH : Fun K "_learn_has" "Facts._learn_has" sLearnHas gH gdH) (GH : FnOk P w K mg base CX0 1 gH gdH ["self", "path", "key", "answer"] (spLearnHas P w K C)) (bH : Binds K gdH ["self", "path", "key", "answer"] []) (mH : Meth K C "_learn_has" gH) :
    FnOk P w K mg base CX0 2 g gd ["self", "look", "answer"] (spLearn P w K C) := by
  refine F.ok scFe (fun vs H Q E h => ?_) (fun cdv A outer s H vs Q E hr h => ?_)
  · obtain ⟨o, n, f, v, l, a, rfl, _⟩ := h
    rfl
  obtain ⟨o, n, f, v, l, r, rfl, hf, hn, hv, hl, ha0, kk⟩ := h
  refine ⟨_, pss_cons (ps_set (i := 3) scFe.nd rfl (Or.inl rfl) (pe_ix ix_tup (pv 1) pe_int (fun _ _ => rfl)))
    (pss_one (ps_if (pt_cmpR op_eq (pe_ix ix_tup (pv 1) pe_int (fun _ _ => rfl)) pe_str (nomark _)) (pss_one (ps_pput (hu_of hr) (pe_fld (pv 0) rfl) (pv 3) (pv 2) rfl))
      (pss_one (ps_if (pt_cmpR op_eq (pe_ix ix_tup (pv 1) pe_int (fun _ _ => rfl)) pe_str (nomark _)) (pss_one (ps_expr (pe_meth (pv 0) CC.cl mH GH hr bH .nil pass0 (pa_cons (pv 3) (pa_cons (pe_ix ix_tup (pv 1) pe_int (fun _ _ => rfl)) (pa_cons (pv 2) pa_nil))))))
        (pss_one (ps_if (pt_val (pv 2)) (pss_one (ps_pput (hu_of hr) (pe_fld (pv 0) rfl) (pv 3) pe_str rfl)) (pss_one (ps_pput (hu_of hr) (pe_fld (pv 0) rfl) (pv 3) pe_bl rfl)))))))), ?_⟩
  obtain ⟨dx, fs, hi, hF⟩ := hf.ins
  obtain ⟨a, b, rfl, ha, hb⟩ := hv
  refine ⟨_, rfl, a, _, 1, _, rfl, rfl, ha, atI_nat (j := 1) rfl, _, rfl, a, _, 0, _, rfl, rfl, ha, atI_nat (j := 0) rfl, rfl, _, rfl, ?_⟩
  cases l with
  | what p =>
    obtain ⟨z, rfl⟩ := ha0
    refine ifT (decide_eq_true rfl) ⟨_, rfl, _, rfl, _, C, dx, fs, _, rfl, hi, CC.cl, CC.at_ (i := 0) rfl, hF.look (i := 0) rfl (by decide), _, rfl, _, rfl, (hf.ds 0 (by decide)).put hn hb fun φ hp => ?_⟩
    refine kk _ (FBut.upd (j := 0) (by decide)) (hf.wr (j := 0) (by decide) (g := learn f (.what p) (.str z)) (p := p) (v := .str z) (map_put1 f.kinds p z _) (fun k hk ne => ?_) hp)
    exact fx5 0 (fun ne => absurd rfl ne) (fun _ => by rfl) (fun _ => by rfl) (fun _ => by rfl) (fun _ => by rfl) k hk ne
  | has p k =>
    obtain ⟨x, rfl⟩ := ha0
    refine ifF (so_ne (s := "has") (t := "what") (by decide)) ⟨_, rfl, a, _, 0, _, rfl, rfl, ha, atI_nat (j := 0) rfl, rfl, _, rfl, ifT (decide_eq_true rfl) ?_⟩
    exact ⟨_, rfl, _, dx, fs, rfl, hi, hF.non _ (by decide +kernel), _, rfl, _, rfl, a, _, 2, _, rfl, rfl, ha, atI_nat (j := 2) rfl, _, rfl, o, n, f, b, p, k, x, rfl, hf, hn, hb, hl, kk⟩
  | none p =>
    obtain ⟨x, rfl⟩ := ha0
    refine ifF (so_ne (s := "none") (t := "what") (by decide)) ⟨_, rfl, a, _, 0, _, rfl, rfl, ha, atI_nat (j := 0) rfl, rfl, _, rfl, ifF (so_ne (s := "none") (t := "has") (by decide)) ⟨_, rfl, x, rfl, ?_⟩⟩
    cases x with
    | true =>
      refine iteT ⟨_, rfl, _, C, dx, fs, _, rfl, hi, CC.cl, CC.at_ (i := 0) rfl, hF.look (i := 0) rfl (by decide), _, rfl, _, rfl, (hf.ds 0 (by decide)).put hn hb fun φ hp => ?_⟩
      refine kk _ (FBut.upd (j := 0) (by decide)) (hf.wr (j := 0) (by decide) (g := learn f (.none p) (.bl true)) (p := p) (v := .str sNone) (map_put1 f.kinds p sNone _) (fun k hk ne => ?_) hp)
      exact fx5 0 (fun ne => absurd rfl ne) (fun _ => by rfl) (fun _ => by rfl) (fun _ => by rfl) (fun _ => by rfl) k hk ne
    | false =>
      refine iteF ⟨_, rfl, _, C, dx, fs, _, rfl, hi, CC.cl, CC.at_ (i := 1) rfl, hF.look (i := 1) rfl (by decide), _, rfl, _, rfl, (hf.ds 1 (by decide)).put hn hb fun φ hp => ?_⟩
      refine kk _ (FBut.upd (j := 1) (by decide)) (hf.wr (j := 1) (by decide) (g := learn f (.none p) (.bl false)) (p := p) (v := .bl true) (fill_put1 f.filled p) (fun k hk ne => ?_) hp)
      exact fx5 1 (fun _ => by rfl) (fun ne => absurd rfl ne) (fun _ => by rfl) (fun _ => by rfl) (fun _ => by rfl) k hk ne
theorem scF0 : FnScope ["self"] ["self"] (defScope sFInit) := ⟨rfl, rfl, rfl, by decide +kernel, rfl, by decide +kernel, by decide +kernel⟩
theorem ok_finit {g : Addr} {gd : FuncData} (F : Fun K "__init__" "Facts.__init__" sFInit g gd) (CC : FCls K C fN) : FnOk P w K mg base CX0 1 g gd ["self"] (spFInit P w K C) := by
  refine F.ok scF0 (fun vs H Q E h => ?_) (fun cdv A outer s H vs Q E hr h => ?_)
  · obtain ⟨x, dx, rfl, _⟩ := h
    rfl
  obtain ⟨x, dx, rfl, hx, hdx, kk⟩ := h
  refine ⟨_, pss_cons (ps_fld (pv 0) pe_pnew rfl) (pss_cons (ps_fld (pv 0) pe_pnew rfl) (pss_cons (ps_fld (pv 0) pe_pnew rfl) (pss_cons (ps_fld (pv 0) pe_pnew rfl) (pss_one (ps_fld (pv 0) pe_pnew rfl))))), ?_⟩
  intro p1 φ1 n1 d1
  have x1 : p1 ≠ x := (ne_of_none hx n1).symm
  refine ⟨_, rfl, x, C, dx, [], rfl, (by rw [upd_ne x1.symm]; exact hx), CC.cl, CC.at_ (i := 0) rfl, by show 0 < 1000; decide, ?_⟩
  have F1 := FsK.add fNam (FsK.nil (vals := fun _ => V.non)) (k := 0) rfl (.ref p1)
  intro p2 φ2 n2 d2
  have x2 : p2 ≠ x := fun z => by
    rw [z, upd_same] at n2
    cases n2
  rw [upd_ne x2] at n2
  have p21 : p2 ≠ p1 := fun z => by
    rw [z, upd_same] at n2
    cases n2
  rw [upd_ne p21] at n2
  refine ⟨_, rfl, x, C, dx, _, rfl, (by rw [upd_ne x2.symm]; exact upd_same), CC.cl, CC.at_ (i := 1) rfl, by rw [F1.len]; decide, ?_⟩
  have F2 := FsK.add fNam F1 (k := 1) rfl (.ref p2)
  intro p3 φ3 n3 d3
  have x3 : p3 ≠ x := fun z => by
    rw [z, upd_same] at n3
    cases n3
  rw [upd_ne x3] at n3
  have p32 : p3 ≠ p2 := fun z => by
    rw [z, upd_same] at n3
    cases n3
  rw [upd_ne p32, upd_ne x3] at n3
  have p31 : p3 ≠ p1 := fun z => by
    rw [z, upd_same] at n3
    cases n3
  rw [upd_ne p31] at n3
  refine ⟨_, rfl, x, C, dx, _, rfl, (by rw [upd_ne x3.symm]; exact upd_same), CC.cl, CC.at_ (i := 2) rfl, by rw [F2.len]; decide, ?_⟩
  have F3 := FsK.add fNam F2 (k := 2) rfl (.ref p3)
  intro p4 φ4 n4 d4
  have x4 : p4 ≠ x := fun z => by
    rw [z, upd_same] at n4
    cases n4
  rw [upd_ne x4] at n4
  have p43 : p4 ≠ p3 := fun z => by
    rw [z, upd_same] at n4
    cases n4
  rw [upd_ne p43, upd_ne x4] at n4
  have p42 : p4 ≠ p2 := fun z => by
    rw [z, upd_same] at n4
    cases n4
  rw [upd_ne p42, upd_ne x4] at n4
  have p41 : p4 ≠ p1 := fun z => by
    rw [z, upd_same] at n4
    cases n4
  rw [upd_ne p41] at n4
  refine ⟨_, rfl, x, C, dx, _, rfl, (by rw [upd_ne x4.symm]; exact upd_same), CC.cl, CC.at_ (i := 3) rfl, by rw [F3.len]; decide, ?_⟩
  have F4 := FsK.add fNam F3 (k := 3) rfl (.ref p4)
  intro p5 φ5 n5 d5
  have x5 : p5 ≠ x := fun z => by
    rw [z, upd_same] at n5
    cases n5
  rw [upd_ne x5] at n5
  have p54 : p5 ≠ p4 := fun z => by
    rw [z, upd_same] at n5
    cases n5
  rw [upd_ne p54, upd_ne x5] at n5
  have p53 : p5 ≠ p3 := fun z => by
    rw [z, upd_same] at n5
    cases n5
  rw [upd_ne p53, upd_ne x5] at n5
  have p52 : p5 ≠ p2 := fun z => by
    rw [z, upd_same] at n5
    cases n5
  rw [upd_ne p52, upd_ne x5] at n5
  have p51 : p5 ≠ p1 := fun z => by
    rw [z, upd_same] at n5
    cases n5
  rw [upd_ne p51] at n5
  refine ⟨_, rfl, x, C, dx, _, rfl, (by rw [upd_ne x5.symm]; exact upd_same), CC.cl, CC.at_ (i := 4) rfl, by rw [F4.len]; decide, ?_⟩
  have F5 := FsK.add fNam F4 (k := 4) rfl (.ref p5)
  let o : Nat → Addr := fun i => match i with
    | 0 => x
    | 1 => p1
    | 2 => p2
    | 3 => p3
    | 4 => p4
    | _ => p5
  have hN : ∀ i, 0 < i → i < 6 → H (o i) = none := fun i h0 h6 => by
    match i, h0, h6 with
    | 1, _, _ => exact n1
    | 2, _, _ => exact n2
    | 3, _, _ => exact n3
    | 4, _, _ => exact n4
    | 5, _, _ => exact n5
  refine kk o _ rfl hN (fun b u nb e => ?_) ⟨⟨dx, _, upd_same, ?_⟩, fun i hi5 => ?_, fun i j hi6 hj6 e => ?_⟩
  · rw [upd_ne nb, upd_ne (ne_of_none e n5), upd_ne nb, upd_ne (ne_of_none e n4), upd_ne nb, upd_ne (ne_of_none e n3), upd_ne nb, upd_ne (ne_of_none e n2), upd_ne nb, upd_ne (ne_of_none e n1)]
    exact e
  · refine ⟨F5.len, fun i y hy => ?_, F5.non⟩
    rw [F5.at_ i y hy]
    have h5 : i < 5 := (List.getElem?_eq_some_iff.mp hy).1
    rw [if_pos h5]
    match i, h5 with
    | 0, _ => rfl
    | 1, _ => rfl
    | 2, _ => rfl
    | 3, _ => rfl
    | 4, _ => rfl
  · have nil : ∀ (m : Pth → Option V), (∀ q, m q = none) → ∀ {b : Addr} {H9 : Hp}, PD P w K H9 b [] → PDm P w K H9 b 0 m := fun m hm b H9 h => ⟨[], h, Nat.le_refl _, fun q => (hm q).symm⟩
    match i, hi5 with
    | 0, _ => exact nil _ (fun _ => rfl) (d1 _ (by rw [upd_ne x1, upd_ne p51.symm, upd_ne x1, upd_ne p41.symm, upd_ne x1, upd_ne p31.symm, upd_ne x1, upd_ne p21.symm, upd_ne x1]; exact upd_same))
    | 1, _ => exact nil _ (fun _ => rfl) (d2 _ (by rw [upd_ne x2, upd_ne p52.symm, upd_ne x2, upd_ne p42.symm, upd_ne x2, upd_ne p32.symm, upd_ne x2]; exact upd_same))
    | 2, _ => exact nil _ (fun _ => rfl) (d3 _ (by rw [upd_ne x3, upd_ne p53.symm, upd_ne x3, upd_ne p43.symm, upd_ne x3]; exact upd_same))
    | 3, _ => exact nil _ (fun _ => rfl) (d4 _ (by rw [upd_ne x4, upd_ne p54.symm, upd_ne x4]; exact upd_same))
    | 4, _ => exact nil _ (fun _ => rfl) (d5 _ (by rw [upd_ne x5]; exact upd_same))
  · have pw : ∀ i j, i < 6 → j < 6 → i < j → o i ≠ o j := fun i j hi hj hij => by
      have all : ∀ i, i < 6 → ∀ j, j < 6 → i < j → o i ≠ o j := by
        intro i hi
        rcases (by omega : i = 0 ∨ i = 1 ∨ i = 2 ∨ i = 3 ∨ i = 4 ∨ i = 5) with rfl | rfl | rfl | rfl | rfl | rfl <;> intro j hj <;> rcases (by omega : j = 0 ∨ j = 1 ∨ j = 2 ∨ j = 3 ∨ j = 4 ∨ j = 5) with rfl | rfl | rfl | rfl | rfl | rfl <;> intro hij <;> first | (exact absurd hij (by decide)) | exact x1.symm | exact x2.symm | exact x3.symm | exact x4.symm | exact x5.symm | exact p21.symm | exact p31.symm | exact p41.symm | exact p51.symm | exact p32.symm | exact p42.symm | exact p52.symm | exact p43.symm | exact p53.symm | exact p54.symm
      exact all i hi j hj hij
    rcases Nat.lt_trichotomy i j with z | z | z
    · exact absurd e (pw i j hi6 hj6 z)
    · exact z
    · exact absurd e.symm (pw j i hj6 hi6 z)
end
end K02
set_option Elab.async false
set_option linter.all false
set_option maxRecDepth 100000
set_option maxHeartbeats 4000000
namespace K02
open PySem L2 PyProof.Rows
section
variable {P : Program} {w : World} {K : PySem.W.Frag} {mg : Str → Option Value} {base : Heap} {C : Addr}
theorem scFa : FnScope ["self", "look", "known", "kind"] ["self", "look"] (defScope sAnswers) := ⟨rfl, rfl, rfl, by decide +kernel, rfl, by decide +kernel, by decide +kernel⟩
theorem ok_answers {g gW aK : Addr} {gd gdW : FuncData} (F : Fun K "answers" "Facts.answers" sAnswers g gd) (CC : FCls K C fN) (mK : mg "KINDS" = some (.ref aK)) (hK : ∀ H, SqT K H aK (kindsT.map V.str))
    (FW : Fun K "follows" "Facts.follows" sFollows gW gdW) (GW : FnOk P w K mg base CX0 2 gW gdW ["self", "look"] (spFollows P w K C)) (bW : Binds K gdW ["self", "look"] []) (mW : Meth K C "follows" gW) :
    FnOk P w K mg base CX0 3 g gd ["self", "look"] (spAnswers P w K C) := by
  refine F.ok scFa (fun vs H Q E h => ?_) (fun cdv A outer s H vs Q E hr h => ?_)
  · obtain ⟨o, n, f, v, l, rfl, _⟩ := h
    rfl
  obtain ⟨o, n, f, v, l, rfl, hf, hv, hl, kk⟩ := h
  have hu1 : (A.deeper (envOfC "Facts.answers" (defScope sAnswers) s.heap.objs.size g cdv)).units + 1 < cLine := hu_of hr
  refine ⟨_, pss_cons (ps_set (i := 2) scFa.nd rfl (Or.inl rfl) (pe_meth (pv 0) CC.cl mW GW hr bW .nil pass0 (pa_cons (pv 1) pa_nil)))
    (pss_cons (ps_if (pt_cmpR op_notN (pv 2) pe_non (nomark _)) (pss_one (ps_ret (pe_lst (pa_cons (pv 2) pa_nil)))) pss_nil)
    (pss_cons (ps_if (pt_cmpR op_ne (pe_ix ix_tup (pv 1) pe_int (fun _ _ => rfl)) pe_str (nomark _)) (pss_one (ps_ret (pe_lst (pa_cons pe_bl (pa_cons pe_bl pa_nil))))) pss_nil)
    (pss_one (ps_ret (pe_lc (own := [("kind", 3)]) (g := gName 3) (tt := tOr (tTest (tOp rNe (tVar 3) (tC (.str (Str.ofString "none"))))) (tB (tPNotIn P w K (tOp (rIxT K) (tVar 1) (tC (.int 1))) (tFld K (tVar 0) "filled")))) rfl scFa.nd (pi_tup (pe_glob (v := .ref aK) rfl mK rfl)) (blkOk_by (N := ["self", "look", "known", "kind"]) (sc := defScope sAnswers) (by decide +kernel))
      (fun _ _ _ _ _ => pg_name (i := 3) scFa.nd rfl (Or.inl rfl)) (fun _ _ _ _ _ => pts_one (PW.pt (pw_or (pt_cmpR op_ne (pv 3) pe_str (nomark _)) (pw_or1 (pt_cmp (show PC _ .NotIn _ _ (tPNotIn P w K (tOp (rIxT K) (tVar 1) (tC (.int 1))) (tFld K (tVar 0) "filled")) from pc_pnotin hu1 (pe_ix (show IxR _ (rIxT K) from ix_tup) (pv 1) pe_int (fun _ _ => rfl)) (show PE _ _ (tFld K (tVar 0) "filled") from pe_fld (pv 0) rfl)) rfl))))) (fun _ _ _ _ _ => pv 3)))))), ?_⟩
  obtain ⟨dx, fs, hi, hF⟩ := hf.ins
  obtain ⟨a, b, rfl, ha, hb⟩ := id hv
  refine ⟨_, rfl, _, dx, fs, rfl, hi, hF.non _ (by decide +kernel), _, rfl, o, n, f, _, l, rfl, hf, hv, hl, fun H1 hs1 => ⟨_, rfl, rfl, _, rfl, ?_⟩⟩
  have hf1 := hf.same hs1
  have ha1 := SqT.same ha hs1
  have hb1 := SqT.same hb hs1
  by_cases c : follows f l = .non
  · refine ifF (by rw [decide_eq_true c]; rfl) ⟨_, rfl, a, _, 0, _, rfl, rfl, ha1, atI_nat (j := 0) rfl, rfl, _, rfl, ?_⟩
    have two : ∀ q : Pth, (l = .none q ∨ ∃ k, l = .has q k) → answersOf f l = [.bl true, .bl false] := fun q h => by
      unfold answersOf
      rw [if_neg (fun z => z c)]
      rcases h with rfl | ⟨k, rfl⟩ <;> rfl
    cases l with
    | none p =>
      refine ifT (by show (!decide (V.str (Str.ofString "none") = V.str (Str.ofString "what"))) = true; rw [so_ne (by decide)]; rfl) ⟨by show 2 ≤ sizeLine; decide, fun q hq => ?_⟩
      have s2 := same_new hq (.lst [.bl true, .bl false])
      exact kk q _ (hs1.trans s2) (hs1.free hq) (by rw [two p (.inl rfl)]; exact upd_same)
    | has p k =>
      refine ifT (by show (!decide (V.str (Str.ofString "has") = V.str (Str.ofString "what"))) = true; rw [so_ne (by decide)]; rfl) ⟨by show 2 ≤ sizeLine; decide, fun q hq => ?_⟩
      have s2 := same_new hq (.lst [.bl true, .bl false])
      exact kk q _ (hs1.trans s2) (hs1.free hq) (by rw [two p (.inr ⟨k, rfl⟩)]; exact upd_same)
    | what p =>
      refine ifF (by show (!decide (V.str (Str.ofString "what") = V.str (Str.ofString "what"))) = false; rw [decide_eq_true rfl]; rfl) ⟨aK, rfl, ⟨_, hK H1⟩, fun D0 hD => ?_⟩
      have e4 : answersOf f (.what p) = (kindsT.filter fun k => decide (k ≠ sNone) || !(f.filled p)).map V.str := by
        unfold answersOf
        rw [if_neg (fun z => z c)]
      have hi1 := hs1 _ _ hi
      refine lc_tup (K := K) (a := aK) (xs := kindsT.map V.str) (fun i H2 => Same H1 H2 ∧ H2 D0 = some (.lst (((kindsT.take i).filter fun k => decide (k ≠ sNone) || !(f.filled p)).map V.str))) ⟨same_new hD _, upd_same⟩ (fun i H2 _ _ => hK H2) ?_ ?_
      · rintro i x H2 hx ⟨hs2, hD2⟩
        rw [List.getElem?_map] at hx
        obtain ⟨k, hk, rfl⟩ : ∃ k, kindsT[i]? = some k ∧ V.str k = x := by
          cases e : kindsT[i]? with
          | none =>
            rw [e] at hx
            cases hx
          | some k =>
            rw [e] at hx
            exact ⟨k, rfl, Option.some.inj hx⟩
        have et : kindsT.take (i + 1) = kindsT.take i ++ [k] := by
          rw [List.take_add_one, hk]
          rfl
        have hlen : (((kindsT.take i).filter fun k => decide (k ≠ sNone) || !(f.filled p)).map V.str).length < sizeLine := by
          rw [List.length_map]
          refine Nat.lt_of_le_of_lt (List.length_filter_le _ _) (Nat.lt_of_le_of_lt (show _ ≤ 4 from ?_) (by decide))
          rw [List.length_take]
          exact Nat.min_le_right _ _
        have hf2 := hf1.same hs2
        have g1 := (hf2.ds 1 (by decide)).get (SqT.same hb1 hs2)
        have yes : (decide (k ≠ sNone) || !(f.filled p)) = true → ∃ acc, H2 D0 = some (.lst acc) ∧ acc.length < sizeLine ∧ Same H1 (upd H2 D0 (.lst (acc ++ [V.str k]))) ∧ (upd H2 D0 (.lst (acc ++ [V.str k]))) D0 = some (.lst (((kindsT.take (i + 1)).filter fun k => decide (k ≠ sNone) || !(f.filled p)).map V.str)) := fun cc => by
          refine ⟨_, hD2, hlen, same_put hs2 hD, ?_⟩
          rw [upd_same, et, List.filter_append, List.map_append, List.filter_cons, cc]
          rfl
        have nope : (decide (k ≠ sNone) || !(f.filled p)) = false → Same H1 H2 ∧ H2 D0 = some (.lst (((kindsT.take (i + 1)).filter fun k => decide (k ≠ sNone) || !(f.filled p)).map V.str)) := fun cc => by
          refine ⟨hs2, ?_⟩
          rw [hD2, et, List.filter_append, List.map_append, List.filter_cons, cc]
          simp
        refine ⟨rfl, _, rfl, rfl, _, rfl, ?_⟩
        by_cases ck : k = sNone
        · subst ck
          refine ifF (by show (!decide (V.str sNone = V.str sNone)) = false; rw [decide_eq_true rfl]; rfl) ⟨_, rfl, a, _, 1, _, rfl, rfl, SqT.same ha1 hs2, atI_nat (j := 1) rfl, _, rfl, o 0, C, dx, fs, _, rfl, hs2 _ _ hi1, CC.cl, CC.at_ (i := 1) rfl, hF.look (i := 1) rfl (by decide), _, _, rfl, g1, _, rfl, ?_⟩
          obtain ⟨bf, ef⟩ : ∃ b, f.filled p = b := ⟨_, rfl⟩
          cases bf with
          | true =>
            refine ifF (by show (!(if f.filled p = true then some (V.bl true) else none).isSome) = false; rw [ef]; rfl) (nope ?_)
            rw [ef, decide_eq_false (fun z => z rfl)]
            rfl
          | false =>
            refine ifT (by show (!(if f.filled p = true then some (V.bl true) else none).isSome) = true; rw [ef]; rfl) ⟨_, rfl, yes ?_⟩
            rw [ef]
            exact Bool.or_true _
        · refine ifT (by rw [decide_eq_false (show ¬ V.str k = V.str (Str.ofString "none") from fun z => ck (V.str.inj z))]; rfl) ⟨_, rfl, yes ?_⟩
          rw [decide_eq_true ck]
          rfl
      · rintro H2 ⟨hs2, hD2⟩
        rw [List.length_map, List.take_length] at hD2
        refine kk D0 H2 (hs1.trans hs2) (hs1.free hD) ?_
        rw [e4]
        exact hD2
  · refine ifT (by rw [decide_eq_false c]; rfl) ⟨_, rfl, by show 1 ≤ sizeLine; decide, fun q hq => ?_⟩
    have s2 := same_new hq (.lst [follows f l])
    refine kk q _ (hs1.trans s2) (hs1.free hq) ?_
    unfold answersOf
    rw [if_pos c]
    exact upd_same
end
end K02
set_option Elab.async false
set_option linter.all false
set_option maxRecDepth 100000
set_option maxHeartbeats 4000000
namespace K02
open PySem L2 PyProof.Rows
/-! ### a run of steps: its state, and what goes on in it -/
inductive Why where
  | kind
  | miss (k : Ky)
  | unb (z : Str)
  | cases
abbrev Fail := Pc × Why
structure Tst where
  held : List (Str × Pc)
  made : List (Str × List Pc)
  looks : List (Lq × V)
  missed : List Str
  begun : List Int
  taken : List (Nat × Nat)
  rch : Option Nat
  flr : Option Fail
inductive Ans where
  | val (v : V)
  | up (n : Nat)
  | bad
/-- what a source does: the answer of the next look; whether the call with a number may be -/
structure Sem where
  ans : List (Lq × V) → Lq → Ans
  call : List (Lq × V) → Nat → Option Nat
inductive Out (α : Type) where
  | ok (a : α) (σ : Tst)
  | up (n : Nat) (σ : Tst)
  | bad
def Out.bind {α β : Type} (x : Out α) (f : α → Tst → Out β) : Out β := match x with
  | .ok a σ => f a σ
  | .up n σ => .up n σ
  | .bad => .bad
def Post {α : Type} (x : Out α) (k : α → Tst → Prop) (e : Nat → Tst → Prop) : Prop := match x with
  | .ok a σ => k a σ
  | .up n σ => e n σ
  | .bad => False
theorem Post.of_bind {α β : Type} {x : Out α} {f : α → Tst → Out β} {k : β → Tst → Prop} {e : Nat → Tst → Prop} (h : Post (x.bind f) k e) : Post x (fun a σ => Post (f a σ) k e) e := by
  cases x <;> exact h
theorem Post.mono {α : Type} {x : Out α} {k k' : α → Tst → Prop} {e e' : Nat → Tst → Prop} (h : Post x k e) (hk : ∀ a σ, k a σ → k' a σ) (he : ∀ n σ, e n σ → e' n σ) : Post x k' e' := by
  cases x with
  | ok a σ => exact hk a σ h
  | up n σ => exact he n σ h
  | bad => exact h
def fx (L : List (Lq × V)) : Fx := L.foldl (fun f q => learn f q.1 q.2) Fx.nil
theorem fx_snoc (L : List (Lq × V)) (l : Lq) (v : V) : fx (L ++ [(l, v)]) = learn (fx L) l v := by
  unfold fx
  rw [List.foldl_append]
  rfl
/-! ### how it stands in the heap -/
def missS : Ky → String
  | .ix _ => "item"
  | .fd _ => "field"
def WhyAt (K : PySem.W.Frag) (H : Hp) (x : V) : Why → Prop
  | .kind => x = .str (Str.ofString "kind")
  | .cases => x = .str (Str.ofString "cases")
  | .miss k => ∃ b, x = .ref b ∧ SqT K H b [.str (Str.ofString (missS k)), k.v]
  | .unb z => ∃ b, x = .ref b ∧ SqT K H b [.str (Str.ofString "unbound"), .str z]
def FlAt (K : PySem.W.Frag) (H : Hp) (u : V) : Option Fail → Prop
  | none => u = .non
  | some f => ∃ a v x, u = .ref a ∧ SqT K H a [v, x] ∧ PcAt K H v f.1 ∧ WhyAt K H x f.2
theorem WhyAt.st {K : PySem.W.Frag} {H H1 : Hp} {x : V} {y : Why} (h : WhyAt K H x y) (s : TupSt H H1) : WhyAt K H1 x y := by
  cases y with
  | kind => exact h
  | cases => exact h
  | miss k =>
    obtain ⟨b, e, hb⟩ := h
    exact ⟨b, e, hb.st s⟩
  | unb z =>
    obtain ⟨b, e, hb⟩ := h
    exact ⟨b, e, hb.st s⟩
theorem FlAt.st {K : PySem.W.Frag} {H H1 : Hp} {u : V} {f : Option Fail} (h : FlAt K H u f) (s : TupSt H H1) : FlAt K H1 u f := by
  cases f with
  | none => exact h
  | some f =>
    obtain ⟨a, v, x, e, h1, h2, h3⟩ := h
    exact ⟨a, v, x, e, h1.st s, h2.st s, h3.st s⟩
def HeldAt (K : PySem.W.Frag) (H : Hp) (x : Addr) (hs : List (Str × Pc)) : Prop := ∃ kvs, H x = some (.dK kvs) ∧ Paired (fun (p : Key × V) (q : Str × Pc) => p.1 = Sum.inr q.1 ∧ PcAt K H p.2 q.2) kvs hs
def MdAt (K : PySem.W.Frag) (H : Hp) (v : V) (m : Str × List Pc) : Prop := ∃ a b vs, v = .ref a ∧ SqT K H a [.str m.1, .ref b] ∧ SqT K H b vs ∧ Paired (PcAt K H) vs m.2
def MadeAt (K : PySem.W.Frag) (H : Hp) (x : Addr) (ms : List (Str × List Pc)) : Prop := ∃ xs, H x = some (.lst xs) ∧ Paired (MdAt K H) xs ms
def LkAt (K : PySem.W.Frag) (H : Hp) (v : V) (q : Lq × V) : Prop := ∃ a y, v = .ref a ∧ SqT K H a [y, q.2] ∧ LqAt K H y q.1
def LooksAt (K : PySem.W.Frag) (H : Hp) (x : Addr) (ls : List (Lq × V)) : Prop := ∃ xs, H x = some (.lst xs) ∧ Paired (LkAt K H) xs ls
def trues {α : Type} (f : α → Key) (l : List α) : HO := .dK (l.map fun z => (f z, V.bl true))
def takenO (l : List (Nat × Nat)) : HO := .dK (l.map fun p => (Sum.inl (p.1 : Int), V.int (p.2 : Int)))
section
variable {K : PySem.W.Frag} {H H1 : Hp} {x : Addr}
theorem HeldAt.st {hs : List (Str × Pc)} (h : HeldAt K H x hs) (s : TupSt H H1) (e : H1 x = H x) : HeldAt K H1 x hs := by
  obtain ⟨kvs, h1, h2⟩ := h
  exact ⟨kvs, e.trans h1, Paired.mapP h2 fun _ _ z => ⟨z.1, z.2.st s⟩⟩
theorem MdAt.st {v : V} {m : Str × List Pc} (h : MdAt K H v m) (s : TupSt H H1) : MdAt K H1 v m := by
  obtain ⟨a, b, vs, e, h1, h2, h3⟩ := h
  exact ⟨a, b, vs, e, h1.st s, h2.st s, Paired.mapP h3 fun _ _ z => z.st s⟩
theorem MadeAt.st {ms : List (Str × List Pc)} (h : MadeAt K H x ms) (s : TupSt H H1) (e : H1 x = H x) : MadeAt K H1 x ms := by
  obtain ⟨xs, h1, h2⟩ := h
  exact ⟨xs, e.trans h1, Paired.mapP h2 fun _ _ z => z.st s⟩
theorem LkAt.st {v : V} {q : Lq × V} (h : LkAt K H v q) (s : TupSt H H1) : LkAt K H1 v q := by
  obtain ⟨a, y, e, h1, h2⟩ := h
  exact ⟨a, y, e, h1.st s, h2.st s⟩
theorem LooksAt.st {ls : List (Lq × V)} (h : LooksAt K H x ls) (s : TupSt H H1) (e : H1 x = H x) : LooksAt K H1 x ls := by
  obtain ⟨xs, h1, h2⟩ := h
  exact ⟨xs, e.trans h1, Paired.mapP h2 fun _ _ z => z.st s⟩
end
/-- all stands but a run's own things -/
def OBut (o : Nat → Addr) (H H' : Hp) : Prop := ∀ b u, (∀ i, i < 13 → b ≠ o i) → H b = some u → H' b = some u
theorem OBut.same {o : Nat → Addr} {H H1 : Hp} (s : Same H H1) : OBut o H H1 := fun b u _ e => s b u e
theorem OBut.trans {o : Nat → Addr} {H H1 H2 : Hp} (a : OBut o H H1) (b : OBut o H1 H2) : OBut o H H2 := fun c u n e => b c u n (a c u n e)
theorem OBut.upd {o : Nat → Addr} {H : Hp} {j : Nat} (hj : j < 13) {u : HO} : OBut o H (L2.upd H (o j) u) := fun b v n e => by
  rw [upd_ne (n j hj)]
  exact e
theorem OBut.facts {o : Nat → Addr} {H H1 : Hp} (h : FBut (fun i => o (7 + i)) H H1) : OBut o H H1 := fun b u n e => h b u (fun i h0 h6 => n (7 + i) (by omega)) e
def plain (u : HO) : Prop := (∀ xs, u ≠ .tup xs) ∧ ∀ p q, u ≠ .frz p q
theorem OBut.tup {o : Nat → Addr} {H H1 : Hp} (h : OBut o H H1) (k : ∀ i, i < 13 → ∃ u, H (o i) = some u ∧ plain u) : TupSt H H1 := by
  refine ⟨fun b xs e => h b _ (fun i hi z => ?_) e, fun b p q e => h b _ (fun i hi z => ?_) e⟩
  · obtain ⟨u, e2, n1, _⟩ := k i hi
    rw [← z, e] at e2
    exact n1 xs (Option.some.inj e2).symm
  · obtain ⟨u, e2, _, n2⟩ := k i hi
    rw [← z, e] at e2
    exact n2 p q (Option.some.inj e2).symm
def tN : List Str := ["source", "late", "nothing", "facts", "held", "made", "looks", "missed", "begun", "reached", "taken", "failure"].map Str.ofString
def tM : List Str := ["run", "so_far", "outcome", "do_step", "set_name", "try_cases", "take_part", "take_entries", "take_entry", "take_rest", "take_wanted", "place_of_name", "work_out", "kind_at", "is_missing", "ask"].map Str.ofString
theorem tNam : FNam tN tM := ⟨by decide +kernel, by decide +kernel⟩
/-- an error that leaves: of a class, with a number -/
def Gone (CE : Addr) (M : Hp) (E : XK) (n : Nat) (r : Hp → Prop) : Prop := ∀ (d : Addr) H', r H' → M d = none → H' d = some (.xd [(("value" : Str), .int (n : Int))]) → E (.ref CE) (some d) H'
section
variable (K : PySem.W.Frag)
def spAnswer (sem : Sem) (s CE : Addr) (rep up : Hp → List (Lq × V) → Prop) (mu : Addr → Prop) : Sp := fun vs H Q E => ∃ (v : V) (al : Addr) (l : Lq) (L : List (Lq × V)), vs = [.ref s, v, .ref al] ∧ rep H L ∧ LqAt K H v l ∧ H al = some (.lst (answersOf (fx L) l)) ∧
  match sem.ans L l with
  | .val x => ∀ H', (∀ b u, ¬ mu b → H b = some u → H' b = some u) → TupSt H H' → rep H' (L ++ [(l, x)]) → Q x H'
  | .up n => Gone CE H E n fun H' => (∀ b u, ¬ mu b → H b = some u → H' b = some u) ∧ TupSt H H' ∧ up H' L
  | .bad => False
def spNote (sem : Sem) (s CE : Addr) (rep up : Hp → List (Lq × V) → Prop) : Sp := fun vs H Q E => ∃ (n : Nat) (L : List (Lq × V)), vs = [.ref s, .int (n : Int)] ∧ rep H L ∧
  match sem.call L n with
  | none => ∀ H', Same H H' → Q .non H'
  | some m => Gone CE H E m fun H' => Same H H'
end
/-- a source of answers -/
structure Src (P : Program) (w : World) (K : PySem.W.Frag) (mg : Str → Option Value) (base : Heap) where
  sem : Sem
  s : Addr
  C : Addr
  CE : Addr
  rep : Hp → List (Lq × V) → Prop
  up : Hp → List (Lq × V) → Prop
  mu : Addr → Prop
  M0 : Hp
  fA : Addr
  fN : Addr
  fdA : FuncData
  fdN : FuncData
  cl : Cls K C
  ins : ∀ H L, rep H L → ∃ dx fs, H s = some (.ins C dx fs) ∧ fs.lookup ("answer" : Str) = none ∧ fs.lookup ("note_call" : Str) = none
  keep : ∀ H H' L, rep H L → (∀ b u, (M0 b ≠ none ∨ mu b) → H b = some u → H' b = some u) → rep H' L
  keepU : ∀ H H' L, up H L → (∀ b u, (M0 b ≠ none ∨ mu b) → H b = some u → H' b = some u) → up H' L
  repUp : ∀ H L, rep H L → up H L
  muT : ∀ H L, rep H L → ∀ b, mu b → H b ≠ none
  okA : ∀ L l v, sem.ans L l = .val v → okAn l v
  GA : FnOk P w K mg base (L2.CX P w) 9 fA fdA ["self", "look", "answers"] (spAnswer K sem s CE rep up mu)
  GN : FnOk P w K mg base (L2.CX P w) 9 fN fdN ["self", "number"] (spNote sem s CE rep up)
  mA : Meth K C "answer" fA
  mN : Meth K C "note_call" fN
  bA : L2.Binds K fdA ["self", "look", "answers"] []
  bN : L2.Binds K fdN ["self", "number"] []
/-- what a run stands on -/
structure Tc (P : Program) (w : World) (K : PySem.W.Frag) (mg : Str → Option Value) (base : Heap) where
  S : Src P w K mg base
  CT : Addr
  CF : Addr
  late : Bool
  noth : Bool
  cT : FCls K CT tN
  cF : FCls K CF K02.fN
end K02
set_option Elab.async false
set_option linter.all false
set_option maxRecDepth 100000
set_option maxHeartbeats 4000000
namespace K02
open PySem L2 PyProof.Rows
def rchV : Option Nat → V
  | none => .non
  | some i => .int (i : Int)
section
variable {P : Program} {w : World} {K : PySem.W.Frag} {mg : Str → Option Value} {base : Heap}
/-- the frame of a run: all else stands, the source as it is -/
structure TkFr (S : Src P w K mg base) (r : Hp → List (Lq × V) → Prop) (M H : Hp) (o : Nat → Addr) (L : List (Lq × V)) : Prop where
  same : Same M H
  free : ∀ i, i < 13 → M (o i) = none
  inj : ∀ i j, i < 13 → j < 13 → o i = o j → i = j
  sub : Same S.M0 M
  mfree : ∀ b, S.mu b → M b = none
  dis : ∀ i, i < 13 → ¬ S.mu (o i)
  src : r H L
def tval (T : Tc P w K mg base) (o : Nat → Addr) (σ : Tst) : Nat → V
  | 0 => .ref T.S.s
  | 1 => .bl T.late
  | 2 => .bl T.noth
  | 3 => .ref (o 7)
  | 4 => .ref (o 1)
  | 5 => .ref (o 2)
  | 6 => .ref (o 3)
  | 7 => .ref (o 4)
  | 8 => .ref (o 5)
  | 9 => rchV σ.rch
  | 10 => .ref (o 6)
  | _ => .non
/-- a run's own things -/
structure TkCt (T : Tc P w K mg base) (H : Hp) (o : Nat → Addr) (σ : Tst) : Prop where
  ins : ∃ dx fs vals, H (o 0) = some (.ins T.CT dx fs) ∧ FsK tN tM 12 fs vals ∧ (∀ i, i < 11 → vals i = tval T o σ i) ∧ FlAt K H (vals 11) σ.flr
  held : HeldAt K H (o 1) σ.held
  made : MadeAt K H (o 2) σ.made
  looks : LooksAt K H (o 3) σ.looks
  missed : H (o 4) = some (trues Sum.inr σ.missed)
  begun : H (o 5) = some (trues Sum.inl σ.begun)
  taken : H (o 6) = some (takenO σ.taken)
  facts : FxAt P w K T.CF H (fun i => o (7 + i)) σ.looks.length (fx σ.looks)
structure TkAt (T : Tc P w K mg base) (r : Hp → List (Lq × V) → Prop) (M H : Hp) (o : Nat → Addr) (σ : Tst) : Prop where
  fr : TkFr T.S r M H o σ.looks
  ct : TkCt T H o σ
/-- each own thing is no tuple -/
theorem TkCt.kind {T : Tc P w K mg base} {H : Hp} {o : Nat → Addr} {σ : Tst} (h : TkCt T H o σ) : ∀ i, i < 13 → ∃ u, H (o i) = some u ∧ plain u := by
  have d : ∀ j, j < 5 → ∃ u, H (o (7 + (j + 1))) = some u ∧ plain u := fun j hj => by
    obtain ⟨φ, e⟩ := (h.facts.ds j hj).ext
    exact ⟨_, e, (fun _ z => nomatch z), (fun _ _ z => nomatch z)⟩
  intro i hi
  rcases (by omega : i = 0 ∨ i = 1 ∨ i = 2 ∨ i = 3 ∨ i = 4 ∨ i = 5 ∨ i = 6 ∨ i = 7 ∨ i = 8 ∨ i = 9 ∨ i = 10 ∨ i = 11 ∨ i = 12) with rfl | rfl | rfl | rfl | rfl | rfl | rfl | rfl | rfl | rfl | rfl | rfl | rfl
  · obtain ⟨dx, fs, vals, e, _⟩ := h.ins
    exact ⟨_, e, (fun _ z => nomatch z), (fun _ _ z => nomatch z)⟩
  · obtain ⟨kvs, e, _⟩ := h.held
    exact ⟨_, e, (fun _ z => nomatch z), (fun _ _ z => nomatch z)⟩
  · obtain ⟨xs, e, _⟩ := h.made
    exact ⟨_, e, (fun _ z => nomatch z), (fun _ _ z => nomatch z)⟩
  · obtain ⟨xs, e, _⟩ := h.looks
    exact ⟨_, e, (fun _ z => nomatch z), (fun _ _ z => nomatch z)⟩
  · exact ⟨_, h.missed, (fun _ z => nomatch z), (fun _ _ z => nomatch z)⟩
  · exact ⟨_, h.begun, (fun _ z => nomatch z), (fun _ _ z => nomatch z)⟩
  · exact ⟨_, h.taken, (fun _ z => nomatch z), (fun _ _ z => nomatch z)⟩
  · obtain ⟨dx, fs, e, _⟩ := h.facts.ins
    exact ⟨_, e, (fun _ z => nomatch z), (fun _ _ z => nomatch z)⟩
  · exact d 0 (by decide)
  · exact d 1 (by decide)
  · exact d 2 (by decide)
  · exact d 3 (by decide)
  · exact d 4 (by decide)
section
variable {T : Tc P w K mg base} {M H H1 : Hp} {o : Nat → Addr} {σ : Tst}
/-- a source that is kept -/
def Kept (S : Src P w K mg base) (r : Hp → List (Lq × V) → Prop) : Prop := ∀ H H' L, r H L → (∀ b u, (S.M0 b ≠ none ∨ S.mu b) → H b = some u → H' b = some u) → r H' L
theorem TkFr.go {S : Src P w K mg base} {r : Hp → List (Lq × V) → Prop} (k : Kept S r) {L : List (Lq × V)} (h : TkFr S r M H o L) (b : OBut o H H1) : TkFr S r M H1 o L := by
  refine ⟨fun a u e => b a u (fun i hi z => ?_) (h.same a u e), h.free, h.inj, h.sub, h.mfree, h.dis, k H H1 L h.src fun a u c e => b a u (fun i hi z => ?_) e⟩
  · rw [z, h.free i hi] at e
    cases e
  · rcases c with c | c
    · cases e2 : S.M0 a with
      | none => exact c e2
      | some v =>
        have e3 := h.sub a v e2
        rw [z, h.free i hi] at e3
        cases e3
    · exact h.dis i hi (z ▸ c)
theorem TkFr.up {S : Src P w K mg base} {L : List (Lq × V)} (h : TkFr S S.rep M H o L) : TkFr S S.up M H o L := ⟨h.same, h.free, h.inj, h.sub, h.mfree, h.dis, S.repUp _ _ h.src⟩
theorem TkCt.st (h : TkCt T H o σ) (ts : TupSt H H1) (e : ∀ i, i < 13 → H1 (o i) = H (o i)) : TkCt T H1 o σ := by
  obtain ⟨dx, fs, vals, i1, i2, i3, i4⟩ := h.ins
  exact ⟨⟨dx, fs, vals, (e 0 (by decide)).trans i1, i2, i3, i4.st ts⟩, h.held.st ts (e 1 (by decide)), h.made.st ts (e 2 (by decide)), h.looks.st ts (e 3 (by decide)), (e 4 (by decide)).trans h.missed, (e 5 (by decide)).trans h.begun, (e 6 (by decide)).trans h.taken, h.facts.st ts fun i hi => e (7 + i) (by omega)⟩
theorem TkCt.same (h : TkCt T H o σ) (s : Same H H1) : TkCt T H1 o σ := h.st (TupSt.of s) fun i hi => by
  obtain ⟨u, e, _⟩ := h.kind i hi
  rw [e]
  exact s _ _ e
theorem TkAt.up (h : TkAt T T.S.rep M H o σ) : TkAt T T.S.up M H o σ := ⟨h.fr.up, h.ct⟩
theorem TkAt.same {r : Hp → List (Lq × V) → Prop} (k : Kept T.S r) (h : TkAt T r M H o σ) (s : Same H H1) : TkAt T r M H1 o σ := ⟨h.fr.go k (.same s), h.ct.same s⟩
/-- a smaller, or a larger, part of what stands around -/
theorem TkAt.weak {r : Hp → List (Lq × V) → Prop} {M' : Hp} (h : TkAt T r M' H o σ) (s : Same M M') (s0 : Same T.S.M0 M) : TkAt T r M H o σ := by
  have f := h.fr
  refine ⟨⟨s.trans f.same, fun i hi => s.free (f.free i hi), f.inj, s0, fun b hb => s.free (f.mfree b hb), f.dis, f.src⟩, h.ct⟩
theorem TkAt.more {r : Hp → List (Lq × V) → Prop} {M' : Hp} (h : TkAt T r M H o σ) (s : Same M M') (s1 : Same M' H) (hf : ∀ i, i < 13 → M' (o i) = none) (hm : ∀ b, T.S.mu b → M' b = none) : TkAt T r M' H o σ := by
  have f := h.fr
  exact ⟨⟨s1, hf, f.inj, f.sub.trans s, hm, f.dis, f.src⟩, h.ct⟩
/-- all that is new is taken along -/
def along (M H H1 : Hp) : Hp := fun b => if H b = none then H1 b else M b
theorem along_M (h : Same M H) : Same M (along M H H1) := fun b u e => by
  unfold along
  rw [if_neg (by rw [h b u e]; exact fun z => nomatch z)]
  exact e
theorem along_new {b : Addr} (h : H b = none) : along M H H1 b = H1 b := if_pos h
theorem along_to {r : Hp → List (Lq × V) → Prop} (h : TkAt T r M H o σ) (s : Same H H1) : Same (along M H H1) H1 := fun b u e => by
  unfold along at e
  by_cases c : H b = none
  · rw [if_pos c] at e
    exact e
  · rw [if_neg c] at e
    exact s b u (h.fr.same b u e)
theorem TkAt.along (h : TkAt T T.S.rep M H o σ) (s : Same H H1) : TkAt T T.S.rep (along M H H1) H1 o σ := by
  refine (h.same T.S.keep s).more (along_M h.fr.same) (along_to h s) (fun i hi => ?_) fun b hb => ?_
  · obtain ⟨u, e, _⟩ := h.ct.kind i hi
    unfold K02.along
    rw [if_neg (by rw [e]; exact fun z => nomatch z)]
    exact h.fr.free i hi
  · unfold K02.along
    rw [if_neg (T.S.muT _ _ h.fr.src b hb)]
    exact h.fr.mfree b hb
theorem TkAt.back {M' : Hp} {r : Hp → List (Lq × V) → Prop} (h : TkAt T r M' H o σ) (s : Same M M') (h0 : Same T.S.M0 M) : TkAt T r M H o σ := h.weak s h0
/-- a list that is taken along is written -/
theorem TkAt.reput (h : TkAt T T.S.rep M H o σ) {p : Addr} {xs ys : List V} (hp : M p = some (.lst xs)) (h0 : T.S.M0 p = none) : TkAt T T.S.rep (upd M p (.lst ys)) (upd H p (.lst ys)) o σ := by
  have hH := h.fr.same _ _ hp
  have no : ∀ i, i < 13 → o i ≠ p := fun i hi z => by
    have := h.fr.free i hi
    rw [z, hp] at this
    cases this
  have nm : ¬ T.S.mu p := fun z => by
    have := h.fr.mfree p z
    rw [hp] at this
    cases this
  have ts : TupSt H (upd H p (.lst ys)) := TupSt.upd hH (fun _ z => nomatch z) (fun _ _ z => nomatch z)
  refine ⟨⟨fun b u e => ?_, fun i hi => by rw [upd_ne (no i hi)]; exact h.fr.free i hi, h.fr.inj, fun b u e => ?_, fun b hb => ?_, h.fr.dis, T.S.keep _ _ _ h.fr.src fun b u c e => ?_⟩, h.ct.st ts fun i hi => upd_ne (no i hi)⟩
  · by_cases c : b = p
    · subst c
      rw [upd_same] at e ⊢
      exact e
    · rw [upd_ne c] at e ⊢
      exact h.fr.same b u e
  · rw [upd_ne (ne_of_none e h0)]
    exact h.fr.sub b u e
  · rw [upd_ne fun z : b = p => nm (z ▸ hb)]
    exact h.fr.mfree b hb
  · rw [upd_ne fun z : b = p => ?_]
    · exact e
    · rcases c with c | c
      · exact c (z ▸ h0)
      · exact nm (z ▸ c)
theorem rw_M {d : D} {v : V} {r : Hp → List (Lq × V) → Prop} (h : TkAt T r M H o σ) (hr : RW M d v) : RW H d v := hr.same h.fr.same
end
end
/-! ### a look, made or known -/
def ask (S : Sem) (l : Lq) (σ : Tst) : Out V :=
  if follows (fx σ.looks) l ≠ .non then .ok (follows (fx σ.looks) l) σ else match S.ans σ.looks l with
    | .val v => if σ.looks.length < 100000 then .ok v { σ with looks := σ.looks ++ [(l, v)] } else .bad
    | .up n => .up n σ
    | .bad => .bad
theorem ans_len (f : Fx) (l : Lq) : ((answersOf f l).length = 1 ↔ follows f l ≠ .non) ∧ (answersOf f l).length ≤ 4 ∧ (follows f l ≠ .non → answersOf f l = [follows f l]) := by
  unfold answersOf
  by_cases c : follows f l ≠ .non
  · rw [if_pos c]
    exact ⟨⟨fun _ => c, fun _ => rfl⟩, by show 1 ≤ 4; decide, fun _ => rfl⟩
  · rw [if_neg c]
    cases l with
    | none p => exact ⟨⟨fun z => absurd z (by show ¬ (2 = 1); decide), fun z => absurd z c⟩, by show 2 ≤ 4; decide, fun z => absurd z c⟩
    | has p k => exact ⟨⟨fun z => absurd z (by show ¬ (2 = 1); decide), fun z => absurd z c⟩, by show 2 ≤ 4; decide, fun z => absurd z c⟩
    | what p =>
      have e : ∀ b : Bool, ((kindsT.filter fun k => decide (k ≠ sNone) || !b).map V.str).length = if b = true then 3 else 4 := by decide +kernel
      have e2 := e (f.filled p)
      refine ⟨⟨fun z => ?_, fun z => absurd z c⟩, ?_, fun z => absurd z c⟩
      · have z2 : ((kindsT.filter fun k => decide (k ≠ sNone) || !(f.filled p)).map V.str).length = 1 := z
        rw [e2] at z2
        split at z2 <;> omega
      · show ((kindsT.filter fun k => decide (k ≠ sNone) || !(f.filled p)).map V.str).length ≤ 4
        rw [e2]
        split <;> omega
abbrev sTkInit : Stmt := inClass sTaking 0
abbrev sRun : Stmt := inClass sTaking 1
abbrev sSoFar : Stmt := inClass sTaking 2
abbrev sOutcome : Stmt := inClass sTaking 3
abbrev sDoStep : Stmt := inClass sTaking 4
abbrev sSetName : Stmt := inClass sTaking 5
abbrev sTryCases : Stmt := inClass sTaking 6
abbrev sTakePart : Stmt := inClass sTaking 7
abbrev sTakeEntries : Stmt := inClass sTaking 8
abbrev sTakeEntry : Stmt := inClass sTaking 9
abbrev sTakeRest : Stmt := inClass sTaking 10
abbrev sTakeWanted : Stmt := inClass sTaking 11
abbrev sPlaceOfName : Stmt := inClass sTaking 12
abbrev sWorkOut : Stmt := inClass sTaking 13
abbrev sKindAt : Stmt := inClass sTaking 14
abbrev sIsMissing : Stmt := inClass sTaking 15
abbrev sAsk : Stmt := inClass sTaking 16
section
variable {P : Program} {w : World} {K : PySem.W.Frag} {mg : Str → Option Value} {base : Heap} (T : Tc P w K mg base)
/-- a step of a run goes on so, or leaves by an error -/
def Goes {α : Type} (M H : Hp) (o : Nat → Addr) (E : XK) (x : Out α) (k : α → Tst → Hp → Prop) : Prop :=
  Post x (fun a σ' => ∀ H', TkAt T T.S.rep M H' o σ' → TupSt H H' → k a σ' H') (fun n σ' => Gone T.S.CE M E n fun H' => TkAt T T.S.up M H' o σ' ∧ TupSt H H')
def spAsk : Sp := fun vs H Q E => ∃ (o : Nat → Addr) (M : Hp) (σ : Tst) (v : V) (l : Lq), vs = [.ref (o 0), v] ∧ TkAt T T.S.rep M H o σ ∧ LqAt K H v l ∧ (lqP l).ks.length ≤ 100000 ∧
  Goes T M H o E (ask T.S.sem l σ) fun a _ H' => Q a H'
variable {T}
theorem scAsk : FnScope ["self", "look", "answers", "answer"] ["self", "look"] (defScope sAsk) := ⟨rfl, rfl, rfl, by decide +kernel, rfl, by decide +kernel, by decide +kernel⟩
theorem ok_ask {g gA gL : Addr} {gd gdA gdL : FuncData} (F : Fun K "ask" "Taking.ask" sAsk g gd) (Tx : Txt K mg)
    (FA : Fun K "answers" "Facts.answers" sAnswers gA gdA) (GA : FnOk P w K mg base CX0 3 gA gdA ["self", "look"] (spAnswers P w K T.CF)) (bA : L2.Binds K gdA ["self", "look"] []) (mA : Meth K T.CF "answers" gA)
    (FL : Fun K "learn" "Facts.learn" sLearn gL gdL) (GL : FnOk P w K mg base CX0 2 gL gdL ["self", "look", "answer"] (spLearn P w K T.CF)) (bL : L2.Binds K gdL ["self", "look", "answer"] []) (mL : Meth K T.CF "learn" gL) :
    FnOk P w K mg base (L2.CX P w) 10 g gd ["self", "look"] (spAsk T) := by
  refine F.okX scAsk (fun vs H Q E h => ?_) (fun cdv A outer s H vs Q E hr h => ?_)
  · obtain ⟨o, M, σ, v, l, rfl, _⟩ := h
    rfl
  obtain ⟨o, M, σ, v, l, rfl, hT, hv, hl, hG⟩ := h
  have hr3 := hr.mono (show 3 ≤ 9 by decide)
  have hr2 := hr.mono (show 2 ≤ 9 by decide)
  refine ⟨_, pss_cons (ps_set (i := 2) scAsk.nd rfl (Or.inl rfl) (pe_meth (pe_fld (pv 0) rfl) T.cF.cl mA GA hr3 bA .nil pass0 (pa_cons (pv 1) pa_nil)))
    (pss_cons (ps_if (pt_cmpR op_eq (pe_callB call_len_seq (by rfl) Tx.len PySem.boot_len (pa_cons (pv 2) pa_nil)) pe_int (nomark _)) (pss_one (ps_ret (pe_ix ix_list (pv 2) pe_int (fun _ _ => rfl)))) pss_nil)
    (pss_cons (ps_set (i := 3) scAsk.nd rfl (Or.inl rfl) (pe_meth (pe_fld (pv 0) rfl) T.S.cl T.S.mA T.S.GA hr T.S.bA .nil (passes_call (takes_of rfl rfl rfl rfl) fun _ _ _ _ h => h) (pa_cons (pv 1) (pa_cons (pv 2) pa_nil))))
    (pss_cons (ps_expr (pe_meth (pe_fld (pv 0) rfl) T.cF.cl mL GL hr2 bL .nil pass0 (pa_cons (pv 1) (pa_cons (pv 3) pa_nil))))
    (pss_cons (ps_expr (pe_bm PySem.F.plainAttrs_list PySem.F.slot_list_append PySem.F.type_list_append mt_append (pe_fld (pv 0) rfl) (pa_cons (pe_tup (pa_cons (pv 1) (pa_cons (pv 3) pa_nil))) pa_nil)))
    (pss_one (ps_ret (pv 3))))))), ?_⟩
  obtain ⟨dx, fs, vals, hi, hF, hval, hfl⟩ := hT.ct.ins
  obtain ⟨dxf, ffs, hif, hFf⟩ := hT.ct.facts.ins
  have v3 := hval 3 (by decide)
  have look3 : fs.lookup ("facts" : Str) = some (.ref (o 7)) := (hF.look (i := 3) rfl (by decide)).trans (congrArg some v3)
  have look0 : fs.lookup ("source" : Str) = some (.ref T.S.s) := (hF.look (i := 0) rfl (by decide)).trans (congrArg some (hval 0 (by decide)))
  have look6 : fs.lookup ("looks" : Str) = some (.ref (o 3)) := (hF.look (i := 6) rfl (by decide)).trans (congrArg some (hval 6 (by decide)))
  refine ⟨_, rfl, o 0, T.CT, dx, fs, _, rfl, hi, T.cT.cl, T.cT.at_ (i := 3) rfl, look3, o 7, dxf, ffs, rfl, hif, hFf.non _ (by decide +kernel), _, rfl, fun i => o (7 + i), _, _, v, l, rfl, hT.ct.facts, hv, hl, fun al H1 hs1 hal0 hal => ?_⟩
  have hT1 := hT.same T.S.keep hs1
  obtain ⟨n1, n4, nb⟩ := ans_len (fx σ.looks) l
  refine ⟨_, rfl, al, _, rfl, .inl (SqL.of hal), rfl, _, rfl, ?_⟩
  unfold Goes ask at hG
  by_cases c : follows (fx σ.looks) l ≠ .non
  · rw [if_pos c] at hG
    refine ifT (decide_eq_true (by rw [nb c]; rfl)) ⟨_, rfl, al, _, _, _, rfl, rfl, SqL.of hal, by rw [nb c]; exact one_at, ?_⟩
    exact hG H1 hT1 (TupSt.of hs1)
  rw [if_neg c] at hG
  refine ifF (decide_eq_false fun z => c (n1.1 (Int.ofNat.inj (V.int.inj z)))) ?_
  obtain ⟨dxs, sfs, his, hsA, hsN⟩ := T.S.ins _ _ hT1.fr.src
  refine ⟨_, rfl, o 0, T.CT, dx, fs, _, rfl, hs1 _ _ hi, T.cT.cl, T.cT.at_ (i := 0) rfl, look0, T.S.s, dxs, sfs, rfl, his, hsA, _, rfl, _, rfl, v, al, l, σ.looks, rfl, hT1.fr.src, hv.same hs1, hal, ?_⟩
  cases ea : T.S.sem.ans σ.looks l with
  | bad =>
    rw [ea] at hG
    exact hG
  | up n =>
    rw [ea] at hG
    intro d H2 ⟨k2, ts2, hu2⟩ hd hx
    refine hG d H2 ⟨⟨⟨fun b u e => k2 b u (fun z => by rw [hT1.fr.mfree b z] at e; cases e) (hT1.fr.same b u e), hT1.fr.free, hT1.fr.inj, hT1.fr.sub, hT1.fr.mfree, hT1.fr.dis, hu2⟩, hT1.ct.st ts2 fun i hi => ?_⟩, (TupSt.of hs1).trans ts2⟩ (hT1.fr.same.free hd) hx
    obtain ⟨u, e, _⟩ := hT1.ct.kind i hi
    rw [e]
    exact k2 _ _ (hT1.fr.dis i hi) e
  | val x =>
    rw [ea] at hG
    intro H2 k2 ts2 hr2'
    have hG2 : Post (if σ.looks.length < 100000 then Out.ok x { σ with looks := σ.looks ++ [(l, x)] } else .bad) (fun a σ' => ∀ H', TkAt T T.S.rep M H' o σ' → TupSt H H' → Q a H') (fun n σ' => Gone T.S.CE M E n fun H' => TkAt T T.S.up M H' o σ' ∧ TupSt H H') := hG
    have hlen : σ.looks.length < 100000 := by
      by_cases c2 : σ.looks.length < 100000
      · exact c2
      · rw [if_neg c2] at hG2
        exact hG2.elim
    rw [if_pos hlen] at hG2
    have own2 : ∀ i, i < 13 → H2 (o i) = H1 (o i) := fun i hi => by
      obtain ⟨u, e, _⟩ := hT1.ct.kind i hi
      rw [e]
      exact k2 _ _ (hT1.fr.dis i hi) e
    have ct2 : TkCt T H2 o σ := hT1.ct.st ts2 own2
    obtain ⟨dx2, fs2, vals2, hi2, hF2, hval2, hfl2⟩ := ct2.ins
    obtain ⟨dxf2, ffs2, hif2, hFf2⟩ := ct2.facts.ins
    have look3' : fs2.lookup ("facts" : Str) = some (.ref (o 7)) := (hF2.look (i := 3) rfl (by decide)).trans (congrArg some (hval2 3 (by decide)))
    have look6' : fs2.lookup ("looks" : Str) = some (.ref (o 3)) := (hF2.look (i := 6) rfl (by decide)).trans (congrArg some (hval2 6 (by decide)))
    have ts12 := (TupSt.of hs1).trans ts2
    refine ⟨_, rfl, o 0, T.CT, dx2, fs2, _, rfl, hi2, T.cT.cl, T.cT.at_ (i := 3) rfl, look3', o 7, dxf2, ffs2, rfl, hif2, hFf2.non _ (by decide +kernel), _, rfl, _, rfl, fun i => o (7 + i), _, _, v, l, x, rfl, ct2.facts, by omega, hv.st ts12, hl, T.S.okA _ _ _ ea, fun H3 hb3 hf3 => ?_⟩
    have own3 : ∀ i, i < 8 → H3 (o i) = H2 (o i) := fun i hi => by
      obtain ⟨u, e, _⟩ := ct2.kind i (by omega)
      rw [e]
      exact hb3 _ _ (fun j h0 h6 z => absurd (hT.fr.inj i (7 + j) (by omega) (by omega) z) (by omega)) e
    have ob3 : OBut o H2 H3 := OBut.facts hb3
    have ts3 := ob3.tup ct2.kind
    obtain ⟨xs, hxs, hpl⟩ := ct2.looks
    refine ⟨_, rfl, o 0, T.CT, dx2, fs2, _, rfl, (own3 0 (by decide)).trans hi2, T.cT.cl, T.cT.at_ (i := 6) rfl, look6', .inl ⟨rfl, _, SqL.of ((own3 3 (by decide)).trans hxs)⟩, _, rfl, _, rfl, by show 2 ≤ sizeLine; decide, fun t ht => ?_⟩
    have s4 := same_new ht (.tup [v, x])
    refine ⟨o 3, xs, .ref t, rfl, rfl, s4 _ _ ((own3 3 (by decide)).trans hxs), ?_, ?_⟩
    · rw [show xs.length = σ.looks.length from hpl.length]
      exact Nat.lt_of_lt_of_le hlen (by decide)
    have n3t : o 3 ≠ t := (ne_of_none ((own3 3 (by decide)).trans hxs) ht)
    have t3 : (upd H3 t (.tup [v, x])) (o 3) = some (.lst xs) := s4 _ _ ((own3 3 (by decide)).trans hxs)
    have ts5 : TupSt H3 (upd (upd H3 t (.tup [v, x])) (o 3) (.lst (xs ++ [V.ref t]))) := (TupSt.of s4).trans (TupSt.upd t3 (fun _ z => nomatch z) (fun _ _ z => nomatch z))
    have e5 : ∀ i, i < 13 → i ≠ 3 → (upd (upd H3 t (.tup [v, x])) (o 3) (.lst (xs ++ [V.ref t]))) (o i) = H3 (o i) := fun i hi ni => by
      rw [upd_ne fun z => ni (hT.fr.inj i 3 hi (by decide) z)]
      by_cases c7 : i < 8
      · obtain ⟨u, e, _⟩ := ct2.kind i hi
        rw [upd_ne (ne_of_none ((own3 i c7).trans e) ht)]
      · obtain ⟨j, rfl⟩ : ∃ j, i = 7 + (j + 1) := ⟨i - 8, by omega⟩
        obtain ⟨φ, e⟩ := (hf3.ds j (by omega)).ext
        rw [upd_ne (ne_of_none e ht)]
    have ob5 : OBut o H3 (upd (upd H3 t (.tup [v, x])) (o 3) (.lst (xs ++ [V.ref t]))) := (OBut.same s4).trans (OBut.upd (by decide))
    have tsA := (ts12.trans ts3).trans ts5
    refine ⟨_, rfl, hG2 _ ⟨⟨fun b u e => ?_, hT.fr.free, hT.fr.inj, hT.fr.sub, hT.fr.mfree, hT.fr.dis, ?_⟩, ⟨⟨dx2, fs2, vals2, (e5 0 (by decide) (by decide)).trans ((own3 0 (by decide)).trans hi2), hF2, hval2, hfl2.st (ts3.trans ts5)⟩, ?_, ?_, ?_, ?_, ?_, ?_, ?_⟩⟩ tsA⟩
    · exact (ob3.trans ob5) b u (fun i hi z => by rw [z, hT.fr.free i hi] at e; cases e) (k2 b u (fun z => by rw [hT1.fr.mfree b z] at e; cases e) (hT1.fr.same b u e))
    · refine T.S.keep _ _ _ hr2' fun b u c e => (ob3.trans ob5) b u (fun i hi z => ?_) e
      rcases c with c | c
      · cases e2 : T.S.M0 b with
        | none => exact c e2
        | some q =>
          have e3 := hT.fr.sub b q e2
          rw [z, hT.fr.free i hi] at e3
          cases e3
      · exact hT.fr.dis i hi (z ▸ c)
    · exact ct2.held.st (ts3.trans ts5) ((e5 1 (by decide) (by decide)).trans (own3 1 (by decide)))
    · exact ct2.made.st (ts3.trans ts5) ((e5 2 (by decide) (by decide)).trans (own3 2 (by decide)))
    · refine ⟨_, upd_same, Paired.snoc (Paired.mapP hpl fun _ _ z => z.st (ts3.trans ts5)) ⟨t, v, rfl, SqT.of ?_, hv.st tsA⟩⟩
      rw [upd_ne n3t.symm]
      exact upd_same
    · exact (e5 4 (by decide) (by decide)).trans ((own3 4 (by decide)).trans ct2.missed)
    · exact (e5 5 (by decide) (by decide)).trans ((own3 5 (by decide)).trans ct2.begun)
    · exact (e5 6 (by decide) (by decide)).trans ((own3 6 (by decide)).trans ct2.taken)
    · have h6 := hf3.st ts5 fun i hi => e5 (7 + i) (by omega) (by omega)
      show FxAt P w K T.CF _ (fun i => o (7 + i)) (σ.looks ++ [(l, x)]).length (fx (σ.looks ++ [(l, x)]))
      rw [fx_snoc, List.length_append]
      exact h6
end
end K02
set_option Elab.async false
set_option linter.all false
set_option maxRecDepth 100000
set_option maxHeartbeats 4000000
namespace K02
open PySem L2 PyProof.Rows
/-! ### what the looks of a part are made of -/
def askB (S : Sem) (l : Lq) (σ : Tst) : Out V := if (lqP l).ks.length ≤ 1000 then ask S l σ else .bad
def kindAt (S : Sem) (p : Pc) (σ : Tst) : Out V := match p with
  | .known _ => .ok (.str (Str.ofString "integer")) σ
  | .step => .bad
  | p => askB S (.what (pcB p)) σ
def outOf : Pc → Ky → Bool
  | .others _ zs, .fd z => decide (z ∈ zs)
  | _, _ => false
def okInB : Pc → Ky → Bool
  | .at _, _ => true
  | .items _ _, .ix _ => true
  | .others _ _, _ => true
  | _, _ => false
theorem okInB_ok {p : Pc} {k : Ky} (h : okInB p k = true) : okIn p k := by
  cases p <;> cases k <;> first | trivial | cases h
def missing (S : Sem) (noth : Bool) (p : Pc) (k : Ky) (dflt : Bool) (σ : Tst) : Out V :=
  if okInB p k = true ∧ (pcB p).ks.length ≤ 900 then
    if outOf p k = true then .ok (.bl true) σ else (askB S (.has (pcB p) (kyIn p k)) σ).bind fun v σ1 =>
      if v = .bl true then (if noth = true ∧ dflt = true then askB S (.none (pcIn p k)) σ1 else .ok (.bl false) σ1) else .ok (.bl true) σ1
  else .bad
def getH (h : List (Str × Pc)) (z : Str) : Option Pc := (h.find? fun q => decide (q.1 = z)).map (·.2)
def putH (h : List (Str × Pc)) (z : Str) (p : Pc) : List (Str × Pc) := if (h.any fun q => decide (q.1 = z)) = true then h.map (fun q => if q.1 = z then (q.1, p) else q) else h ++ [(z, p)]
def insM {α : Type} [DecidableEq α] (l : List α) (x : α) : List α := if x ∈ l then l else l ++ [x]
section
variable {K : PySem.W.Frag} {H : Hp}
abbrev HR (K : PySem.W.Frag) (H : Hp) : List (Key × V) → List (Str × Pc) → Prop := Paired fun (p : Key × V) (q : Str × Pc) => p.1 = Sum.inr q.1 ∧ PcAt K H p.2 q.2
theorem HR.get {kvs : List (Key × V)} {hs : List (Str × Pc)} (h : HR K H kvs hs) (z : Str) : (getH hs z = none → valV kvs (.inr z) = none) ∧ ∀ p, getH hs z = some p → ∃ v, valV kvs (.inr z) = some v ∧ PcAt K H v p := by
  induction h with
  | nil => exact ⟨fun _ => rfl, fun p e => by cases e⟩
  | @cons q r qs rs h t ih =>
    obtain ⟨h1, h2⟩ := h
    by_cases e : r.1 = z
    · have g : getH (r :: rs) z = some r.2 := by simp [getH, List.find?_cons, e]
      rw [g, valV_pos (by rw [h1, e])]
      exact ⟨(fun z => by cases z), fun p ep => ⟨_, rfl, (Option.some.inj ep) ▸ h2⟩⟩
    · have g : getH (r :: rs) z = getH rs z := by simp [getH, List.find?_cons, e]
      rw [g, valV_neg (by rw [h1]; exact fun y => e (Sum.inr.inj y))]
      exact ih
theorem HR.any {kvs : List (Key × V)} {hs : List (Str × Pc)} (h : HR K H kvs hs) (z : Str) : (kvs.any fun kv => decide (kv.1 = Sum.inr z)) = hs.any fun q => decide (q.1 = z) := by
  induction h with
  | nil => rfl
  | @cons q r qs rs h t ih =>
    rw [List.any_cons, List.any_cons, ih, h.1]
    congr 1
    exact decide_eq_decide.mpr ⟨fun y => Sum.inr.inj y, fun y => by rw [y]⟩
theorem HR.repl {kvs : List (Key × V)} {hs : List (Str × Pc)} (h : HR K H kvs hs) (z : Str) {v : V} {p : Pc} (hv : PcAt K H v p) : HR K H (kvs.map fun kv => if kv.1 = Sum.inr z then (kv.1, v) else kv) (hs.map fun q => if q.1 = z then (q.1, p) else q) := by
  induction h with
  | nil => exact .nil
  | @cons q r qs rs h t ih =>
    rw [List.map_cons, List.map_cons]
    refine .cons ?_ ih
    by_cases e : r.1 = z
    · rw [if_pos e, if_pos (by rw [h.1, e])]
      exact ⟨h.1, hv⟩
    · rw [if_neg e, if_neg (by rw [h.1]; exact fun y => e (Sum.inr.inj y))]
      exact h
theorem HR.put {kvs : List (Key × V)} {hs : List (Str × Pc)} (h : HR K H kvs hs) (z : Str) {v : V} {p : Pc} (hv : PcAt K H v p) : HR K H (putK kvs (.inr z) v) (putH hs z p) := by
  unfold putK putH
  rw [h.any z]
  split
  · exact h.repl z hv
  · exact Paired.snoc h ⟨rfl, hv⟩
end
theorem trues_put {α : Type} [DecidableEq α] (f : α → Key) (hf : ∀ a b, f a = f b → a = b) (l : List α) (x : α) : putK (l.map fun z => (f z, V.bl true)) (f x) (V.bl true) = (insM l x).map fun z => (f z, V.bl true) := by
  unfold putK insM
  have e : ((l.map fun z => (f z, V.bl true)).any fun kv => decide (kv.1 = f x)) = decide (x ∈ l) := by
    induction l with
    | nil => simp
    | cons y ys ih =>
      rw [List.map_cons, List.any_cons, ih]
      by_cases c : y = x
      · subst c
        simp
      · have c1 : ¬ f y = f x := fun z => c (hf _ _ z)
        have c2 : ¬ x = y := fun z => c z.symm
        simp [c1, c2]
  rw [e]
  by_cases c : x ∈ l
  · rw [decide_eq_true c, if_pos rfl, if_pos c]
    have go : ∀ m : List α, (m.map fun z => (f z, V.bl true)).map (fun kv => if kv.1 = f x then (kv.1, V.bl true) else kv) = m.map fun z => (f z, V.bl true) := by
      intro m
      rw [List.map_map]
      refine List.map_congr_left fun z _ => ?_
      show (if f z = f x then (f z, V.bl true) else (f z, V.bl true)) = _
      split <;> rfl
    exact go l
  · rw [decide_eq_false c, if_neg (fun z => nomatch z), if_neg c, List.map_append]
    rfl
section
variable {P : Program} {w : World} {K : PySem.W.Frag} {mg : Str → Option Value} {base : Heap} {T : Tc P w K mg base}
section
variable {M H H1 : Hp} {o : Nat → Addr} {σ : Tst} {E : XK}
theorem Goes.later {α : Type} {x : Out α} {k : α → Tst → Hp → Prop} (h : Goes T M H o E x k) (s : TupSt H H1) : Goes T M H1 o E x k :=
  Post.mono h (fun a σ' q H' t ts => q H' t (s.trans ts)) fun n σ' q d H' r => q d H' ⟨r.1, s.trans r.2⟩
theorem Goes.of_bind {α β : Type} {x : Out α} {f : α → Tst → Out β} {k : β → Tst → Hp → Prop} (h : Goes T M H o E (x.bind f) k) :
    Goes T M H o E x fun a σ' H' => TkAt T T.S.rep M H' o σ' ∧ TupSt H H' ∧ Goes T M H' o E (f a σ') k :=
  Post.mono (Post.of_bind h) (fun a σ' q H' t ts => ⟨t, ts, Goes.later q ts⟩) fun n σ' q => q
/-- .. with more taken along -/
theorem Goes.around {α : Type} {x : Out α} {k : α → Tst → Hp → Prop} {M' : Hp} (h : Goes T M H o E x k) (s : Same M M') (h0 : Same T.S.M0 M) : Goes T M' H o E x fun a σ' H' => TkAt T T.S.rep M' H' o σ' ∧ k a σ' H' :=
  Post.mono h (fun a σ' q H' t ts => ⟨t, q H' (t.weak s h0) ts⟩) fun n σ' q d H' r hd hx => q d H' ⟨r.1.weak s h0, r.2⟩ (s.free hd) hx
theorem Goes.mono {α : Type} {x : Out α} {k k' : α → Tst → Hp → Prop} (h : Goes T M H o E x k) (hk : ∀ a σ' H', TkAt T T.S.rep M H' o σ' → TupSt H H' → k a σ' H' → k' a σ' H') : Goes T M H o E x k' :=
  Post.mono h (fun a σ' q H' t ts => hk a σ' H' t ts (q H' t ts)) fun n σ' q => q
theorem Goes.done {α : Type} {a : α} {k : α → Tst → Hp → Prop} (h : Goes T M H o E (.ok a σ) k) (t : TkAt T T.S.rep M H o σ) : k a σ H := h H t ⟨fun _ _ e => e, fun _ _ _ e => e⟩
end
def spKindAt (T : Tc P w K mg base) : Sp := fun vs H Q E => ∃ (o : Nat → Addr) (M : Hp) (σ : Tst) (v : V) (p : Pc), vs = [.ref (o 0), v] ∧ TkAt T T.S.rep M H o σ ∧ PcAt K H v p ∧ Goes T M H o E (kindAt T.S.sem p σ) fun a _ H' => Q a H'
theorem scKa : FnScope ["self", "place"] ["self", "place"] (defScope sKindAt) := ⟨rfl, rfl, rfl, by decide +kernel, rfl, by decide +kernel, by decide +kernel⟩
theorem askB_to {M H : Hp} {o : Nat → Addr} {E : XK} {l : Lq} {σ : Tst} {k : V → Tst → Hp → Prop} (h : Goes T M H o E (askB T.S.sem l σ) k) : (lqP l).ks.length ≤ 1000 ∧ Goes T M H o E (ask T.S.sem l σ) k := by
  unfold askB at h
  by_cases c : (lqP l).ks.length ≤ 1000
  · rw [if_pos c] at h
    exact ⟨c, h⟩
  · rw [if_neg c] at h
    exact False.elim h
theorem ok_kindat {g gA : Addr} {gd gdA : FuncData} (F : Fun K "kind_at" "Taking.kind_at" sKindAt g gd)
    (FA : Fun K "ask" "Taking.ask" sAsk gA gdA) (GA : FnOk P w K mg base (L2.CX P w) 10 gA gdA ["self", "look"] (spAsk T)) (bA : L2.Binds K gdA ["self", "look"] []) (mA : Meth K T.CT "ask" gA) :
    FnOk P w K mg base (L2.CX P w) 11 g gd ["self", "place"] (spKindAt T) := by
  refine F.okX scKa (fun vs H Q E h => ?_) (fun cdv A outer s H vs Q E hr h => ?_)
  · obtain ⟨o, M, σ, v, p, rfl, _⟩ := h
    rfl
  obtain ⟨o, M, σ, v, p, rfl, hT, hp, hG⟩ := h
  refine ⟨_, pss_cons (ps_if (pt_cmpR op_eq (pe_ix ix_tup (pv 1) pe_int (fun _ _ => rfl)) pe_str (nomark _)) (pss_one (ps_ret pe_str)) pss_nil)
    (pss_one (ps_ret (pe_meth (pv 0) T.cT.cl mA GA hr bA .nil (passes_call (takes_of rfl rfl rfl rfl) fun _ _ _ _ h => h) (pa_cons (pe_tup (pa_cons pe_str (pa_cons (pe_ix ix_tup (pv 1) pe_int (fun _ _ => rfl)) pa_nil))) pa_nil)))), ?_⟩
  obtain ⟨dx, fs, vals, hi, hF, hval, hfl⟩ := hT.ct.ins
  by_cases kn : ∃ x, p = .known x
  · obtain ⟨x, rfl⟩ := kn
    obtain ⟨a, rfl, ha⟩ := hp
    exact ⟨_, rfl, a, _, 0, _, rfl, rfl, ha, atI_nat (j := 0) rfl, rfl, _, rfl, ifT (decide_eq_true rfl) (hG.done hT)⟩
  have fin : p.isB = true ∧ kindAt T.S.sem p σ = askB T.S.sem (.what (pcB p)) σ ∧ Str.ofString (pcW p) ≠ Str.ofString "known" := by
    cases p with
    | known x => exact absurd ⟨x, rfl⟩ kn
    | step => exact False.elim hG
    | «at» q => exact ⟨rfl, rfl, by show Str.ofString "at" ≠ _; decide⟩
    | items q n => exact ⟨rfl, rfl, by show Str.ofString "items" ≠ _; decide⟩
    | others q zs => exact ⟨rfl, rfl, by show Str.ofString "others" ≠ _; decide⟩
  obtain ⟨hb, e, nk⟩ := fin
  rw [e] at hG
  obtain ⟨hl, hG⟩ := askB_to hG
  obtain ⟨a, b, xs, rfl, ha, hpth⟩ := hp.base hb
  refine ⟨_, rfl, a, _, 0, _, rfl, rfl, ha, atI_nat (j := 0) rfl, rfl, _, rfl, ifF (so_ne nk) ?_⟩
  refine ⟨_, rfl, _, dx, fs, rfl, hi, hF.non _ (by decide +kernel), _, rfl, a, _, 1, _, rfl, rfl, ha, atI_nat (j := 1) rfl, by show 2 ≤ sizeLine; decide, fun t ht => ?_⟩
  have s1 := same_new ht (.tup [V.str (Str.ofString "what"), V.ref b])
  exact ⟨o, M, σ, _, .what (pcB p), rfl, hT.same T.S.keep s1, ⟨t, b, rfl, SqT.of upd_same, hpth.same s1⟩, Nat.le_trans hl (by decide), hG.later (TupSt.of s1)⟩
end
end K02
set_option Elab.async false
set_option linter.all false
set_option maxRecDepth 100000
set_option maxHeartbeats 4000000
namespace K02
open PySem L2 PyProof.Rows
theorem sIx_neg1 (n d : Nat) : HT.sIx (n + 1) d (some (-1)) = n := by
  show (if (-1 : Int) < 0 then ((-1 : Int) + ((n + 1 : Nat) : Int)).toNat else min (-1 : Int).toNat (n + 1)) = n
  rw [if_pos (by decide)]
  omega
theorem cut_last (xs : List V) (v : V) : cutV (xs ++ [v]) none (some (-1)) = xs := by
  unfold cutV
  rw [HT.sIx_none, List.length_append, show [v].length = 1 from rfl, sIx_neg1]
  simp
theorem cut_last_not (xs : List V) (v : V) : ¬ (HT.sIx (xs ++ [v]).length 0 none = 0 ∧ HT.sIx (xs ++ [v]).length (xs ++ [v]).length (some (-1)) = (xs ++ [v]).length) := by
  rw [List.length_append, show [v].length = 1 from rfl, sIx_neg1]
  intro z
  omega
theorem inV_strs (z : Str) (zs : List Str) : inV (.str z) (zs.map V.str) = decide (z ∈ zs) := by
  unfold inV
  induction zs with
  | nil => rfl
  | cons y ys ih =>
    rw [List.map_cons, List.any_cons, ih]
    have e : eqV (.str y) (.str z) = decide (y = z) := by
      show (y == z) = _
      by_cases c : y = z
      · rw [decide_eq_true c, c]
        exact beq_self_eq_true z
      · rw [decide_eq_false c]
        exact beq_eq_false_iff_ne.mpr c
    rw [e]
    by_cases c : y = z
    · simp [c]
    · have c2 : ¬ z = y := fun w => c w.symm
      simp [c, c2]
theorem inV_int (i : Int) (zs : List Str) : inV (.int i) (zs.map V.str) = false := by
  unfold inV
  induction zs with
  | nil => rfl
  | cons y ys ih =>
    rw [List.map_cons, List.any_cons, ih]
    rfl
theorem flat_strs (zs : List Str) : (zs.map V.str).all flatV = true := by
  rw [List.all_eq_true]
  intro x hx
  obtain ⟨z, _, rfl⟩ := List.mem_map.mp hx
  rfl
theorem okAn_follows {f : Fx} {l : Lq} (h : follows f l ≠ .non) : okAn l (follows f l) := by
  cases l with
  | what p =>
    have e : follows f (.what p) = ((f.kinds p).map V.str).getD .non := rfl
    rw [e] at h ⊢
    cases q : f.kinds p with
    | none =>
      rw [q] at h
      exact absurd rfl h
    | some z => exact ⟨z, rfl⟩
  | none p =>
    have e : follows f (.none p) = match f.kinds p with
      | some s => .bl (decide (s = sNone))
      | none => if f.filled p = true then .bl false else .non := rfl
    rw [e] at h ⊢
    cases q : f.kinds p with
    | some z => exact ⟨_, rfl⟩
    | none =>
      rw [q] at h
      show ∃ b, (if f.filled p = true then V.bl false else .non) = .bl b
      by_cases c : f.filled p = true
      · exact ⟨false, if_pos c⟩
      · exact absurd (if_neg c) h
  | has p k =>
    cases k with
    | fd z =>
      have e : follows f (.has p (.fd z)) = ((f.fields (p.push (.fd z))).map V.bl).getD .non := rfl
      rw [e] at h ⊢
      cases q : f.fields (p.push (.fd z)) with
      | none =>
        rw [q] at h
        exact absurd rfl h
      | some b => exact ⟨b, rfl⟩
    | ix i =>
      have e : follows f (.has p (.ix i)) = if i < (f.least p).getD 0 then .bl true else match f.most p with
        | some m => if m ≤ i then .bl false else .non
        | none => .non := rfl
      rw [e] at h ⊢
      by_cases c : i < (f.least p).getD 0
      · rw [if_pos c]
        exact ⟨true, rfl⟩
      · rw [if_neg c] at h ⊢
        cases q : f.most p with
        | none =>
          rw [q] at h
          exact absurd rfl h
        | some m =>
          rw [q] at h
          show ∃ b, (if m ≤ i then V.bl false else .non) = .bl b
          by_cases d : m ≤ i
          · exact ⟨false, if_pos d⟩
          · exact absurd (if_neg d) h
section
variable {P : Program} {w : World} {K : PySem.W.Frag} {mg : Str → Option Value} {base : Heap} {T : Tc P w K mg base}
theorem ask_okAn {S : Src P w K mg base} {l : Lq} {σ σ' : Tst} {v : V} (h : ask S.sem l σ = .ok v σ') : okAn l v := by
  unfold ask at h
  by_cases c : follows (fx σ.looks) l ≠ .non
  · rw [if_pos c] at h
    cases h
    exact okAn_follows c
  · rw [if_neg c] at h
    cases ea : S.sem.ans σ.looks l with
    | val x =>
      rw [ea] at h
      have h2 : (if σ.looks.length < 100000 then Out.ok x { σ with looks := σ.looks ++ [(l, x)] } else .bad) = .ok v σ' := h
      by_cases d : σ.looks.length < 100000
      · rw [if_pos d] at h2
        cases h2
        exact S.okA _ _ _ ea
      · rw [if_neg d] at h2
        cases h2
    | up n =>
      rw [ea] at h
      cases h
    | bad =>
      rw [ea] at h
      cases h
theorem Goes.also {α : Type} {M H : Hp} {o : Nat → Addr} {E : XK} {x : Out α} {k : α → Tst → Hp → Prop} {R : α → Prop} (h : Goes T M H o E x k) (hR : ∀ a σ, x = .ok a σ → R a) : Goes T M H o E x fun a σ H' => R a ∧ k a σ H' := by
  cases x with
  | ok a σ => exact fun H' t ts => ⟨hR a σ rfl, h H' t ts⟩
  | up n σ => exact h
  | bad => exact h
def spMissing (T : Tc P w K mg base) : Sp := fun vs H Q E => ∃ (o : Nat → Addr) (M : Hp) (σ : Tst) (e : Addr) (v pv dv : V) (p : Pc) (k : Ky), vs = [.ref (o 0), .ref e, v] ∧ TkAt T T.S.rep M H o σ ∧ SqT K H e [k.v, pv, dv] ∧ PcAt K H v p ∧
  Goes T M H o E (missing T.S.sem T.noth p k (!decide (dv = .non)) σ) fun a _ H' => (∃ b, a = .bl b) ∧ Q a H'
theorem scMi : FnScope ["self", "entry", "place", "key", "_", "default", "path"] ["self", "entry", "place"] (defScope sIsMissing) := ⟨rfl, rfl, rfl, by decide +kernel, rfl, by decide +kernel, by decide +kernel⟩
theorem ok_missing {g gA gP : Addr} {gd gdA gdP : FuncData} (F : Fun K "is_missing" "Taking.is_missing" sIsMissing g gd)
    (FA : Fun K "ask" "Taking.ask" sAsk gA gdA) (GA : FnOk P w K mg base (L2.CX P w) 10 gA gdA ["self", "look"] (spAsk T)) (bA : L2.Binds K gdA ["self", "look"] []) (mA : Meth K T.CT "ask" gA)
    (FP : Fun K "inner_path" "inner_path" sInPath gP gdP) (GP : FnOk P w K mg base CX0 1 gP gdP ["place", "key"] (spInPath K)) (bP : L2.Binds K gdP ["place", "key"] []) (mP : mg "inner_path" = some (.ref gP)) :
    FnOk P w K mg base (L2.CX P w) 11 g gd ["self", "entry", "place"] (spMissing T) := by
  refine F.okX scMi (fun vs H Q E h => ?_) (fun cdv A outer s H vs Q E hr h => ?_)
  · obtain ⟨o, M, σ, e, v, pv, dv, p, k, rfl, _⟩ := h
    rfl
  obtain ⟨o, M, σ, e, v, pv0, dv, p, k, rfl, hT, he, hp, hG⟩ := h
  have hr1 := hr.mono (show 1 ≤ 10 by decide)
  refine ⟨_, pss_cons (ps_asg (pv 1) (pg_tup rfl (pgs_cons (pg_name (i := 3) scMi.nd rfl (Or.inl rfl)) (pgs_cons (pg_name (i := 4) scMi.nd rfl (Or.inl rfl)) (pgs_cons (pg_name (i := 5) scMi.nd rfl (Or.inl rfl)) pgs_nil)))))
    (Evl.pss_cut (ps_if (PW.pt (pw_and (pt_cmpR op_eq (pe_ix ix_tup (pv 2) pe_int (fun _ _ => rfl)) pe_str (nomark _)) (pw_and1 (pt_cmpR op_in_seq (pv 3) (pe_ix ix_tup (pv 2) pe_int (fun _ _ => rfl)) (by rfl))))) (pss_one (ps_ret pe_bl)) pss_nil)
    (pss_cons (ps_set (i := 6) scMi.nd rfl (Or.inl rfl) (pe_call GP hr1 rfl mP FP.kp bP .nil pass0 (pa_cons (pv 2) (pa_cons (pv 3) pa_nil))))
    (pss_cons (ps_if (pt_not (pt_val (pe_meth (pv 0) T.cT.cl mA GA hr bA .nil (passes_call (takes_of rfl rfl rfl rfl) fun _ _ _ _ h => h) (pa_cons (pe_tup (pa_cons pe_str (pa_cons (pe_slice sl_tup (pv 6) po_none (po_some (pe_un un_neg pe_int))) (pa_cons (pe_ix ix_tup (pv 6) (pe_un un_neg pe_int) (fun _ _ => rfl)) pa_nil)))) pa_nil)))) (pss_one (ps_ret pe_bl)) pss_nil)
    (pss_one (ps_ret (pe_and (pe_fld (pv 0) rfl) (pe_and (pe_cmpR op_notN (pv 5) pe_non (nomark _)) (pe_one (pe_meth (pv 0) T.cT.cl mA GA hr bA .nil (passes_call (takes_of rfl rfl rfl rfl) fun _ _ _ _ h => h) (pa_cons (pe_tup (pa_cons pe_str (pa_cons (pv 6) pa_nil))) pa_nil)))))))))), ?_⟩
  unfold missing at hG
  have c0 : okInB p k = true ∧ (pcB p).ks.length ≤ 900 := by
    by_cases c : okInB p k = true ∧ (pcB p).ks.length ≤ 900
    · exact c
    · rw [if_neg c] at hG
      exact False.elim hG
  rw [if_pos c0] at hG
  have hok := okInB_ok c0.1
  obtain ⟨a0, b0, xs0, rfl, ha0, hpth0⟩ := hp.base hok.isB
  refine ⟨_, rfl, e, _, rfl, he, rfl, _, _, rfl, _, _, rfl, _, _, rfl, rfl, ?_⟩
  refine ⟨fun σ' H' => H' = H ∧ outOf p k = false ∧ σ' = [some (.ref (o 0)), some (.ref e), some (.ref a0), some k.v, some pv0, some dv, none], ?_, ?_⟩
  · refine ⟨_, rfl, a0, _, 0, _, rfl, rfl, ha0, atI_nat (j := 0) rfl, rfl, _, rfl, ?_⟩
    by_cases ot : ∃ q zs, p = .others q zs
    · obtain ⟨q, zs, rfl⟩ := ot
      obtain ⟨a1, b1, c1, e1, ha1, hb1, hc1⟩ := id hp
      cases e1
      refine ifT (decide_eq_true rfl) ⟨_, rfl, _, rfl, a0, _, 2, _, rfl, rfl, ha1, atI_nat (j := 2) rfl, c1, _, rfl, .inr hc1, ?_, flat_strs zs, _, rfl, ?_⟩
      · cases k <;> rfl
      cases k with
      | ix i => exact ifF (inV_int _ _) ⟨rfl, rfl, rfl⟩
      | fd z =>
        show if inV (.str z) (zs.map V.str) = true then _ else _
        rw [inV_strs]
        by_cases cz : z ∈ zs
        · refine ifT (decide_eq_true cz) ?_
          have ot : outOf (.others q zs) (.fd z) = true := decide_eq_true cz
          rw [ot, if_pos rfl] at hG
          exact (hG.done hT).2
        · exact ifF (decide_eq_false cz) ⟨rfl, decide_eq_false cz, rfl⟩
    · have nw : Str.ofString (pcW p) ≠ Str.ofString "others" ∧ outOf p k = false := by
        cases p with
        | others q zs => exact absurd ⟨q, zs, rfl⟩ ot
        | «at» q => exact ⟨by show Str.ofString "at" ≠ _; decide, rfl⟩
        | items q n => exact ⟨by show Str.ofString "items" ≠ _; decide, rfl⟩
        | known x => exact hok.elim
        | step => exact hok.elim
      exact ifF (so_ne nw.1) (iteF ⟨rfl, nw.2, rfl⟩)
  rintro _ H0 ⟨rfl, ho, rfl⟩
  rw [ho, if_neg (fun z => nomatch z)] at hG
  refine ⟨_, rfl, _, rfl, .ref a0, p, k, rfl, hp, hok, Nat.le_trans c0.2 (by decide), fun q H1 hs1 hq => ?_⟩
  have hq2 : SqT K H1 q (pvs (pcB p) ++ [(kyIn p k).v]) := by
    have := hq
    unfold PthAt pcIn at this
    rw [pvs_push] at this
    exact this
  obtain ⟨dx, fs, vals, hi, hF, hval, hfl⟩ := hT.ct.ins
  have hT1 := hT.same T.S.keep hs1
  have hG1 := hG.of_bind.later (TupSt.of hs1)
  obtain ⟨hl1, hA1⟩ := askB_to hG1
  have hA2 := hA1.also (R := okAn (.has (pcB p) (kyIn p k))) fun a σ' e => ask_okAn (S := T.S) e
  refine ⟨_, rfl, _, dx, fs, rfl, hs1 _ _ hi, hF.non _ (by decide +kernel), _, rfl, _, rfl, _, rfl, q, _, rfl, hq2, cut_last_not _ _, fun t1 ht1 => ?_⟩
  rw [cut_last]
  have s1 := same_new ht1 (.tup (pvs (pcB p)))
  refine ⟨_, rfl, _, rfl, q, _, _, _, rfl, rfl, SqT.same hq2 s1, atI_last _ _, by show 3 ≤ sizeLine; decide, fun t2 ht2 => ?_⟩
  have s2 := same_new ht2 (.tup [V.str (Str.ofString "has"), .ref t1, (kyIn p k).v])
  refine ⟨o, M, σ, _, .has (pcB p) (kyIn p k), rfl, (hT1.same T.S.keep s1).same T.S.keep s2, ⟨t2, t1, rfl, SqT.of upd_same, SqT.of (s2 _ _ upd_same)⟩, Nat.le_trans hl1 (by decide), ?_⟩
  refine (hA2.later (TupSt.of (s1.trans s2))).mono fun a σ1 H3 _ ts3 ⟨⟨c, ec⟩, hT3, ts13, hG3⟩ => ?_
  subst ec
  refine ⟨c, rfl, ?_⟩
  have hq3 := SqT.st (SqT.same hq2 (s1.trans s2)) ts3
  obtain ⟨dx3, fs3, vals3, hi3, hF3, hval3, hfl3⟩ := hT3.ct.ins
  cases c with
  | false =>
    rw [if_neg (fun z => by cases V.bl.inj z)] at hG3
    exact ifT rfl (hG3.done hT3).2
  | true =>
    rw [if_pos rfl] at hG3
    refine ifF rfl ⟨_, rfl, o 0, T.CT, dx3, fs3, _, rfl, hi3, T.cT.cl, T.cT.at_ (i := 2) rfl, (hF3.look (i := 2) rfl (by decide)).trans (congrArg some (hval3 2 (by decide))), T.noth, rfl, ?_⟩
    cases hn : T.noth with
    | false =>
      rw [hn, if_neg (fun z => nomatch z.1)] at hG3
      exact iteF (hG3.done hT3).2
    | true =>
      refine iteT ⟨_, rfl, rfl, _, rfl, ?_⟩
      by_cases hd : dv = .non
      · rw [if_neg (fun z => by rw [decide_eq_true hd] at z; cases z.2)] at hG3
        refine ifF (by rw [decide_eq_true hd]; rfl) (hG3.done hT3).2
      · rw [if_pos ⟨hn, by rw [decide_eq_false hd]; rfl⟩] at hG3
        refine ifT (by rw [decide_eq_false hd]; rfl) ?_
        obtain ⟨hl4, hA4⟩ := askB_to hG3
        refine ⟨_, rfl, _, dx3, fs3, rfl, hi3, hF3.non _ (by decide +kernel), _, rfl, by show 2 ≤ sizeLine; decide, fun t4 ht4 => ?_⟩
        have s4 := same_new ht4 (.tup [V.str (Str.ofString "none"), .ref q])
        have hq4 : PthAt K H3 q (pcIn p k) := by
          unfold PthAt pcIn
          rw [pvs_push]
          exact hq3
        exact ⟨o, M, σ1, _, .none (pcIn p k), rfl, hT3.same T.S.keep s4, ⟨t4, q, rfl, SqT.of upd_same, hq4.same s4⟩, Nat.le_trans hl4 (by decide), (hA4.later (TupSt.of s4)).mono fun a σ2 H5 _ _ h => h.2⟩
end
end K02
set_option Elab.async false
set_option linter.all false
set_option maxRecDepth 100000
set_option maxHeartbeats 4000000
namespace K02
open PySem L2 PyProof.Rows
/-! ### terms, worked out -/
inductive ShT where
  | num (x : V)
  | read (z : Str)
  | nbd (i : Int) (t : D)
  | call (z : Str) (ts : List D)
  | bad
def parseT : D → ShT
  | .tup [.leaf (.str s), .leaf x] => if s = Str.ofString "number" then .num x else if s = Str.ofString "read" then (match x with | .str z => .read z | _ => .bad) else .bad
  | .tup [.leaf (.str s), .leaf (.int i), t] => if s = Str.ofString "numbered" then .nbd i t else .bad
  | .tup [.leaf (.str s), .leaf (.str z), .lst ts] => if s = Str.ofString "call" then .call z ts else .bad
  | _ => .bad
def isT (d : D) : ShT → Prop
  | .num x => d = .tup [S "number", .leaf x]
  | .read z => d = .tup [S "read", .leaf (.str z)]
  | .nbd i t => d = .tup [S "numbered", .leaf (.int i), t]
  | .call z ts => d = .tup [S "call", .leaf (.str z), .lst ts]
  | .bad => True
theorem parseT_inv (d : D) : isT d (parseT d) := by
  unfold parseT
  split
  · next s x =>
    by_cases c : s = Str.ofString "number"
    · rw [if_pos c, c]
      rfl
    · rw [if_neg c]
      by_cases c2 : s = Str.ofString "read"
      · rw [if_pos c2, c2]
        cases x <;> first | trivial | rfl
      · rw [if_neg c2]
        trivial
  · next s i t =>
    by_cases c : s = Str.ofString "numbered"
    · rw [if_pos c, c]
      rfl
    · rw [if_neg c]
      trivial
  · next s z ts =>
    by_cases c : s = Str.ofString "call"
    · rw [if_pos c, c]
      rfl
    · rw [if_neg c]
      trivial
  · trivial
def workAll (f : D → Tst → Out (Pc ⊕ Str)) : List D → List Pc → Tst → Out (List Pc ⊕ Str)
  | [], ps, σ => .ok (.inl ps) σ
  | t :: ts, ps, σ => (f t σ).bind fun g σ1 => match g with
    | .inr z => .ok (.inr z) σ1
    | .inl p => workAll f ts (ps ++ [p]) σ1
def callIt (S : Sem) (z : Str) (ps : List Pc) (σ : Tst) : Out (Pc ⊕ Str) := match S.call σ.looks σ.made.length with
  | some m => .up m σ
  | none => if σ.made.length < 100000 then .ok (.inl (.at ⟨some σ.made.length, []⟩)) { σ with made := σ.made ++ [(z, ps)] } else .bad
def workOut (S : Sem) : Nat → D → Tst → Out (Pc ⊕ Str)
  | 0, _, _ => .bad
  | m + 1, d, σ => match parseT d with
    | .num x => .ok (.inl (.known x)) σ
    | .read z => match getH σ.held z with
      | some p => .ok (.inl p) σ
      | none => if σ.missed.length < 100000 then .ok (.inr z) { σ with missed := insM σ.missed z } else .bad
    | .nbd i t => if σ.begun.length < 100000 then workOut S m t { σ with begun := insM σ.begun i } else .bad
    | .call z ts => if ts.length ≤ 1000 then (workAll (workOut S m) ts [] σ).bind fun g σ1 => match g with
        | .inr z => .ok (.inr z) σ1
        | .inl ps => callIt S z ps σ1
      else .bad
    | .bad => .bad
section
variable {P : Program} {w : World} {K : PySem.W.Frag} {mg : Str → Option Value} {base : Heap} {T : Tc P w K mg base}
section
variable {M H : Hp} {o : Nat → Addr} {σ : Tst}
theorem own_ne {S : Src P w K mg base} {r : Hp → List (Lq × V) → Prop} {L : List (Lq × V)} (h : TkFr S r M H o L) {j : Nat} (hj : j < 13) (u : HO) : ∀ i, i < 13 → i ≠ j → (upd H (o j) u) (o i) = H (o i) := fun i hi ne => upd_ne fun z => ne (h.inj i j hi hj z)
theorem TkAt.addL (h : TkAt T T.S.rep M H o σ) {p : Addr} (hp : H p = none) (u : HO) : TkAt T T.S.rep (upd M p u) (upd H p u) o σ := by
  have e : K02.along M H (upd H p u) = upd M p u := by
    funext b
    by_cases c : b = p
    · subst c
      rw [along_new hp, upd_same, upd_same]
    · rw [upd_ne c]
      unfold K02.along
      by_cases d : H b = none
      · rw [if_pos d, upd_ne c, d, h.fr.same.free d]
      · rw [if_neg d]
  have := h.along (same_new hp u)
  rw [e] at this
  exact this
theorem TkAt.own_st (h : TkAt T T.S.rep M H o σ) {j : Nat} (hj : j < 13) {v u : HO} (hv : H (o j) = some v) : TupSt H (upd H (o j) u) := by
  obtain ⟨w0, e, n1, n2⟩ := h.ct.kind j hj
  rw [hv] at e
  cases e
  exact TupSt.upd hv n1 n2
theorem TkAt.setMissed (h : TkAt T T.S.rep M H o σ) (z : Str) : TkAt T T.S.rep M (upd H (o 4) (trues Sum.inr (insM σ.missed z))) o { σ with missed := insM σ.missed z } := by
  have e := own_ne h.fr (j := 4) (by decide) (trues Sum.inr (insM σ.missed z))
  have ts := h.own_st (j := 4) (by decide) (u := trues Sum.inr (insM σ.missed z)) h.ct.missed
  obtain ⟨dx, fs, vals, i1, i2, i3, i4⟩ := h.ct.ins
  exact ⟨h.fr.go T.S.keep (OBut.upd (by decide)), ⟨⟨dx, fs, vals, (e 0 (by decide) (by decide)).trans i1, i2, i3, i4.st ts⟩, h.ct.held.st ts (e 1 (by decide) (by decide)), h.ct.made.st ts (e 2 (by decide) (by decide)), h.ct.looks.st ts (e 3 (by decide) (by decide)), upd_same, (e 5 (by decide) (by decide)).trans h.ct.begun, (e 6 (by decide) (by decide)).trans h.ct.taken, h.ct.facts.st ts fun i hi => e (7 + i) (by omega) (by omega)⟩⟩
theorem TkAt.setBegun (h : TkAt T T.S.rep M H o σ) (z : Int) : TkAt T T.S.rep M (upd H (o 5) (trues Sum.inl (insM σ.begun z))) o { σ with begun := insM σ.begun z } := by
  have e := own_ne h.fr (j := 5) (by decide) (trues Sum.inl (insM σ.begun z))
  have ts := h.own_st (j := 5) (by decide) (u := trues Sum.inl (insM σ.begun z)) h.ct.begun
  obtain ⟨dx, fs, vals, i1, i2, i3, i4⟩ := h.ct.ins
  exact ⟨h.fr.go T.S.keep (OBut.upd (by decide)), ⟨⟨dx, fs, vals, (e 0 (by decide) (by decide)).trans i1, i2, i3, i4.st ts⟩, h.ct.held.st ts (e 1 (by decide) (by decide)), h.ct.made.st ts (e 2 (by decide) (by decide)), h.ct.looks.st ts (e 3 (by decide) (by decide)), (e 4 (by decide) (by decide)).trans h.ct.missed, upd_same, (e 6 (by decide) (by decide)).trans h.ct.taken, h.ct.facts.st ts fun i hi => e (7 + i) (by omega) (by omega)⟩⟩
theorem TkAt.setMade (h : TkAt T T.S.rep M H o σ) {xs : List V} {ms : List (Str × List Pc)} {x : HO} (hx : x = .lst xs) (hm : Paired (MdAt K H) xs ms) : TkAt T T.S.rep M (upd H (o 2) x) o { σ with made := ms } ∧ TupSt H (upd H (o 2) x) := by
  subst hx
  obtain ⟨xs0, hx0, _⟩ := h.ct.made
  have e := own_ne h.fr (j := 2) (by decide) (HO.lst xs)
  have ts := h.own_st (j := 2) (by decide) (u := .lst xs) hx0
  obtain ⟨dx, fs, vals, i1, i2, i3, i4⟩ := h.ct.ins
  exact ⟨⟨h.fr.go T.S.keep (OBut.upd (by decide)), ⟨⟨dx, fs, vals, (e 0 (by decide) (by decide)).trans i1, i2, i3, i4.st ts⟩, h.ct.held.st ts (e 1 (by decide) (by decide)), ⟨xs, upd_same, Paired.mapP hm fun _ _ z => z.st ts⟩, h.ct.looks.st ts (e 3 (by decide) (by decide)), (e 4 (by decide) (by decide)).trans h.ct.missed, (e 5 (by decide) (by decide)).trans h.ct.begun, (e 6 (by decide) (by decide)).trans h.ct.taken, h.ct.facts.st ts fun i hi => e (7 + i) (by omega) (by omega)⟩⟩, ts⟩
theorem TkAt.setHeld (h : TkAt T T.S.rep M H o σ) {kvs : List (Key × V)} {hs : List (Str × Pc)} (hm : HR K H kvs hs) : TkAt T T.S.rep M (upd H (o 1) (.dK kvs)) o { σ with held := hs } ∧ TupSt H (upd H (o 1) (.dK kvs)) := by
  obtain ⟨xs0, hx0, _⟩ := h.ct.held
  have e := own_ne h.fr (j := 1) (by decide) (HO.dK kvs)
  have ts := h.own_st (j := 1) (by decide) (u := .dK kvs) hx0
  obtain ⟨dx, fs, vals, i1, i2, i3, i4⟩ := h.ct.ins
  exact ⟨⟨h.fr.go T.S.keep (OBut.upd (by decide)), ⟨⟨dx, fs, vals, (e 0 (by decide) (by decide)).trans i1, i2, i3, i4.st ts⟩, ⟨kvs, upd_same, Paired.mapP hm fun _ _ z => ⟨z.1, z.2.st ts⟩⟩, h.ct.made.st ts (e 2 (by decide) (by decide)), h.ct.looks.st ts (e 3 (by decide) (by decide)), (e 4 (by decide) (by decide)).trans h.ct.missed, (e 5 (by decide) (by decide)).trans h.ct.begun, (e 6 (by decide) (by decide)).trans h.ct.taken, h.ct.facts.st ts fun i hi => e (7 + i) (by omega) (by omega)⟩⟩, ts⟩
end
/-- the field of a run at a place of the list -/
theorem tk_fld {M H : Hp} {o : Nat → Addr} {σ : Tst} {r : Hp → List (Lq × V) → Prop} (h : TkAt T r M H o σ) : ∃ dx fs, H (o 0) = some (.ins T.CT dx fs) ∧ fs.length = 12 ∧ (∀ i x, i < 11 → tN[i]? = some x → fs.lookup x = some (tval T o σ i)) ∧ ∀ m ∈ tM, fs.lookup m = none := by
  obtain ⟨dx, fs, vals, hi, hF, hval, hfl⟩ := h.ct.ins
  exact ⟨dx, fs, hi, hF.len, fun i x hi hx => (hF.look hx (by omega)).trans (congrArg some (hval i hi)), hF.non⟩
def spPlaceOfName (T : Tc P w K mg base) : Sp := fun vs H Q _ => ∃ (o : Nat → Addr) (M : Hp) (σ : Tst) (z : Str), vs = [.ref (o 0), .str z] ∧ TkAt T T.S.rep M H o σ ∧
  (∀ p, getH σ.held z = some p → ∀ v, PcAt K H v p → Q v H) ∧ (getH σ.held z = none → σ.missed.length < 100000 ∧ ∀ H', TkAt T T.S.rep M H' o { σ with missed := insM σ.missed z } → TupSt H H' → Q .non H')
theorem scPn : FnScope ["self", "name", "place"] ["self", "name"] (defScope sPlaceOfName) := ⟨rfl, rfl, rfl, by decide +kernel, rfl, by decide +kernel, by decide +kernel⟩
theorem ok_pon {g : Addr} {gd : FuncData} (F : Fun K "place_of_name" "Taking.place_of_name" sPlaceOfName g gd) : FnOk P w K mg base CX0 1 g gd ["self", "name"] (spPlaceOfName T) := by
  refine F.ok scPn (fun vs H Q E h => ?_) (fun cdv A outer s H vs Q E hr h => ?_)
  · obtain ⟨o, M, σ, z, rfl, _⟩ := h
    rfl
  obtain ⟨o, M, σ, z, rfl, hT, k1, k2⟩ := h
  refine ⟨_, pss_cons (ps_set (i := 2) scPn.nd rfl (Or.inl rfl) (pe_dget1 (hu_of hr) (pe_fld (pv 0) rfl) (pv 1) ⟨rfl, rfl, rfl, rfl⟩))
    (pss_cons (ps_if (pt_cmpR op_isN (pv 2) pe_non (nomark _)) (pss_one (ps_dput (hu_of hr) (pe_fld (pv 0) rfl) (pv 1) pe_bl rfl)) pss_nil)
    (pss_one (ps_ret (pv 2)))), ?_⟩
  obtain ⟨dx, fs, hi, hlen, look, non⟩ := tk_fld hT
  obtain ⟨kvs, hk, hHR⟩ := hT.ct.held
  obtain ⟨g0, g1⟩ := HR.get hHR z
  refine ⟨_, rfl, o 0, T.CT, dx, fs, _, rfl, hi, T.cT.cl, T.cT.at_ (i := 4) rfl, look 4 _ (by decide) rfl, o 1, rfl, .inl ⟨kvs, .inl hk⟩, _, rfl, _, DGet.k (k := Sum.inr z) hk, ?_⟩
  cases e : getH σ.held z with
  | some p =>
    obtain ⟨v, ev, hv⟩ := g1 p e
    rw [ev]
    obtain ⟨a, xs, rfl, _⟩ := hv.head
    exact ⟨_, rfl, rfl, _, rfl, ifF (decide_eq_false fun z => nomatch z) ⟨_, rfl, k1 p e _ hv⟩⟩
  | none =>
    rw [g0 e]
    obtain ⟨hl, k2⟩ := k2 e
    refine ⟨_, rfl, rfl, _, rfl, ifT (decide_eq_true rfl) ?_⟩
    refine ⟨_, rfl, o 0, T.CT, dx, fs, _, rfl, hi, T.cT.cl, T.cT.at_ (i := 7) rfl, look 7 _ (by decide) rfl, _, rfl, o 4, _, rfl, DPut.k (k := Sum.inr z) hT.ct.missed (by rw [List.length_map]; exact Nat.lt_trans hl (by decide)), ?_⟩
    have hT2 := hT.setMissed z
    have ts := hT.own_st (j := 4) (by decide) (u := trues Sum.inr (insM σ.missed z)) hT.ct.missed
    have e2 : (HO.dK (putK (σ.missed.map fun z => ((Sum.inr z : Key), V.bl true)) (Sum.inr z) (V.bl true))) = trues Sum.inr (insM σ.missed z) := congrArg HO.dK (trues_put Sum.inr (fun _ _ h => Sum.inr.inj h) σ.missed z)
    refine ⟨_, rfl, ?_⟩
    show Q .non (upd H (o 4) (HO.dK (putK (σ.missed.map fun z => ((Sum.inr z : Key), V.bl true)) (Sum.inr z) (V.bl true))))
    rw [e2]
    exact k2 _ hT2 ts
end
end K02
set_option Elab.async false
set_option linter.all false
set_option maxRecDepth 100000
set_option maxHeartbeats 4000000
namespace K02
open PySem L2 PyProof.Rows
def WoAt (K : PySem.W.Frag) (H : Hp) (u : V) : Pc ⊕ Str → Prop
  | .inl p => ∃ a v x, u = .ref a ∧ SqT K H a [v, x] ∧ PcAt K H v p
  | .inr z => ∃ a, u = .ref a ∧ SqT K H a [.non, .str z]
section
variable {P : Program} {w : World} {K : PySem.W.Frag} {mg : Str → Option Value} {base : Heap} {T : Tc P w K mg base}
theorem tupst_refl (H : Hp) : TupSt H H := ⟨fun _ _ e => e, fun _ _ _ e => e⟩
def spWorkOut (T : Tc P w K mg base) (k : Nat) : Sp := fun vs H Q E => ∃ (o : Nat → Addr) (M : Hp) (σ : Tst) (v : V) (d : D) (m : Nat), vs = [.ref (o 0), v] ∧ TkAt T T.S.rep M H o σ ∧ RW M d v ∧ m + 11 ≤ k ∧
  Goes T M H o E (workOut T.S.sem m d σ) fun g _ H' => ∀ u, WoAt K H' u g → Q u H'
theorem none_ofX {CX : CXT} {k : Nat} {f : Addr} {fd : FuncData} {ps : List Str} {sp : Sp} (h : ∀ vs H Q E, ¬ sp vs H Q E) : FnOk P w K mg base CX k f fd ps sp :=
  ⟨fun vs H Q E x => absurd x (h vs H Q E), fun A outer s H args us vs Q E _ _ _ _ x => absurd x (h vs H Q E)⟩
theorem wo_none {f : Addr} {fd : FuncData} {ps : List Str} : FnOk P w K mg base (L2.CX P w) 10 f fd ps (spWorkOut T 10) := none_ofX fun vs H Q E h => by
  obtain ⟨o, M, σ, v, d, m, _, _, _, h1, _⟩ := h
  omega
theorem scWo : FnScope ["self", "term", "places", "inner", "place", "missing", "number"] ["self", "term"] (defScope sWorkOut) := ⟨rfl, rfl, rfl, by decide +kernel, rfl, by decide +kernel, by decide +kernel⟩
theorem RW.pair {H : Hp} {s : String} {x : V} {v : V} (h : RW H (.tup [S s, .leaf x]) v) : ∃ a, v = .ref a ∧ H a = some (.tup [.str (Str.ofString s), x]) := by
  obtain ⟨a, ys, rfl, ha, y, _, rfl, h0, z, _, rfl, h1, e⟩ := h
  obtain rfl : _ = [] := e
  obtain ⟨rfl, _⟩ := h0
  obtain ⟨rfl, _⟩ := h1
  exact ⟨a, rfl, ha⟩
theorem RW.trip {H : Hp} {s : String} {x v : V} {d : D} (h : RW H (.tup [S s, .leaf x, d]) v) : ∃ a y, v = .ref a ∧ H a = some (.tup [.str (Str.ofString s), x, y]) ∧ RW H d y := by
  obtain ⟨a, ys, rfl, ha, y, _, rfl, h0, z, _, rfl, h1, q, _, rfl, h2, e⟩ := h
  obtain rfl : _ = [] := e
  obtain ⟨rfl, _⟩ := h0
  obtain ⟨rfl, _⟩ := h1
  exact ⟨a, q, rfl, ha, h2⟩
theorem ok_workout {f fK fR fP : Addr} {fd fdK fdR fdP : FuncData} {k : Nat} (F : Fun K "work_out" "Taking.work_out" sWorkOut f fd) (Tx : Txt K mg) (hk : 10 ≤ k)
    (FK : Fun K "known_place" "known_place" sKnownP fK fdK) (GK : FnOk P w K mg base CX0 1 fK fdK ["number"] (spKnownP K)) (bK : L2.Binds K fdK ["number"] []) (mK : mg "known_place" = some (.ref fK))
    (FR : Fun K "result_place" "result_place" sResP fR fdR) (GR : FnOk P w K mg base CX0 1 fR fdR ["number"] (spResP K)) (bR : L2.Binds K fdR ["number"] []) (mR : mg "result_place" = some (.ref fR))
    (FP : Fun K "place_of_name" "Taking.place_of_name" sPlaceOfName fP fdP) (GP : FnOk P w K mg base CX0 1 fP fdP ["self", "name"] (spPlaceOfName T)) (bP : L2.Binds K fdP ["self", "name"] []) (mP : Meth K T.CT "place_of_name" fP)
    (G : FnOk P w K mg base (L2.CX P w) k f fd ["self", "term"] (spWorkOut T k)) (b : L2.Binds K fd ["self", "term"] []) (m0 : Meth K T.CT "work_out" f) :
    FnOk P w K mg base (L2.CX P w) (k + 1) f fd ["self", "term"] (spWorkOut T (k + 1)) := by
  refine F.okX scWo (fun vs H Q E h => ?_) (fun cdv A outer s H vs Q E hr h => ?_)
  · obtain ⟨o, M, σ, v, d, m, rfl, _⟩ := h
    rfl
  obtain ⟨o, M, σ, v, d, mm, rfl, hT, hv, hm, hG⟩ := h
  have hr1 := hr.mono (show 1 ≤ k by omega)
  have hr9 := hr.mono (show 9 ≤ k by omega)
  refine ⟨_, pss_cons (ps_if (pt_cmpR op_eq (pe_ix ix_tup (pv 1) pe_int (fun _ _ => rfl)) pe_str (nomark _)) (pss_one (ps_ret (pe_tup (pa_cons (pe_call GK hr1 rfl mK FK.kp bK .nil pass0 (pa_cons (pe_ix ix_tup (pv 1) pe_int (fun _ _ => rfl)) pa_nil)) (pa_cons pe_non pa_nil))))) pss_nil)
    (pss_cons (ps_if (pt_cmpR op_eq (pe_ix ix_tup (pv 1) pe_int (fun _ _ => rfl)) pe_str (nomark _)) (pss_one (ps_ret (pe_tup (pa_cons (pe_meth (pv 0) T.cT.cl mP GP hr1 bP .nil pass0 (pa_cons (pe_ix ix_tup (pv 1) pe_int (fun _ _ => rfl)) pa_nil)) (pa_cons (pe_ix ix_tup (pv 1) pe_int (fun _ _ => rfl)) pa_nil))))) pss_nil)
    (pss_cons (ps_if (pt_cmpR op_eq (pe_ix ix_tup (pv 1) pe_int (fun _ _ => rfl)) pe_str (nomark _)) (pss_cons (ps_dput (hu_of hr) (pe_fld (pv 0) rfl) (pe_ix ix_tup (pv 1) pe_int (fun _ _ => rfl)) pe_bl rfl)
        (pss_one (ps_ret (pe_meth (pv 0) T.cT.cl m0 G hr b .nil (passes_call (takes_of rfl rfl rfl rfl) fun _ _ _ _ h => h) (pa_cons (pe_ix ix_tup (pv 1) pe_int (fun _ _ => rfl)) pa_nil))))) pss_nil)
    (pss_cons (ps_set (i := 2) scWo.nd rfl (Or.inl rfl) (pe_lst pa_nil))
    (Evl.pss_cut (ps_for (passes_of rfl) rfl (pi_list (pe_ix ix_tup (pv 1) pe_int (fun _ _ => rfl))) (pg_name (i := 3) scWo.nd rfl (Or.inl rfl))
      (pss_cons (ps_asg (pe_meth (pv 0) T.cT.cl m0 G hr b .nil (passes_call (takes_of rfl rfl rfl rfl) fun _ _ _ _ h => h) (pa_cons (pv 3) pa_nil)) (pg_tup rfl (pgs_cons (pg_name (i := 4) scWo.nd rfl (Or.inl rfl)) (pgs_cons (pg_name (i := 5) scWo.nd rfl (Or.inl rfl)) pgs_nil))))
      (pss_cons (ps_if (pt_cmpR op_isN (pv 4) pe_non (nomark _)) (pss_one (ps_ret (pe_tup (pa_cons pe_non (pa_cons (pv 5) pa_nil))))) pss_nil)
      (pss_one (ps_expr (pe_bm PySem.F.plainAttrs_list PySem.F.slot_list_append PySem.F.type_list_append mt_append (pv 2) (pa_cons (pv 4) pa_nil)))))))
    (pss_cons (ps_set (i := 6) scWo.nd rfl (Or.inl rfl) (pe_callB call_len_seq (by rfl) Tx.len PySem.boot_len (pa_cons (pe_fld (pv 0) rfl) pa_nil)))
    (pss_cons (ps_expr (pe_meth (pe_fld (pv 0) rfl) T.S.cl T.S.mN T.S.GN hr9 T.S.bN .nil (passes_call (takes_of rfl rfl rfl rfl) fun _ _ _ _ h => h) (pa_cons (pv 6) pa_nil)))
    (pss_cons (ps_expr (pe_bm PySem.F.plainAttrs_list PySem.F.slot_list_append PySem.F.type_list_append mt_append (pe_fld (pv 0) rfl) (pa_cons (pe_tup (pa_cons (pe_ix ix_tup (pv 1) pe_int (fun _ _ => rfl)) (pa_cons (pe_callTy call_tuple_of (by rfl) Tx.tuple boot_tuple (pa_cons (pv 2) pa_nil)) pa_nil))) pa_nil)))
    (pss_one (ps_ret (pe_tup (pa_cons (pe_call GR hr1 rfl mR FR.kp bR .nil pass0 (pa_cons (pv 6) pa_nil)) (pa_cons pe_non pa_nil)))))))))))), ?_⟩
  cases mm with
  | zero => exact False.elim hG
  | succ m =>
  have hinv := parseT_inv d
  unfold workOut at hG
  obtain ⟨dx, fs, hi, hlen, look, non⟩ := tk_fld hT
  cases hp : parseT d with
  | bad =>
    rw [hp] at hG
    exact False.elim hG
  | num x =>
    rw [hp] at hG hinv
    obtain rfl : d = _ := hinv
    obtain ⟨a, rfl, ha⟩ := RW.pair hv
    have ha2 := SqT.of (K := K) (hT.fr.same _ _ ha)
    refine ⟨_, rfl, a, _, 0, _, rfl, rfl, ha2, atI_nat (j := 0) rfl, rfl, _, rfl, ifT (decide_eq_true rfl) ?_⟩
    refine ⟨_, rfl, a, _, 1, _, rfl, rfl, ha2, atI_nat (j := 1) rfl, x, rfl, fun u H1 hs1 hu => ⟨by show 2 ≤ sizeLine; decide, fun t ht => ?_⟩⟩
    have s2 := same_new ht (.tup [u, V.non])
    exact hG _ ((hT.same T.S.keep hs1).same T.S.keep s2) (TupSt.of (hs1.trans s2)) _ ⟨t, u, .non, rfl, SqT.of upd_same, hu.same s2⟩
  | read z =>
    rw [hp] at hG hinv
    obtain rfl : d = _ := hinv
    obtain ⟨a, rfl, ha⟩ := RW.pair hv
    have ha2 := SqT.of (K := K) (hT.fr.same _ _ ha)
    refine ⟨_, rfl, a, _, 0, _, rfl, rfl, ha2, atI_nat (j := 0) rfl, rfl, _, rfl, ifF (so_ne (s := "read") (t := "number") (by decide)) ?_⟩
    refine ⟨_, rfl, a, _, 0, _, rfl, rfl, ha2, atI_nat (j := 0) rfl, rfl, _, rfl, ifT (decide_eq_true rfl) ?_⟩
    refine ⟨_, rfl, o 0, dx, fs, rfl, hi, non _ (by decide +kernel), _, rfl, a, _, 1, _, rfl, rfl, ha2, atI_nat (j := 1) rfl, o, M, σ, z, rfl, hT, fun p ep v hpv => ?_, fun en => ?_⟩
    · have hG2 : Goes T M H o E (match getH σ.held z with
        | some p => .ok (.inl p) σ
        | none => if σ.missed.length < 100000 then .ok (.inr z) { σ with missed := insM σ.missed z } else .bad) (fun g _ H' => ∀ u, WoAt K H' u g → Q u H') := hG
      rw [ep] at hG2
      refine ⟨_, rfl, a, _, 1, _, rfl, rfl, ha2, atI_nat (j := 1) rfl, by show 2 ≤ sizeLine; decide, fun t ht => ?_⟩
      have s2 := same_new ht (.tup [v, V.str z])
      exact hG2 _ (hT.same T.S.keep s2) (TupSt.of s2) _ ⟨t, v, _, rfl, SqT.of upd_same, hpv.same s2⟩
    · have hG2 : Goes T M H o E (match getH σ.held z with
        | some p => .ok (.inl p) σ
        | none => if σ.missed.length < 100000 then .ok (.inr z) { σ with missed := insM σ.missed z } else .bad) (fun g _ H' => ∀ u, WoAt K H' u g → Q u H') := hG
      rw [en] at hG2
      have hml : σ.missed.length < 100000 := by
        by_cases c : σ.missed.length < 100000
        · exact c
        · have hG3 : Goes T M H o E (if σ.missed.length < 100000 then Out.ok (Sum.inr z) { σ with missed := insM σ.missed z } else .bad) (fun g _ H' => ∀ u, WoAt K H' u g → Q u H') := hG2
          rw [if_neg c] at hG3
          exact False.elim hG3
      have hG3 : Goes T M H o E (if σ.missed.length < 100000 then Out.ok (Sum.inr z) { σ with missed := insM σ.missed z } else .bad) (fun g _ H' => ∀ u, WoAt K H' u g → Q u H') := hG2
      rw [if_pos hml] at hG3
      refine ⟨hml, fun H1 hT1 ts1 => ⟨_, rfl, a, _, 1, _, rfl, rfl, SqT.st ha2 ts1, atI_nat (j := 1) rfl, by show 2 ≤ sizeLine; decide, fun t ht => ?_⟩⟩
      have s2 := same_new ht (.tup [V.non, V.str z])
      exact hG3 _ (hT1.same T.S.keep s2) (ts1.trans (TupSt.of s2)) _ ⟨t, rfl, SqT.of upd_same⟩
  | nbd i t =>
    rw [hp] at hG hinv
    obtain rfl : d = _ := hinv
    obtain ⟨a, y, rfl, ha, hy⟩ := RW.trip hv
    have ha2 := SqT.of (K := K) (hT.fr.same _ _ ha)
    have hbl : σ.begun.length < 100000 := by
      by_cases c : σ.begun.length < 100000
      · exact c
      · have hG3 : Goes T M H o E (if σ.begun.length < 100000 then workOut T.S.sem m t { σ with begun := insM σ.begun i } else .bad) (fun g _ H' => ∀ u, WoAt K H' u g → Q u H') := hG
        rw [if_neg c] at hG3
        exact False.elim hG3
    have hG3 : Goes T M H o E (if σ.begun.length < 100000 then workOut T.S.sem m t { σ with begun := insM σ.begun i } else .bad) (fun g _ H' => ∀ u, WoAt K H' u g → Q u H') := hG
    rw [if_pos hbl] at hG3
    refine ⟨_, rfl, a, _, 0, _, rfl, rfl, ha2, atI_nat (j := 0) rfl, rfl, _, rfl, ifF (so_ne (s := "numbered") (t := "number") (by decide)) ?_⟩
    refine ⟨_, rfl, a, _, 0, _, rfl, rfl, ha2, atI_nat (j := 0) rfl, rfl, _, rfl, ifF (so_ne (s := "numbered") (t := "read") (by decide)) ?_⟩
    refine ⟨_, rfl, a, _, 0, _, rfl, rfl, ha2, atI_nat (j := 0) rfl, rfl, _, rfl, ifT (decide_eq_true rfl) ?_⟩
    refine ⟨_, rfl, o 0, T.CT, dx, fs, _, rfl, hi, T.cT.cl, T.cT.at_ (i := 8) rfl, look 8 _ (by decide) rfl, _, rfl, a, _, 1, _, rfl, rfl, ha2, atI_nat (j := 1) rfl, o 5, _, rfl, DPut.k (k := Sum.inl i) hT.ct.begun (by rw [List.length_map]; exact Nat.lt_trans hbl (by decide)), ?_⟩
    have hT2 := hT.setBegun i
    have ts := hT.own_st (j := 5) (by decide) (u := trues Sum.inl (insM σ.begun i)) hT.ct.begun
    have e2 : (HO.dK (putK (σ.begun.map fun z => ((Sum.inl z : Key), V.bl true)) (Sum.inl i) (V.bl true))) = trues Sum.inl (insM σ.begun i) := congrArg HO.dK (trues_put Sum.inl (fun _ _ h => Sum.inl.inj h) σ.begun i)
    rw [← e2] at hT2 ts
    obtain ⟨dx2, fs2, hi2, hlen2, look2, non2⟩ := tk_fld hT2
    exact ⟨_, rfl, o 0, dx2, fs2, rfl, hi2, non2 _ (by decide +kernel), _, rfl, a, _, 2, _, rfl, rfl, SqT.st ha2 ts, atI_nat (j := 2) rfl, o, M, _, y, t, m, rfl, hT2, hy, by omega, hG3.later ts⟩
  | call z ds =>
    rw [hp] at hG hinv
    obtain rfl : d = _ := hinv
    obtain ⟨a, y, rfl, ha, hy⟩ := RW.trip hv
    have ha2 := SqT.of (K := K) (hT.fr.same _ _ ha)
    obtain ⟨lA, xs, rfl, hlA, hxs⟩ := hy
    have hdl : ds.length ≤ 1000 := by
      by_cases c : ds.length ≤ 1000
      · exact c
      · have hG3 : Goes T M H o E (if ds.length ≤ 1000 then (workAll (workOut T.S.sem m) ds [] σ).bind fun g σ1 => match g with
          | .inr z => .ok (.inr z) σ1
          | .inl ps => callIt T.S.sem z ps σ1 else .bad) (fun g _ H' => ∀ u, WoAt K H' u g → Q u H') := hG
        rw [if_neg c] at hG3
        exact False.elim hG3
    have hG3 : Goes T M H o E (if ds.length ≤ 1000 then (workAll (workOut T.S.sem m) ds [] σ).bind fun g σ1 => match g with
          | .inr z => .ok (.inr z) σ1
          | .inl ps => callIt T.S.sem z ps σ1 else .bad) (fun g _ H' => ∀ u, WoAt K H' u g → Q u H') := hG
    rw [if_pos hdl] at hG3
    have hGa := hG3.of_bind
    refine ⟨_, rfl, a, _, 0, _, rfl, rfl, ha2, atI_nat (j := 0) rfl, rfl, _, rfl, ifF (so_ne (s := "call") (t := "number") (by decide)) ?_⟩
    refine ⟨_, rfl, a, _, 0, _, rfl, rfl, ha2, atI_nat (j := 0) rfl, rfl, _, rfl, ifF (so_ne (s := "call") (t := "read") (by decide)) ?_⟩
    refine ⟨_, rfl, a, _, 0, _, rfl, rfl, ha2, atI_nat (j := 0) rfl, rfl, _, rfl, ifF (so_ne (s := "call") (t := "numbered") (by decide)) ?_⟩
    refine ⟨by show 0 ≤ sizeLine; decide, fun pl hpl => ?_⟩
    have hMpl : M pl = none := hT.fr.same.free hpl
    have h0pl : T.S.M0 pl = none := hT.fr.sub.free hMpl
    have s1 := same_new hpl (.lst [])
    have hT1 := hT.addL hpl (.lst [])
    let Kg := fun (g : List Pc ⊕ Str) (σ' : Tst) (H' : Hp) => TkAt T T.S.rep M H' o σ' ∧ TupSt H H' ∧ Goes T M H' o E (match g with
          | .inr z => .ok (.inr z) σ'
          | .inl ps => callIt T.S.sem z ps σ') (fun g _ H' => ∀ u, WoAt K H' u g → Q u H')
    have hxl : xs.length = ds.length := hxs.len
    refine ⟨fun σ' H' => ∃ (ys : List V) (ps : List Pc) (σi : Tst) (v3 v4 v5 : Option V), TkAt T T.S.rep (upd M pl (.lst ys)) H' o σi ∧ Paired (PcAt K H') ys ps ∧ ys.length ≤ 1000 ∧ TupSt H H' ∧ Goes T M H' o E (callIt T.S.sem z ps σi) (fun g _ H' => ∀ u, WoAt K H' u g → Q u H') ∧
      σ' = [some (.ref (o 0)), some (.ref a), some (.ref pl), v3, v4, v5, none], ?_, ?_⟩
    · refine ⟨_, rfl, a, _, 2, _, rfl, rfl, SqT.same ha2 s1, atI_nat (j := 2) rfl, lA, rfl, ⟨xs, SqL.of (s1 _ _ (hT.fr.same _ _ hlA))⟩, ?_⟩
      have nlA : lA ≠ pl := ne_of_none hlA hMpl
      have lA_in : ∀ (ys : List V), (upd M pl (.lst ys)) lA = some (.lst xs) := fun ys => by
        rw [upd_ne nlA]
        exact hlA
      refine for_list (K := K) (a := lA) (xs := xs) (fun i σ' H' => ∃ (ys : List V) (ps : List Pc) (σi : Tst) (v3 v4 v5 : Option V), TkAt T T.S.rep (upd M pl (.lst ys)) H' o σi ∧ Paired (PcAt K H') ys ps ∧ ys.length = i ∧ TupSt H H' ∧ Goes T M H' o E (workAll (workOut T.S.sem m) (ds.drop i) ps σi) Kg ∧
        σ' = [some (.ref (o 0)), some (.ref a), some (.ref pl), v3, v4, v5, none]) ⟨[], [], σ, none, none, none, hT1, .nil, rfl, TupSt.of s1, hGa.later (TupSt.of s1), rfl⟩ (fun i σ' H' _ ⟨ys, ps, σi, v3, v4, v5, h, _⟩ => SqL.of (h.fr.same _ _ (lA_in ys))) ?_ ?_
      · rintro i x σ' H2 hix ⟨ys, ps, σi, v3, v4, v5, hT2, hps, hyl, ts2, hG2, rfl⟩
        have hil : i < xs.length := (List.getElem?_eq_some_iff.mp hix).1
        obtain ⟨t, ht, hrt⟩ := hxs.item hix
        have e1 : ds.drop i = t :: ds.drop (i + 1) := by
          have := List.drop_eq_getElem_cons (show i < ds.length by omega)
          rw [(List.getElem?_eq_some_iff.mp ht).2] at this
          exact this
        rw [e1] at hG2
        have hG4 : Goes T M H2 o E ((workOut T.S.sem m t σi).bind fun g σ1 => match g with
          | .inr z => .ok (.inr z) σ1
          | .inl p => workAll (workOut T.S.sem m) (ds.drop (i + 1)) (ps ++ [p]) σ1) Kg := hG2
        have sM : Same M (upd M pl (.lst ys)) := same_new hMpl _
        have hG5 := (hG4.of_bind).around sM hT.fr.sub
        obtain ⟨dx2, fs2, hi2, hlen2, look2, non2⟩ := tk_fld hT2
        refine ⟨_, rfl, o 0, dx2, fs2, rfl, hi2, non2 _ (by decide +kernel), _, rfl, o, _, σi, x, t, m, rfl, hT2, hrt.same sM, by omega, ?_⟩
        refine hG5.mono fun g σ3 H3 hT3 ts3 ⟨hT3', hT3m, ts23, hG6⟩ u hu => ?_
        cases g with
        | inr z2 =>
          obtain ⟨ta, rfl, hta⟩ := hu
          refine ⟨ta, _, rfl, hta, rfl, _, _, rfl, _, _, rfl, rfl, ?_⟩
          refine ⟨_, rfl, rfl, _, rfl, ifT (decide_eq_true rfl) ⟨_, rfl, by show 2 ≤ sizeLine; decide, fun t4 ht4 => ?_⟩⟩
          have s4 := same_new ht4 (.tup [V.non, V.str z2])
          have hKg := hG6.done hT3m
          exact hKg.2.2 _ (hT3m.same T.S.keep s4) (TupSt.of s4) _ ⟨t4, rfl, SqT.of upd_same⟩
        | inl p =>
          obtain ⟨ta, pvv, xv, rfl, hta, hpv⟩ := hu
          obtain ⟨pa, pxs, rfl, _⟩ := hpv.head
          refine ⟨ta, _, rfl, hta, rfl, _, _, rfl, _, _, rfl, rfl, ?_⟩
          refine ⟨_, rfl, rfl, _, rfl, ifF (decide_eq_false fun z => nomatch z) ?_⟩
          have hpl3 : H3 pl = some (.lst ys) := hT3'.fr.same _ _ upd_same
          refine ⟨_, rfl, .inl ⟨rfl, _, SqL.of hpl3⟩, _, rfl, pl, ys, .ref pa, rfl, rfl, hpl3, Nat.lt_of_le_of_lt (show ys.length ≤ 1000 by omega) (by decide), ?_⟩
          have hT4 := hT3'.reput (p := pl) (xs := ys) (ys := ys ++ [.ref pa]) upd_same h0pl
          rw [upd_upd] at hT4
          have ts4 : TupSt H3 (upd H3 pl (.lst (ys ++ [.ref pa]))) := TupSt.upd hpl3 (fun _ z => nomatch z) (fun _ _ z => nomatch z)
          exact ⟨ys ++ [.ref pa], ps ++ [p], σ3, _, _, _, hT4, Paired.snoc (Paired.mapP hps fun _ _ z => (z.st ts3).st ts4) (hpv.st ts4), by rw [List.length_append, hyl]; rfl, (ts2.trans ts3).trans ts4, hG6.later ts4, rfl⟩
      · rintro σ' H2 ⟨ys, ps, σi, v3, v4, v5, hT2, hps, hyl, ts2, hG2, rfl⟩
        rw [hxl, List.drop_length] at hG2
        have hKg : Kg (.inl ps) σi H2 := hG2.done (hT2.weak (same_new hMpl _) hT.fr.sub)
        exact ⟨ys, ps, σi, v3, v4, v5, hT2, hps, by omega, ts2, hKg.2.2, rfl⟩
    rintro _ H2 ⟨ys, ps, σi, v3, v4, v5, hT2, hps, hyl, ts2, hG2, rfl⟩
    have hT2m : TkAt T T.S.rep M H2 o σi := hT2.weak (same_new hMpl _) hT.fr.sub
    obtain ⟨dx2, fs2, hi2, hlen2, look2, non2⟩ := tk_fld hT2
    obtain ⟨ms, hms, hpm⟩ := hT2.ct.made
    refine ⟨_, rfl, o 0, T.CT, dx2, fs2, _, rfl, hi2, T.cT.cl, T.cT.at_ (i := 5) rfl, look2 5 _ (by decide) rfl, o 2, ms, rfl, .inl (SqL.of hms), ?_⟩
    have eml : ms.length = σi.made.length := hpm.length
    rw [eml]
    obtain ⟨dxs, sfs, his, hsA, hsN⟩ := T.S.ins _ _ hT2.fr.src
    unfold callIt at hG2
    refine ⟨_, rfl, o 0, T.CT, dx2, fs2, _, rfl, hi2, T.cT.cl, T.cT.at_ (i := 0) rfl, look2 0 _ (by decide) rfl, T.S.s, dxs, sfs, rfl, his, hsN, _, rfl, σi.made.length, σi.looks, rfl, hT2.fr.src, ?_⟩
    cases ec : T.S.sem.call σi.looks σi.made.length with
    | some n =>
      rw [ec] at hG2
      intro dd H3 hs3 hd hx
      exact hG2 dd H3 ⟨(hT2m.same T.S.keep hs3).up, TupSt.of hs3⟩ (hT2m.fr.same.free hd) hx
    | none =>
      rw [ec] at hG2
      intro H3 hs3
      have hG7 : Goes T M H2 o E (if σi.made.length < 100000 then Out.ok (Sum.inl (.at ⟨some σi.made.length, []⟩)) { σi with made := σi.made ++ [(z, ps)] } else .bad) (fun g _ H' => ∀ u, WoAt K H' u g → Q u H') := hG2
      have hml : σi.made.length < 100000 := by
        by_cases c : σi.made.length < 100000
        · exact c
        · rw [if_neg c] at hG7
          exact False.elim hG7
      rw [if_pos hml] at hG7
      have hT3 := hT2m.same T.S.keep hs3
      have ha3 := SqT.same (SqT.st ha2 ts2) hs3
      have hpl3 : H3 pl = some (.lst ys) := hs3 _ _ (hT2.fr.same _ _ upd_same)
      have hms3 := hs3 _ _ hms
      refine ⟨_, rfl, o 0, T.CT, dx2, fs2, _, rfl, hs3 _ _ hi2, T.cT.cl, T.cT.at_ (i := 5) rfl, look2 5 _ (by decide) rfl, .inl ⟨rfl, _, SqL.of hms3⟩, _, rfl, a, _, 1, _, rfl, rfl, ha3, atI_nat (j := 1) rfl, _, rfl, pl, ys, rfl, .inl ⟨SqL.of hpl3, fun t4 ht4 => ?_⟩⟩
      have s4 := same_new ht4 (.tup ys)
      refine ⟨by show 2 ≤ sizeLine; decide, fun t5 ht5 => ?_⟩
      have s5 := same_new ht5 (.tup [V.str z, .ref t4])
      have s345 := (hs3.trans s4).trans s5
      have hT5 := (hT3.same T.S.keep s4).same T.S.keep s5
      refine ⟨o 2, ms, .ref t5, rfl, rfl, s5 _ _ (s4 _ _ hms3), by rw [eml]; exact Nat.lt_trans hml (by decide), ?_⟩
      obtain ⟨hT6, ts6⟩ := hT5.setMade (xs := ms ++ [.ref t5]) (ms := σi.made ++ [(z, ps)]) rfl (Paired.snoc (Paired.mapP hpm fun _ _ q => q.st (TupSt.of s345)) ⟨t5, t4, ys, rfl, SqT.of upd_same, SqT.of (s5 _ _ upd_same), Paired.mapP hps fun _ _ q => q.same s345⟩)
      refine ⟨_, rfl, σi.made.length, rfl, fun u H7 hs7 hu => ⟨by show 2 ≤ sizeLine; decide, fun t8 ht8 => ?_⟩⟩
      have s8 := same_new ht8 (.tup [u, V.non])
      exact hG7 _ ((hT6.same T.S.keep hs7).same T.S.keep s8) (((TupSt.of s345).trans ts6).trans (TupSt.of (hs7.trans s8))) _ ⟨t8, u, .non, rfl, SqT.of upd_same, hu.same s8⟩
end
end K02
set_option Elab.async false
set_option linter.all false
set_option maxRecDepth 100000
set_option maxHeartbeats 4000000
namespace K02
open PySem L2 PyProof.Rows
/-! ### parts, taken apart -/
abbrev En := Ky × D × D
inductive ShP where
  | any
  | name (z : Str)
  | ent (row : Bool) (qs : List En) (r : Option Str)
  | bad
def rowE : Nat → List D → Option (List En)
  | _, [] => some []
  | i, .tup [p, d] :: es => (rowE (i + 1) es).map fun qs => (.ix i, p, d) :: qs
  | _, _ => none
def recE : List D → Option (List En)
  | [] => some []
  | .tup [.leaf (.str f), p, d] :: es => (recE es).map fun qs => (.fd f, p, d) :: qs
  | _ => none
def restE : V → Option (Option Str)
  | .non => some none
  | .str z => some (some z)
  | _ => none
def restV : Option Str → V
  | none => .non
  | some z => .str z
def parseP : D → ShP
  | .tup [.leaf (.str s)] => if s = Str.ofString "any" then .any else .bad
  | .tup [.leaf (.str s), .leaf (.str z)] => if s = Str.ofString "name" then .name z else .bad
  | .tup [.leaf (.str s), .lst es, .leaf r] => match restE r with
    | none => .bad
    | some r => if s = Str.ofString "row" then (match rowE 0 es with | some qs => .ent true qs r | none => .bad)
      else if s = Str.ofString "record" then (match recE es with | some qs => .ent false qs r | none => .bad) else .bad
  | _ => .bad
def enD (row : Bool) (q : En) : D := if row = true then .tup [q.2.1, q.2.2] else .tup [.leaf q.1.v, q.2.1, q.2.2]
def keysOk (row : Bool) (i : Nat) (qs : List En) : Prop := ∀ (j : Nat) (q : En), qs[j]? = some q → if row = true then q.1 = Ky.ix (i + j) else ∃ f, q.1 = Ky.fd f
theorem rowE_inv : ∀ (es : List D) (i : Nat) (qs : List En), rowE i es = some qs → es = qs.map (enD true) ∧ keysOk true i qs
  | [], i, qs, h => by
    cases h
    exact ⟨rfl, fun j q e => by cases e⟩
  | e :: es, i, qs, h => by
    unfold rowE at h
    split at h
    · rename_i hh
      cases hh
    · next i' p d es' hh =>
      obtain ⟨h1, h2⟩ := List.cons.inj hh
      subst h1 h2
      obtain ⟨qs', h3, rfl⟩ := Option.map_eq_some_iff.mp h
      obtain ⟨h4, h5⟩ := rowE_inv _ _ _ h3
      refine ⟨by rw [List.map_cons, ← h4]; rfl, fun j q ej => ?_⟩
      cases j with
      | zero =>
        cases ej
        exact rfl
      | succ j =>
        have := h5 j q ej
        rw [if_pos rfl] at this ⊢
        rw [this]
        congr 1
        omega
    · cases h
theorem recE_inv : ∀ (es : List D) (qs : List En), recE es = some qs → es = qs.map (enD false) ∧ keysOk false 0 qs
  | [], qs, h => by
    cases h
    exact ⟨rfl, fun j q e => by cases e⟩
  | e :: es, qs, h => by
    unfold recE at h
    split at h
    · rename_i hh
      cases hh
    · next f p d es' hh =>
      obtain ⟨h1, h2⟩ := List.cons.inj hh
      subst h1 h2
      obtain ⟨qs', h3, rfl⟩ := Option.map_eq_some_iff.mp h
      obtain ⟨h4, h5⟩ := recE_inv _ _ h3
      refine ⟨by rw [List.map_cons, ← h4]; rfl, fun j q ej => ?_⟩
      cases j with
      | zero =>
        cases ej
        exact ⟨f, rfl⟩
      | succ j => exact h5 j q ej
    · cases h
def rowS (row : Bool) : String := if row = true then "row" else "record"
def isP (d : D) : ShP → Prop
  | .any => d = .tup [S "any"]
  | .name z => d = .tup [S "name", .leaf (.str z)]
  | .ent row qs r => d = .tup [S (rowS row), .lst (qs.map (enD row)), .leaf (restV r)] ∧ keysOk row 0 qs
  | .bad => True
theorem restE_inv {v : V} {r : Option Str} (h : restE v = some r) : v = restV r := by
  cases v <;> first | (cases h; rfl) | cases h
theorem parseP_inv (d : D) : isP d (parseP d) := by
  unfold parseP
  split
  · next s =>
    by_cases c : s = Str.ofString "any"
    · rw [if_pos c, c]
      rfl
    · rw [if_neg c]
      trivial
  · next s z =>
    by_cases c : s = Str.ofString "name"
    · rw [if_pos c, c]
      rfl
    · rw [if_neg c]
      trivial
  · next s es r =>
    cases hr : restE r with
    | none => trivial
    | some r' =>
      show isP _ (if s = Str.ofString "row" then (match rowE 0 es with | some qs => .ent true qs r' | none => .bad)
        else if s = Str.ofString "record" then (match recE es with | some qs => .ent false qs r' | none => .bad) else .bad)
      by_cases c : s = Str.ofString "row"
      · rw [if_pos c, c]
        cases h : rowE 0 es with
        | none => trivial
        | some qs =>
          obtain ⟨h1, h2⟩ := rowE_inv _ _ _ h
          exact ⟨by rw [h1, restE_inv hr]; rfl, h2⟩
      · rw [if_neg c]
        by_cases c2 : s = Str.ofString "record"
        · rw [if_pos c2, c2]
          cases h : recE es with
          | none => trivial
          | some qs =>
            obtain ⟨h1, h2⟩ := recE_inv _ _ h
            exact ⟨by rw [h1, restE_inv hr]; rfl, h2⟩
        · rw [if_neg c2]
          trivial
  · trivial
def isDef : D → Bool
  | .leaf v => !decide (v = .non)
  | _ => true
theorem isDef_rw {M : Hp} {d : D} {v : V} (h : RW M d v) : (!decide (v = .non)) = isDef d := by
  cases d with
  | leaf u =>
    obtain ⟨rfl, _⟩ := h
    rfl
  | lst ds =>
    obtain ⟨a, _, rfl, _⟩ := h
    rfl
  | tup ds =>
    obtain ⟨a, _, rfl, _⟩ := h
    rfl
/-- an entry in the heap -/
def EtM (M : Hp) (v : V) (q : En) : Prop := ∃ a x r, v = .ref a ∧ M a = some (.tup [q.1.v, x, r]) ∧ RW M q.2.1 x ∧ RW M q.2.2 r
theorem EtM.same {M M1 : Hp} {v : V} {q : En} (h : EtM M v q) (s : Same M M1) : EtM M1 v q := by
  obtain ⟨a, x, r, e, h1, h2, h3⟩ := h
  exact ⟨a, x, r, e, s _ _ h1, h2.same s, h3.same s⟩
/-- a row or record part in the heap -/
theorem RW.ents {M : Hp} {row : Bool} {qs : List En} {r : Option Str} {v : V} (h : RW M (.tup [S (rowS row), .lst (qs.map (enD row)), .leaf (restV r)]) v) :
    ∃ a l xs, v = .ref a ∧ M a = some (.tup [.str (Str.ofString (rowS row)), .ref l, restV r]) ∧ M l = some (.lst xs) ∧ RWs M (qs.map (enD row)) xs := by
  obtain ⟨a, ys, rfl, ha, y, _, rfl, h0, z, _, rfl, h1, u, _, rfl, h2, e⟩ := h
  obtain rfl : _ = [] := e
  obtain ⟨rfl, _⟩ := h0
  obtain ⟨l, xs, rfl, hl, hxs⟩ := h1
  obtain ⟨rfl, _⟩ := h2
  exact ⟨a, l, xs, rfl, ha, hl, hxs⟩
theorem rws_item {M : Hp} {row : Bool} {qs : List En} {xs : List V} (h : RWs M (qs.map (enD row)) xs) {i : Nat} {x : V} (hx : xs[i]? = some x) : ∃ q, qs[i]? = some q ∧ RW M (enD row q) x := by
  obtain ⟨t, ht, hrt⟩ := h.item hx
  rw [List.getElem?_map] at ht
  cases e2 : qs[i]? with
  | none =>
    rw [e2] at ht
    cases ht
  | some q =>
    rw [e2] at ht
    exact ⟨q, rfl, (Option.some.inj ht) ▸ hrt⟩
section
variable {P : Program} {w : World} {K : PySem.W.Frag} {mg : Str → Option Value} {base : Heap}
def spEnt2 : Sp := fun vs H Q _ => ∃ (v : V) (M : Hp) (row : Bool) (qs : List En) (r : Option Str), vs = [v] ∧ RW M (.tup [S (rowS row), .lst (qs.map (enD row)), .leaf (restV r)]) v ∧ keysOk row 0 qs ∧ qs.length ≤ 1000 ∧ Same M H ∧
  ∀ l es H', Same H H' → H l = none → H' l = some (.lst es) → es.length = qs.length → (∀ (i : Nat) (q : En), qs[i]? = some q → ∃ a x r, es[i]? = some (V.ref a) ∧ (H a = none ∧ H' a = some (.tup [q.1.v, x, r]) ∨ M a = some (.tup [q.1.v, x, r])) ∧ RW M q.2.1 x ∧ RW M q.2.2 r) → Q (.ref l) H'
theorem scEn2 : FnScope ["part", "index", "inner", "default"] ["part"] (defScope sEntries) := ⟨rfl, rfl, rfl, by decide +kernel, rfl, by decide +kernel, by decide +kernel⟩
theorem ok_ent2 {f : Addr} {fd : FuncData} (F : Fun K "entries_of" "entries_of" sEntries f fd) (T : Txt K mg) (zE : mg "enumerate" = none) : FnOk P w K mg base CX0 1 f fd ["part"] spEnt2 := by
  refine F.ok scEn2 (fun vs H Q E h => ?_) (fun cdv A outer s H vs Q E hr h => ?_)
  · obtain ⟨v, M, row, qs, r, rfl, _⟩ := h
    rfl
  obtain ⟨v, H0, row, qs, r, rfl, hR, hky, hql, hs0, kk⟩ := h
  refine ⟨_, pss_cons (ps_if (pt_cmpR op_eq (pe_ix ix_tup (pv 0) pe_int (fun _ _ => rfl)) pe_str (nomark _)) (pss_one (ps_ret (pe_lc (own := [("index", 1), ("inner", 2), ("default", 3)]) (g := gTup K 2 (gCons (gName 1) (gCons (gTup K 2 (gCons (gName 2) (gCons (gName 3) gNil))) gNil))) (tt := tYes) rfl scEn2.nd (pi_enum rfl zE (pa_cons (pe_ix ix_tup (pv 0) pe_int (fun _ _ => rfl)) pa_nil)) (blkOk_by (N := ["part", "index", "inner", "default"]) (sc := defScope sEntries) (by decide +kernel))
      (fun _ _ _ _ _ => pg_tup rfl (pgs_cons (pg_name (i := 1) scEn2.nd rfl (Or.inl rfl) (Or.inr rfl)) (pgs_cons (pg_tup rfl (pgs_cons (pg_name (i := 2) scEn2.nd rfl (Or.inl rfl) (Or.inr rfl)) (pgs_cons (pg_name (i := 3) scEn2.nd rfl (Or.inl rfl) (Or.inr rfl)) pgs_nil))) pgs_nil))) (fun _ _ _ _ _ => pts_nil)
      (fun _ _ _ _ _ => pe_tup (pa_cons (pv 1) (pa_cons (pv 2) (pa_cons (pv 3) pa_nil))))))) pss_nil)
    (pss_cons (ps_if (pt_cmpR op_eq (pe_ix ix_tup (pv 0) pe_int (fun _ _ => rfl)) pe_str (nomark _)) (pss_one (ps_ret (pe_callTy call_list_of (by rfl) T.list boot_list (pa_cons (pe_ix ix_tup (pv 0) pe_int (fun _ _ => rfl)) pa_nil)))) pss_nil)
    (pss_one (ps_ret (pe_lst pa_nil)))), ?_⟩
  obtain ⟨a, lA, xs, rfl, ha, hlA, hxs⟩ := RW.ents hR
  have sq := SqT.of (K := K) (hs0 _ _ ha)
  have hxl : xs.length = qs.length := by
    rw [hxs.len, List.length_map]
  have a0 : ∀ {s : String} {ys : List V}, atI (V.str (Str.ofString s) :: ys) 0 = some (.str (Str.ofString s)) := atI_nat (j := 0) rfl
  cases row with
  | true =>
    refine ⟨_, rfl, a, _, 0, _, rfl, rfl, sq, a0, rfl, _, rfl, ifT (decide_eq_true rfl) ?_⟩
    refine ⟨_, rfl, a, _, 1, _, rfl, rfl, sq, atI_nat (j := 1) rfl, lA, xs, rfl, SqL.of (hs0 _ _ hlA), fun D0 hD => ?_⟩
    refine lc_it walk_enum (fun i H' => Same H H' ∧ ∃ ts : List V, H' D0 = some (.lst ts) ∧ ts.length = i ∧ ∀ (j : Nat) (q : En), j < i → qs[j]? = some q → ∃ (a : Addr) (x r : V), ts[j]? = some (V.ref a) ∧ H a = none ∧ H' a = some (.tup [q.1.v, x, r]) ∧ RW H0 q.2.1 x ∧ RW H0 q.2.2 r) ⟨same_new hD _, [], upd_same, rfl, fun j k z => absurd z (Nat.not_lt_zero _)⟩ (fun i H' _ ⟨h, _⟩ => SqL.of (h _ _ (hs0 _ _ hlA))) ?_ ?_
    · rintro i x H2 H3 hi ⟨hs2, ts, hD2, htl, hts⟩ ⟨tA, x1, y1, rfl, htA, rfl, ex, ey⟩
      obtain rfl : V.int ((i : Nat) : Int) = x1 := Option.some.inj ex
      obtain ⟨q, hqi, hrq⟩ := rws_item hxs ey
      have hil : i < qs.length := (List.getElem?_eq_some_iff.mp hqi).1
      obtain ⟨e1, zs, rfl, he, z1, zs1, rfl, h1, z2, zs2, rfl, h2, hn2⟩ := hrq
      obtain rfl : zs2 = [] := hn2
      have hkq : q.1 = .ix i := by
        have := hky i q hqi
        rw [if_pos rfl, Nat.zero_add] at this
        exact this
      have s3 := same_new htA (.tup [V.int ((i : Nat) : Int), .ref e1])
      refine ⟨tA, _, rfl, SqT.of upd_same, rfl, _, _, rfl, _, _, rfl, e1, _, rfl, SqT.of (s3 _ _ (hs2 _ _ (hs0 _ _ he))), rfl, _, _, rfl, _, _, rfl, rfl, rfl, rfl, ?_⟩
      unfold tYes
      refine iteT ⟨_, rfl, _, rfl, _, rfl, by show 3 ≤ sizeLine; decide, fun t ht => ?_⟩
      have s4 := same_new ht (.tup [V.int ((i : Nat) : Int), z1, z2])
      have hD4 := s4 _ _ (s3 _ _ hD2)
      have ntD : t ≠ D0 := (ne_of_none (s3 _ _ hD2) ht).symm
      refine ⟨ts, hD4, Nat.lt_of_le_of_lt (show ts.length ≤ 1000 by omega) (by decide), same_put ((hs2.trans s3).trans s4) hD, ts ++ [.ref t], upd_same, (by rw [List.length_append, htl]; rfl), fun j k hj hk => ?_⟩
      rcases Nat.lt_succ_iff_lt_or_eq.mp hj with hj | rfl
      · obtain ⟨a1, x2, r1, b1, b0, b2, b3⟩ := hts j k hj hk
        refine ⟨a1, x2, r1, (by rw [List.getElem?_append_left (by omega)]; exact b1), b0, ?_, b3⟩
        rw [upd_ne fun z => ?_]
        · exact s4 _ _ (s3 _ _ b2)
        · rw [z, hD2] at b2
          cases b2
      · rw [hqi] at hk
        cases hk
        refine ⟨t, z1, z2, (by rw [List.getElem?_append_right (by omega), htl, Nat.sub_self]; rfl), ((hs2.trans s3)).free ht, (by rw [upd_ne ntD, hkq]; exact upd_same), h1, h2⟩
    · rintro H2 ⟨hs2, ts, hD2, htl, hts⟩
      refine kk D0 ts H2 hs2 hD hD2 (by omega) fun j k hk => ?_
      have hj := (List.getElem?_eq_some_iff.mp hk).1
      obtain ⟨a1, x2, r1, b1, b0, b2, b3, b4⟩ := hts j k (by omega) hk
      exact ⟨a1, x2, r1, b1, .inl ⟨b0, b2⟩, b3, b4⟩
  | false =>
    refine ⟨_, rfl, a, _, 0, _, rfl, rfl, sq, a0, rfl, _, rfl, ifF (so_ne (s := "record") (t := "row") (by decide)) ?_⟩
    refine ⟨_, rfl, a, _, 0, _, rfl, rfl, sq, a0, rfl, _, rfl, ifT (decide_eq_true rfl) ?_⟩
    refine ⟨_, rfl, a, _, 1, _, rfl, rfl, sq, atI_nat (j := 1) rfl, lA, xs, rfl, .inl (SqL.of (hs0 _ _ hlA)), fun l hl => ?_⟩
    have s2 := same_new hl (.lst xs)
    refine kk l xs _ s2 hl upd_same hxl fun j k hk => ?_
    have hjl := (List.getElem?_eq_some_iff.mp hk).1
    have hxj := List.getElem?_eq_getElem (show j < xs.length by omega)
    generalize xs[j] = xj at hxj
    obtain ⟨q', hq', hrq⟩ := rws_item hxs hxj
    rw [hk] at hq'
    cases hq'
    obtain ⟨e1, zs, rfl, he, z0, zs0, rfl, h0, z1, zs1, rfl, h1, z2, zs2, rfl, h2, hn2⟩ := hrq
    obtain rfl : zs2 = [] := hn2
    obtain ⟨rfl, _⟩ := h0
    exact ⟨e1, z1, z2, hxj, .inr he, h1, h2⟩
end
end K02
set_option Elab.async false
set_option linter.all false
set_option maxRecDepth 100000
set_option maxHeartbeats 4000000
namespace K02
open PySem L2 PyProof.Rows
open Classical in
/-- ascending, each once -/
noncomputable def srtU (L : List Str) : List Str := if h : ∃ ys : List Str, ys.Perm (TxSet.dd L) ∧ sortedS ys = true then h.choose else TxSet.dd L
theorem srtU_is {L ys : List Str} (hp : ys.Perm (TxSet.dd L)) (hs : sortedS ys = true) : srtU L = ys := by
  have h : ∃ ys : List Str, ys.Perm (TxSet.dd L) ∧ sortedS ys = true := ⟨ys, hp, hs⟩
  unfold srtU
  rw [dif_pos h]
  exact TxSet.one_rising h.choose_spec.1 h.choose_spec.2 hp hs
def outs : Pc → List Str
  | .others _ zs => zs
  | _ => []
noncomputable def restRec (p : Pc) (fs : List Str) : Pc := if srtU (outs p ++ fs) = [] then p else .others (pcB p) (srtU (outs p ++ fs))
def okRowB : Pc → Bool
  | .at _ => true
  | .items _ _ => true
  | _ => false
def okRecB : Pc → Bool
  | .at _ => true
  | .others _ _ => true
  | _ => false
theorem okRowB_ok {p : Pc} (h : okRowB p = true) : okRow p := by cases p <;> first | trivial | cases h
theorem okRecB_ok {p : Pc} (h : okRecB p = true) : okRec p := by cases p <;> first | trivial | cases h
def kyZ : Ky → Str
  | .fd z => z
  | .ix _ => Str.empty
def putHeld (z : Str) (p : Pc) (σ : Tst) : Out Unit := if σ.held.length < 100000 then .ok () { σ with held := putH σ.held z p } else .bad
noncomputable def takeRest (row : Bool) (qs : List En) (r : Option Str) (p : Pc) (σ : Tst) : Out Unit := match r with
  | none => .ok () σ
  | some z => if row = true then (if okRowB p = true then putHeld z (restRow p qs.length) σ else .bad)
    else (if okRecB p = true ∧ (outs p).length + qs.length < 60 then putHeld z (restRec p (qs.map fun q => kyZ q.1)) σ else .bad)
section
variable (S : Sem) (tp : D → Pc → Tst → Out (Option Fail)) (wo : D → Tst → Out (Pc ⊕ Str)) (late noth : Bool)
def takeWanted (p : Pc) : List En → Tst → Out (Option Fail)
  | [], σ => .ok none σ
  | q :: qs, σ => (wo q.2.2 σ).bind fun g σ1 => match g with
    | .inr z => if okInB p q.1 = true ∧ (pcB p).ks.length ≤ 1000 then .ok (some (.at (pcIn p q.1), .unb z)) σ1 else .bad
    | .inl pc => (tp q.2.1 pc σ1).bind fun f σ2 => match f with
      | some f => .ok (some f) σ2
      | none => takeWanted p qs σ2
def takeEntry (p : Pc) (q : En) (wd : List En) (σ : Tst) : Out (Option Fail × List En) :=
  (missing S noth p q.1 (isDef q.2.2) σ).bind fun v σ1 =>
    if v = .bl false then (if okInB p q.1 = true ∧ (pcB p).ks.length ≤ 1000 then (tp q.2.1 (.at (pcIn p q.1)) σ1).bind fun f σ2 => .ok (f, wd) σ2 else .bad)
    else if isDef q.2.2 = false then .ok (some (p, .miss q.1), wd) σ1
    else if late = true then (if wd.length < 1000 then .ok (none, wd ++ [q]) σ1 else .bad)
    else (takeWanted tp wo p [q] σ1).bind fun f σ2 => .ok (f, wd) σ2
def takeAll (p : Pc) : List En → List En → Tst → Out (Option Fail × List En)
  | [], wd, σ => .ok (none, wd) σ
  | q :: qs, wd, σ => (takeEntry S tp wo late noth p q wd σ).bind fun r σ1 => match r.1 with
    | some f => .ok (some f, r.2) σ1
    | none => takeAll p qs r.2 σ1
noncomputable def takeEntries (row : Bool) (qs : List En) (r : Option Str) (p : Pc) (σ : Tst) : Out (Option Fail) :=
  (kindAt S p σ).bind fun v σ1 => if v = .str (Str.ofString (rowS row)) then
      (if qs.length ≤ 1000 then (takeAll S tp wo late noth p qs [] σ1).bind fun r1 σ2 => match r1.1 with
        | some f => .ok (some f) σ2
        | none => (takeRest row qs r p σ2).bind fun _ σ3 => takeWanted tp wo p r1.2 σ3 else .bad)
    else .ok (some (p, .kind)) σ1
end
noncomputable def takePart (S : Sem) (late noth : Bool) : Nat → D → Pc → Tst → Out (Option Fail)
  | 0, _, _, _ => .bad
  | m + 1, d, p, σ => match parseP d with
    | .any => .ok none σ
    | .name z => (putHeld z p σ).bind fun _ σ1 => .ok none σ1
    | .ent row qs r => takeEntries S (takePart S late noth m) (workOut S 7) late noth row qs r p σ
    | .bad => .bad
section
variable {P : Program} {w : World} {K : PySem.W.Frag} {mg : Str → Option Value} {base : Heap} {T : Tc P w K mg base}
theorem Goes.up {α β : Type} {M H : Hp} {o : Nat → Addr} {E : XK} {x : Out α} {k : α → Tst → Hp → Prop} (h : Goes T M H o E x k) {k' : α → Tst → Hp → Prop} (hk : ∀ a σ' H', TkAt T T.S.rep M H' o σ' → TupSt H H' → k a σ' H' → k' a σ' H') : Goes T M H o E x k' := h.mono hk
/-- the check of a mirror's step held -/
theorem goes_if {α : Type} {M H : Hp} {o : Nat → Addr} {E : XK} {c : Prop} [Decidable c] {x : Out α} {k : α → Tst → Hp → Prop} (h : Goes T M H o E (if c then x else .bad) k) : c ∧ Goes T M H o E x k := by
  by_cases hc : c
  · rw [if_pos hc] at h
    exact ⟨hc, h⟩
  · rw [if_neg hc] at h
    exact False.elim h
theorem TkAt.addAt {M H : Hp} {o : Nat → Addr} {σ : Tst} (h : TkAt T T.S.rep M H o σ) {p : Addr} {u : HO} (hM : M p = none) (hp : H p = some u) (ho : ∀ i, i < 13 → o i ≠ p) (hm : ¬ T.S.mu p) : TkAt T T.S.rep (upd M p u) H o σ := by
  refine h.more (same_new hM u) (fun b v e => ?_) (fun i hi => by rw [upd_ne (ho i hi)]; exact h.fr.free i hi) fun b hb => by rw [upd_ne fun z : b = p => hm (z ▸ hb)]; exact h.fr.mfree b hb
  by_cases c : b = p
  · subst c
    rw [upd_same] at e
    rw [← e]
    exact hp
  · rw [upd_ne c] at e
    exact h.fr.same b v e
def spOthersW (K : PySem.W.Frag) : Sp := fun vs H Q _ => ∃ (v : V) (p : Pc) (l : Addr) (fs : List Str), vs = [v, .ref l] ∧ PcAt K H v p ∧ okRec p ∧ H l = some (.lst (fs.map V.str)) ∧ (outs p).length + fs.length < 60 ∧ ∀ u H', Same H H' → PcAt K H' u (.others (pcB p) (srtU (outs p ++ fs))) → Q u H'
def spRestRec (K : PySem.W.Frag) : Sp := fun vs H Q _ => ∃ (v : V) (p : Pc) (l : Addr) (fs : List Str), vs = [v, .ref l] ∧ PcAt K H v p ∧ okRec p ∧ H l = some (.lst (fs.map V.str)) ∧ (outs p).length + fs.length < 60 ∧ ∀ u H', Same H H' → PcAt K H' u (restRec p fs) → Q u H'
theorem scRc : FnScope ["place", "fields", "rest"] ["place", "fields"] (defScope sRestRec) := ⟨rfl, rfl, rfl, by decide +kernel, rfl, by decide +kernel, by decide +kernel⟩
theorem ok_restrec {f fI : Addr} {fd fdI : FuncData} (F : Fun K "rest_of_record" "rest_of_record" sRestRec f fd) (Tx : Txt K mg)
    (FI : Fun K "others_without" "others_without" sOthersW fI fdI) (GI : FnOk P w K mg base CX0 2 fI fdI ["place", "fields"] (spOthersW K)) (bI : L2.Binds K fdI ["place", "fields"] []) (mI : mg "others_without" = some (.ref fI)) : FnOk P w K mg base CX0 3 f fd ["place", "fields"] (spRestRec K) := by
  refine F.ok scRc (fun vs H Q E h => ?_) (fun cdv A outer s H vs Q E hr h => ?_)
  · obtain ⟨v, p, l, fs, rfl, _⟩ := h
    rfl
  obtain ⟨v, p, l, fs, rfl, hp, hok, hl, hn, kk⟩ := h
  refine ⟨_, pss_cons (ps_set (i := 2) scRc.nd rfl (Or.inl rfl) (pe_call GI hr rfl mI FI.kp bI .nil pass0 (pa_cons (pv 0) (pa_cons (pv 1) pa_nil))))
    (pss_one (ps_ret (pe_ifExp (pt_cmpR op_gt (pe_callB call_len_seq (by rfl) Tx.len PySem.boot_len (pa_cons (pe_ix ix_tup (pv 2) pe_int (fun _ _ => rfl)) pa_nil)) pe_int (nomark _)) (pv 2) (pv 0)))), ?_⟩
  refine ⟨_, rfl, _, rfl, v, p, l, fs, rfl, hp, hok, hl, hn, fun u H1 hs1 hu => ?_⟩
  obtain ⟨a, b, c, rfl, ha, hb, hc⟩ := id hu
  refine ⟨_, rfl, a, _, 2, _, rfl, rfl, ha, atI_nat (j := 2) rfl, c, _, rfl, .inr hc, _, _, rfl, rfl, _, rfl, ?_⟩
  rw [List.length_map]
  have e : restRec p fs = if srtU (outs p ++ fs) = [] then p else .others (pcB p) (srtU (outs p ++ fs)) := rfl
  by_cases c0 : srtU (outs p ++ fs) = []
  · refine ifF (by rw [c0]; rfl) ⟨_, rfl, kk v H1 hs1 ?_⟩
    rw [e, if_pos c0]
    exact hp.same hs1
  · have : 0 < (srtU (outs p ++ fs)).length := List.length_pos_iff.mpr c0
    refine ifT (decide_eq_true (by omega)) ⟨_, rfl, kk _ H1 hs1 ?_⟩
    rw [e, if_neg c0]
    exact hu
def spTakeRest (T : Tc P w K mg base) : Sp := fun vs H Q _ => ∃ (o : Nat → Addr) (M : Hp) (σ : Tst) (v pl : V) (row : Bool) (qs : List En) (r : Option Str) (p : Pc) (E : XK), vs = [.ref (o 0), v, pl] ∧ TkAt T T.S.rep M H o σ ∧ RW M (.tup [S (rowS row), .lst (qs.map (enD row)), .leaf (restV r)]) v ∧ keysOk row 0 qs ∧ qs.length ≤ 1000 ∧ PcAt K H pl p ∧
  Goes T M H o E (takeRest row qs r p σ) fun _ _ H' => Q .non H'
theorem scTr : FnScope ["self", "part", "place", "word", "entries", "rest", "entry"] ["self", "part", "place"] (defScope sTakeRest) := ⟨rfl, rfl, rfl, by decide +kernel, rfl, by decide +kernel, by decide +kernel⟩
theorem putHeld_goes {M H : Hp} {o : Nat → Addr} {σ : Tst} {E : XK} {z : Str} {p : Pc} {k : Unit → Tst → Hp → Prop} (h : Goes T M H o E (putHeld z p σ) k) : σ.held.length < 100000 ∧ ∀ H', TkAt T T.S.rep M H' o { σ with held := putH σ.held z p } → TupSt H H' → k () { σ with held := putH σ.held z p } H' := by
  unfold putHeld at h
  exact goes_if h
/-- a name is bound -/
theorem held_put {M H : Hp} {o : Nat → Addr} {σ : Tst} (h : TkAt T T.S.rep M H o σ) {v : V} {p : Pc} (hv : PcAt K H v p) (z : Str) (hl : σ.held.length < 100000) {D : Hp → Prop} (k : ∀ H', TkAt T T.S.rep M H' o { σ with held := putH σ.held z p } → TupSt H H' → D H') : ∃ H4, DPut H (o 1) (.str z) v H4 ∧ D H4 := by
  obtain ⟨kvs, hk, hHR⟩ := h.ct.held
  obtain ⟨t1, t2⟩ := h.setHeld (HR.put hHR z hv)
  exact ⟨_, DPut.k (k := Sum.inr z) hk (by rw [show kvs.length = σ.held.length from hHR.length]; exact Nat.lt_trans hl (by decide)), k _ t1 t2⟩
theorem ok_takerest {f fR fI : Addr} {fd fdR fdI : FuncData} (F : Fun K "take_rest" "Taking.take_rest" sTakeRest f fd) (Tx : Txt K mg)
    (FR : Fun K "rest_of_row" "rest_of_row" sRestRow fR fdR) (GR : FnOk P w K mg base CX0 2 fR fdR ["place", "index"] (spRestRow K)) (bR : L2.Binds K fdR ["place", "index"] []) (mR : mg "rest_of_row" = some (.ref fR))
    (FI : Fun K "rest_of_record" "rest_of_record" sRestRec fI fdI) (GI : FnOk P w K mg base CX0 3 fI fdI ["place", "fields"] (spRestRec K)) (bI : L2.Binds K fdI ["place", "fields"] []) (mI : mg "rest_of_record" = some (.ref fI)) :
    FnOk P w K mg base CX0 4 f fd ["self", "part", "place"] (spTakeRest T) := by
  refine F.ok scTr (fun vs H Q E h => ?_) (fun cdv A outer s H vs Q E hr h => ?_)
  · obtain ⟨o, M, σ, v, pl, row, qs, r, p, E, rfl, _⟩ := h
    rfl
  obtain ⟨o, M, σ, v, pl, row, qs, r, p, E1, rfl, hT, hv, hky, hql, hp, hG⟩ := h
  have hr2 := hr.mono (show 2 ≤ 3 by decide)
  refine ⟨_, pss_cons (ps_asg (pv 1) (pg_tup rfl (pgs_cons (pg_name (i := 3) scTr.nd rfl (Or.inl rfl)) (pgs_cons (pg_name (i := 4) scTr.nd rfl (Or.inl rfl)) (pgs_cons (pg_name (i := 5) scTr.nd rfl (Or.inl rfl)) pgs_nil)))))
    (pss_cons (ps_if (pt_cmpR op_isN (pv 5) pe_non (nomark _)) (pss_one ps_retN) pss_nil)
    (pss_one (ps_if (pt_cmpR op_eq (pv 3) pe_str (nomark _))
      (pss_one (ps_dput (hu_of hr) (pe_fld (pv 0) rfl) (pv 5) (pe_call GR hr2 rfl mR FR.kp bR .nil pass0 (pa_cons (pv 2) (pa_cons (pe_callB call_len_seq (by rfl) Tx.len PySem.boot_len (pa_cons (pv 4) pa_nil)) pa_nil))) rfl))
      (pss_one (ps_dput (hu_of hr) (pe_fld (pv 0) rfl) (pv 5) (pe_call GI hr rfl mI FI.kp bI .nil pass0 (pa_cons (pv 2) (pa_cons (pe_lc (own := [("entry", 6)]) (g := gName 6) (tt := tYes) rfl scTr.nd (pi_list (pv 4)) (blkOk_by (N := ["self", "part", "place", "word", "entries", "rest", "entry"]) (sc := defScope sTakeRest) (by decide +kernel)) (fun _ _ _ _ _ => pg_name (i := 6) scTr.nd rfl (Or.inl rfl)) (fun _ _ _ _ _ => pts_nil)
        (fun _ _ _ _ _ => pe_ix (show IxR _ (rIxT K) from ix_tup) (pv 6) pe_int (fun _ _ => rfl))) pa_nil))) rfl))))), ?_⟩
  obtain ⟨a, l, xs, rfl, ha, hl, hxs⟩ := RW.ents hv
  have haH := hT.fr.same _ _ ha
  have hlH := hT.fr.same _ _ hl
  have hxl : xs.length = qs.length := by
    rw [hxs.len, List.length_map]
  refine ⟨_, rfl, a, _, rfl, SqT.of haH, rfl, _, _, rfl, _, _, rfl, _, _, rfl, rfl, ?_⟩
  refine ⟨_, rfl, rfl, _, rfl, ?_⟩
  cases r with
  | none => exact ifT (decide_eq_true rfl) (hG.done hT)
  | some z =>
    refine ifF (decide_eq_false fun e => nomatch e) ?_
    cases row with
    | true =>
      have hG2 : Goes T M H o E1 (if okRowB p = true then putHeld z (restRow p qs.length) σ else .bad) (fun _ _ H' => Q .non H') := hG
      obtain ⟨hok, hG3⟩ := goes_if hG2
      obtain ⟨hlen, hk⟩ := putHeld_goes hG3
      refine ⟨_, rfl, rfl, _, rfl, ifT (decide_eq_true rfl) ?_⟩
      refine ⟨_, rfl, _, rfl, l, xs, rfl, .inl (SqL.of hlH), pl, p, qs.length, by rw [hxl]; rfl, hp, okRowB_ok hok, fun u H1 hs1 hu => ?_⟩
      have hT1 := hT.same T.S.keep hs1
      obtain ⟨dx, fs, hi, hfl, look, non⟩ := tk_fld hT1
      obtain ⟨H4, hd, hD⟩ := held_put hT1 hu z hlen (D := fun H' => Q .non H') fun H' t ts => hk H' t ((TupSt.of hs1).trans ts)
      exact ⟨_, rfl, o 0, T.CT, dx, fs, _, rfl, hi, T.cT.cl, T.cT.at_ (i := 4) rfl, look 4 _ (by decide) rfl, _, rfl, o 1, H4, rfl, hd, hD⟩
    | false =>
      have hG2 : Goes T M H o E1 (if okRecB p = true ∧ (outs p).length + qs.length < 60 then putHeld z (restRec p (qs.map fun q => kyZ q.1)) σ else .bad) (fun _ _ H' => Q .non H') := hG
      obtain ⟨⟨hok, hn⟩, hG3⟩ := goes_if hG2
      obtain ⟨hlen, hk⟩ := putHeld_goes hG3
      refine ⟨_, rfl, rfl, _, rfl, ifF (so_ne (s := "record") (t := "row") (by decide)) ?_⟩
      refine ⟨_, rfl, _, rfl, l, rfl, ⟨_, SqL.of hlH⟩, fun D0 hD => ?_⟩
      refine lc_list (K := K) (a := l) (xs := xs) (fun i H2 => Same H H2 ∧ H2 D0 = some (.lst (((qs.take i).map fun q => kyZ q.1).map V.str))) ⟨same_new hD _, upd_same⟩ (fun i H2 _ ⟨h, _⟩ => SqL.of (h _ _ hlH)) ?_ ?_
      · rintro i x H2 hi ⟨hs2, hD2⟩
        obtain ⟨q, hq, hrq⟩ := rws_item hxs hi
        obtain ⟨e1, zs, rfl, he, z0, zs0, rfl, h0, _⟩ := hrq
        obtain ⟨rfl, _⟩ := h0
        have hkq := hky i q hq
        rw [if_neg (fun z => nomatch z)] at hkq
        obtain ⟨fz, efz⟩ := hkq
        have et : qs.take (i + 1) = qs.take i ++ [q] := by
          rw [List.take_add_one, hq]
          rfl
        refine ⟨rfl, ?_⟩
        unfold tYes
        refine iteT ⟨_, rfl, e1, _, _, _, rfl, rfl, SqT.of (hs2 _ _ (hT.fr.same _ _ he)), atI_nat (j := 0) rfl, _, hD2, ?_, same_put hs2 hD, ?_⟩
        · rw [List.length_map, List.length_map, List.length_take]
          exact Nat.lt_of_le_of_lt (show min i qs.length ≤ 1000 by omega) (by decide)
        · rw [upd_same, et, List.map_append, List.map_append, efz]
          show some (HO.lst (_ ++ [V.str fz])) = some (HO.lst (_ ++ [V.str (kyZ q.1)]))
          rw [efz]
          rfl
      · rintro H2 ⟨hs2, hD2⟩
        rw [hxl, List.take_length] at hD2
        refine ⟨pl, p, D0, qs.map fun q => kyZ q.1, rfl, hp.same hs2, okRecB_ok hok, hD2, by rw [List.length_map]; exact hn, fun u H1 hs1 hu => ?_⟩
        have hT1 := (hT.same T.S.keep hs2).same T.S.keep hs1
        obtain ⟨dx, fs, hi, hfl, look, non⟩ := tk_fld hT1
        obtain ⟨H4, hd, hDD⟩ := held_put hT1 hu z hlen (D := fun H' => Q .non H') fun H' t ts => hk H' t ((TupSt.of (hs2.trans hs1)).trans ts)
        exact ⟨_, rfl, o 0, T.CT, dx, fs, _, rfl, hi, T.cT.cl, T.cT.at_ (i := 4) rfl, look 4 _ (by decide) rfl, _, rfl, o 1, H4, rfl, hd, hDD⟩
end
end K02
set_option Elab.async false
set_option linter.all false
set_option maxRecDepth 100000
set_option maxHeartbeats 4000000
namespace K02
open PySem L2 PyProof.Rows
theorem Paired.item {α β : Type} {F : α → β → Prop} : ∀ {xs : List α} {ys : List β} {i : Nat} {x : α}, Paired F xs ys → xs[i]? = some x → ∃ y, ys[i]? = some y ∧ F x y
  | _, _, i, x, .nil, e => by simp at e
  | _, _, 0, x, .cons h t, e => by
    cases e
    exact ⟨_, rfl, h⟩
  | _, _, i + 1, x, .cons h t, e => Paired.item (i := i) t (by simpa using e)
section
variable {P : Program} {w : World} {K : PySem.W.Frag} {mg : Str → Option Value} {base : Heap} {T : Tc P w K mg base}
noncomputable abbrev tpM (T : Tc P w K mg base) (m : Nat) : D → Pc → Tst → Out (Option Fail) := takePart T.S.sem T.late T.noth m
abbrev woM (T : Tc P w K mg base) : D → Tst → Out (Pc ⊕ Str) := workOut T.S.sem 7
def spTakePart (T : Tc P w K mg base) (k : Nat) : Sp := fun vs H Q E => ∃ (o : Nat → Addr) (M : Hp) (σ : Tst) (v pl : V) (d : D) (p : Pc) (m : Nat), vs = [.ref (o 0), v, pl] ∧ TkAt T T.S.rep M H o σ ∧ RW M d v ∧ PcAt K H pl p ∧ 4 * m + 20 ≤ k ∧
  Goes T M H o E (tpM T m d p σ) fun f _ H' => ∀ u, FlAt K H' u f → Q u H'
def spTakeWanted (T : Tc P w K mg base) (k : Nat) : Sp := fun vs H Q E => ∃ (o : Nat → Addr) (M : Hp) (σ : Tst) (wl : Addr) (ws : List V) (qs : List En) (pl : V) (p : Pc) (m : Nat), vs = [.ref (o 0), .ref wl, pl] ∧ TkAt T T.S.rep M H o σ ∧ M wl = some (.lst ws) ∧ Paired (EtM M) ws qs ∧ PcAt K H pl p ∧ 4 * m + 21 ≤ k ∧
  Goes T M H o E (takeWanted (tpM T m) (woM T) p qs σ) fun f _ H' => ∀ u, FlAt K H' u f → Q u H'
def spTakeEntry (T : Tc P w K mg base) (k : Nat) : Sp := fun vs H Q E => ∃ (o : Nat → Addr) (M : Hp) (σ : Tst) (ev : V) (wl : Addr) (ws : List V) (q : En) (wd : List En) (pl : V) (p : Pc) (m : Nat), vs = [.ref (o 0), ev, pl, .ref wl] ∧ TkAt T T.S.rep (upd M wl (.lst ws)) H o σ ∧ M wl = none ∧ Same T.S.M0 M ∧ EtM M ev q ∧ Paired (EtM M) ws wd ∧ PcAt K H pl p ∧ 4 * m + 22 ≤ k ∧
  Goes T M H o E (takeEntry T.S.sem (tpM T m) (woM T) T.late T.noth p q wd σ) fun r σ' H' => ∀ u ws', TkAt T T.S.rep (upd M wl (.lst ws')) H' o σ' → Paired (EtM M) ws' r.2 → FlAt K H' u r.1 → Q u H'
def spTakeEntries (T : Tc P w K mg base) (k : Nat) : Sp := fun vs H Q E => ∃ (o : Nat → Addr) (M : Hp) (σ : Tst) (v pl : V) (row : Bool) (qs : List En) (r : Option Str) (p : Pc) (m : Nat), vs = [.ref (o 0), v, pl] ∧ TkAt T T.S.rep M H o σ ∧ RW M (.tup [S (rowS row), .lst (qs.map (enD row)), .leaf (restV r)]) v ∧ keysOk row 0 qs ∧ PcAt K H pl p ∧ 4 * m + 23 ≤ k ∧
  Goes T M H o E (takeEntries T.S.sem (tpM T m) (woM T) T.late T.noth row qs r p σ) fun f _ H' => ∀ u, FlAt K H' u f → Q u H'
theorem scTw : FnScope ["self", "wanted", "place", "key", "part", "default", "given", "missing", "failure"] ["self", "wanted", "place"] (defScope sTakeWanted) := ⟨rfl, rfl, rfl, by decide +kernel, rfl, by decide +kernel, by decide +kernel⟩
theorem ok_wanted {f fW fP fI : Addr} {fd fdW fdP fdI : FuncData} {k : Nat} (F : Fun K "take_wanted" "Taking.take_wanted" sTakeWanted f fd) (hk : 18 ≤ k)
    (FW : Fun K "work_out" "Taking.work_out" sWorkOut fW fdW) (GW : FnOk P w K mg base (L2.CX P w) 18 fW fdW ["self", "term"] (spWorkOut T 18)) (bW : L2.Binds K fdW ["self", "term"] []) (mW : Meth K T.CT "work_out" fW)
    (FI : Fun K "inner_place" "inner_place" sInPlace fI fdI) (GI : FnOk P w K mg base CX0 2 fI fdI ["place", "key"] (spInPlace K)) (bI : L2.Binds K fdI ["place", "key"] []) (mI : mg "inner_place" = some (.ref fI))
    (FP : Fun K "take_part" "Taking.take_part" sTakePart fP fdP) (GP : FnOk P w K mg base (L2.CX P w) k fP fdP ["self", "part", "place"] (spTakePart T k)) (bP : L2.Binds K fdP ["self", "part", "place"] []) (mP : Meth K T.CT "take_part" fP) :
    FnOk P w K mg base (L2.CX P w) (k + 1) f fd ["self", "wanted", "place"] (spTakeWanted T (k + 1)) := by
  refine F.okX scTw (fun vs H Q E h => ?_) (fun cdv A outer s H vs Q E hr h => ?_)
  · obtain ⟨o, M, σ, wl, ws, qs, pl, p, m, rfl, _⟩ := h
    rfl
  obtain ⟨o, M, σ, wl, ws, qs, pl, p, m, rfl, hT, hwl, hws, hp, hm, hG⟩ := h
  have hr2 := hr.mono (show 2 ≤ k by omega)
  have hr18 := hr.mono hk
  refine ⟨_, pss_cons (ps_for (passes_of rfl) rfl (pi_list (pv 1)) (pg_tup rfl (pgs_cons (pg_name (i := 3) scTw.nd rfl (Or.inl rfl)) (pgs_cons (pg_name (i := 4) scTw.nd rfl (Or.inl rfl)) (pgs_cons (pg_name (i := 5) scTw.nd rfl (Or.inl rfl)) pgs_nil))))
      (pss_cons (ps_asg (pe_meth (pv 0) T.cT.cl mW GW hr18 bW .nil (passes_call (takes_of rfl rfl rfl rfl) fun _ _ _ _ h => h) (pa_cons (pv 5) pa_nil)) (pg_tup rfl (pgs_cons (pg_name (i := 6) scTw.nd rfl (Or.inl rfl)) (pgs_cons (pg_name (i := 7) scTw.nd rfl (Or.inl rfl)) pgs_nil))))
      (pss_cons (ps_if (pt_cmpR op_isN (pv 6) pe_non (nomark _)) (pss_one (ps_ret (pe_tup (pa_cons (pe_call GI hr2 rfl mI FI.kp bI .nil pass0 (pa_cons (pv 2) (pa_cons (pv 3) pa_nil))) (pa_cons (pe_tup (pa_cons pe_str (pa_cons (pv 7) pa_nil))) pa_nil))))) pss_nil)
      (pss_cons (ps_set (i := 8) scTw.nd rfl (Or.inl rfl) (pe_meth (pv 0) T.cT.cl mP GP hr bP .nil (passes_call (takes_of rfl rfl rfl rfl) fun _ _ _ _ h => h) (pa_cons (pv 4) (pa_cons (pv 6) pa_nil))))
      (pss_one (ps_if (pt_cmpR op_notN (pv 8) pe_non (nomark _)) (pss_one (ps_ret (pv 8))) pss_nil))))))
    (pss_one (ps_ret pe_non)), ?_⟩
  have hwlH := fun {H' : Hp} {σ' : Tst} (t : TkAt T T.S.rep M H' o σ') => SqL.of (K := K) (t.fr.same _ _ hwl)
  have hwq : ws.length = qs.length := hws.length
  refine ⟨_, rfl, wl, rfl, ⟨ws, hwlH hT⟩, ?_⟩
  refine for_list (K := K) (a := wl) (xs := ws) (fun i σ' H' => ∃ (σi : Tst) (v3 v4 v5 v6 v7 v8 : Option V), TkAt T T.S.rep M H' o σi ∧ TupSt H H' ∧ Goes T M H' o E (takeWanted (tpM T m) (woM T) p (qs.drop i) σi) (fun f _ H' => ∀ u, FlAt K H' u f → Q u H') ∧
    σ' = [some (.ref (o 0)), some (.ref wl), some pl, v3, v4, v5, v6, v7, v8]) ⟨σ, none, none, none, none, none, none, hT, tupst_refl H, hG, rfl⟩ (fun i σ' H' _ ⟨σi, v3, v4, v5, v6, v7, v8, h, _⟩ => hwlH h) ?_ ?_
  · rintro i x σ' H2 hix ⟨σi, v3, v4, v5, v6, v7, v8, hT2, ts2, hG2, rfl⟩
    obtain ⟨q, hq, a, xv, rv, rfl, ha, hxv, hrv⟩ := Paired.item hws hix
    have e1 : qs.drop i = q :: qs.drop (i + 1) := by
      have := List.drop_eq_getElem_cons (List.getElem?_eq_some_iff.mp hq).1
      rw [(List.getElem?_eq_some_iff.mp hq).2] at this
      exact this
    rw [e1] at hG2
    have hG3 : Goes T M H2 o E ((woM T q.2.2 σi).bind fun g σ1 => match g with
      | .inr z => if okInB p q.1 = true ∧ (pcB p).ks.length ≤ 1000 then .ok (some (.at (pcIn p q.1), .unb z)) σ1 else .bad
      | .inl pc => (tpM T m q.2.1 pc σ1).bind fun f σ2 => match f with
        | some f => .ok (some f) σ2
        | none => takeWanted (tpM T m) (woM T) p (qs.drop (i + 1)) σ2) (fun f _ H' => ∀ u, FlAt K H' u f → Q u H') := hG2
    obtain ⟨dx2, fs2, hi2, hlen2, look2, non2⟩ := tk_fld hT2
    refine ⟨a, _, rfl, SqT.of (hT2.fr.same _ _ ha), rfl, _, _, rfl, _, _, rfl, _, _, rfl, rfl, ?_⟩
    refine ⟨_, rfl, o 0, dx2, fs2, rfl, hi2, non2 _ (by decide +kernel), _, rfl, o, M, σi, rv, q.2.2, 7, rfl, hT2, hrv, by decide, ?_⟩
    refine hG3.of_bind.mono fun g σ3 H3 hT3 ts3 ⟨_, _, hG4⟩ u hu => ?_
    cases g with
    | inr z =>
      have hG5 : Goes T M H3 o E (if okInB p q.1 = true ∧ (pcB p).ks.length ≤ 1000 then Out.ok (some (Pc.at (pcIn p q.1), Why.unb z)) σ3 else .bad) (fun f _ H' => ∀ u, FlAt K H' u f → Q u H') := hG4
      obtain ⟨⟨ho, hl⟩, hG6⟩ := goes_if hG5
      obtain ⟨ta, rfl, hta⟩ := hu
      refine ⟨ta, _, rfl, hta, rfl, _, _, rfl, _, _, rfl, rfl, ?_⟩
      refine ⟨_, rfl, rfl, _, rfl, ifT (decide_eq_true rfl) ?_⟩
      refine ⟨_, rfl, _, rfl, pl, p, q.1, rfl, hp.st (ts2.trans ts3), okInB_ok ho, Nat.le_trans hl (by decide), fun u4 H4 hs4 hu4 => ⟨_, rfl, by show 2 ≤ sizeLine; decide, fun t5 ht5 => ⟨by show 2 ≤ sizeLine; decide, fun t6 ht6 => ?_⟩⟩⟩
      have s5 := same_new ht5 (.tup [V.str (Str.ofString "unbound"), V.str z])
      have s6 := same_new ht6 (.tup [u4, V.ref t5])
      exact hG6 _ (((hT3.same T.S.keep hs4).same T.S.keep s5).same T.S.keep s6) (TupSt.of ((hs4.trans s5).trans s6)) _ ⟨t6, u4, _, rfl, SqT.of upd_same, (hu4.same s5).same s6, t5, rfl, SqT.of (s6 _ _ upd_same)⟩
    | inl pc =>
      obtain ⟨ta, pvv, xv2, rfl, hta, hpv⟩ := hu
      obtain ⟨pa, pxs, rfl, _⟩ := hpv.head
      have hG5 : Goes T M H3 o E ((tpM T m q.2.1 pc σ3).bind fun f σ2 => match f with
        | some f => .ok (some f) σ2
        | none => takeWanted (tpM T m) (woM T) p (qs.drop (i + 1)) σ2) (fun f _ H' => ∀ u, FlAt K H' u f → Q u H') := hG4
      obtain ⟨dx3, fs3, hi3, hlen3, look3, non3⟩ := tk_fld hT3
      refine ⟨ta, _, rfl, hta, rfl, _, _, rfl, _, _, rfl, rfl, ?_⟩
      refine ⟨_, rfl, rfl, _, rfl, ifF (decide_eq_false fun z => nomatch z) ?_⟩
      refine ⟨_, rfl, o 0, dx3, fs3, rfl, hi3, non3 _ (by decide +kernel), _, rfl, _, rfl, o, M, σ3, xv, _, q.2.1, pc, m, rfl, hT3, hxv, hpv, by omega, ?_⟩
      refine hG5.of_bind.mono fun fl σ4 H4 hT4 ts4 ⟨_, _, hG6⟩ u hu => ?_
      refine ⟨_, rfl, rfl, _, rfl, ?_⟩
      cases fl with
      | some fl =>
        obtain ⟨a1, v1, x1, rfl, h1⟩ := id hu
        exact ifT (by rw [decide_eq_false (fun z => nomatch z)]; rfl) ⟨_, rfl, hG6.done hT4 _ hu⟩
      | none =>
        obtain rfl : u = .non := hu
        exact ifF (by rw [decide_eq_true rfl]; rfl) ⟨σ4, _, _, _, _, _, _, hT4, (ts2.trans ts3).trans ts4, hG6, rfl⟩
  · rintro σ' H2 ⟨σi, v3, v4, v5, v6, v7, v8, hT2, ts2, hG2, rfl⟩
    rw [hwq, List.drop_length] at hG2
    exact hG2.done hT2 _ rfl
end
end K02
set_option Elab.async false
set_option linter.all false
set_option maxRecDepth 100000
set_option maxHeartbeats 4000000
namespace K02
open PySem L2 PyProof.Rows
section
variable {P : Program} {w : World} {K : PySem.W.Frag} {mg : Str → Option Value} {base : Heap} {T : Tc P w K mg base}
theorem askB_okAn {S : Src P w K mg base} {l : Lq} {σ σ' : Tst} {v : V} (h : askB S.sem l σ = .ok v σ') : okAn l v := by
  unfold askB at h
  by_cases c : (lqP l).ks.length ≤ 1000
  · rw [if_pos c] at h
    exact ask_okAn h
  · rw [if_neg c] at h
    cases h
theorem missing_bl {S : Src P w K mg base} {n : Bool} {p : Pc} {k : Ky} {d : Bool} {σ σ' : Tst} {v : V} (h : missing S.sem n p k d σ = .ok v σ') : ∃ b, v = .bl b := by
  unfold missing at h
  by_cases c0 : okInB p k = true ∧ (pcB p).ks.length ≤ 900
  · rw [if_pos c0] at h
    by_cases c1 : outOf p k = true
    · rw [if_pos c1] at h
      cases h
      exact ⟨true, rfl⟩
    · rw [if_neg c1] at h
      cases e : askB S.sem (.has (pcB p) (kyIn p k)) σ with
      | up n σ1 =>
        rw [e] at h
        cases h
      | bad =>
        rw [e] at h
        cases h
      | ok v1 σ1 =>
        rw [e] at h
        have h2 : (if v1 = .bl true then (if n = true ∧ d = true then askB S.sem (.none (pcIn p k)) σ1 else .ok (.bl false) σ1) else .ok (.bl true) σ1) = Out.ok v σ' := h
        by_cases c2 : v1 = .bl true
        · rw [if_pos c2] at h2
          by_cases c3 : n = true ∧ d = true
          · rw [if_pos c3] at h2
            exact askB_okAn h2
          · rw [if_neg c3] at h2
            cases h2
            exact ⟨false, rfl⟩
        · rw [if_neg c2] at h2
          cases h2
          exact ⟨true, rfl⟩
  · rw [if_neg c0] at h
    cases h
theorem scTe : FnScope ["self", "entry", "place", "wanted", "key", "part", "default"] ["self", "entry", "place", "wanted"] (defScope sTakeEntry) := ⟨rfl, rfl, rfl, by decide +kernel, rfl, by decide +kernel, by decide +kernel⟩
theorem ok_entry {f fM fP fI fW : Addr} {fd fdM fdP fdI fdW : FuncData} {k : Nat} (F : Fun K "take_entry" "Taking.take_entry" sTakeEntry f fd) (Tx : Txt K mg) (zS : mg "str" = none) (hk : 18 ≤ k)
    (FM : Fun K "is_missing" "Taking.is_missing" sIsMissing fM fdM) (GM : FnOk P w K mg base (L2.CX P w) 11 fM fdM ["self", "entry", "place"] (spMissing T)) (bM : L2.Binds K fdM ["self", "entry", "place"] []) (mM : Meth K T.CT "is_missing" fM)
    (FI : Fun K "inner_place" "inner_place" sInPlace fI fdI) (GI : FnOk P w K mg base CX0 2 fI fdI ["place", "key"] (spInPlace K)) (bI : L2.Binds K fdI ["place", "key"] []) (mI : mg "inner_place" = some (.ref fI))
    (FP : Fun K "take_part" "Taking.take_part" sTakePart fP fdP) (GP : FnOk P w K mg base (L2.CX P w) k fP fdP ["self", "part", "place"] (spTakePart T k)) (bP : L2.Binds K fdP ["self", "part", "place"] []) (mP : Meth K T.CT "take_part" fP)
    (FW : Fun K "take_wanted" "Taking.take_wanted" sTakeWanted fW fdW) (GW : FnOk P w K mg base (L2.CX P w) (k + 1) fW fdW ["self", "wanted", "place"] (spTakeWanted T (k + 1))) (bW : L2.Binds K fdW ["self", "wanted", "place"] []) (mW : Meth K T.CT "take_wanted" fW) :
    FnOk P w K mg base (L2.CX P w) (k + 2) f fd ["self", "entry", "place", "wanted"] (spTakeEntry T (k + 2)) := by
  refine F.okX scTe (fun vs H Q E h => ?_) (fun cdv A outer s H vs Q E hr h => ?_)
  · obtain ⟨o, M, σ, ev, wl, ws, q, wd, pl, p, m, rfl, _⟩ := h
    rfl
  obtain ⟨o, M, σ, ev, wl, ws, q, wd, pl, p, m, rfl, hT, hMw, h0M, hev, hws, hp, hm, hG⟩ := h
  have hr2 := hr.mono (show 2 ≤ k + 1 by omega)
  have hr11 := hr.mono (show 11 ≤ k + 1 by omega)
  have hrk := hr.mono (show k ≤ k + 1 by omega)
  refine ⟨_, pss_cons (ps_asg (pv 1) (pg_tup rfl (pgs_cons (pg_name (i := 4) scTe.nd rfl (Or.inl rfl)) (pgs_cons (pg_name (i := 5) scTe.nd rfl (Or.inl rfl)) (pgs_cons (pg_name (i := 6) scTe.nd rfl (Or.inl rfl)) pgs_nil)))))
    (pss_cons (ps_if (pt_not (pt_val (pe_meth (pv 0) T.cT.cl mM GM hr11 bM .nil (passes_call (takes_of rfl rfl rfl rfl) fun _ _ _ _ h => h) (pa_cons (pv 1) (pa_cons (pv 2) pa_nil))))) (pss_one (ps_ret (pe_meth (pv 0) T.cT.cl mP GP hrk bP .nil (passes_call (takes_of rfl rfl rfl rfl) fun _ _ _ _ h => h) (pa_cons (pv 5) (pa_cons (pe_call GI hr2 rfl mI FI.kp bI .nil pass0 (pa_cons (pv 2) (pa_cons (pv 4) pa_nil))) pa_nil))))) pss_nil)
    (pss_cons (ps_if (pt_cmpR op_isN (pv 6) pe_non (nomark _)) (pss_one (ps_ret (pe_tup (pa_cons (pv 2) (pa_cons (pe_tup (pa_cons (pe_ifExp (pt_val (pe_callB call_isi (by rfl) Tx.isi boot_isinstance (pa_cons (pv 4) (pa_cons (pe_bltn (v := .ty "str") (by rfl) zS boot_str rfl) pa_nil)))) pe_str pe_str) (pa_cons (pv 4) pa_nil))) pa_nil))))) pss_nil)
    (pss_cons (ps_if (pt_val (pe_fld (pv 0) rfl)) (pss_cons (ps_expr (pe_bm PySem.F.plainAttrs_list PySem.F.slot_list_append PySem.F.type_list_append mt_append (pv 3) (pa_cons (pv 1) pa_nil))) (pss_one (ps_ret pe_non))) pss_nil)
    (pss_one (ps_ret (pe_meth (pv 0) T.cT.cl mW GW hr bW .nil (passes_call (takes_of rfl rfl rfl rfl) fun _ _ _ _ h => h) (pa_cons (pe_lst (pa_cons (pv 1) pa_nil)) (pa_cons (pv 2) pa_nil)))))))), ?_⟩
  have sM : Same M (upd M wl (.lst ws)) := same_new hMw _
  have h0w : T.S.M0 wl = none := h0M.free hMw
  obtain ⟨e, xv, rv, rfl, he, hxv, hrv⟩ := id hev
  obtain ⟨dx, fs, hi, hlen, look, non⟩ := tk_fld hT
  have heH := hT.fr.same _ _ (sM _ _ he)
  unfold takeEntry at hG
  have hG1 := hG.of_bind
  rw [← isDef_rw hrv] at hG1
  have hG2 := (hG1.around sM h0M).also (R := fun v => ∃ b, v = .bl b) fun a σ' e => missing_bl (S := T.S) e
  refine ⟨_, rfl, e, _, rfl, SqT.of heH, rfl, _, _, rfl, _, _, rfl, _, _, rfl, rfl, ?_⟩
  refine ⟨_, rfl, o 0, dx, fs, rfl, hi, non _ (by decide +kernel), _, rfl, _, rfl, o, _, σ, e, pl, xv, rv, p, q.1, rfl, hT, SqT.of heH, hp, ?_⟩
  refine hG2.mono fun v σ1 H1 hT1 ts1 ⟨⟨c, ec⟩, _, hT1m, _, hG3⟩ => ⟨⟨c, ec⟩, ?_⟩
  subst ec
  refine ⟨c, rfl, ?_⟩
  obtain ⟨dx1, fs1, hi1, hlen1, look1, non1⟩ := tk_fld hT1
  have hp1 := hp.st ts1
  cases c with
  | false =>
    rw [if_pos rfl] at hG3
    obtain ⟨⟨ho, hl⟩, hG4⟩ := goes_if hG3
    refine ifT rfl ⟨_, rfl, o 0, dx1, fs1, rfl, hi1, non1 _ (by decide +kernel), _, rfl, _, rfl, _, rfl, pl, p, q.1, rfl, hp1, okInB_ok ho, Nat.le_trans hl (by decide), fun u2 H2 hs2 hu2 => ?_⟩
    have hT2 := hT1.same T.S.keep hs2
    refine ⟨o, _, σ1, xv, u2, q.2.1, _, m, rfl, hT2, hxv.same sM, hu2, by omega, ?_⟩
    exact (((hG4.later (TupSt.of hs2)).of_bind).around sM h0M).mono fun fl σ3 H3 hT3 ts3 ⟨_, hT3m, _, hG5⟩ u hu => (hG5.done hT3m) u ws hT3 hws hu
  | true =>
    rw [if_neg (fun z => by cases V.bl.inj z)] at hG3
    refine ifF rfl ⟨_, rfl, rfl, _, rfl, ?_⟩
    have edef : (!decide (rv = V.non)) = isDef q.2.2 := isDef_rw hrv
    by_cases hd : rv = .non
    · rw [if_pos (by rw [decide_eq_true hd]; rfl)] at hG3
      refine ifT (decide_eq_true hd) ?_
      have fin : ∀ (s9 : String), missS q.1 = s9 → ∀ t5, H1 t5 = none → ∀ t6, (upd H1 t5 (.tup [V.str (Str.ofString s9), q.1.v])) t6 = none → Q (.ref t6) (upd (upd H1 t5 (.tup [V.str (Str.ofString s9), q.1.v])) t6 (.tup [pl, .ref t5])) := fun s9 e9 t5 ht5 t6 ht6 => by
        have s5 := same_new ht5 (.tup [V.str (Str.ofString s9), q.1.v])
        have s6 := same_new ht6 (.tup [pl, V.ref t5])
        refine hG3 _ ((hT1m.same T.S.keep s5).same T.S.keep s6) (TupSt.of (s5.trans s6)) _ ws ((hT1.same T.S.keep s5).same T.S.keep s6) hws ⟨t6, pl, _, rfl, SqT.of upd_same, hp1.same (s5.trans s6), t5, rfl, SqT.of ?_⟩
        rw [e9]
        exact s6 _ _ upd_same
      cases hq1 : q.1 with
      | ix i =>
        rw [hq1] at fin
        exact ⟨_, rfl, _, rfl, _, _, _, _, _, rfl, .ty _, .base (.int _), kit_ty (a := "int") (b := "str") (r := false) (by decide +kernel), _, rfl, iteF ⟨_, rfl, by show 2 ≤ sizeLine; decide, fun t5 ht5 => ⟨by show 2 ≤ sizeLine; decide, fun t6 ht6 => fin "item" rfl t5 ht5 t6 ht6⟩⟩⟩
      | fd z =>
        rw [hq1] at fin
        exact ⟨_, rfl, _, rfl, _, _, _, _, _, rfl, .ty _, .base (.str _), kit_ty (a := "str") (b := "str") (r := true) (by decide +kernel), _, rfl, iteT ⟨_, rfl, by show 2 ≤ sizeLine; decide, fun t5 ht5 => ⟨by show 2 ≤ sizeLine; decide, fun t6 ht6 => fin "field" rfl t5 ht5 t6 ht6⟩⟩⟩
    · rw [if_neg (by rw [decide_eq_false hd]; exact fun z => nomatch z)] at hG3
      refine ifF (decide_eq_false hd) ⟨_, rfl, o 0, T.CT, dx1, fs1, _, rfl, hi1, T.cT.cl, T.cT.at_ (i := 1) rfl, look1 1 _ (by decide) rfl, T.late, rfl, ?_⟩
      by_cases hlt : T.late = true
      · rw [if_pos hlt] at hG3
        obtain ⟨hwl, hG4⟩ := goes_if hG3
        have hw1 : H1 wl = some (.lst ws) := hT1.fr.same _ _ upd_same
        refine ifT hlt ⟨_, rfl, .inl ⟨rfl, _, SqL.of hw1⟩, _, rfl, wl, ws, .ref e, rfl, rfl, hw1, ?_, ?_⟩
        · rw [show ws.length = wd.length from hws.length]
          exact Nat.lt_trans hwl (by decide)
        have hT2 := hT1.reput (p := wl) (xs := ws) (ys := ws ++ [.ref e]) upd_same h0w
        rw [upd_upd] at hT2
        have ts2 : TupSt H1 (upd H1 wl (.lst (ws ++ [.ref e]))) := TupSt.upd hw1 (fun _ z => nomatch z) (fun _ _ z => nomatch z)
        exact hG4 _ (hT2.weak (same_new hMw _) h0M) ts2 _ (ws ++ [.ref e]) hT2 (Paired.snoc hws hev) rfl
      · rw [if_neg hlt] at hG3
        refine ifF (by cases h9 : T.late with | false => rfl | true => exact absurd h9 hlt) ?_
        refine ⟨_, rfl, o 0, dx1, fs1, rfl, hi1, non1 _ (by decide +kernel), _, rfl, by show 1 ≤ sizeLine; decide, fun l2 hl2 => ?_⟩
        have s2 := same_new hl2 (.lst [V.ref e])
        have hT2 := hT1.addL hl2 (.lst [V.ref e])
        have hM2 : (upd M wl (.lst ws)) l2 = none := hT1.fr.same.free hl2
        have sM2 : Same (upd M wl (.lst ws)) (upd (upd M wl (.lst ws)) l2 (.lst [V.ref e])) := same_new hM2 _
        refine ⟨_, rfl, o, _, σ1, l2, [.ref e], [q], pl, p, m, rfl, hT2, upd_same, .cons (hev.same (sM.trans sM2)) .nil, hp1.same s2, by omega, ?_⟩
        exact (((hG3.later (TupSt.of s2)).of_bind).around (sM.trans sM2) h0M).mono fun fl σ3 H3 hT3 ts3 ⟨_, hT3m, _, hG5⟩ u hu => (hG5.done hT3m) u ws (hT3.weak sM2 (h0M.trans sM)) hws hu
end
end K02
set_option Elab.async false
set_option linter.all false
set_option maxRecDepth 100000
set_option maxHeartbeats 4000000
namespace K02
open PySem L2 PyProof.Rows
theorem paired_of {α β : Type} {F : α → β → Prop} : ∀ {xs : List α} {ys : List β}, xs.length = ys.length → (∀ (i : Nat) (y : β), ys[i]? = some y → ∃ x, xs[i]? = some x ∧ F x y) → Paired F xs ys
  | [], [], _, _ => .nil
  | [], _ :: _, e, _ => by cases e
  | _ :: _, [], e, _ => by cases e
  | x :: xs, y :: ys, e, h => by
    obtain ⟨x0, e0, h0⟩ := h 0 y rfl
    cases e0
    exact .cons h0 (paired_of (Nat.succ.inj e) fun i z hz => h (i + 1) z hz)
section
variable {P : Program} {w : World} {K : PySem.W.Frag} {mg : Str → Option Value} {base : Heap} {T : Tc P w K mg base}
theorem kindAt_str {S : Src P w K mg base} {p : Pc} {σ σ' : Tst} {v : V} (h : kindAt S.sem p σ = .ok v σ') : ∃ s, v = .str s := by
  have go : ∀ q : Pth, askB S.sem (.what q) σ = .ok v σ' → ∃ s, v = .str s := fun q e => askB_okAn (S := S) e
  cases p with
  | known x =>
    cases h
    exact ⟨_, rfl⟩
  | step => cases h
  | «at» q => exact go _ h
  | items q n => exact go _ h
  | others q zs => exact go _ h
theorem scTs : FnScope ["self", "part", "place", "wanted", "entry", "failure"] ["self", "part", "place"] (defScope sTakeEntries) := ⟨rfl, rfl, rfl, by decide +kernel, rfl, by decide +kernel, by decide +kernel⟩
theorem ok_entries {f fK fN fE fR fW : Addr} {fd fdK fdN fdE fdR fdW : FuncData} {k : Nat} (F : Fun K "take_entries" "Taking.take_entries" sTakeEntries f fd) (hk : 18 ≤ k)
    (FK : Fun K "kind_at" "Taking.kind_at" sKindAt fK fdK) (GK : FnOk P w K mg base (L2.CX P w) 11 fK fdK ["self", "place"] (spKindAt T)) (bK : L2.Binds K fdK ["self", "place"] []) (mK : Meth K T.CT "kind_at" fK)
    (FN : Fun K "entries_of" "entries_of" sEntries fN fdN) (GN : FnOk P w K mg base CX0 1 fN fdN ["part"] spEnt2) (bN : L2.Binds K fdN ["part"] []) (mN : mg "entries_of" = some (.ref fN))
    (FE : Fun K "take_entry" "Taking.take_entry" sTakeEntry fE fdE) (GE : FnOk P w K mg base (L2.CX P w) (k + 2) fE fdE ["self", "entry", "place", "wanted"] (spTakeEntry T (k + 2))) (bE : L2.Binds K fdE ["self", "entry", "place", "wanted"] []) (mE : Meth K T.CT "take_entry" fE)
    (FR : Fun K "take_rest" "Taking.take_rest" sTakeRest fR fdR) (GR : FnOk P w K mg base CX0 4 fR fdR ["self", "part", "place"] (spTakeRest T)) (bR : L2.Binds K fdR ["self", "part", "place"] []) (mR : Meth K T.CT "take_rest" fR)
    (FW : Fun K "take_wanted" "Taking.take_wanted" sTakeWanted fW fdW) (GW : FnOk P w K mg base (L2.CX P w) (k + 1) fW fdW ["self", "wanted", "place"] (spTakeWanted T (k + 1))) (bW : L2.Binds K fdW ["self", "wanted", "place"] []) (mW : Meth K T.CT "take_wanted" fW) :
    FnOk P w K mg base (L2.CX P w) (k + 3) f fd ["self", "part", "place"] (spTakeEntries T (k + 3)) := by
  refine F.okX scTs (fun vs H Q E h => ?_) (fun cdv A outer s H vs Q E hr h => ?_)
  · obtain ⟨o, M, σ, v, pl, row, qs, r, p, m, rfl, _⟩ := h
    rfl
  obtain ⟨o, M, σ, v, pl, row, qs, r, p, m, rfl, hT, hv, hky, hp, hm, hG⟩ := h
  have hr1 := hr.mono (show 1 ≤ k + 2 by omega)
  have hr4 := hr.mono (show 4 ≤ k + 2 by omega)
  have hr11 := hr.mono (show 11 ≤ k + 2 by omega)
  have hrk := hr.mono (show k + 1 ≤ k + 2 by omega)
  refine ⟨_, pss_cons (ps_if (pt_cmpR op_ne (pe_meth (pv 0) T.cT.cl mK GK hr11 bK .nil (passes_call (takes_of rfl rfl rfl rfl) fun _ _ _ _ h => h) (pa_cons (pv 2) pa_nil)) (pe_ix ix_tup (pv 1) pe_int (fun _ _ => rfl)) (nomark _)) (pss_one (ps_ret (pe_tup (pa_cons (pv 2) (pa_cons pe_str pa_nil))))) pss_nil)
    (pss_cons (ps_set (i := 3) scTs.nd rfl (Or.inl rfl) (pe_lst pa_nil))
    (Evl.pss_cut (ps_for (passes_of rfl) rfl (pi_list (pe_call GN hr1 rfl mN FN.kp bN .nil pass0 (pa_cons (pv 1) pa_nil))) (pg_name (i := 4) scTs.nd rfl (Or.inl rfl))
      (pss_cons (ps_set (i := 5) scTs.nd rfl (Or.inl rfl) (pe_meth (pv 0) T.cT.cl mE GE hr bE .nil (passes_call (takes_of rfl rfl rfl rfl) fun _ _ _ _ h => h) (pa_cons (pv 4) (pa_cons (pv 2) (pa_cons (pv 3) pa_nil)))))
      (pss_one (ps_if (pt_cmpR op_notN (pv 5) pe_non (nomark _)) (pss_one (ps_ret (pv 5))) pss_nil))))
    (pss_cons (ps_expr (pe_meth (pv 0) T.cT.cl mR GR hr4 bR .nil pass0 (pa_cons (pv 1) (pa_cons (pv 2) pa_nil))))
    (pss_one (ps_ret (pe_meth (pv 0) T.cT.cl mW GW hrk bW .nil (passes_call (takes_of rfl rfl rfl rfl) fun _ _ _ _ h => h) (pa_cons (pv 3) (pa_cons (pv 2) pa_nil)))))))), ?_⟩
  obtain ⟨a, lA, xs, rfl, ha, hlA, hxs⟩ := RW.ents hv
  have haH := hT.fr.same _ _ ha
  obtain ⟨dx, fs, hi, hlen, look, non⟩ := tk_fld hT
  unfold takeEntries at hG
  have hG1 := hG.of_bind.also (R := fun v => ∃ s, v = .str s) fun a σ' e => kindAt_str (S := T.S) e
  refine ⟨_, rfl, o 0, dx, fs, rfl, hi, non _ (by decide +kernel), _, rfl, o, M, σ, pl, p, rfl, hT, hp, ?_⟩
  refine hG1.mono fun v1 σ1 H1 hT1 ts1 ⟨⟨s1, es1⟩, _, _, hG2⟩ => ?_
  subst es1
  have ha1 := hT1.fr.same _ _ ha
  have hp1 := hp.st ts1
  refine ⟨_, rfl, a, _, 0, _, rfl, rfl, SqT.of ha1, atI_nat (j := 0) rfl, rfl, _, rfl, ?_⟩
  by_cases ck : ¬ s1 = Str.ofString (rowS row)
  · rw [if_neg (fun z => ck (V.str.inj z))] at hG2
    refine ifT (by rw [decide_eq_false (fun z => ck (V.str.inj z))]; rfl) ⟨_, rfl, by show 2 ≤ sizeLine; decide, fun t ht => ?_⟩
    have s2 := same_new ht (.tup [pl, V.str (Str.ofString "kind")])
    exact hG2 _ (hT1.same T.S.keep s2) (TupSt.of s2) _ ⟨t, pl, _, rfl, SqT.of upd_same, hp1.same s2, rfl⟩
  have ck2 : s1 = Str.ofString (rowS row) := Classical.not_not.mp ck
  subst ck2
  rw [if_pos rfl] at hG2
  obtain ⟨hql, hG3⟩ := goes_if hG2
  refine ifF (by rw [decide_eq_true rfl]; rfl) ⟨by show 0 ≤ sizeLine; decide, fun wl hwl => ?_⟩
  have s2 := same_new hwl (.lst [])
  have hT2 := hT1.same T.S.keep s2
  have hMwl : M wl = none := hT1.fr.same.free hwl
  have h0M := hT.fr.sub
  have how : ∀ i, i < 13 → o i ≠ wl := fun i hi z => by
    obtain ⟨u, e, _⟩ := hT1.ct.kind i hi
    rw [z, hwl] at e
    cases e
  have hmw : ¬ T.S.mu wl := fun z => T.S.muT _ _ hT1.fr.src wl z hwl
  have hpH2 : ∀ {H9 : Hp}, TupSt H1 H9 → PcAt K H9 pl p := fun t => hp1.st t
  let Kg := fun (r1 : Option Fail × List En) (σ2 : Tst) (H' : Hp) => TkAt T T.S.rep M H' o σ2 ∧ TupSt H1 H' ∧ Goes T M H' o E (match r1.1 with
        | some f => .ok (some f) σ2
        | none => (takeRest row qs r p σ2).bind fun _ σ3 => takeWanted (tpM T m) (woM T) p r1.2 σ3) (fun f _ H' => ∀ u, FlAt K H' u f → Q u H')
  have hGa : Goes T M H1 o E (takeAll T.S.sem (tpM T m) (woM T) T.late T.noth p qs [] σ1) Kg := hG3.of_bind
  refine ⟨fun σ' H' => ∃ (Ma : Hp) (ws : List V) (wd : List En) (σi : Tst) (v4 v5 : Option V), Same M Ma ∧ Ma wl = none ∧ TkAt T T.S.rep (upd Ma wl (.lst ws)) H' o σi ∧ Paired (EtM Ma) ws wd ∧ TupSt H1 H' ∧ Kg (none, wd) σi H' ∧ σ' = [some (.ref (o 0)), some (.ref a), some pl, some (.ref wl), v4, v5], ?_, ?_⟩
  · refine ⟨_, rfl, .ref a, M, row, qs, r, rfl, hv, hky, hql, hT2.fr.same, fun l es H3 hs3 hl0 hl3 hel hes => ?_⟩
    obtain ⟨Ma, eMa⟩ : ∃ Ma, Ma = K02.along M (upd H1 wl (.lst [])) H3 := ⟨_, rfl⟩
    have hTa : TkAt T T.S.rep Ma H3 o σ1 := by
      rw [eMa]
      exact hT2.along hs3
    have sMa : Same M Ma := by
      rw [eMa]
      exact along_M hT2.fr.same
    have hMal : Ma l = some (.lst es) := by
      rw [eMa, along_new hl0]
      exact hl3
    have hMaw : Ma wl = none := by
      rw [eMa]
      unfold K02.along
      rw [if_neg (by rw [upd_same]; exact fun z => nomatch z)]
      exact hMwl
    have hents : Paired (EtM Ma) es qs := paired_of hel fun i q hq => by
      obtain ⟨a1, x1, r1, b1, b2, b3, b4⟩ := hes i q hq
      refine ⟨_, b1, a1, x1, r1, rfl, ?_, b3.same sMa, b4.same sMa⟩
      rcases b2 with ⟨c1, c2⟩ | c
      · rw [eMa, along_new c1]
        exact c2
      · exact sMa _ _ c
    have hTb := hTa.addAt (p := wl) (u := .lst []) hMaw (hs3 _ _ upd_same) how hmw
    have nlw : l ≠ wl := fun z => by
      rw [z, upd_same] at hl0
      cases hl0
    have l_in : ∀ (ys : List V), (upd Ma wl (.lst ys)) l = some (.lst es) := fun ys => by
      rw [upd_ne nlw]
      exact hMal
    have ts13 : TupSt H1 H3 := (TupSt.of s2).trans (TupSt.of hs3)
    refine ⟨l, rfl, ⟨es, SqL.of hl3⟩, ?_⟩
    refine for_list (K := K) (a := l) (xs := es) (fun i σ' H' => ∃ (ws : List V) (wd : List En) (σi : Tst) (v4 v5 : Option V), TkAt T T.S.rep (upd Ma wl (.lst ws)) H' o σi ∧ Paired (EtM Ma) ws wd ∧ TupSt H1 H' ∧ Goes T M H' o E (takeAll T.S.sem (tpM T m) (woM T) T.late T.noth p (qs.drop i) wd σi) Kg ∧
      σ' = [some (.ref (o 0)), some (.ref a), some pl, some (.ref wl), v4, v5]) ⟨[], [], σ1, none, none, hTb, .nil, ts13, hGa.later ts13, rfl⟩ (fun i σ' H' _ ⟨ws, wd, σi, v4, v5, h, _⟩ => SqL.of (h.fr.same _ _ (l_in ws))) ?_ ?_
    · rintro i x σ' H4 hix ⟨ws, wd, σi, v4, v5, hT4, hws, ts4, hG4, rfl⟩
      obtain ⟨q, hq, hev⟩ := Paired.item hents hix
      have e1 : qs.drop i = q :: qs.drop (i + 1) := by
        have := List.drop_eq_getElem_cons (List.getElem?_eq_some_iff.mp hq).1
        rw [(List.getElem?_eq_some_iff.mp hq).2] at this
        exact this
      rw [e1] at hG4
      have hG5 : Goes T M H4 o E ((takeEntry T.S.sem (tpM T m) (woM T) T.late T.noth p q wd σi).bind fun r σ1 => match r.1 with
        | some f => .ok (some f, r.2) σ1
        | none => takeAll T.S.sem (tpM T m) (woM T) T.late T.noth p (qs.drop (i + 1)) r.2 σ1) Kg := hG4
      obtain ⟨dx4, fs4, hi4, hlen4, look4, non4⟩ := tk_fld hT4
      refine ⟨_, rfl, o 0, dx4, fs4, rfl, hi4, non4 _ (by decide +kernel), _, rfl, _, rfl, _, rfl, o, Ma, σi, x, wl, ws, q, wd, pl, p, m, rfl, hT4, hMaw, h0M.trans sMa, hev, hws, hpH2 ts4, by omega, ?_⟩
      refine (hG5.of_bind.around sMa h0M).mono fun r5 σ5 H5 hT5 ts5 ⟨_, hT5m, ts45, hG6⟩ u ws' hTw hws' hu => ?_
      refine ⟨_, rfl, rfl, _, rfl, ?_⟩
      obtain ⟨r51, r52⟩ := r5
      cases r51 with
      | some fl =>
        obtain ⟨a1, v1, x1, rfl, _⟩ := id hu
        refine ifT (by rw [decide_eq_false (fun z => nomatch z)]; rfl) ⟨_, rfl, ?_⟩
        have hK := hG6.done hT5m
        exact (hK.2.2.done hT5m) _ hu
      | none =>
        obtain rfl : u = .non := hu
        exact ifF (by rw [decide_eq_true rfl]; rfl) ⟨ws', r52, σ5, _, _, hTw, hws', ts4.trans ts5, hG6, rfl⟩
    · rintro σ' H4 ⟨ws, wd, σi, v4, v5, hT4, hws, ts4, hG4, rfl⟩
      rw [hel, List.drop_length] at hG4
      exact ⟨Ma, ws, wd, σi, v4, v5, sMa, hMaw, hT4, hws, ts4, hG4.done (hT4.weak (sMa.trans (same_new hMaw _)) h0M), rfl⟩
  rintro _ H4 ⟨Ma, ws, wd, σi, v4, v5, sMa, hMaw, hT4, hws, ts4, hKg, rfl⟩
  have sMb : Same Ma (upd Ma wl (.lst ws)) := same_new hMaw _
  have sMM := sMa.trans sMb
  obtain ⟨dx4, fs4, hi4, hlen4, look4, non4⟩ := tk_fld hT4
  have hG7 : Goes T M H4 o E ((takeRest row qs r p σi).bind fun _ σ3 => takeWanted (tpM T m) (woM T) p wd σ3) (fun f _ H' => ∀ u, FlAt K H' u f → Q u H') := hKg.2.2
  refine ⟨_, rfl, o 0, dx4, fs4, rfl, hi4, non4 _ (by decide +kernel), _, rfl, _, rfl, o, _, σi, .ref a, pl, row, qs, r, p, E, rfl, hT4, hv.same sMM, hky, hql, hpH2 ts4, ?_⟩
  refine (hG7.of_bind.around sMM h0M).mono fun u5 σ5 H5 hT5 ts5 ⟨_, hT5m, ts45, hG8⟩ => ?_
  obtain ⟨dx5, fs5, hi5, hlen5, look5, non5⟩ := tk_fld hT5
  refine ⟨_, rfl, o 0, dx5, fs5, rfl, hi5, non5 _ (by decide +kernel), _, rfl, _, rfl, o, _, σ5, wl, ws, wd, pl, p, m, rfl, hT5, upd_same, Paired.mapP hws fun _ _ z => z.same sMb, hpH2 (ts4.trans ts5), by omega, ?_⟩
  exact (hG8.around sMM h0M).mono fun f σ6 H6 hT6 ts6 ⟨_, h⟩ => h
theorem scTp : FnScope ["self", "part", "place"] ["self", "part", "place"] (defScope sTakePart) := ⟨rfl, rfl, rfl, by decide +kernel, rfl, by decide +kernel, by decide +kernel⟩
theorem tp_none {f : Addr} {fd : FuncData} {ps : List Str} : FnOk P w K mg base (L2.CX P w) 19 f fd ps (spTakePart T 19) := none_ofX fun vs H Q E h => by
  obtain ⟨o, M, σ, v, pl, d, p, m, _, _, _, _, h1, _⟩ := h
  omega
theorem ok_takepart {f fS : Addr} {fd fdS : FuncData} {k : Nat} (F : Fun K "take_part" "Taking.take_part" sTakePart f fd)
    (FS : Fun K "take_entries" "Taking.take_entries" sTakeEntries fS fdS) (GS : FnOk P w K mg base (L2.CX P w) (k + 3) fS fdS ["self", "part", "place"] (spTakeEntries T (k + 3))) (bS : L2.Binds K fdS ["self", "part", "place"] []) (mS : Meth K T.CT "take_entries" fS) :
    FnOk P w K mg base (L2.CX P w) (k + 4) f fd ["self", "part", "place"] (spTakePart T (k + 4)) := by
  refine F.okX scTp (fun vs H Q E h => ?_) (fun cdv A outer s H vs Q E hr h => ?_)
  · obtain ⟨o, M, σ, v, pl, d, p, m, rfl, _⟩ := h
    rfl
  obtain ⟨o, M, σ, v, pl, d, p, mm, rfl, hT, hv, hp, hm, hG⟩ := h
  refine ⟨_, pss_cons (ps_if (pt_cmpR op_eq (pe_ix ix_tup (pv 1) pe_int (fun _ _ => rfl)) pe_str (nomark _)) (pss_one (ps_ret pe_non)) pss_nil)
    (pss_cons (ps_if (pt_cmpR op_eq (pe_ix ix_tup (pv 1) pe_int (fun _ _ => rfl)) pe_str (nomark _)) (pss_cons (ps_dput (hu_of hr) (pe_fld (pv 0) rfl) (pe_ix ix_tup (pv 1) pe_int (fun _ _ => rfl)) (pv 2) rfl) (pss_one (ps_ret pe_non))) pss_nil)
    (pss_one (ps_ret (pe_meth (pv 0) T.cT.cl mS GS hr bS .nil (passes_call (takes_of rfl rfl rfl rfl) fun _ _ _ _ h => h) (pa_cons (pv 1) (pa_cons (pv 2) pa_nil)))))), ?_⟩
  cases mm with
  | zero => exact False.elim hG
  | succ m =>
  have hinv := parseP_inv d
  have hG0 : Goes T M H o E (match parseP d with
    | .any => .ok none σ
    | .name z => (putHeld z p σ).bind fun _ σ1 => .ok none σ1
    | .ent row qs r => takeEntries T.S.sem (takePart T.S.sem T.late T.noth m) (workOut T.S.sem 7) T.late T.noth row qs r p σ
    | .bad => .bad) (fun f _ H' => ∀ u, FlAt K H' u f → Q u H') := hG
  obtain ⟨dx, fs, hi, hlen, look, non⟩ := tk_fld hT
  cases e : parseP d with
  | bad =>
    rw [e] at hG0
    exact False.elim hG0
  | any =>
    rw [e] at hG0 hinv
    obtain rfl : d = _ := hinv
    obtain ⟨a, ys, rfl, ha, y, _, rfl, h0, en⟩ := hv
    obtain rfl : _ = [] := en
    obtain ⟨rfl, _⟩ := h0
    have ha2 := SqT.of (K := K) (hT.fr.same _ _ ha)
    exact ⟨_, rfl, a, _, 0, _, rfl, rfl, ha2, atI_nat (j := 0) rfl, rfl, _, rfl, ifT (decide_eq_true rfl) (hG0.done hT _ rfl)⟩
  | name z =>
    rw [e] at hG0 hinv
    obtain rfl : d = _ := hinv
    obtain ⟨a, rfl, ha⟩ := RW.pair hv
    have ha2 := SqT.of (K := K) (hT.fr.same _ _ ha)
    obtain ⟨hl, hk⟩ := putHeld_goes hG0.of_bind
    refine ⟨_, rfl, a, _, 0, _, rfl, rfl, ha2, atI_nat (j := 0) rfl, rfl, _, rfl, ifF (so_ne (s := "name") (t := "any") (by decide)) ?_⟩
    refine ⟨_, rfl, a, _, 0, _, rfl, rfl, ha2, atI_nat (j := 0) rfl, rfl, _, rfl, ifT (decide_eq_true rfl) ?_⟩
    obtain ⟨H4, hd, hD⟩ := held_put hT hp z hl (D := fun H' => Q .non H') fun H' t ts => (((hk H' t ts).2.2).done t) _ rfl
    exact ⟨_, rfl, _, rfl, o 0, T.CT, dx, fs, _, rfl, hi, T.cT.cl, T.cT.at_ (i := 4) rfl, look 4 _ (by decide) rfl, _, rfl, a, _, 1, _, rfl, rfl, ha2, atI_nat (j := 1) rfl, o 1, H4, rfl, hd, hD⟩
  | ent row qs r =>
    rw [e] at hG0 hinv
    obtain ⟨rfl, hky⟩ := hinv
    obtain ⟨a, l, xs, rfl, ha, _⟩ := RW.ents hv
    have ha2 := SqT.of (K := K) (hT.fr.same _ _ ha)
    have n1 : Str.ofString (rowS row) ≠ Str.ofString "any" := by cases row <;> decide
    have n2 : Str.ofString (rowS row) ≠ Str.ofString "name" := by cases row <;> decide
    refine ⟨_, rfl, a, _, 0, _, rfl, rfl, ha2, atI_nat (j := 0) rfl, rfl, _, rfl, ifF (so_ne n1) ?_⟩
    refine ⟨_, rfl, a, _, 0, _, rfl, rfl, ha2, atI_nat (j := 0) rfl, rfl, _, rfl, ifF (so_ne n2) ?_⟩
    exact ⟨_, rfl, o 0, dx, fs, rfl, hi, non _ (by decide +kernel), _, rfl, _, rfl, o, M, σ, .ref a, pl, row, qs, r, p, m, rfl, hT, hv, hky, hp, by omega, hG0⟩
end
end K02
set_option Elab.async false
set_option linter.all false
set_option maxRecDepth 100000
set_option maxHeartbeats 4000000
namespace K02
open PySem L2 PyProof.Rows
theorem call_dictOf {X : Cx} : CallR X (.type "dict") (fun xs H Q => ∃ (a : Addr) (kvs : List (Key × V)), xs = [.ref a] ∧ Rd H a (.dK kvs) ∧ ∀ p, H p = none → Q (.ref p) (upd H p (.dK kvs))) := by
  intro pins s σ H xs us Q I r q
  obtain ⟨a, kvs, rfl, hd, q⟩ := q
  obtain ⟨u, rfl, rx⟩ := vals1 r
  cases rx
  exact d_copyOf I hd fun p s' hp I' => ⟨.ref p, _, I', rfl, q p hp⟩
/-! ### steps -/
inductive ShS where
  | take (nm : Option Str) (d : D)
  | set (z : Str) (t : D)
  | cases (nm : Option Str) (ds : List D)
  | bad
def parseS : D → ShS
  | .tup [.leaf (.str s), .leaf v, d] =>
    if s = Str.ofString "set" then (match v with | .str z => .set z d | _ => .bad)
    else match restE v with
      | none => .bad
      | some nm => if s = Str.ofString "take" then .take nm d else if s = Str.ofString "cases" then (match d with | .lst ds => .cases nm ds | _ => .bad) else .bad
  | _ => .bad
def isS (d : D) : ShS → Prop
  | .take nm p => d = .tup [S "take", .leaf (restV nm), p]
  | .set z t => d = .tup [S "set", .leaf (.str z), t]
  | .cases nm ds => d = .tup [S "cases", .leaf (restV nm), .lst ds]
  | .bad => True
theorem parseS_inv (d : D) : isS d (parseS d) := by
  unfold parseS
  split
  · next s v d =>
    by_cases c : s = Str.ofString "set"
    · rw [if_pos c, c]
      cases v <;> first | trivial | rfl
    · rw [if_neg c]
      cases hr : restE v with
      | none => trivial
      | some nm =>
        rw [restE_inv hr]
        show isS _ (if s = Str.ofString "take" then .take nm d else if s = Str.ofString "cases" then (match d with | .lst ds => .cases nm ds | _ => .bad) else .bad)
        by_cases c2 : s = Str.ofString "take"
        · rw [if_pos c2, c2]
          rfl
        · rw [if_neg c2]
          by_cases c3 : s = Str.ofString "cases"
          · rw [if_pos c3, c3]
            cases d <;> first | trivial | rfl
          · rw [if_neg c3]
            trivial
  · trivial
def putT (l : List (Nat × Nat)) (i c : Nat) : List (Nat × Nat) := if (l.any fun q => decide (q.1 = i)) = true then l.map (fun q => if q.1 = i then (q.1, c) else q) else l ++ [(i, c)]
theorem takenO_put (l : List (Nat × Nat)) (i c : Nat) : HO.dK (putK (l.map fun p => ((Sum.inl (p.1 : Int) : Key), V.int (p.2 : Int))) (Sum.inl (i : Int)) (V.int (c : Int))) = takenO (putT l i c) := by
  have hj : ∀ a b : Nat, ((Sum.inl (a : Int) : Key) = Sum.inl (b : Int)) ↔ a = b := fun a b => ⟨fun h => Int.ofNat.inj (Sum.inl.inj h), fun h => by rw [h]⟩
  unfold putK putT takenO
  have e : ((l.map fun p => ((Sum.inl (p.1 : Int) : Key), V.int (p.2 : Int))).any fun kv => decide (kv.1 = Sum.inl (i : Int))) = l.any fun q => decide (q.1 = i) := by
    rw [List.any_map]
    congr 1
    funext q
    exact decide_eq_decide.mpr (hj _ _)
  rw [e]
  congr 1
  split
  · rw [List.map_map, List.map_map]
    refine List.map_congr_left fun q _ => ?_
    show (if (Sum.inl (q.1 : Int) : Key) = Sum.inl (i : Int) then ((Sum.inl (q.1 : Int) : Key), V.int (c : Int)) else (Sum.inl (q.1 : Int), V.int (q.2 : Int))) = _
    by_cases h : q.1 = i
    · rw [if_pos ((hj _ _).2 h)]
      show _ = (fun p : Nat × Nat => ((Sum.inl (p.1 : Int) : Key), V.int (p.2 : Int))) (if q.1 = i then (q.1, c) else q)
      rw [if_pos h]
    · rw [if_neg (fun z => h ((hj _ _).1 z))]
      show _ = (fun p : Nat × Nat => ((Sum.inl (p.1 : Int) : Key), V.int (p.2 : Int))) (if q.1 = i then (q.1, c) else q)
      rw [if_neg h]
  · rw [List.map_append]
    rfl
def nameAt (nm : Option Str) (σ : Tst) : Out (Option Pc) := match nm with
  | none => .ok (some (.at pV0)) σ
  | some z => match getH σ.held z with
    | some p => .ok (some p) σ
    | none => if σ.missed.length < 100000 then .ok none { σ with missed := insM σ.missed z } else .bad
def tryCases (tp : D → Pc → Tst → Out (Option Fail)) (ahead : List (Str × Pc)) (p : Pc) : Nat → List D → Tst → Out (Option Fail)
  | _, [], σ => .ok (some (p, .cases)) σ
  | i, d :: ds, σ => (tp d p σ).bind fun f σ1 => match f with
    | none => (match σ1.rch with
      | some r => if σ1.taken.length < 100000 then .ok none { σ1 with taken := putT σ1.taken r i } else .bad
      | none => .bad)
    | some _ => tryCases tp ahead p (i + 1) ds { σ1 with held := ahead }
def stepName : Option Str → Str
  | none => Str.empty
  | some z => z
section
variable (S : Sem) (tp : D → Pc → Tst → Out (Option Fail)) (wo : D → Tst → Out (Pc ⊕ Str))
def doStep (d : D) (σ : Tst) : Out (Option Fail) := match parseS d with
  | .bad => .bad
  | .set z t => (wo t σ).bind fun g σ1 => match g with
    | .inr y => .ok (some (.step, .unb y)) σ1
    | .inl p => (putHeld z p σ1).bind fun _ σ2 => .ok none σ2
  | .take nm t => (nameAt nm σ).bind fun q σ1 => match q with
    | none => .ok (some (.step, .unb (stepName nm))) σ1
    | some p => tp t p σ1
  | .cases nm ds => (nameAt nm σ).bind fun q σ1 => match q with
    | none => .ok (some (.step, .unb (stepName nm))) σ1
    | some p => if ds.length ≤ 1000 then tryCases tp σ1.held p 0 ds σ1 else .bad
def runAll : Nat → List D → Tst → Out Unit
  | _, [], σ => .ok () σ
  | i, d :: ds, σ => (doStep tp wo d { σ with rch := some i }).bind fun f σ1 => match f with
    | some f => .ok () { σ1 with flr := some f }
    | none => runAll (i + 1) ds { σ1 with flr := none }
end
section
variable {P : Program} {w : World} {K : PySem.W.Frag} {mg : Str → Option Value} {base : Heap} {T : Tc P w K mg base}
/-- .. where the run's own dict of what is bound may be another one behind -/
def GoesO {α : Type} (T : Tc P w K mg base) (M H : Hp) (t : Addr) (E : XK) (x : Out α) (k : α → Tst → (Nat → Addr) → Hp → Prop) : Prop :=
  Post x (fun a σ' => ∀ H' o', TkAt T T.S.rep M H' o' σ' → o' 0 = t → TupSt H H' → k a σ' o' H') (fun n σ' => Gone T.S.CE M E n fun H' => ∃ o', TkAt T T.S.up M H' o' σ' ∧ o' 0 = t ∧ TupSt H H')
theorem GoesO.fix {α : Type} {M H : Hp} {o : Nat → Addr} {t : Addr} {E : XK} {x : Out α} {k : α → Tst → (Nat → Addr) → Hp → Prop} (h : GoesO T M H t E x k) (ho : o 0 = t) : Goes T M H o E x fun a σ' H' => k a σ' o H' :=
  Post.mono h (fun a σ' q H' tk ts => q H' o tk ho ts) fun n σ' q d H' r => q d H' ⟨o, r.1, ho, r.2⟩
theorem GoesO.later {α : Type} {M H H1 : Hp} {t : Addr} {E : XK} {x : Out α} {k : α → Tst → (Nat → Addr) → Hp → Prop} (h : GoesO T M H t E x k) (s : TupSt H H1) : GoesO T M H1 t E x k :=
  Post.mono h (fun a σ' q H' o' tk ho ts => q H' o' tk ho (s.trans ts)) fun n σ' q d H' ⟨o', r1, r2, r3⟩ => q d H' ⟨o', r1, r2, s.trans r3⟩
theorem GoesO.mono {α : Type} {M H : Hp} {t : Addr} {E : XK} {x : Out α} {k k' : α → Tst → (Nat → Addr) → Hp → Prop} (h : GoesO T M H t E x k) (hk : ∀ a σ' o' H', TkAt T T.S.rep M H' o' σ' → o' 0 = t → TupSt H H' → k a σ' o' H' → k' a σ' o' H') : GoesO T M H t E x k' :=
  Post.mono h (fun a σ' q H' o' tk ho ts => hk a σ' o' H' tk ho ts (q H' o' tk ho ts)) fun n σ' q => q
theorem GoesO.of_bind {α β : Type} {M H : Hp} {t : Addr} {E : XK} {x : Out α} {f : α → Tst → Out β} {k : β → Tst → (Nat → Addr) → Hp → Prop} (h : GoesO T M H t E (x.bind f) k) :
    GoesO T M H t E x fun a σ' o' H' => TkAt T T.S.rep M H' o' σ' ∧ TupSt H H' ∧ GoesO T M H' t E (f a σ') k :=
  Post.mono (Post.of_bind h) (fun a σ' q H' o' tk ho ts => ⟨tk, ts, GoesO.later q ts⟩) fun n σ' q => q
theorem GoesO.done {α : Type} {M H : Hp} {o : Nat → Addr} {t : Addr} {E : XK} {σ : Tst} {a : α} {k : α → Tst → (Nat → Addr) → Hp → Prop} (h : GoesO T M H t E (.ok a σ) k) (tk : TkAt T T.S.rep M H o σ) (ho : o 0 = t) : k a σ o H := h H o tk ho (tupst_refl H)
theorem goesO_if {α : Type} {M H : Hp} {t : Addr} {E : XK} {c : Prop} [Decidable c] {x : Out α} {k : α → Tst → (Nat → Addr) → Hp → Prop} (h : GoesO T M H t E (if c then x else .bad) k) : c ∧ GoesO T M H t E x k := by
  by_cases hc : c
  · rw [if_pos hc] at h
    exact ⟨hc, h⟩
  · rw [if_neg hc] at h
    exact False.elim h
/-- a field of the run is written -/
theorem TkAt.setIns {M H : Hp} {o : Nat → Addr} {σ σ' : Tst} (h : TkAt T T.S.rep M H o σ) {dx : Addr} {fs : List (Str × V)} {vals : Nat → V} (hF : FsK tN tM 12 fs vals) (hv : ∀ i, i < 11 → vals i = tval T o σ' i)
    (hf : FlAt K H (vals 11) σ'.flr) (e1 : σ'.held = σ.held) (e2 : σ'.made = σ.made) (e3 : σ'.looks = σ.looks) (e4 : σ'.missed = σ.missed) (e5 : σ'.begun = σ.begun) (e6 : σ'.taken = σ.taken) :
    TkAt T T.S.rep M (upd H (o 0) (.ins T.CT dx fs)) o σ' ∧ TupSt H (upd H (o 0) (.ins T.CT dx fs)) := by
  obtain ⟨dx0, fs0, vals0, i1, _⟩ := h.ct.ins
  have e := own_ne h.fr (j := 0) (by decide) (HO.ins T.CT dx fs)
  have ts := h.own_st (j := 0) (by decide) (u := .ins T.CT dx fs) i1
  have f2 := h.fr.go T.S.keep (OBut.upd (j := 0) (u := .ins T.CT dx fs) (by decide))
  refine ⟨⟨by rw [e3]; exact f2, ⟨⟨dx, fs, vals, upd_same, hF, hv, hf.st ts⟩, by rw [e1]; exact h.ct.held.st ts (e 1 (by decide) (by decide)), by rw [e2]; exact h.ct.made.st ts (e 2 (by decide) (by decide)), by rw [e3]; exact h.ct.looks.st ts (e 3 (by decide) (by decide)), by rw [e4]; exact (e 4 (by decide) (by decide)).trans h.ct.missed, by rw [e5]; exact (e 5 (by decide) (by decide)).trans h.ct.begun, by rw [e6]; exact (e 6 (by decide) (by decide)).trans h.ct.taken, by rw [e3]; exact h.ct.facts.st ts fun i hi => e (7 + i) (by omega) (by omega)⟩⟩, ts⟩
theorem TkAt.setTaken {M H : Hp} {o : Nat → Addr} {σ : Tst} (h : TkAt T T.S.rep M H o σ) (l : List (Nat × Nat)) : TkAt T T.S.rep M (upd H (o 6) (takenO l)) o { σ with taken := l } ∧ TupSt H (upd H (o 6) (takenO l)) := by
  have e := own_ne h.fr (j := 6) (by decide) (takenO l)
  have ts := h.own_st (j := 6) (by decide) (u := takenO l) h.ct.taken
  obtain ⟨dx, fs, vals, i1, i2, i3, i4⟩ := h.ct.ins
  exact ⟨⟨h.fr.go T.S.keep (OBut.upd (by decide)), ⟨⟨dx, fs, vals, (e 0 (by decide) (by decide)).trans i1, i2, i3, i4.st ts⟩, h.ct.held.st ts (e 1 (by decide) (by decide)), h.ct.made.st ts (e 2 (by decide) (by decide)), h.ct.looks.st ts (e 3 (by decide) (by decide)), (e 4 (by decide) (by decide)).trans h.ct.missed, (e 5 (by decide) (by decide)).trans h.ct.begun, upd_same, h.ct.facts.st ts fun i hi => e (7 + i) (by omega) (by omega)⟩⟩, ts⟩
/-- the dict of what is bound is another one -/
def oHeld (o : Nat → Addr) (p : Addr) : Nat → Addr := fun i => if i = 1 then p else o i
theorem TkAt.newHeld {M H : Hp} {o : Nat → Addr} {σ : Tst} (h : TkAt T T.S.rep M H o σ) {p : Addr} (hp : H p = none) {kvs : List (Key × V)} {hs : List (Str × Pc)} (hm : HR K H kvs hs) {dx : Addr} {fs : List (Str × V)} {vals : Nat → V} (hi : H (o 0) = some (.ins T.CT dx fs)) (hF : FsK tN tM 12 fs vals) (hv : ∀ i, i < 11 → vals i = tval T o σ i) (hf : FlAt K H (vals 11) σ.flr) :
    TkAt T T.S.rep M (upd (upd H p (.dK kvs)) (o 0) (.ins T.CT dx (putF "held" (.ref p) fs))) (oHeld o p) { σ with held := hs } ∧ TupSt H (upd (upd H p (.dK kvs)) (o 0) (.ins T.CT dx (putF "held" (.ref p) fs))) := by
  have s1 := same_new hp (.dK kvs)
  have h1 := h.same T.S.keep s1
  have hMp : M p = none := h.fr.same.free hp
  have np : ∀ i, i < 13 → o i ≠ p := fun i hi2 z => by
    obtain ⟨u, e, _⟩ := h.ct.kind i hi2
    rw [z, hp] at e
    cases e
  have hi1 := s1 _ _ hi
  have ts1 := TupSt.of s1
  have ts2 : TupSt (upd H p (.dK kvs)) (upd (upd H p (.dK kvs)) (o 0) (.ins T.CT dx (putF "held" (.ref p) fs))) := TupSt.upd hi1 (fun _ z => nomatch z) (fun _ _ z => nomatch z)
  have ts := ts1.trans ts2
  have hF2 := FsK.put tNam hF (j := 4) (x := Str.ofString "held") rfl (by decide) (.ref p)
  have e : ∀ i, i < 13 → i ≠ 0 → (upd (upd H p (.dK kvs)) (o 0) (.ins T.CT dx (putF "held" (.ref p) fs))) (o i) = H (o i) := fun i hi2 n0 => by
    rw [upd_ne fun z => n0 (h.fr.inj i 0 hi2 (by decide) z), upd_ne (np i hi2)]
  have ho : ∀ i, i ≠ 1 → oHeld o p i = o i := fun i n => if_neg n
  have f2 := h1.fr.go T.S.keep (OBut.upd (j := 0) (u := .ins T.CT dx (putF "held" (.ref p) fs)) (by decide))
  refine ⟨⟨⟨f2.same, fun i hi2 => ?_, fun i j hi2 hj2 z => ?_, f2.sub, f2.mfree, fun i hi2 z => ?_, f2.src⟩, ⟨⟨dx, _, upN vals 4 (.ref p), ?_, hF2, fun i hi2 => ?_, ?_⟩, ⟨kvs, ?_, Paired.mapP hm fun _ _ z => ⟨z.1, z.2.st ts⟩⟩, ?_, ?_, ?_, ?_, ?_, ?_⟩⟩, ts⟩
  · by_cases c : i = 1
    · rw [c]
      exact hMp
    · rw [ho i c]
      exact h.fr.free i hi2
  · by_cases c : i = 1
    · by_cases d : j = 1
      · rw [c, d]
      · rw [c, ho j d] at z
        exact absurd (show o j = p from z.symm) (np j hj2)
    · by_cases d : j = 1
      · rw [d, ho i c] at z
        exact absurd (show o i = p from z) (np i hi2)
      · rw [ho i c, ho j d] at z
        exact h.fr.inj i j hi2 hj2 z
  · by_cases c : i = 1
    · rw [c] at z
      exact T.S.muT _ _ h.fr.src p z hp
    · rw [ho i c] at z
      exact h.fr.dis i hi2 z
  · rw [ho 0 (by decide)]
    exact upd_same
  · by_cases c : i = 4
    · rw [c, upN_same]
      rfl
    · rw [upN_ne c, hv i hi2]
      rcases (by omega : i = 0 ∨ i = 1 ∨ i = 2 ∨ i = 3 ∨ i = 5 ∨ i = 6 ∨ i = 7 ∨ i = 8 ∨ i = 9 ∨ i = 10) with rfl | rfl | rfl | rfl | rfl | rfl | rfl | rfl | rfl | rfl <;> rfl
  · rw [upN_ne (by decide)]
    exact hf.st ts
  · show (upd (upd H p (.dK kvs)) (o 0) _) p = _
    rw [upd_ne (np 0 (by decide)).symm]
    exact upd_same
  · exact h.ct.made.st ts (e 2 (by decide) (by decide))
  · exact h.ct.looks.st ts (e 3 (by decide) (by decide))
  · exact (e 4 (by decide) (by decide)).trans h.ct.missed
  · exact (e 5 (by decide) (by decide)).trans h.ct.begun
  · exact (e 6 (by decide) (by decide)).trans h.ct.taken
  · have := h.ct.facts.st ts fun i hi2 => e (7 + i) (by omega) (by omega)
    have eo : (fun i => oHeld o p (7 + i)) = fun i => o (7 + i) := by
      funext i
      exact ho _ (by omega)
    rw [eo]
    exact this
end
end K02
set_option Elab.async false
set_option linter.all false
set_option maxRecDepth 100000
set_option maxHeartbeats 4000000
namespace K02
open PySem L2 PyProof.Rows
section
variable {P : Program} {w : World} {K : PySem.W.Frag} {mg : Str → Option Value} {base : Heap} {T : Tc P w K mg base}
/-- a plain step within a step whose own dict may be another one behind -/
theorem Goes.toO {α β : Type} {M H : Hp} {o : Nat → Addr} {t : Addr} {E : XK} {x : Out α} {f : α → Tst → Out β} {k : β → Tst → (Nat → Addr) → Hp → Prop} (h : GoesO T M H t E (x.bind f) k) (ho : o 0 = t) :
    Goes T M H o E x fun a σ' H' => TkAt T T.S.rep M H' o σ' ∧ TupSt H H' ∧ GoesO T M H' t E (f a σ') k := h.of_bind.fix ho
def spSetName (T : Tc P w K mg base) : Sp := fun vs H Q E => ∃ (o : Nat → Addr) (M : Hp) (σ : Tst) (z : Str) (v : V) (d : D), vs = [.ref (o 0), .str z, v] ∧ TkAt T T.S.rep M H o σ ∧ RW M d v ∧
  Goes T M H o E ((woM T d σ).bind fun g σ1 => match g with
    | .inr y => .ok (some (.step, .unb y)) σ1
    | .inl p => (putHeld z p σ1).bind fun _ σ2 => .ok none σ2) fun f _ H' => ∀ u, FlAt K H' u f → Q u H'
theorem scSn : FnScope ["self", "name", "term", "place", "missing"] ["self", "name", "term"] (defScope sSetName) := ⟨rfl, rfl, rfl, by decide +kernel, rfl, by decide +kernel, by decide +kernel⟩
theorem ok_setname {f fW aS : Addr} {fd fdW : FuncData} (F : Fun K "set_name" "Taking.set_name" sSetName f fd) (mS : mg "STEP" = some (.ref aS)) (hS : ∀ H, PcAt K H (.ref aS) .step)
    (FW : Fun K "work_out" "Taking.work_out" sWorkOut fW fdW) (GW : FnOk P w K mg base (L2.CX P w) 18 fW fdW ["self", "term"] (spWorkOut T 18)) (bW : L2.Binds K fdW ["self", "term"] []) (mW : Meth K T.CT "work_out" fW) :
    FnOk P w K mg base (L2.CX P w) 19 f fd ["self", "name", "term"] (spSetName T) := by
  refine F.okX scSn (fun vs H Q E h => ?_) (fun cdv A outer s H vs Q E hr h => ?_)
  · obtain ⟨o, M, σ, z, v, d, rfl, _⟩ := h
    rfl
  obtain ⟨o, M, σ, z, v, d, rfl, hT, hv, hG⟩ := h
  refine ⟨_, pss_cons (ps_asg (pe_meth (pv 0) T.cT.cl mW GW hr bW .nil (passes_call (takes_of rfl rfl rfl rfl) fun _ _ _ _ h => h) (pa_cons (pv 2) pa_nil)) (pg_tup rfl (pgs_cons (pg_name (i := 3) scSn.nd rfl (Or.inl rfl)) (pgs_cons (pg_name (i := 4) scSn.nd rfl (Or.inl rfl)) pgs_nil))))
    (pss_cons (ps_if (pt_cmpR op_isN (pv 3) pe_non (nomark _)) (pss_one (ps_ret (pe_tup (pa_cons (pe_glob (v := .ref aS) rfl mS rfl) (pa_cons (pe_tup (pa_cons pe_str (pa_cons (pv 4) pa_nil))) pa_nil))))) pss_nil)
    (pss_cons (ps_dput (hu_of hr) (pe_fld (pv 0) rfl) (pv 1) (pv 3) rfl)
    (pss_one (ps_ret pe_non)))), ?_⟩
  obtain ⟨dx, fs, hi, hlen, look, non⟩ := tk_fld hT
  refine ⟨_, rfl, o 0, dx, fs, rfl, hi, non _ (by decide +kernel), _, rfl, o, M, σ, v, d, 7, rfl, hT, hv, by decide, ?_⟩
  refine hG.of_bind.mono fun g σ1 H1 hT1 ts1 ⟨_, _, hG1⟩ u hu => ?_
  cases g with
  | inr y =>
    obtain ⟨ta, rfl, hta⟩ := hu
    refine ⟨ta, _, rfl, hta, rfl, _, _, rfl, _, _, rfl, rfl, ?_⟩
    refine ⟨_, rfl, rfl, _, rfl, ifT (decide_eq_true rfl) ⟨_, rfl, by show 2 ≤ sizeLine; decide, fun t5 ht5 => ⟨by show 2 ≤ sizeLine; decide, fun t6 ht6 => ?_⟩⟩⟩
    have s5 := same_new ht5 (.tup [V.str (Str.ofString "unbound"), V.str y])
    have s6 := same_new ht6 (.tup [V.ref aS, V.ref t5])
    exact hG1 _ ((hT1.same T.S.keep s5).same T.S.keep s6) (TupSt.of (s5.trans s6)) _ ⟨t6, _, _, rfl, SqT.of upd_same, hS _, t5, rfl, SqT.of (s6 _ _ upd_same)⟩
  | inl p =>
    obtain ⟨ta, pvv, xv, rfl, hta, hpv⟩ := hu
    obtain ⟨pa, pxs, rfl, _⟩ := hpv.head
    obtain ⟨hl, hk⟩ := putHeld_goes hG1.of_bind
    obtain ⟨dx1, fs1, hi1, hlen1, look1, non1⟩ := tk_fld hT1
    refine ⟨ta, _, rfl, hta, rfl, _, _, rfl, _, _, rfl, rfl, ?_⟩
    refine ⟨_, rfl, rfl, _, rfl, ifF (decide_eq_false fun z => nomatch z) ?_⟩
    obtain ⟨H4, hd, hD⟩ := held_put hT1 hpv z hl (D := fun H' => Q .non H') fun H' t ts => (((hk H' t ts).2.2).done t) _ rfl
    exact ⟨_, rfl, _, rfl, o 0, T.CT, dx1, fs1, _, rfl, hi1, T.cT.cl, T.cT.at_ (i := 4) rfl, look1 4 _ (by decide) rfl, _, rfl, o 1, H4, rfl, hd, hD⟩
def spTryCases (T : Tc P w K mg base) (k : Nat) : Sp := fun vs H Q E => ∃ (o : Nat → Addr) (M : Hp) (σ : Tst) (v pl : V) (ds : List D) (p : Pc) (m : Nat), vs = [.ref (o 0), v, pl] ∧ TkAt T T.S.rep M H o σ ∧ RW M (.lst ds) v ∧ PcAt K H pl p ∧ 4 * m + 21 ≤ k ∧ ds.length ≤ 1000 ∧
  GoesO T M H (o 0) E (tryCases (tpM T m) σ.held p 0 ds σ) fun f _ _ H' => ∀ u, FlAt K H' u f → Q u H'
theorem scTc : FnScope ["self", "parts", "place", "ahead", "case", "part"] ["self", "parts", "place"] (defScope sTryCases) := ⟨rfl, rfl, rfl, by decide +kernel, rfl, by decide +kernel, by decide +kernel⟩
theorem ok_trycases {f fP : Addr} {fd fdP : FuncData} {k : Nat} (F : Fun K "try_cases" "Taking.try_cases" sTryCases f fd) (zD : mg "dict" = none) (zE : mg "enumerate" = none)
    (FP : Fun K "take_part" "Taking.take_part" sTakePart fP fdP) (GP : FnOk P w K mg base (L2.CX P w) k fP fdP ["self", "part", "place"] (spTakePart T k)) (bP : L2.Binds K fdP ["self", "part", "place"] []) (mP : Meth K T.CT "take_part" fP) :
    FnOk P w K mg base (L2.CX P w) (k + 1) f fd ["self", "parts", "place"] (spTryCases T (k + 1)) := by
  refine F.okX scTc (fun vs H Q E h => ?_) (fun cdv A outer s H vs Q E hr h => ?_)
  · obtain ⟨o, M, σ, v, pl, ds, p, m, rfl, _⟩ := h
    rfl
  obtain ⟨o, M, σ, v, pl, ds, p, m, rfl, hT, hv, hp, hm, hdl, hG⟩ := h
  refine ⟨_, pss_cons (ps_set (i := 3) scTc.nd rfl (Or.inl rfl) (pe_callTy call_dictOf (by rfl) zD boot_dict (pa_cons (pe_fld (pv 0) rfl) pa_nil)))
    (pss_cons (ps_for (passes_of rfl) rfl (pi_enum rfl zE (pa_cons (pv 1) pa_nil)) (pg_tup rfl (pgs_cons (pg_name (i := 4) scTc.nd rfl (Or.inl rfl)) (pgs_cons (pg_name (i := 5) scTc.nd rfl (Or.inl rfl)) pgs_nil)))
      (pss_cons (ps_if (pt_cmpR op_isN (pe_meth (pv 0) T.cT.cl mP GP hr bP .nil (passes_call (takes_of rfl rfl rfl rfl) fun _ _ _ _ h => h) (pa_cons (pv 5) (pa_cons (pv 2) pa_nil))) pe_non (nomark _)) (pss_cons (ps_dput (hu_of hr) (pe_fld (pv 0) rfl) (pe_fld (pv 0) rfl) (pv 4) rfl) (pss_one (ps_ret pe_non))) pss_nil)
      (pss_one (ps_fld (pv 0) (pe_callTy call_dictOf (by rfl) zD boot_dict (pa_cons (pv 3) pa_nil)) rfl))))
    (pss_one (ps_ret (pe_tup (pa_cons (pv 2) (pa_cons pe_str pa_nil)))))), ?_⟩
  obtain ⟨lA, xs, rfl, hlA, hxs⟩ := hv
  obtain ⟨dx, fs, hi, hlen, look, non⟩ := tk_fld hT
  obtain ⟨kvs, hkv, hHR⟩ := hT.ct.held
  refine ⟨_, rfl, o 0, T.CT, dx, fs, _, rfl, hi, T.cT.cl, T.cT.at_ (i := 4) rfl, look 4 _ (by decide) rfl, o 1, kvs, rfl, .inl hkv, fun ah hah => ?_⟩
  have s1 := same_new hah (.dK kvs)
  have hT1 := hT.addL hah (.dK kvs)
  have hMa : M ah = none := hT.fr.same.free hah
  have sM : Same M (upd M ah (.dK kvs)) := same_new hMa _
  have h0M := hT.fr.sub
  have hlA2 : (upd M ah (.dK kvs)) lA = some (.lst xs) := sM _ _ hlA
  have hxl : xs.length = ds.length := hxs.len
  refine ⟨_, rfl, lA, xs, rfl, SqL.of (hT1.fr.same _ _ hlA2), ?_⟩
  refine for_it walk_enum (fun i σ' H' => ∃ (oi : Nat → Addr) (σi : Tst) (v4 v5 : Option V), TkAt T T.S.rep (upd M ah (.dK kvs)) H' oi σi ∧ oi 0 = o 0 ∧ TupSt H H' ∧ GoesO T M H' (o 0) E (tryCases (tpM T m) σ.held p i (ds.drop i) σi) (fun f _ _ H' => ∀ u, FlAt K H' u f → Q u H') ∧
    σ' = [some (.ref (o 0)), some (.ref lA), some pl, some (.ref ah), v4, v5]) ⟨o, σ, none, none, hT1, rfl, TupSt.of s1, hG.later (TupSt.of s1), rfl⟩ (fun i σ' H' _ ⟨oi, σi, v4, v5, h, _⟩ => SqL.of (h.fr.same _ _ hlA2)) ?_ ?_
  · rintro i x σ' H2 H3 hi9 ⟨oi, σi, v4, v5, hT2, ho2, ts2, hG2, rfl⟩ ⟨tA, x1, y1, rfl, htA, rfl, ex, ey⟩
    obtain rfl : V.int ((i : Nat) : Int) = x1 := Option.some.inj ex
    obtain ⟨d, hd, hrd⟩ := hxs.item ey
    have e1 : ds.drop i = d :: ds.drop (i + 1) := by
      have := List.drop_eq_getElem_cons (List.getElem?_eq_some_iff.mp hd).1
      rw [(List.getElem?_eq_some_iff.mp hd).2] at this
      exact this
    rw [e1] at hG2
    have s3 := same_new htA (.tup [V.int ((i : Nat) : Int), y1])
    have hT3 := hT2.same T.S.keep s3
    have hG3 : GoesO T M H2 (o 0) E ((tpM T m d p σi).bind fun f σ1 => match f with
      | none => (match σ1.rch with
        | some r => if σ1.taken.length < 100000 then .ok none { σ1 with taken := putT σ1.taken r i } else .bad
        | none => .bad)
      | some _ => tryCases (tpM T m) σ.held p (i + 1) (ds.drop (i + 1)) { σ1 with held := σ.held }) (fun f _ _ H' => ∀ u, FlAt K H' u f → Q u H') := hG2
    have hG4 := (Goes.toO (hG3.later (TupSt.of s3)) ho2).around sM h0M
    obtain ⟨dx3, fs3, hi3, hlen3, look3, non3⟩ := tk_fld hT3
    rw [ho2] at hi3
    refine ⟨tA, _, rfl, SqT.of upd_same, rfl, _, _, rfl, _, _, rfl, rfl, ?_⟩
    refine ⟨_, rfl, o 0, dx3, fs3, rfl, hi3, non3 _ (by decide +kernel), _, rfl, _, rfl, oi, _, σi, y1, pl, d, p, m, by rw [ho2]; rfl, hT3, hrd.same sM, hp.st (ts2.trans (TupSt.of s3)), by omega, ?_⟩
    refine hG4.mono fun fl σ4 H4 hT4 ts4 ⟨_, hT4m, ts34, hG5⟩ u hu => ?_
    obtain ⟨dx4, fs4, vals4, hi4, hF4, hval4, hfl4⟩ := hT4.ct.ins
    have ts24 : TupSt H H4 := (ts2.trans (TupSt.of s3)).trans ts4
    refine ⟨rfl, _, rfl, ?_⟩
    cases fl with
    | none =>
      obtain rfl : u = .non := hu
      cases er : σ4.rch with
      | none =>
        have hG6 : GoesO T M H4 (o 0) E (match σ4.rch with
          | some r => if σ4.taken.length < 100000 then Out.ok none { σ4 with taken := putT σ4.taken r i } else .bad
          | none => .bad) (fun f _ _ H' => ∀ u, FlAt K H' u f → Q u H') := hG5
        rw [er] at hG6
        exact False.elim hG6
      | some r =>
        have hG6 : GoesO T M H4 (o 0) E (match σ4.rch with
          | some r => if σ4.taken.length < 100000 then Out.ok none { σ4 with taken := putT σ4.taken r i } else .bad
          | none => .bad) (fun f _ _ H' => ∀ u, FlAt K H' u f → Q u H') := hG5
        rw [er] at hG6
        obtain ⟨htl, hG7⟩ := goesO_if hG6
        have v9 : vals4 9 = .int (r : Int) := by
          rw [hval4 9 (by decide)]
          show rchV σ4.rch = _
          rw [er]
          rfl
        have l9 : fs4.lookup ("reached" : Str) = some (.int (r : Int)) := (hF4.look (i := 9) rfl (by decide)).trans (congrArg some v9)
        have l10 : fs4.lookup ("taken" : Str) = some (.ref (oi 6)) := (hF4.look (i := 10) rfl (by decide)).trans (congrArg some (hval4 10 (by decide)))
        rw [ho2] at hi4
        obtain ⟨hT5, ts5⟩ := hT4m.setTaken (putT σ4.taken r i)
        rw [← takenO_put] at hT5 ts5
        exact ifT (decide_eq_true rfl) ⟨_, rfl, _, rfl, o 0, T.CT, dx4, fs4, _, rfl, hi4, T.cT.cl, T.cT.at_ (i := 10) rfl, l10, _, rfl, o 0, T.CT, dx4, fs4, _, rfl, hi4, T.cT.cl, T.cT.at_ (i := 9) rfl, l9, oi 6, _, rfl, DPut.k (k := Sum.inl (r : Int)) hT4.ct.taken (by rw [List.length_map]; exact Nat.lt_trans htl (by decide)), hG7 _ oi (by rw [er] at hT5; exact hT5) ho2 ts5 _ rfl⟩
    | some fl =>
      obtain ⟨a1, v1, x1, rfl, _⟩ := id hu
      have hah4 : H4 ah = some (.dK kvs) := hT4.fr.same _ _ upd_same
      refine ifF (decide_eq_false fun z => nomatch z) ⟨_, rfl, ah, kvs, rfl, .inl hah4, fun nh hnh => ?_⟩
      have hHR4 : HR K H4 kvs σ.held := Paired.mapP hHR fun _ _ z => ⟨z.1, z.2.st ts24⟩
      obtain ⟨hT5, ts5⟩ := hT4.newHeld hnh hHR4 hi4 hF4 hval4 hfl4
      have s5 := same_new hnh (.dK kvs)
      rw [ho2] at hi4
      refine ⟨_, rfl, o 0, T.CT, dx4, fs4, rfl, s5 _ _ hi4, T.cT.cl, T.cT.at_ (i := 4) rfl, by rw [hF4.len]; decide, ?_⟩
      rw [ho2] at hT5 ts5
      exact ⟨oHeld oi nh, _, _, _, hT5, ho2, ts24.trans ts5, hG5.later ts5, rfl⟩
  · rintro σ' H2 ⟨oi, σi, v4, v5, hT2, ho2, ts2, hG2, rfl⟩
    rw [hxl, List.drop_length] at hG2
    refine ⟨_, rfl, by show 2 ≤ sizeLine; decide, fun t5 ht5 => ?_⟩
    have s5 := same_new ht5 (.tup [pl, V.str (Str.ofString "cases")])
    exact hG2 _ oi ((hT2.weak sM h0M).same T.S.keep s5) ho2 (TupSt.of s5) _ ⟨t5, pl, _, rfl, SqT.of upd_same, (hp.st ts2).same s5, rfl⟩
end
end K02
set_option Elab.async false
set_option linter.all false
set_option maxRecDepth 100000
set_option maxHeartbeats 4000000
namespace K02
open PySem L2 PyProof.Rows
section
variable {P : Program} {w : World} {K : PySem.W.Frag} {mg : Str → Option Value} {base : Heap} {T : Tc P w K mg base}
def spDoStep (T : Tc P w K mg base) (k : Nat) : Sp := fun vs H Q E => ∃ (o : Nat → Addr) (M : Hp) (σ : Tst) (v : V) (d : D) (m : Nat), vs = [.ref (o 0), v] ∧ TkAt T T.S.rep M H o σ ∧ RW M d v ∧ 4 * m + 22 ≤ k ∧
  GoesO T M H (o 0) E (doStep (tpM T m) (woM T) d σ) fun f _ _ H' => ∀ u, FlAt K H' u f → Q u H'
theorem scDs : FnScope ["self", "step", "word", "name", "inner", "place"] ["self", "step"] (defScope sDoStep) := ⟨rfl, rfl, rfl, by decide +kernel, rfl, by decide +kernel, by decide +kernel⟩
theorem ok_dostep {f fP fC fS fN aS aV : Addr} {fd fdP fdC fdS fdN : FuncData} {k : Nat} (F : Fun K "do_step" "Taking.do_step" sDoStep f fd) (hk : 19 ≤ k)
    (mS : mg "STEP" = some (.ref aS)) (hS : ∀ H, PcAt K H (.ref aS) .step) (mV : mg "VALUE" = some (.ref aV)) (hV : ∀ H, PcAt K H (.ref aV) (.at pV0))
    (FN : Fun K "place_of_name" "Taking.place_of_name" sPlaceOfName fN fdN) (GN : FnOk P w K mg base CX0 1 fN fdN ["self", "name"] (spPlaceOfName T)) (bN : L2.Binds K fdN ["self", "name"] []) (mN : Meth K T.CT "place_of_name" fN)
    (FS : Fun K "set_name" "Taking.set_name" sSetName fS fdS) (GS : FnOk P w K mg base (L2.CX P w) 19 fS fdS ["self", "name", "term"] (spSetName T)) (bS : L2.Binds K fdS ["self", "name", "term"] []) (mSn : Meth K T.CT "set_name" fS)
    (FP : Fun K "take_part" "Taking.take_part" sTakePart fP fdP) (GP : FnOk P w K mg base (L2.CX P w) k fP fdP ["self", "part", "place"] (spTakePart T k)) (bP : L2.Binds K fdP ["self", "part", "place"] []) (mP : Meth K T.CT "take_part" fP)
    (FC : Fun K "try_cases" "Taking.try_cases" sTryCases fC fdC) (GC : FnOk P w K mg base (L2.CX P w) (k + 1) fC fdC ["self", "parts", "place"] (spTryCases T (k + 1))) (bC : L2.Binds K fdC ["self", "parts", "place"] []) (mC : Meth K T.CT "try_cases" fC) :
    FnOk P w K mg base (L2.CX P w) (k + 2) f fd ["self", "step"] (spDoStep T (k + 2)) := by
  refine F.okX scDs (fun vs H Q E h => ?_) (fun cdv A outer s H vs Q E hr h => ?_)
  · obtain ⟨o, M, σ, v, d, m, rfl, _⟩ := h
    rfl
  obtain ⟨o, M, σ, v, d, m, rfl, hT, hv, hm, hG⟩ := h
  have hr1 := hr.mono (show 1 ≤ k + 1 by omega)
  have hr19 := hr.mono (show 19 ≤ k + 1 by omega)
  have hrk := hr.mono (show k ≤ k + 1 by omega)
  refine ⟨_, pss_cons (ps_asg (pv 1) (pg_tup rfl (pgs_cons (pg_name (i := 2) scDs.nd rfl (Or.inl rfl)) (pgs_cons (pg_name (i := 3) scDs.nd rfl (Or.inl rfl)) (pgs_cons (pg_name (i := 4) scDs.nd rfl (Or.inl rfl)) pgs_nil)))))
    (pss_cons (ps_if (pt_cmpR op_eq (pv 2) pe_str (nomark _)) (pss_one (ps_ret (pe_meth (pv 0) T.cT.cl mSn GS hr19 bS .nil (passes_call (takes_of rfl rfl rfl rfl) fun _ _ _ _ h => h) (pa_cons (pv 3) (pa_cons (pv 4) pa_nil))))) pss_nil)
    (Evl.pss_cut (ps_set (i := 5) scDs.nd rfl (Or.inl rfl) (pe_ifExp (pt_cmpR op_isN (pv 3) pe_non (nomark _)) (pe_glob (v := .ref aV) rfl mV rfl) (pe_meth (pv 0) T.cT.cl mN GN hr1 bN .nil pass0 (pa_cons (pv 3) pa_nil))))
    (pss_cons (ps_if (pt_cmpR op_isN (pv 5) pe_non (nomark _)) (pss_one (ps_ret (pe_tup (pa_cons (pe_glob (v := .ref aS) rfl mS rfl) (pa_cons (pe_tup (pa_cons pe_str (pa_cons (pv 3) pa_nil))) pa_nil))))) pss_nil)
    (pss_cons (ps_if (pt_cmpR op_eq (pv 2) pe_str (nomark _)) (pss_one (ps_ret (pe_meth (pv 0) T.cT.cl mP GP hrk bP .nil (passes_call (takes_of rfl rfl rfl rfl) fun _ _ _ _ h => h) (pa_cons (pv 4) (pa_cons (pv 5) pa_nil))))) pss_nil)
    (pss_one (ps_ret (pe_meth (pv 0) T.cT.cl mC GC hr bC .nil (passes_call (takes_of rfl rfl rfl rfl) fun _ _ _ _ h => h) (pa_cons (pv 4) (pa_cons (pv 5) pa_nil))))))))), ?_⟩
  have hinv := parseS_inv d
  obtain ⟨dx, fs, hi, hlen, look, non⟩ := tk_fld hT
  have hG0 : GoesO T M H (o 0) E (match parseS d with
    | .bad => .bad
    | .set z t => (woM T t σ).bind fun g σ1 => match g with
      | .inr y => .ok (some (.step, .unb y)) σ1
      | .inl p => (putHeld z p σ1).bind fun _ σ2 => .ok none σ2
    | .take nm t => (nameAt nm σ).bind fun q σ1 => match q with
      | none => .ok (some (.step, .unb (stepName nm))) σ1
      | some p => tpM T m t p σ1
    | .cases nm ds => (nameAt nm σ).bind fun q σ1 => match q with
      | none => .ok (some (.step, .unb (stepName nm))) σ1
      | some p => if ds.length ≤ 1000 then tryCases (tpM T m) σ1.held p 0 ds σ1 else .bad) (fun f _ _ H' => ∀ u, FlAt K H' u f → Q u H') := hG
  by_cases cs : ∃ z t, parseS d = .set z t
  · obtain ⟨z, t, es⟩ := cs
    rw [es] at hG0 hinv
    obtain rfl : d = _ := hinv
    obtain ⟨a, y, rfl, ha, hy⟩ := RW.trip hv
    refine ⟨_, rfl, a, _, rfl, SqT.of (hT.fr.same _ _ ha), rfl, _, _, rfl, _, _, rfl, _, _, rfl, rfl, ?_⟩
    refine ⟨_, rfl, rfl, _, rfl, ifT (decide_eq_true rfl) ?_⟩
    exact ⟨_, rfl, o 0, dx, fs, rfl, hi, non _ (by decide +kernel), _, rfl, _, rfl, o, M, σ, z, y, t, rfl, hT, hy, hG0.fix rfl⟩
  -- a name, and what is behind it
  have two : ∃ (cs : Bool) (nm : Option Str) (t : D), d = .tup [S (if cs = true then "cases" else "take"), .leaf (restV nm), t] ∧ GoesO T M H (o 0) E ((nameAt nm σ).bind fun q σ1 => match q with
      | none => .ok (some (.step, .unb (stepName nm))) σ1
      | some p => if cs = true then (match t with | .lst ds => (if ds.length ≤ 1000 then tryCases (tpM T m) σ1.held p 0 ds σ1 else .bad) | _ => .bad) else tpM T m t p σ1) (fun f _ _ H' => ∀ u, FlAt K H' u f → Q u H') := by
    cases es : parseS d with
    | bad =>
      rw [es] at hG0
      exact False.elim hG0
    | set z t => exact absurd ⟨z, t, es⟩ cs
    | take nm t =>
      rw [es] at hG0 hinv
      exact ⟨false, nm, t, hinv, hG0⟩
    | cases nm ds =>
      rw [es] at hG0 hinv
      exact ⟨true, nm, .lst ds, hinv, hG0⟩
  obtain ⟨c, nm, t, rfl, hG1⟩ := two
  obtain ⟨a, y, rfl, ha, hy⟩ := RW.trip hv
  have nset : Str.ofString (if c = true then "cases" else "take") ≠ Str.ofString "set" := by cases c <;> decide
  refine ⟨_, rfl, a, _, rfl, SqT.of (hT.fr.same _ _ ha), rfl, _, _, rfl, _, _, rfl, _, _, rfl, rfl, ?_⟩
  refine ⟨_, rfl, rfl, _, rfl, ifF (so_ne nset) ?_⟩
  refine ⟨fun σ' H' => ∃ (u : V) (q : Option Pc) (σ1 : Tst), nameAt nm σ = .ok q σ1 ∧ (∀ p, q = some p → PcAt K H' u p) ∧ (q = none → u = .non ∧ nm ≠ none) ∧ TkAt T T.S.rep M H' o σ1 ∧ TupSt H H' ∧ σ' = [some (.ref (o 0)), some (.ref a), some (.str (Str.ofString (if c = true then "cases" else "take"))), some (restV nm), some y, some u], ?_, ?_⟩
  · refine ⟨_, rfl, rfl, _, rfl, ?_⟩
    cases nm with
    | none => exact ifT (decide_eq_true rfl) ⟨_, some (.at pV0), σ, rfl, fun p e => by cases e; exact hV H, (fun e => nomatch e), hT, tupst_refl H, rfl⟩
    | some z =>
      refine ifF (decide_eq_false fun e => nomatch e) ?_
      refine ⟨_, rfl, o 0, dx, fs, rfl, hi, non _ (by decide +kernel), _, rfl, o, M, σ, z, rfl, hT, fun p ep v hpv => ?_, fun en => ?_⟩
      · have e1 : nameAt (some z) σ = .ok (some p) σ := by
          show (match getH σ.held z with | some p => Out.ok (some p) σ | none => _) = _
          rw [ep]
        exact ⟨v, some p, σ, e1, fun p2 e => by cases e; exact hpv, (fun e => nomatch e), hT, tupst_refl H, rfl⟩
      · have e0 : nameAt (some z) σ = if σ.missed.length < 100000 then .ok none { σ with missed := insM σ.missed z } else .bad := by
          show (match getH σ.held z with | some p => Out.ok (some p) σ | none => _) = _
          rw [en]
        have hml : σ.missed.length < 100000 := by
          by_cases c9 : σ.missed.length < 100000
          · exact c9
          · rw [e0, if_neg c9] at hG1
            exact False.elim hG1
        rw [if_pos hml] at e0
        exact ⟨hml, fun H1 hT1 ts1 => ⟨.non, none, _, e0, (fun p e => nomatch e), fun _ => ⟨rfl, fun e => nomatch e⟩, hT1, ts1, rfl⟩⟩
  rintro _ H1 ⟨u, q, σ1, en, hq, hn, hT1, ts1, rfl⟩
  rw [en] at hG1
  have hG2 := GoesO.later hG1 ts1
  obtain ⟨dx1, fs1, hi1, hlen1, look1, non1⟩ := tk_fld hT1
  cases q with
  | none =>
    obtain ⟨rfl, hnm⟩ := hn rfl
    cases nm with
    | none => exact absurd rfl hnm
    | some z =>
      refine ⟨_, rfl, rfl, _, rfl, ifT (decide_eq_true rfl) ⟨_, rfl, by show 2 ≤ sizeLine; decide, fun t5 ht5 => ⟨by show 2 ≤ sizeLine; decide, fun t6 ht6 => ?_⟩⟩⟩
      have s5 := same_new ht5 (.tup [V.str (Str.ofString "unbound"), V.str z])
      have s6 := same_new ht6 (.tup [V.ref aS, V.ref t5])
      exact hG2 _ o ((hT1.same T.S.keep s5).same T.S.keep s6) rfl (TupSt.of (s5.trans s6)) _ ⟨t6, _, _, rfl, SqT.of upd_same, hS _, t5, rfl, SqT.of (s6 _ _ upd_same)⟩
  | some p =>
    have hp1 := hq p rfl
    obtain ⟨pa, pxs, rfl, _⟩ := hp1.head
    refine ⟨_, rfl, rfl, _, rfl, ifF (decide_eq_false fun z => nomatch z) ?_⟩
    cases c with
    | false =>
      refine ⟨_, rfl, rfl, _, rfl, ifT (decide_eq_true rfl) ?_⟩
      have hG3 : GoesO T M H1 (o 0) E (tpM T m t p σ1) (fun f _ _ H' => ∀ u, FlAt K H' u f → Q u H') := hG2
      exact ⟨_, rfl, o 0, dx1, fs1, rfl, hi1, non1 _ (by decide +kernel), _, rfl, _, rfl, o, M, σ1, y, _, t, p, m, rfl, hT1, hy, hp1, by omega, hG3.fix rfl⟩
    | true =>
      refine ⟨_, rfl, rfl, _, rfl, ifF (so_ne (s := "cases") (t := "take") (by decide)) ?_⟩
      have hG3 : GoesO T M H1 (o 0) E (match t with | .lst ds => (if ds.length ≤ 1000 then tryCases (tpM T m) σ1.held p 0 ds σ1 else .bad) | _ => .bad) (fun f _ _ H' => ∀ u, FlAt K H' u f → Q u H') := hG2
      cases t with
      | leaf x => exact False.elim hG3
      | tup x => exact False.elim hG3
      | lst ds =>
        obtain ⟨hdl, hG4⟩ := goesO_if hG3
        exact ⟨_, rfl, o 0, dx1, fs1, rfl, hi1, non1 _ (by decide +kernel), _, rfl, _, rfl, o, M, σ1, y, _, ds, p, m, rfl, hT1, hy, hp1, by omega, hdl, hG4⟩
def spRun (T : Tc P w K mg base) (k : Nat) : Sp := fun vs H Q E => ∃ (o : Nat → Addr) (M : Hp) (σ : Tst) (v : V) (ds : List D) (m : Nat), vs = [.ref (o 0), v] ∧ TkAt T T.S.rep M H o σ ∧ RW M (.lst ds) v ∧ 4 * m + 23 ≤ k ∧
  GoesO T M H (o 0) E (runAll (tpM T m) (woM T) 0 ds σ) fun _ _ _ H' => Q .non H'
theorem scRun : FnScope ["self", "steps", "index", "step"] ["self", "steps"] (defScope sRun) := ⟨rfl, rfl, rfl, by decide +kernel, rfl, by decide +kernel, by decide +kernel⟩
theorem ok_run {f fD : Addr} {fd fdD : FuncData} {k : Nat} (F : Fun K "run" "Taking.run" sRun f fd) (zE : mg "enumerate" = none)
    (FD : Fun K "do_step" "Taking.do_step" sDoStep fD fdD) (GD : FnOk P w K mg base (L2.CX P w) k fD fdD ["self", "step"] (spDoStep T k)) (bD : L2.Binds K fdD ["self", "step"] []) (mD : Meth K T.CT "do_step" fD) :
    FnOk P w K mg base (L2.CX P w) (k + 1) f fd ["self", "steps"] (spRun T (k + 1)) := by
  refine F.okX scRun (fun vs H Q E h => ?_) (fun cdv A outer s H vs Q E hr h => ?_)
  · obtain ⟨o, M, σ, v, ds, m, rfl, _⟩ := h
    rfl
  obtain ⟨o, M, σ, v, ds, m, rfl, hT, hv, hm, hG⟩ := h
  refine ⟨_, pss_one (ps_for (passes_of rfl) rfl (pi_enum rfl zE (pa_cons (pv 1) pa_nil)) (pg_tup rfl (pgs_cons (pg_name (i := 2) scRun.nd rfl (Or.inl rfl)) (pgs_cons (pg_name (i := 3) scRun.nd rfl (Or.inl rfl)) pgs_nil)))
      (pss_cons (ps_fld (pv 0) (pv 2) rfl)
      (pss_cons (ps_fld (pv 0) (pe_meth (pv 0) T.cT.cl mD GD hr bD .nil (passes_call (takes_of rfl rfl rfl rfl) fun _ _ _ _ h => h) (pa_cons (pv 3) pa_nil)) rfl)
      (pss_one (ps_if (pt_cmpR op_notN (pe_fld (pv 0) rfl) pe_non (nomark _)) (pss_one ps_retN) pss_nil))))), ?_⟩
  obtain ⟨lA, xs, rfl, hlA, hxs⟩ := hv
  have hxl : xs.length = ds.length := hxs.len
  refine ⟨_, rfl, lA, xs, rfl, SqL.of (hT.fr.same _ _ hlA), ?_⟩
  refine for_it walk_enum (fun i σ' H' => ∃ (oi : Nat → Addr) (σi : Tst) (v2 v3 : Option V), TkAt T T.S.rep M H' oi σi ∧ oi 0 = o 0 ∧ TupSt H H' ∧ GoesO T M H' (o 0) E (runAll (tpM T m) (woM T) i (ds.drop i) σi) (fun _ _ _ H' => Q .non H') ∧
    σ' = [some (.ref (o 0)), some (.ref lA), v2, v3]) ⟨o, σ, none, none, hT, rfl, tupst_refl H, hG, rfl⟩ (fun i σ' H' _ ⟨oi, σi, v2, v3, h, _⟩ => SqL.of (h.fr.same _ _ hlA)) ?_ ?_
  · rintro i x σ' H2 H3 hi9 ⟨oi, σi, v2, v3, hT2, ho2, ts2, hG2, rfl⟩ ⟨tA, x1, y1, rfl, htA, rfl, ex, ey⟩
    obtain rfl : V.int ((i : Nat) : Int) = x1 := Option.some.inj ex
    obtain ⟨d, hd, hrd⟩ := hxs.item ey
    have e1 : ds.drop i = d :: ds.drop (i + 1) := by
      have := List.drop_eq_getElem_cons (List.getElem?_eq_some_iff.mp hd).1
      rw [(List.getElem?_eq_some_iff.mp hd).2] at this
      exact this
    rw [e1] at hG2
    have s3 := same_new htA (.tup [V.int ((i : Nat) : Int), y1])
    have hT3 := hT2.same T.S.keep s3
    have hG3 : GoesO T M H2 (o 0) E ((doStep (tpM T m) (woM T) d { σi with rch := some i }).bind fun f σ1 => match f with
      | some f => .ok () { σ1 with flr := some f }
      | none => runAll (tpM T m) (woM T) (i + 1) (ds.drop (i + 1)) { σ1 with flr := none }) (fun _ _ _ H' => Q .non H') := hG2
    obtain ⟨dx3, fs3, vals3, hi3, hF3, hval3, hfl3⟩ := hT3.ct.ins
    have hF4 := FsK.put tNam hF3 (j := 9) (x := Str.ofString "reached") rfl (by decide) (.int (i : Int))
    obtain ⟨hT4, ts4⟩ := hT3.setIns (σ' := { σi with rch := some i }) (dx := dx3) hF4 (fun j hj => by
      by_cases c : j = 9
      · rw [c, upN_same]
        rfl
      · rw [upN_ne c, hval3 j hj]
        rcases (by omega : j = 0 ∨ j = 1 ∨ j = 2 ∨ j = 3 ∨ j = 4 ∨ j = 5 ∨ j = 6 ∨ j = 7 ∨ j = 8 ∨ j = 10) with rfl | rfl | rfl | rfl | rfl | rfl | rfl | rfl | rfl | rfl <;> rfl) (by rw [upN_ne (by decide)]; exact hfl3) rfl rfl rfl rfl rfl rfl
    have hi3' := hi3
    rw [ho2] at hi3
    refine ⟨tA, _, rfl, SqT.of upd_same, rfl, _, _, rfl, _, _, rfl, rfl, ?_⟩
    refine ⟨_, rfl, _, rfl, o 0, T.CT, dx3, fs3, rfl, hi3, T.cT.cl, T.cT.at_ (i := 9) rfl, by rw [hF3.len]; decide, ?_⟩
    rw [ho2] at hT4 ts4
    obtain ⟨dx4, fs4, hi4, hlen4, look4, non4⟩ := tk_fld hT4
    rw [ho2] at hi4
    refine ⟨_, rfl, o 0, dx4, fs4, rfl, hi4, non4 _ (by decide +kernel), _, rfl, oi, M, _, y1, d, m, by rw [ho2]; rfl, hT4, hrd, by omega, ?_⟩
    rw [ho2]
    refine (hG3.later ((TupSt.of s3).trans ts4)).of_bind.mono fun fl σ5 o5 H5 hT5 ho5 ts5 ⟨_, _, hG5⟩ u hu => ?_
    obtain ⟨dx5, fs5, vals5, hi5, hF5, hval5, hfl5⟩ := hT5.ct.ins
    have hF6 := FsK.put tNam hF5 (j := 11) (x := Str.ofString "failure") rfl (by decide) u
    obtain ⟨hT6, ts6⟩ := hT5.setIns (σ' := { σ5 with flr := fl }) (dx := dx5) hF6 (fun j hj => by
      rw [upN_ne (by omega), hval5 j hj]
      rcases (by omega : j = 0 ∨ j = 1 ∨ j = 2 ∨ j = 3 ∨ j = 4 ∨ j = 5 ∨ j = 6 ∨ j = 7 ∨ j = 8 ∨ j = 9 ∨ j = 10) with rfl | rfl | rfl | rfl | rfl | rfl | rfl | rfl | rfl | rfl | rfl <;> rfl) (by rw [upN_same]; exact hu) rfl rfl rfl rfl rfl rfl
    rw [ho5] at hi5 hT6 ts6
    refine ⟨_, rfl, o 0, T.CT, dx5, fs5, rfl, hi5, T.cT.cl, T.cT.at_ (i := 11) rfl, by rw [hF5.len]; decide, ?_⟩
    refine ⟨_, rfl, o 0, T.CT, dx5, _, _, rfl, upd_same, T.cT.cl, T.cT.at_ (i := 11) rfl, (hF6.look (i := 11) rfl (by decide)).trans (congrArg some upN_same), rfl, _, rfl, ?_⟩
    cases fl with
    | some fl =>
      obtain ⟨a1, v1, x1, rfl, _⟩ := id hu
      exact ifT (by rw [decide_eq_false (fun z => nomatch z)]; rfl) (hG5 _ o5 hT6 ho5 ts6)
    | none =>
      obtain rfl : u = .non := hu
      exact ifF (by rw [decide_eq_true rfl]; rfl) ⟨o5, _, _, _, hT6, ho5, ((ts2.trans (TupSt.of s3)).trans ts4).trans (ts5.trans ts6), hG5.later ts6, rfl⟩
  · rintro σ' H2 ⟨oi, σi, v2, v3, hT2, ho2, ts2, hG2, rfl⟩
    rw [hxl, List.drop_length] at hG2
    exact hG2.done hT2 ho2
end
end K02
set_option Elab.async false
set_option linter.all false
set_option maxRecDepth 100000
set_option maxHeartbeats 4000000
namespace K02
open PySem L2 PyProof.Rows
/-! ### what was done, told -/
def bD : Option Nat → D
  | none => .tup [S "value"]
  | some n => .tup [S "result", .leaf (.int (n : Int))]
def kyN (d : D) (k : Ky) : D := .tup [S (missS k), d, .leaf k.v]
def pthD (p : Pth) : D := p.ks.foldl kyN (bD p.b)
def toldD : Pc → D
  | .at p => pthD p
  | .items p n => .tup [S "items", pthD p, .leaf (.int (n : Int))]
  | .others p zs => .tup [S "others", pthD p, .lst (zs.map fun z => .leaf (.str z))]
  | .known x => .tup [S "known", .leaf x]
  | .step => .tup [S "step"]
def ToldAt (K : PySem.W.Frag) (H : Hp) (v : V) (p : Pc) : Prop := if p.isB = true then RW H (toldD p) v else PcAt K H v p
theorem lf_int {i : Int} : Leaf (.int i) := .inr (.inr (.inl ⟨_, rfl⟩))
theorem lf_str {z : Str} : Leaf (.str z) := .inr (.inr (.inr ⟨_, rfl⟩))
theorem ky_lf (k : Ky) : Leaf k.v := by
  cases k
  · exact lf_int
  · exact lf_str
theorem rw_one {H : Hp} {a : Addr} {s : String} (h : H a = some (.tup [.str (Str.ofString s)])) : RW H (.tup [S s]) (.ref a) := ⟨a, _, rfl, h, _, _, rfl, ⟨rfl, lf_str⟩, rfl⟩
theorem rw_two {H : Hp} {a : Addr} {s : String} {x : V} (h : H a = some (.tup [.str (Str.ofString s), x])) (hx : Leaf x) : RW H (.tup [S s, .leaf x]) (.ref a) := ⟨a, _, rfl, h, _, _, rfl, ⟨rfl, lf_str⟩, _, _, rfl, ⟨rfl, hx⟩, rfl⟩
theorem rw_three {H : Hp} {a : Addr} {s : String} {x v : V} {d : D} (h : H a = some (.tup [.str (Str.ofString s), v, x])) (hd : RW H d v) (hx : Leaf x) : RW H (.tup [S s, d, .leaf x]) (.ref a) := ⟨a, _, rfl, h, _, _, rfl, ⟨rfl, lf_str⟩, _, _, rfl, hd, _, _, rfl, ⟨rfl, hx⟩, rfl⟩
theorem rws_strs {H : Hp} : ∀ zs : List Str, RWs H (zs.map fun z => .leaf (.str z)) (zs.map V.str)
  | [] => rfl
  | z :: zs => ⟨_, _, rfl, ⟨rfl, lf_str⟩, rws_strs zs⟩
def spToldPath (K : PySem.W.Frag) : Sp := fun vs H Q _ => ∃ (b : Addr) (p : Pth), vs = [.ref b] ∧ PthAt K H b p ∧ ∀ u H', Same H H' → RW H' (pthD p) u → Q u H'
def spToldPlace (K : PySem.W.Frag) : Sp := fun vs H Q _ => ∃ (v : V) (p : Pc), vs = [v] ∧ PcAt K H v p ∧ ∀ u H', Same H H' → ToldAt K H' u p → Q u H'
section
variable {P : Program} {w : World} {K : PySem.W.Frag} {mg : Str → Option Value} {base : Heap}
theorem scPp : FnScope ["path", "told", "key"] ["path"] (defScope sToldPath) := ⟨rfl, rfl, rfl, by decide +kernel, rfl, by decide +kernel, by decide +kernel⟩
theorem ok_toldpath {f : Addr} {fd : FuncData} (F : Fun K "told_path" "told_path" sToldPath f fd) (Tx : Txt K mg) (zS : mg "str" = none) : FnOk P w K mg base CX0 1 f fd ["path"] (spToldPath K) := by
  refine F.ok scPp (fun vs H Q E h => ?_) (fun cdv A outer s H vs Q E hr h => ?_)
  · obtain ⟨b, p, rfl, _⟩ := h
    rfl
  obtain ⟨b, p, rfl, hb, kk⟩ := h
  refine ⟨_, Evl.pss_cut (ps_set (i := 1) scPp.nd rfl (Or.inl rfl) (pe_ifExp (pt_cmpR (op_eqD hr.units) (pe_ix ix_tup (pv 0) pe_int (fun _ _ => rfl)) pe_str (nomark _)) (pe_tup (pa_cons pe_str pa_nil)) (pe_tup (pa_cons pe_str (pa_cons (pe_ix ix_tup (pv 0) pe_int (fun _ _ => rfl)) pa_nil)))))
    (pss_cons (ps_for PassesOwn.never rfl (pi_tup (pe_slice sl_tup (pv 0) (po_some pe_int) po_none)) (pg_name (i := 2) scPp.nd rfl (Or.inl rfl))
      (pss_one (ps_set (i := 1) scPp.nd rfl (Or.inl rfl) (pe_ifExp (pt_val (pe_callB call_isi (by rfl) Tx.isi boot_isinstance (pa_cons (pv 2) (pa_cons (pe_bltn (v := .ty "str") (by rfl) zS boot_str rfl) pa_nil)))) (pe_tup (pa_cons pe_str (pa_cons (pv 1) (pa_cons (pv 2) pa_nil)))) (pe_tup (pa_cons pe_str (pa_cons (pv 1) (pa_cons (pv 2) pa_nil))))))))
    (pss_one (ps_ret (pv 1)))), ?_⟩
  have b0 : atI (pvs p) 0 = some (bV p.b) := atI_nat (j := 0) rfl
  refine ⟨fun σ' H' => Same H H' ∧ ∃ u, RW H' (bD p.b) u ∧ σ' = [some (.ref b), some u, none], ?_, ?_⟩
  · refine ⟨_, rfl, b, _, 0, _, rfl, rfl, hb, b0, ?_⟩
    cases q : p.b with
    | none =>
      refine ⟨.str (Str.ofString "value"), .str (Str.ofString "value"), .str _, .str _, by decide +kernel, by decide +kernel, _, rfl, ifT (by simp [PyData.eqv]) ⟨by show 1 ≤ sizeLine; decide, fun t ht => ?_⟩⟩
      exact ⟨same_new ht _, _, rw_one upd_same, rfl⟩
    | some i =>
      refine ⟨.int (i : Int), .str (Str.ofString "value"), .int _, .str _, by simp [SeqAt.shaped, PyData.canLay0, PyData.depth], by decide +kernel, _, rfl, ifF (by simp [PyData.eqv]) ⟨_, rfl, b, _, 0, _, rfl, rfl, hb, b0, by show 2 ≤ sizeLine; decide, fun t ht => ?_⟩⟩
      refine ⟨same_new ht _, _, rw_two (a := t) (by rw [upd_same, q]; rfl) lf_int, rfl⟩
  rintro _ H1 ⟨hs1, u0, hu0, rfl⟩
  have hb1 := SqT.same hb hs1
  refine ⟨_, rfl, _, rfl, b, _, rfl, hb1, ?_, fun t ht => ?_⟩
  · rw [pvs_len]
    intro z
    have z1 := z.1
    rw [show HT.sIx (p.ks.length + 1) 0 (some (1 : Int)) = 1 by rw [show (1 : Int) = ((1 : Nat) : Int) from rfl, HT.sIx_nat]; omega] at z1
    cases z1
  have ec : cutV (pvs p) (some 1) none = p.ks.map Ky.v := by
    unfold cutV pvs
    rw [HT.sIx_none, show (1 : Int) = ((1 : Nat) : Int) from rfl, HT.sIx_nat, List.length_cons, show min 1 ((p.ks.map Ky.v).length + 1) = 1 by omega]
    show (p.ks.map Ky.v).take ((p.ks.map Ky.v).length + 1 - 1) = _
    rw [Nat.add_sub_cancel, List.take_length]
  rw [ec]
  have st := same_new ht (.tup (p.ks.map Ky.v))
  have et : (upd H1 t (.tup (p.ks.map Ky.v))) t = some (.tup (p.ks.map Ky.v)) := upd_same
  generalize upd H1 t (.tup (p.ks.map Ky.v)) = H2 at st et ⊢
  refine ⟨t, rfl, ⟨_, SqT.of et⟩, ?_⟩
  refine for_tup (K := K) (a := t) (xs := p.ks.map Ky.v) (fun i σ' H' => Same H2 H' ∧ ∃ (u : V) (v2 : Option V), RW H' ((p.ks.take i).foldl kyN (bD p.b)) u ∧ σ' = [some (.ref b), some u, v2]) ⟨Same.refl _, u0, none, hu0.same st, rfl⟩ (fun i σ' H' _ ⟨h, _⟩ => SqT.of (h _ _ et)) ?_ ?_
  · rintro i x σ' H3 hi ⟨hs3, u, v2, hu, rfl⟩
    rw [List.getElem?_map] at hi
    obtain ⟨k, hk, rfl⟩ : ∃ k, p.ks[i]? = some k ∧ k.v = x := by
      cases e : p.ks[i]? with
      | none =>
        rw [e] at hi
        cases hi
      | some k =>
        rw [e] at hi
        exact ⟨k, rfl, Option.some.inj hi⟩
    have et2 : (p.ks.take (i + 1)).foldl kyN (bD p.b) = kyN ((p.ks.take i).foldl kyN (bD p.b)) k := by
      rw [List.take_add_one, hk]
      show (p.ks.take i ++ [k]).foldl kyN (bD p.b) = _
      rw [List.foldl_append]
      rfl
    cases k with
    | ix j =>
      refine ⟨_, rfl, _, _, _, _, _, rfl, .ty _, .base (.int _), kit_ty (a := "int") (b := "str") (r := false) (by decide +kernel), _, rfl, iteF ⟨_, rfl, _, rfl, by show 3 ≤ sizeLine; decide, fun t5 ht5 => ?_⟩⟩
      have s5 := same_new ht5 (.tup [V.str (Str.ofString "item"), u, V.int (j : Int)])
      refine ⟨hs3.trans s5, _, _, ?_, rfl⟩
      rw [et2]
      exact rw_three upd_same (hu.same s5) lf_int
    | fd z =>
      refine ⟨_, rfl, _, _, _, _, _, rfl, .ty _, .base (.str _), kit_ty (a := "str") (b := "str") (r := true) (by decide +kernel), _, rfl, iteT ⟨_, rfl, _, rfl, by show 3 ≤ sizeLine; decide, fun t5 ht5 => ?_⟩⟩
      have s5 := same_new ht5 (.tup [V.str (Str.ofString "field"), u, V.str z])
      refine ⟨hs3.trans s5, _, _, ?_, rfl⟩
      rw [et2]
      exact rw_three upd_same (hu.same s5) lf_str
  · rintro σ' H3 ⟨hs3, u, v2, hu, rfl⟩
    rw [List.length_map, List.take_length] at hu
    exact ⟨_, rfl, kk u H3 ((hs1.trans st).trans hs3) hu⟩
theorem scPq : FnScope ["place"] ["place"] (defScope sToldPlace) := ⟨rfl, rfl, rfl, by decide +kernel, rfl, by decide +kernel, by decide +kernel⟩
theorem ok_toldplace {f fP : Addr} {fd fdP : FuncData} (F : Fun K "told_place" "told_place" sToldPlace f fd) (Tx : Txt K mg)
    (FP : Fun K "told_path" "told_path" sToldPath fP fdP) (GP : FnOk P w K mg base CX0 1 fP fdP ["path"] (spToldPath K)) (bP : L2.Binds K fdP ["path"] []) (mP : mg "told_path" = some (.ref fP)) : FnOk P w K mg base CX0 2 f fd ["place"] (spToldPlace K) := by
  refine F.ok scPq (fun vs H Q E h => ?_) (fun cdv A outer s H vs Q E hr h => ?_)
  · obtain ⟨v, p, rfl, _⟩ := h
    rfl
  obtain ⟨v, p, rfl, hp, kk⟩ := h
  refine ⟨_, pss_cons (ps_if (pt_cmpR op_eq (pe_ix ix_tup (pv 0) pe_int (fun _ _ => rfl)) pe_str (nomark _)) (pss_one (ps_ret (pe_call GP hr rfl mP FP.kp bP .nil pass0 (pa_cons (pe_ix ix_tup (pv 0) pe_int (fun _ _ => rfl)) pa_nil)))) pss_nil)
    (pss_cons (ps_if (pt_cmpR op_eq (pe_ix ix_tup (pv 0) pe_int (fun _ _ => rfl)) pe_str (nomark _)) (pss_one (ps_ret (pe_tup (pa_cons pe_str (pa_cons (pe_call GP hr rfl mP FP.kp bP .nil pass0 (pa_cons (pe_ix ix_tup (pv 0) pe_int (fun _ _ => rfl)) pa_nil)) (pa_cons (pe_ix ix_tup (pv 0) pe_int (fun _ _ => rfl)) pa_nil)))))) pss_nil)
    (pss_cons (ps_if (pt_cmpR op_eq (pe_ix ix_tup (pv 0) pe_int (fun _ _ => rfl)) pe_str (nomark _)) (pss_one (ps_ret (pe_tup (pa_cons pe_str (pa_cons (pe_call GP hr rfl mP FP.kp bP .nil pass0 (pa_cons (pe_ix ix_tup (pv 0) pe_int (fun _ _ => rfl)) pa_nil)) (pa_cons (pe_callTy call_list_of (by rfl) Tx.list boot_list (pa_cons (pe_ix ix_tup (pv 0) pe_int (fun _ _ => rfl)) pa_nil)) pa_nil)))))) pss_nil)
    (pss_one (ps_ret (pv 0))))), ?_⟩
  have a0 : ∀ {s : String} {ys : List V}, atI (V.str (Str.ofString s) :: ys) 0 = some (.str (Str.ofString s)) := atI_nat (j := 0) rfl
  cases p with
  | «at» p =>
    obtain ⟨a, b, rfl, ha, hb⟩ := hp
    exact ⟨_, rfl, a, _, 0, _, rfl, rfl, ha, a0, rfl, _, rfl, ifT (decide_eq_true rfl) ⟨_, rfl, a, _, 1, _, rfl, rfl, ha, atI_nat (j := 1) rfl, b, p, rfl, hb, fun u H1 hs1 hu => kk u H1 hs1 hu⟩⟩
  | items p n =>
    obtain ⟨a, b, rfl, ha, hb⟩ := hp
    refine ⟨_, rfl, a, _, 0, _, rfl, rfl, ha, a0, rfl, _, rfl, ifF (so_ne (s := "items") (t := "at") (by decide)) ?_⟩
    refine ⟨_, rfl, a, _, 0, _, rfl, rfl, ha, a0, rfl, _, rfl, ifT (decide_eq_true rfl) ?_⟩
    refine ⟨_, rfl, a, _, 1, _, rfl, rfl, ha, atI_nat (j := 1) rfl, b, p, rfl, hb, fun u H1 hs1 hu => ⟨_, rfl, a, _, 2, _, rfl, rfl, SqT.same ha hs1, atI_nat (j := 2) rfl, by show 3 ≤ sizeLine; decide, fun t ht => ?_⟩⟩
    have s2 := same_new ht (.tup [V.str (Str.ofString "items"), u, V.int (n : Int)])
    exact kk _ _ (hs1.trans s2) (rw_three upd_same (hu.same s2) lf_int)
  | others p zs =>
    obtain ⟨a, b, c, rfl, ha, hb, hc⟩ := hp
    refine ⟨_, rfl, a, _, 0, _, rfl, rfl, ha, a0, rfl, _, rfl, ifF (so_ne (s := "others") (t := "at") (by decide)) ?_⟩
    refine ⟨_, rfl, a, _, 0, _, rfl, rfl, ha, a0, rfl, _, rfl, ifF (so_ne (s := "others") (t := "items") (by decide)) ?_⟩
    refine ⟨_, rfl, a, _, 0, _, rfl, rfl, ha, a0, rfl, _, rfl, ifT (decide_eq_true rfl) ?_⟩
    refine ⟨_, rfl, a, _, 1, _, rfl, rfl, ha, atI_nat (j := 1) rfl, b, p, rfl, hb, fun u H1 hs1 hu => ⟨_, rfl, a, _, 2, _, rfl, rfl, SqT.same ha hs1, atI_nat (j := 2) rfl, c, _, rfl, .inr (SqT.same hc hs1), fun l hl => ?_⟩⟩
    have s2 := same_new hl (.lst (zs.map V.str))
    refine ⟨by show 3 ≤ sizeLine; decide, fun t ht => ?_⟩
    have s3 := same_new ht (.tup [V.str (Str.ofString "others"), u, V.ref l])
    exact kk _ _ ((hs1.trans s2).trans s3) ⟨t, _, rfl, upd_same, _, _, rfl, ⟨rfl, lf_str⟩, _, _, rfl, (hu.same s2).same s3, _, _, rfl, ⟨l, _, rfl, s3 _ _ upd_same, rws_strs zs⟩, rfl⟩
  | known x =>
    obtain ⟨a, rfl, ha⟩ := id hp
    refine ⟨_, rfl, a, _, 0, _, rfl, rfl, ha, a0, rfl, _, rfl, ifF (so_ne (s := "known") (t := "at") (by decide)) ?_⟩
    refine ⟨_, rfl, a, _, 0, _, rfl, rfl, ha, a0, rfl, _, rfl, ifF (so_ne (s := "known") (t := "items") (by decide)) ?_⟩
    refine ⟨_, rfl, a, _, 0, _, rfl, rfl, ha, a0, rfl, _, rfl, ifF (so_ne (s := "known") (t := "others") (by decide)) ?_⟩
    exact ⟨_, rfl, kk _ H (Same.refl H) hp⟩
  | step =>
    obtain ⟨a, rfl, ha⟩ := id hp
    refine ⟨_, rfl, a, _, 0, _, rfl, rfl, ha, a0, rfl, _, rfl, ifF (so_ne (s := "step") (t := "at") (by decide)) ?_⟩
    refine ⟨_, rfl, a, _, 0, _, rfl, rfl, ha, a0, rfl, _, rfl, ifF (so_ne (s := "step") (t := "items") (by decide)) ?_⟩
    refine ⟨_, rfl, a, _, 0, _, rfl, rfl, ha, a0, rfl, _, rfl, ifF (so_ne (s := "step") (t := "others") (by decide)) ?_⟩
    exact ⟨_, rfl, kk _ H (Same.refl H) hp⟩
end
end K02
set_option Elab.async false
set_option linter.all false
set_option maxRecDepth 100000
set_option maxHeartbeats 4000000
namespace K02
open PySem L2 PyProof.Rows
/-! ### what a run did -/
inductive EndM where
  | bound (ps : List (Str × Pc))
  | failed (p : Pc) (y : Why)
def PrAt (K : PySem.W.Frag) (H : Hp) (v : V) (q : Str × Pc) : Prop := ∃ t x, v = .ref t ∧ SqT K H t [.str q.1, x] ∧ PcAt K H x q.2
def EndAt (K : PySem.W.Frag) (H : Hp) (v : V) : EndM → Prop
  | .bound ps => ∃ b l xs, v = .ref b ∧ H b = some (.tup [.str (Str.ofString "bound"), .ref l]) ∧ H l = some (.lst xs) ∧ Paired (PrAt K H) xs ps
  | .failed p y => ∃ b tv x, v = .ref b ∧ H b = some (.tup [.str (Str.ofString "failed"), tv, x]) ∧ ToldAt K H tv p ∧ WhyAt K H x y
def OcAt (K : PySem.W.Frag) (H : Hp) (u : V) (ms : List (Str × List Pc)) (e : EndM) : Prop := ∃ a l xs v, u = .ref a ∧ H a = some (.tup [.ref l, v]) ∧ H l = some (.lst xs) ∧ Paired (MdAt K H) xs ms ∧ EndAt K H v e
open Classical in
noncomputable def srtL (L : List Str) : List Str := if h : ∃ ys : List Str, ys.Perm L ∧ sortedS ys = true then h.choose else L
theorem srtL_is {L ys : List Str} (hp : ys.Perm L) (hs : sortedS ys = true) : srtL L = ys := by
  have h : ∃ ys : List Str, ys.Perm L ∧ sortedS ys = true := ⟨ys, hp, hs⟩
  unfold srtL
  rw [dif_pos h]
  exact TxSet.one_rising h.choose_spec.1 h.choose_spec.2 hp hs
noncomputable def pairsOf (h : List (Str × Pc)) : List (Str × Pc) := (srtL (h.map (·.1))).map fun z => (z, (getH h z).getD .step)
noncomputable def endOf (σ : Tst) : EndM := match σ.flr with
  | none => .bound (pairsOf σ.held)
  | some f => .failed f.1 f.2
theorem getH_mem : ∀ {h : List (Str × Pc)} {z : Str}, z ∈ h.map (·.1) → ∃ p, getH h z = some p
  | [], z, hz => by cases hz
  | q :: qs, z, hz => by
    by_cases e : q.1 = z
    · exact ⟨q.2, by simp [getH, List.find?_cons, e]⟩
    · have hz2 : z ∈ qs.map (·.1) := by
        rcases List.mem_cons.mp hz with h | h
        · exact absurd h.symm e
        · exact h
      obtain ⟨p, hp⟩ := getH_mem hz2
      exact ⟨p, by rw [← hp]; simp [getH, List.find?_cons, e]⟩
theorem hr_keys {K : PySem.W.Frag} {H : Hp} {kvs : List (Key × V)} {hs : List (Str × Pc)} (h : HR K H kvs hs) : kvs.map (·.1) = (hs.map (·.1)).map Sum.inr := by
  induction h with
  | nil => rfl
  | cons h t ih => rw [List.map_cons, List.map_cons, List.map_cons, ih, h.1]
section
variable {P : Program} {w : World} {K : PySem.W.Frag} {mg : Str → Option Value} {base : Heap} {T : Tc P w K mg base}
def spSoFar (T : Tc P w K mg base) : Sp := fun vs H Q _ => ∃ (o : Nat → Addr) (M : Hp) (σ : Tst) (r : Hp → List (Lq × V) → Prop), vs = [.ref (o 0)] ∧ Kept T.S r ∧ TkAt T r M H o σ ∧ σ.held.length < 64 ∧ ∀ u H', Same H H' → OcAt K H' u σ.made (.bound (pairsOf σ.held)) → Q u H'
def spOutcome (T : Tc P w K mg base) : Sp := fun vs H Q _ => ∃ (o : Nat → Addr) (M : Hp) (σ : Tst) (r : Hp → List (Lq × V) → Prop), vs = [.ref (o 0)] ∧ Kept T.S r ∧ TkAt T r M H o σ ∧ σ.held.length < 64 ∧ ∀ u H', Same H H' → OcAt K H' u σ.made (endOf σ) → Q u H'
theorem scSf : FnScope ["self", "name"] ["self"] (defScope sSoFar) := ⟨rfl, rfl, rfl, by decide +kernel, rfl, by decide +kernel, by decide +kernel⟩
theorem ok_sofar {f : Addr} {fd : FuncData} (F : Fun K "so_far" "Taking.so_far" sSoFar f fd) (Tx : Txt K mg) (zSt : mg "sorted" = none) : FnOk P w K mg base CX0 1 f fd ["self"] (spSoFar T) := by
  refine F.ok scSf (fun vs H Q E h => ?_) (fun cdv A outer s H vs Q E hr h => ?_)
  · obtain ⟨o, M, σ, r, rfl, _⟩ := h
    rfl
  obtain ⟨o, M, σ, r, rfl, hK, hT, hhl, kk⟩ := h
  have hu1 : (A.deeper (envOfC "Taking.so_far" (defScope sSoFar) s.heap.objs.size f cdv)).units + 1 < cLine := hu_of hr
  refine ⟨_, pss_one (ps_ret (pe_tup (pa_cons (pe_callTy call_list_of (by rfl) Tx.list boot_list (pa_cons (pe_fld (pv 0) rfl) pa_nil)) (pa_cons (pe_tup (pa_cons pe_str (pa_cons
    (pe_lc (own := [("name", 1)]) (g := gName 1) (tt := tYes) (te := tTup (tCons (tVar 1) (tCons (tDGet (tFld K (tVar 0) "held") (tVar 1)) tNil))) rfl scSf.nd (pi_list (pe_callB (call_sortedD rfl) (by rfl) zSt boot_sorted (pa_cons (pe_fld (pv 0) rfl) pa_nil))) (blkOk_by (N := ["self", "name"]) (sc := defScope sSoFar) (by decide +kernel)) (fun _ _ _ _ _ => pg_name (i := 1) scSf.nd rfl (Or.inl rfl)) (fun _ _ _ _ _ => pts_nil)
      (fun _ _ _ _ _ => pe_tup (pa_cons (pv 1) (pa_cons (pe_dget hu1 (show PE _ _ (tFld K (tVar 0) "held") from pe_fld (pv 0) rfl) (pv 1) (fun _ _ => rfl)) pa_nil)))) pa_nil))) pa_nil)))), ?_⟩
  obtain ⟨dx, fs, hi, hlen, look, non⟩ := tk_fld hT
  obtain ⟨ms, hms, hpm⟩ := hT.ct.made
  obtain ⟨kvs, hkv, hHR⟩ := hT.ct.held
  refine ⟨_, rfl, o 0, T.CT, dx, fs, _, rfl, hi, T.cT.cl, T.cT.at_ (i := 5) rfl, look 5 _ (by decide) rfl, o 2, ms, rfl, .inl (SqL.of hms), fun l1 hl1 => ?_⟩
  have s1 := same_new hl1 (.lst ms)
  refine ⟨_, rfl, o 0, T.CT, dx, fs, _, rfl, s1 _ _ hi, T.cT.cl, T.cT.at_ (i := 4) rfl, look 4 _ (by decide) rfl, o 1, kvs, σ.held.map (·.1), rfl, .inl (s1 _ _ hkv), hr_keys hHR, by rw [List.length_map]; exact hhl, fun ys p hperm hsrt hp => ?_⟩
  have s2 := same_new hp (.lst (ys.map V.str))
  have s12 := s1.trans s2
  have hys : srtL (σ.held.map (·.1)) = ys := srtL_is hperm hsrt
  have hyl : ys.length < 64 := by
    rw [hperm.length_eq, List.length_map]
    exact hhl
  refine ⟨p, rfl, ⟨_, SqL.of upd_same⟩, fun D0 hD => ?_⟩
  have hpD : p ≠ D0 := ne_of_none upd_same hD
  have hp2 : (upd (upd H l1 (.lst ms)) p (.lst (ys.map V.str))) p = some (.lst (ys.map V.str)) := upd_same
  generalize upd (upd H l1 (.lst ms)) p (.lst (ys.map V.str)) = H2 at hp2 s12 s2 hD ⊢
  refine lc_list (K := K) (a := p) (xs := ys.map V.str) (fun i H3 => Same H2 H3 ∧ ∃ ts, H3 D0 = some (.lst ts) ∧ Paired (PrAt K H3) ts ((ys.take i).map fun z => (z, (getH σ.held z).getD .step))) ⟨same_new hD _, [], upd_same, .nil⟩ (fun i H3 _ ⟨h, _⟩ => SqL.of (h _ _ hp2)) ?_ ?_
  · rintro i x H3 hx ⟨hs3, ts, hD3, hts⟩
    rw [List.getElem?_map] at hx
    obtain ⟨z, hz, rfl⟩ : ∃ z, ys[i]? = some z ∧ V.str z = x := by
      cases e : ys[i]? with
      | none =>
        rw [e] at hx
        cases hx
      | some z =>
        rw [e] at hx
        exact ⟨z, rfl, Option.some.inj hx⟩
    obtain ⟨pc, hpc⟩ := getH_mem (hperm.mem_iff.mp (List.mem_of_getElem? hz))
    obtain ⟨v, hv, hpv⟩ := (HR.get hHR z).2 pc hpc
    have s03 := s12.trans hs3
    have hk3 := s03 _ _ hkv
    have et : ys.take (i + 1) = ys.take i ++ [z] := by
      rw [List.take_add_one, hz]
      rfl
    have htl : ts.length = i := by
      rw [hts.length, List.length_map, List.length_take]
      have := (List.getElem?_eq_some_iff.mp hz).1
      omega
    have hi9 : i < ys.length := (List.getElem?_eq_some_iff.mp hz).1
    refine ⟨rfl, ?_⟩
    unfold tYes
    refine iteT ⟨_, rfl, _, rfl, o 0, T.CT, dx, fs, _, rfl, s03 _ _ hi, T.cT.cl, T.cT.at_ (i := 4) rfl, look 4 _ (by decide) rfl, _, rfl, o 1, v, rfl, by rw [← hv]; exact DGet.k (k := Sum.inr z) hk3, by show 2 ≤ sizeLine; decide, fun t ht => ?_⟩
    have s4 := same_new ht (.tup [V.str z, v])
    have ntD : t ≠ D0 := (ne_of_none hD3 ht).symm
    have hD4 := s4 _ _ hD3
    have ts5 : TupSt (upd H3 t (.tup [V.str z, v])) (upd (upd H3 t (.tup [V.str z, v])) D0 (.lst (ts ++ [.ref t]))) := TupSt.upd hD4 (fun _ z => nomatch z) (fun _ _ z => nomatch z)
    refine ⟨ts, hD4, Nat.lt_of_le_of_lt (show ts.length ≤ 1000 by omega) (by decide), same_put (hs3.trans s4) hD, _, upd_same, ?_⟩
    rw [et, List.map_append]
    refine Paired.snoc (Paired.mapP hts fun a b ⟨t1, x1, e1, e2, e3⟩ => ⟨t1, x1, e1, (e2.st (TupSt.of s4)).st ts5, (e3.st (TupSt.of s4)).st ts5⟩) ⟨t, v, rfl, SqT.of (by rw [upd_ne ntD]; exact upd_same), ?_⟩
    show PcAt K _ v ((getH σ.held z).getD .step)
    rw [hpc]
    exact ((hpv.st (TupSt.of s03)).st (TupSt.of s4)).st ts5
  · rintro H3 ⟨hs3, ts, hD3, hts⟩
    rw [List.length_map, List.take_length] at hts
    refine ⟨by show 2 ≤ sizeLine; decide, fun b hb => ⟨by show 2 ≤ sizeLine; decide, fun a ha => ?_⟩⟩
    have s4 := same_new hb (.tup [V.str (Str.ofString "bound"), V.ref D0])
    have s5 := same_new ha (.tup [V.ref l1, V.ref b])
    have sA : Same H _ := ((s12.trans hs3).trans s4).trans s5
    have sB : Same H2 _ := (hs3.trans s4).trans s5
    have hl1' : H2 l1 = some (.lst ms) := s2 _ _ upd_same
    refine kk _ _ sA ⟨a, l1, ms, _, rfl, upd_same, sB _ _ hl1', Paired.mapP hpm fun _ _ q => q.st (TupSt.of sA), b, D0, ts, rfl, s5 _ _ upd_same, s5 _ _ (s4 _ _ hD3), ?_⟩
    unfold pairsOf
    rw [hys]
    exact Paired.mapP hts fun q r ⟨t1, x1, e1, e2, e3⟩ => ⟨t1, x1, e1, e2.st (TupSt.of (s4.trans s5)), e3.st (TupSt.of (s4.trans s5))⟩
theorem scOc : FnScope ["self", "place", "why"] ["self"] (defScope sOutcome) := ⟨rfl, rfl, rfl, by decide +kernel, rfl, by decide +kernel, by decide +kernel⟩
theorem ok_outcome {f fS fT : Addr} {fd fdS fdT : FuncData} (F : Fun K "outcome" "Taking.outcome" sOutcome f fd)
    (FS : Fun K "so_far" "Taking.so_far" sSoFar fS fdS) (GS : FnOk P w K mg base CX0 1 fS fdS ["self"] (spSoFar T)) (bS : L2.Binds K fdS ["self"] []) (mS : Meth K T.CT "so_far" fS)
    (FT : Fun K "told_place" "told_place" sToldPlace fT fdT) (GT : FnOk P w K mg base CX0 2 fT fdT ["place"] (spToldPlace K)) (bT : L2.Binds K fdT ["place"] []) (mT : mg "told_place" = some (.ref fT)) : FnOk P w K mg base CX0 3 f fd ["self"] (spOutcome T) := by
  refine F.ok scOc (fun vs H Q E h => ?_) (fun cdv A outer s H vs Q E hr h => ?_)
  · obtain ⟨o, M, σ, r, rfl, _⟩ := h
    rfl
  obtain ⟨o, M, σ, r, rfl, hK, hT, hhl, kk⟩ := h
  have hr1 := hr.mono (show 1 ≤ 2 by decide)
  refine ⟨_, pss_cons (ps_if (pt_cmpR op_isN (pe_fld (pv 0) rfl) pe_non (nomark _)) (pss_one (ps_ret (pe_meth0 (pv 0) T.cT.cl mS GS hr1 bS .nil pass0))) pss_nil)
    (pss_cons (ps_asg (pe_fld (pv 0) rfl) (pg_tup rfl (pgs_cons (pg_name (i := 1) scOc.nd rfl (Or.inl rfl)) (pgs_cons (pg_name (i := 2) scOc.nd rfl (Or.inl rfl)) pgs_nil))))
    (pss_one (ps_ret (pe_tup (pa_cons (pe_ix ix_tup (pe_meth0 (pv 0) T.cT.cl mS GS hr1 bS .nil pass0) pe_int (fun _ _ => rfl)) (pa_cons (pe_tup (pa_cons pe_str (pa_cons (pe_call GT hr rfl mT FT.kp bT .nil pass0 (pa_cons (pv 1) pa_nil)) (pa_cons (pv 2) pa_nil)))) pa_nil)))))), ?_⟩
  obtain ⟨dx, fs, vals, hi, hF, hval, hfl⟩ := hT.ct.ins
  have l11 := hF.look (i := 11) rfl (by decide)
  refine ⟨_, rfl, o 0, T.CT, dx, fs, _, rfl, hi, T.cT.cl, T.cT.at_ (i := 11) rfl, l11, rfl, _, rfl, ?_⟩
  cases hf : σ.flr with
  | none =>
    rw [hf] at hfl
    have hv : vals 11 = .non := hfl
    refine ifT (decide_eq_true hv) ⟨_, rfl, o 0, dx, fs, rfl, hi, hF.non _ (by decide +kernel), o, M, σ, r, rfl, hK, hT, hhl, fun u H1 hs1 hu => kk u H1 hs1 ?_⟩
    unfold endOf
    rw [hf]
    exact hu
  | some fl =>
    rw [hf] at hfl
    obtain ⟨a, v, x, ea, ha, hpv, hwy⟩ := hfl
    refine ifF (decide_eq_false fun z => by rw [ea] at z; cases z) ?_
    rw [ea] at l11
    refine ⟨_, rfl, o 0, T.CT, dx, fs, _, rfl, hi, T.cT.cl, T.cT.at_ (i := 11) rfl, l11, a, _, rfl, ha, rfl, _, _, rfl, _, _, rfl, rfl, ?_⟩
    refine ⟨_, rfl, o 0, dx, fs, rfl, hi, hF.non _ (by decide +kernel), o, M, σ, r, rfl, hK, hT, hhl, fun u H1 hs1 hu => ?_⟩
    obtain ⟨a1, l1, xs, v1, rfl, ha1, hl1, hxs, _⟩ := hu
    refine ⟨a1, _, 0, _, rfl, rfl, SqT.of ha1, atI_nat (j := 0) rfl, _, rfl, v, fl.1, rfl, hpv.same hs1, fun u2 H2 hs2 hu2 => ⟨_, rfl, by show 3 ≤ sizeLine; decide, fun b hb => ⟨by show 2 ≤ sizeLine; decide, fun t ht => ?_⟩⟩⟩
    have s3 := same_new hb (.tup [V.str (Str.ofString "failed"), u2, x])
    have s4 := same_new ht (.tup [V.ref l1, V.ref b])
    have s34 := s3.trans s4
    have told : ToldAt K (upd (upd H2 b (.tup [V.str (Str.ofString "failed"), u2, x])) t (.tup [V.ref l1, V.ref b])) u2 fl.1 := by
      unfold ToldAt at hu2 ⊢
      by_cases c : fl.1.isB = true
      · rw [if_pos c] at hu2 ⊢
        exact hu2.same s34
      · rw [if_neg c] at hu2 ⊢
        exact hu2.same s34
    refine kk _ _ ((hs1.trans hs2).trans s34) ⟨t, l1, xs, _, rfl, upd_same, s34 _ _ (hs2 _ _ hl1), Paired.mapP hxs fun _ _ q => q.st (TupSt.of (hs2.trans s34)), ?_⟩
    unfold endOf
    rw [hf]
    exact ⟨b, u2, x, rfl, s4 _ _ upd_same, told, hwy.st (TupSt.of ((hs1.trans hs2).trans s34))⟩
end
end K02
set_option Elab.async false
set_option linter.all false
set_option maxRecDepth 100000
set_option maxHeartbeats 4000000
namespace K02
open PySem L2 PyProof.Rows
def Tst.nil : Tst := ⟨[], [], [], [], [], [], none, none⟩
theorem But.tup {x : Addr} {H H1 : Hp} {u : HO} (b : But x H H1) (hx : H x = some u) (hp : plain u) : TupSt H H1 := by
  refine ⟨fun a xs e => b a _ (fun z => ?_) e, fun a p q e => b a _ (fun z => ?_) e⟩
  · rw [z, hx] at e
    exact hp.1 xs (Option.some.inj e)
  · rw [z, hx] at e
    exact hp.2 p q (Option.some.inj e)
section
variable {P : Program} {w : World} {K : PySem.W.Frag} {mg : Str → Option Value} {base : Heap} {T : Tc P w K mg base}
theorem FxAt.there {C : Addr} {H : Hp} {o : Nat → Addr} {n : Nat} {f : Fx} (h : FxAt P w K C H o n f) : ∀ i, i < 6 → ∃ v, H (o i) = some v := fun i hi => by
  by_cases c : i = 0
  · subst c
    obtain ⟨dx, fs, e, _⟩ := h.ins
    exact ⟨_, e⟩
  · obtain ⟨j, rfl⟩ : ∃ j, i = j + 1 := ⟨i - 1, by omega⟩
    obtain ⟨φ, e⟩ := (h.ds j (by omega)).ext
    exact ⟨_, e⟩
theorem FxAt.but {C x : Addr} {H H1 : Hp} {o : Nat → Addr} {n : Nat} {f : Fx} {u : HO} (h : FxAt P w K C H o n f) (b : But x H H1) (hx : H x = some u) (hp : plain u) (ho : ∀ i, i < 6 → o i ≠ x) : FxAt P w K C H1 o n f := by
  refine h.st (b.tup hx hp) fun i hi => ?_
  have e : ∃ v, H (o i) = some v := by
    by_cases c : i = 0
    · subst c
      obtain ⟨dx, fs, e, _⟩ := h.ins
      exact ⟨_, e⟩
    · obtain ⟨j, rfl⟩ : ∃ j, i = j + 1 := ⟨i - 1, by omega⟩
      obtain ⟨φ, e⟩ := (h.ds j (by omega)).ext
      exact ⟨_, e⟩
  obtain ⟨v, e⟩ := e
  rw [e]
  exact b _ _ (ho i hi) e
def spTkInit (T : Tc P w K mg base) : Sp := fun vs H Q _ => ∃ (x dx : Addr) (r s : Str) (M : Hp), vs = [.ref x, .ref T.S.s, .str r, .str s] ∧ H x = some (.ins T.CT dx []) ∧ T.late = decide (r = Str.ofString "late") ∧ T.noth = decide (s = Str.ofString "nothing") ∧
  Same M H ∧ M x = none ∧ Same T.S.M0 M ∧ (∀ b, T.S.mu b → M b = none) ∧ ¬ T.S.mu x ∧ T.S.rep H [] ∧ ∀ o H', o 0 = x → TkAt T T.S.rep M H' o Tst.nil → TupSt H H' → Q .non H'
theorem scTi : FnScope ["self", "source", "order", "lacks"] ["self", "source", "order", "lacks"] (defScope sTkInit) := ⟨rfl, rfl, rfl, by decide +kernel, rfl, by decide +kernel, by decide +kernel⟩
/-- one field more, of a value -/
theorem fld_step {x dx C : Addr} {H : Hp} {fs : List (Str × V)} {k : Nat} {vals : Nat → V} (hx : H x = some (.ins C dx fs)) (hF : FsK tN tM k fs vals) {nm : Str} (hn : tN[k]? = some nm) (v : V) :
    But x H (upd H x (.ins C dx (putF nm v fs))) ∧ (upd H x (.ins C dx (putF nm v fs))) x = some (.ins C dx (putF nm v fs)) ∧ FsK tN tM (k + 1) (putF nm v fs) (upN vals k v) := ⟨But.upd, upd_same, FsK.add tNam hF hn v⟩
theorem ok_tkinit {f fI : Addr} {fd fdI : FuncData} (F : Fun K "__init__" "Taking.__init__" sTkInit f fd) (mF : mg "Facts" = some (.ref T.CF)) (MF : Mk K T.CF fI)
    (FI : Fun K "__init__" "Facts.__init__" sFInit fI fdI) (GI : FnOk P w K mg base CX0 1 fI fdI ["self"] (spFInit P w K T.CF)) (bI : L2.Binds K fdI ["self"] []) :
    FnOk P w K mg base CX0 3 f fd ["self", "source", "order", "lacks"] (spTkInit T) := by
  refine F.ok scTi (fun vs H Q E h => ?_) (fun cdv A outer s H vs Q E hr h => ?_)
  · obtain ⟨x, dx, r, s, M, rfl, _⟩ := h
    rfl
  obtain ⟨x, dx, r, s, M, rfl, hx, hlt, hnt, sMH, hMx, h0M, hmM, hmx, hrep, kk⟩ := h
  refine ⟨_, pss_cons (ps_fld (pv 0) (pv 1) rfl) (pss_cons (ps_fld (pv 0) (pe_cmpR op_eq (pv 2) pe_str (nomark _)) rfl) (pss_cons (ps_fld (pv 0) (pe_cmpR op_eq (pv 3) pe_str (nomark _)) rfl)
    (pss_cons (ps_fld (pv 0) (pe_make0 MF GI hr rfl mF bI .nil pass0) rfl) (pss_cons (ps_fld (pv 0) pe_dnewK rfl) (pss_cons (ps_fld (pv 0) (pe_lst pa_nil) rfl) (pss_cons (ps_fld (pv 0) (pe_lst pa_nil) rfl)
    (pss_cons (ps_fld (pv 0) pe_dnewK rfl) (pss_cons (ps_fld (pv 0) pe_dnewK rfl) (pss_cons (ps_fld (pv 0) pe_non rfl) (pss_cons (ps_fld (pv 0) pe_dnewK rfl) (pss_one (ps_fld (pv 0) pe_non rfl)))))))))))), ?_⟩
  have pl : ∀ fs, plain (.ins T.CT dx fs) := fun fs => ⟨(fun _ z => nomatch z), (fun _ _ z => nomatch z)⟩
  obtain ⟨b1, x1, F1⟩ := fld_step hx FsK.nil (nm := Str.ofString "source") rfl (.ref T.S.s) (vals := fun _ => V.non)
  refine ⟨_, rfl, _, rfl, x, T.CT, dx, _, rfl, hx, T.cT.cl, T.cT.at_ (i := 0) rfl, by show 0 < 1000; decide, ?_⟩
  generalize upd H x (.ins T.CT dx (putF (Str.ofString "source") (V.ref T.S.s) [])) = H1 at b1 x1 ⊢
  generalize putF (Str.ofString "source") (V.ref T.S.s) [] = f1 at F1 x1 ⊢
  obtain ⟨b2, x2, F2⟩ := fld_step x1 F1 (nm := Str.ofString "late") rfl (.bl (decide (V.str r = V.str (Str.ofString "late"))))
  refine ⟨_, rfl, rfl, _, rfl, x, T.CT, dx, _, rfl, x1, T.cT.cl, T.cT.at_ (i := 1) rfl, by rw [F1.len]; decide, ?_⟩
  generalize upd H1 x (.ins T.CT dx (putF (Str.ofString "late") (.bl (decide (V.str r = V.str (Str.ofString "late")))) f1)) = H2 at b2 x2 ⊢
  generalize putF (Str.ofString "late") (.bl (decide (V.str r = V.str (Str.ofString "late")))) f1 = f2 at F2 x2 ⊢
  obtain ⟨b3, x3, F3⟩ := fld_step x2 F2 (nm := Str.ofString "nothing") rfl (.bl (decide (V.str s = V.str (Str.ofString "nothing"))))
  refine ⟨_, rfl, rfl, _, rfl, x, T.CT, dx, _, rfl, x2, T.cT.cl, T.cT.at_ (i := 2) rfl, by rw [F2.len]; decide, ?_⟩
  generalize upd H2 x (.ins T.CT dx (putF (Str.ofString "nothing") (.bl (decide (V.str s = V.str (Str.ofString "nothing")))) f2)) = H3 at b3 x3 ⊢
  generalize putF (Str.ofString "nothing") (.bl (decide (V.str s = V.str (Str.ofString "nothing")))) f2 = f3 at F3 x3 ⊢
  have b03 : But x H H3 := (b1.trans b2).trans b3
  -- the facts
  intro y dy ny ndy ney
  have sm : Same H3 (upd (upd H3 dy (.own y)) y (.ins T.CF dy [])) := (same_new ndy _).trans (same_new (by rw [upd_ne ney.symm]; exact ny) _)
  refine ⟨y, dy, rfl, upd_same, by rw [upd_ne ney, upd_same]; exact (fun z => nomatch z), fun of H4 ho0 hon hb4 hfx => ⟨rfl, ?_⟩⟩
  have hyH : H3 y = none := ny
  have of_new : ∀ i, i < 6 → H3 (of i) = none := fun i hi => by
    by_cases c : i = 0
    · rw [c, ho0]
      exact ny
    · exact sm.free (hon i (by omega) hi)
  have s34 : Same H3 H4 := fun b u e => hb4 b u (fun z => by rw [z, ny] at e; cases e) (sm b u e)
  have x4a := s34 _ _ x3
  have ofx : ∀ i, i < 6 → of i ≠ x := fun i hi z => by
    have := of_new i hi
    rw [z, x3] at this
    cases this
  obtain ⟨b4, x4, F4⟩ := fld_step x4a F3 (nm := Str.ofString "facts") rfl (.ref y)
  refine ⟨_, rfl, x, T.CT, dx, _, rfl, x4a, T.cT.cl, T.cT.at_ (i := 3) rfl, by rw [F3.len]; decide, ?_⟩
  have fx4 := hfx.but b4 x4a (pl _) ofx
  generalize upd H4 x (.ins T.CT dx (putF (Str.ofString "facts") (V.ref y) f3)) = H5 at b4 x4 fx4 ⊢
  generalize putF (Str.ofString "facts") (V.ref y) f3 = f4 at F4 x4 ⊢
  have b05 : But x H H5 := (b03.trans (But.of s34)).trans b4
  -- what is new at a heap behind
  have fresh : ∀ {G : Hp} {p : Addr}, (∃ fs, G x = some (.ins T.CT dx fs)) → But x H G → G p = none → H p = none ∧ p ≠ x := fun {G p} ⟨fs, hg⟩ b n => by
    have ne : p ≠ x := fun z => by
      rw [z, hg] at n
      cases n
    refine ⟨?_, ne⟩
    cases e : H p with
    | none => rfl
    | some u =>
      rw [b p u ne e] at n
      cases n
  have there : ∀ {G G1 : Hp} {q : Addr} {u : HO}, But x G G1 → q ≠ x → G q = some u → G1 q = some u := fun b n e => b _ _ n e
  -- held
  intro p1 n1
  have q1 : ∀ i, i < 6 → of i ≠ p1 := fun i hi => by
    obtain ⟨v, e⟩ := fx4.there i hi
    exact ne_of_none e n1
  obtain ⟨h1, e1⟩ := fresh ⟨_, x4⟩ b05 n1
  have sA := same_new n1 (.dK [])
  obtain ⟨b5, x5, F5⟩ := fld_step (sA _ _ x4) F4 (nm := Str.ofString "held") rfl (.ref p1)
  refine ⟨_, rfl, x, T.CT, dx, _, rfl, sA _ _ x4, T.cT.cl, T.cT.at_ (i := 4) rfl, by rw [F4.len]; decide, ?_⟩
  have bA := (But.of (p := x) sA).trans b5
  have o1 := there b5 e1 upd_same
  generalize upd (upd H5 p1 (.dK [])) x (.ins T.CT dx (putF (Str.ofString "held") (V.ref p1) f4)) = H6 at bA b5 x5 o1 ⊢
  generalize putF (Str.ofString "held") (V.ref p1) f4 = f5 at F5 x5 ⊢
  have fx5 := fx4.but bA x4 (pl _) ofx
  have b06 := b05.trans bA
  -- made
  refine ⟨by show 0 ≤ sizeLine; decide, fun p2 n2 => ?_⟩
  have q2 : ∀ i, i < 6 → of i ≠ p2 := fun i hi => by
    obtain ⟨v, e⟩ := fx5.there i hi
    exact ne_of_none e n2
  obtain ⟨h2, e2⟩ := fresh ⟨_, x5⟩ b06 n2
  have sB := same_new n2 (.lst [])
  obtain ⟨b6, x6, F6⟩ := fld_step (sB _ _ x5) F5 (nm := Str.ofString "made") rfl (.ref p2)
  refine ⟨_, rfl, x, T.CT, dx, _, rfl, sB _ _ x5, T.cT.cl, T.cT.at_ (i := 5) rfl, by rw [F5.len]; decide, ?_⟩
  have bB := (But.of (p := x) sB).trans b6
  have d21 : p2 ≠ p1 := (ne_of_none o1 n2).symm
  have o2 := there b6 e2 upd_same
  have o1 := there bB e1 o1
  generalize upd (upd H6 p2 (.lst [])) x (.ins T.CT dx (putF (Str.ofString "made") (V.ref p2) f5)) = H7 at bB b6 x6 o1 o2 ⊢
  generalize putF (Str.ofString "made") (V.ref p2) f5 = f6 at F6 x6 ⊢
  have fx6 := fx5.but bB x5 (pl _) ofx
  have b07 := b06.trans bB
  -- looks
  refine ⟨by show 0 ≤ sizeLine; decide, fun p3 n3 => ?_⟩
  have q3 : ∀ i, i < 6 → of i ≠ p3 := fun i hi => by
    obtain ⟨v, e⟩ := fx6.there i hi
    exact ne_of_none e n3
  obtain ⟨h3, e3⟩ := fresh ⟨_, x6⟩ b07 n3
  have sC := same_new n3 (.lst [])
  obtain ⟨b7, x7, F7⟩ := fld_step (sC _ _ x6) F6 (nm := Str.ofString "looks") rfl (.ref p3)
  refine ⟨_, rfl, x, T.CT, dx, _, rfl, sC _ _ x6, T.cT.cl, T.cT.at_ (i := 6) rfl, by rw [F6.len]; decide, ?_⟩
  have bC := (But.of (p := x) sC).trans b7
  have d31 : p3 ≠ p1 := (ne_of_none o1 n3).symm
  have d32 : p3 ≠ p2 := (ne_of_none o2 n3).symm
  have o3 := there b7 e3 upd_same
  have o1 := there bC e1 o1
  have o2 := there bC e2 o2
  generalize upd (upd H7 p3 (.lst [])) x (.ins T.CT dx (putF (Str.ofString "looks") (V.ref p3) f6)) = H8 at bC b7 x7 o1 o2 o3 ⊢
  generalize putF (Str.ofString "looks") (V.ref p3) f6 = f7 at F7 x7 ⊢
  have fx7 := fx6.but bC x6 (pl _) ofx
  have b08 := b07.trans bC
  -- missed
  intro p4 n4
  have q4 : ∀ i, i < 6 → of i ≠ p4 := fun i hi => by
    obtain ⟨v, e⟩ := fx7.there i hi
    exact ne_of_none e n4
  obtain ⟨h4, e4⟩ := fresh ⟨_, x7⟩ b08 n4
  have sD := same_new n4 (.dK [])
  obtain ⟨b8, x8, F8⟩ := fld_step (sD _ _ x7) F7 (nm := Str.ofString "missed") rfl (.ref p4)
  refine ⟨_, rfl, x, T.CT, dx, _, rfl, sD _ _ x7, T.cT.cl, T.cT.at_ (i := 7) rfl, by rw [F7.len]; decide, ?_⟩
  have bD := (But.of (p := x) sD).trans b8
  have d41 : p4 ≠ p1 := (ne_of_none o1 n4).symm
  have d42 : p4 ≠ p2 := (ne_of_none o2 n4).symm
  have d43 : p4 ≠ p3 := (ne_of_none o3 n4).symm
  have o4 := there b8 e4 upd_same
  have o1 := there bD e1 o1
  have o2 := there bD e2 o2
  have o3 := there bD e3 o3
  generalize upd (upd H8 p4 (.dK [])) x (.ins T.CT dx (putF (Str.ofString "missed") (V.ref p4) f7)) = H9 at bD b8 x8 o1 o2 o3 o4 ⊢
  generalize putF (Str.ofString "missed") (V.ref p4) f7 = f8 at F8 x8 ⊢
  have fx8 := fx7.but bD x7 (pl _) ofx
  have b09 := b08.trans bD
  -- begun
  intro p5 n5
  have q5 : ∀ i, i < 6 → of i ≠ p5 := fun i hi => by
    obtain ⟨v, e⟩ := fx8.there i hi
    exact ne_of_none e n5
  obtain ⟨h5, e5⟩ := fresh ⟨_, x8⟩ b09 n5
  have sE := same_new n5 (.dK [])
  obtain ⟨b9, x9, F9⟩ := fld_step (sE _ _ x8) F8 (nm := Str.ofString "begun") rfl (.ref p5)
  refine ⟨_, rfl, x, T.CT, dx, _, rfl, sE _ _ x8, T.cT.cl, T.cT.at_ (i := 8) rfl, by rw [F8.len]; decide, ?_⟩
  have bE := (But.of (p := x) sE).trans b9
  have d51 : p5 ≠ p1 := (ne_of_none o1 n5).symm
  have d52 : p5 ≠ p2 := (ne_of_none o2 n5).symm
  have d53 : p5 ≠ p3 := (ne_of_none o3 n5).symm
  have d54 : p5 ≠ p4 := (ne_of_none o4 n5).symm
  have o5 := there b9 e5 upd_same
  have o1 := there bE e1 o1
  have o2 := there bE e2 o2
  have o3 := there bE e3 o3
  have o4 := there bE e4 o4
  generalize upd (upd H9 p5 (.dK [])) x (.ins T.CT dx (putF (Str.ofString "begun") (V.ref p5) f8)) = H10 at bE b9 x9 o1 o2 o3 o4 o5 ⊢
  generalize putF (Str.ofString "begun") (V.ref p5) f8 = f9 at F9 x9 ⊢
  have fx9 := fx8.but bE x8 (pl _) ofx
  have b10 := b09.trans bE
  -- reached
  obtain ⟨bF, x10, F10⟩ := fld_step x9 F9 (nm := Str.ofString "reached") rfl .non
  refine ⟨_, rfl, x, T.CT, dx, _, rfl, x9, T.cT.cl, T.cT.at_ (i := 9) rfl, by rw [F9.len]; decide, ?_⟩
  have o1 := there bF e1 o1
  have o2 := there bF e2 o2
  have o3 := there bF e3 o3
  have o4 := there bF e4 o4
  have o5 := there bF e5 o5
  generalize upd H10 x (.ins T.CT dx (putF (Str.ofString "reached") V.non f9)) = H11 at bF x10 o1 o2 o3 o4 o5 ⊢
  generalize putF (Str.ofString "reached") V.non f9 = f10 at F10 x10 ⊢
  have fx10 := fx9.but bF x9 (pl _) ofx
  have b11 := b10.trans bF
  -- taken
  intro p6 n6
  have q6 : ∀ i, i < 6 → of i ≠ p6 := fun i hi => by
    obtain ⟨v, e⟩ := fx10.there i hi
    exact ne_of_none e n6
  obtain ⟨h6, e6⟩ := fresh ⟨_, x10⟩ b11 n6
  have sG := same_new n6 (.dK [])
  obtain ⟨bg, x11, F11⟩ := fld_step (sG _ _ x10) F10 (nm := Str.ofString "taken") rfl (.ref p6)
  refine ⟨_, rfl, x, T.CT, dx, _, rfl, sG _ _ x10, T.cT.cl, T.cT.at_ (i := 10) rfl, by rw [F10.len]; decide, ?_⟩
  have bG := (But.of (p := x) sG).trans bg
  have d61 : p6 ≠ p1 := (ne_of_none o1 n6).symm
  have d62 : p6 ≠ p2 := (ne_of_none o2 n6).symm
  have d63 : p6 ≠ p3 := (ne_of_none o3 n6).symm
  have d64 : p6 ≠ p4 := (ne_of_none o4 n6).symm
  have d65 : p6 ≠ p5 := (ne_of_none o5 n6).symm
  have o6 := there bg e6 upd_same
  have o1 := there bG e1 o1
  have o2 := there bG e2 o2
  have o3 := there bG e3 o3
  have o4 := there bG e4 o4
  have o5 := there bG e5 o5
  generalize upd (upd H11 p6 (.dK [])) x (.ins T.CT dx (putF (Str.ofString "taken") (V.ref p6) f10)) = H12 at bG bg x11 o1 o2 o3 o4 o5 o6 ⊢
  generalize putF (Str.ofString "taken") (V.ref p6) f10 = f11 at F11 x11 ⊢
  have fx11 := fx10.but bG x10 (pl _) ofx
  have b12 := b11.trans bG
  -- failure
  obtain ⟨bH, x12, F12⟩ := fld_step x11 F11 (nm := Str.ofString "failure") rfl .non
  refine ⟨_, rfl, x, T.CT, dx, _, rfl, x11, T.cT.cl, T.cT.at_ (i := 11) rfl, by rw [F11.len]; decide, ?_⟩
  have o1 := there bH e1 o1
  have o2 := there bH e2 o2
  have o3 := there bH e3 o3
  have o4 := there bH e4 o4
  have o5 := there bH e5 o5
  have o6 := there bH e6 o6
  have fx12 := fx11.but bH x11 (pl _) ofx
  have b13 := b12.trans bH
  have ts13 := b13.tup hx (pl _)
  generalize upd H12 x (.ins T.CT dx (putF (Str.ofString "failure") V.non f11)) = H13 at bH x12 o1 o2 o3 o4 o5 o6 fx12 b13 ts13 ⊢
  have hof : ∀ i, i < 6 → H (of i) = none := fun i hi => by
    cases e : H (of i) with
    | none => rfl
    | some u =>
      have := b03 _ u (ofx i hi) e
      rw [of_new i hi] at this
      cases this
  let o : Nat → Addr := fun i => if i = 0 then x else if i = 1 then p1 else if i = 2 then p2 else if i = 3 then p3 else if i = 4 then p4 else if i = 5 then p5 else if i = 6 then p6 else of (i - 7)
  have o7 : ∀ i, o (7 + i) = of i := fun i => by
    show (if 7 + i = 0 then x else if 7 + i = 1 then p1 else if 7 + i = 2 then p2 else if 7 + i = 3 then p3 else if 7 + i = 4 then p4 else if 7 + i = 5 then p5 else if 7 + i = 6 then p6 else of (7 + i - 7)) = of i
    rw [if_neg (by omega), if_neg (by omega), if_neg (by omega), if_neg (by omega), if_neg (by omega), if_neg (by omega), if_neg (by omega), Nat.add_sub_cancel_left]
  have o7f : (fun i => o (7 + i)) = of := funext o7
  have small : ∀ i, i < 13 → i = 0 ∨ i = 1 ∨ i = 2 ∨ i = 3 ∨ i = 4 ∨ i = 5 ∨ i = 6 ∨ ∃ j, j < 6 ∧ i = 7 + j := fun i hi => by
    by_cases c : i < 7
    · omega
    · exact .inr (.inr (.inr (.inr (.inr (.inr (.inr ⟨i - 7, by omega, by omega⟩))))))
  have freeH : ∀ i, i < 13 → i ≠ 0 → H (o i) = none := fun i hi n0 => by
    rcases small i hi with rfl | rfl | rfl | rfl | rfl | rfl | rfl | ⟨j, hj, rfl⟩
    · exact absurd rfl n0
    · exact h1
    · exact h2
    · exact h3
    · exact h4
    · exact h5
    · exact h6
    · rw [o7]
      exact hof j hj
  have pw : ∀ i j, i < 13 → j < 13 → i < j → o i ≠ o j := fun i j hi hj hij => by
    rcases small j hj with rfl | rfl | rfl | rfl | rfl | rfl | rfl | ⟨j', hj', rfl⟩
    · exact absurd hij (by omega)
    · obtain rfl : i = 0 := by omega
      exact e1.symm
    · rcases (by omega : i = 0 ∨ i = 1) with rfl | rfl
      · exact e2.symm
      · exact d21.symm
    · rcases (by omega : i = 0 ∨ i = 1 ∨ i = 2) with rfl | rfl | rfl
      · exact e3.symm
      · exact d31.symm
      · exact d32.symm
    · rcases (by omega : i = 0 ∨ i = 1 ∨ i = 2 ∨ i = 3) with rfl | rfl | rfl | rfl
      · exact e4.symm
      · exact d41.symm
      · exact d42.symm
      · exact d43.symm
    · rcases (by omega : i = 0 ∨ i = 1 ∨ i = 2 ∨ i = 3 ∨ i = 4) with rfl | rfl | rfl | rfl | rfl
      · exact e5.symm
      · exact d51.symm
      · exact d52.symm
      · exact d53.symm
      · exact d54.symm
    · rcases (by omega : i = 0 ∨ i = 1 ∨ i = 2 ∨ i = 3 ∨ i = 4 ∨ i = 5) with rfl | rfl | rfl | rfl | rfl | rfl
      · exact e6.symm
      · exact d61.symm
      · exact d62.symm
      · exact d63.symm
      · exact d64.symm
      · exact d65.symm
    · rw [o7]
      rcases small i hi with rfl | rfl | rfl | rfl | rfl | rfl | rfl | ⟨i', hi', rfl⟩
      · exact (ofx j' hj').symm
      · exact (q1 j' hj').symm
      · exact (q2 j' hj').symm
      · exact (q3 j' hj').symm
      · exact (q4 j' hj').symm
      · exact (q5 j' hj').symm
      · exact (q6 j' hj').symm
      · rw [o7]
        exact fun z => absurd (hfx.inj i' j' hi' hj' z) (by omega)
  refine kk o H13 rfl ⟨⟨fun b u e => b13 b u (fun z => by rw [z, hMx] at e; cases e) (sMH b u e), fun i hi => ?_, fun i j hi hj e => ?_, h0M, hmM, fun i hi z => ?_, T.S.keep _ _ _ hrep fun b u c e => b13 b u (fun z => ?_) e⟩, ⟨⟨dx, _, _, x12, F12, fun i hi => ?_, rfl⟩, ⟨[], o1, .nil⟩, ⟨[], o2, .nil⟩, ⟨[], o3, .nil⟩, o4, o5, o6, ?_⟩⟩ ts13
  · by_cases c : i = 0
    · rw [c]
      exact hMx
    · exact sMH.free (freeH i hi c)
  · rcases Nat.lt_trichotomy i j with z | z | z
    · exact absurd e (pw i j hi hj z)
    · exact z
    · exact absurd e.symm (pw j i hj hi z)
  · by_cases c : i = 0
    · rw [c] at z
      exact hmx z
    · exact T.S.muT _ _ hrep _ z (freeH i hi c)
  · subst z
    rcases c with c | c
    · cases e2 : T.S.M0 b with
      | none => exact c e2
      | some q =>
        have := h0M _ _ e2
        rw [hMx] at this
        cases this
    · exact hmx c
  · rcases (by omega : i = 0 ∨ i = 1 ∨ i = 2 ∨ i = 3 ∨ i = 4 ∨ i = 5 ∨ i = 6 ∨ i = 7 ∨ i = 8 ∨ i = 9 ∨ i = 10) with rfl | rfl | rfl | rfl | rfl | rfl | rfl | rfl | rfl | rfl | rfl
    · rfl
    · show V.bl (decide (V.str r = V.str (Str.ofString "late"))) = V.bl T.late
      rw [hlt]
      congr 1
      exact decide_eq_decide.mpr ⟨fun h => V.str.inj h, fun h => by rw [h]⟩
    · show V.bl (decide (V.str s = V.str (Str.ofString "nothing"))) = V.bl T.noth
      rw [hnt]
      congr 1
      exact decide_eq_decide.mpr ⟨fun h => V.str.inj h, fun h => by rw [h]⟩
    · show V.ref y = V.ref (o (7 + 0))
      rw [o7, ho0]
    all_goals rfl
  · rw [o7f]
    exact fx12
end
end K02
set_option Elab.async false
set_option linter.all false
set_option maxRecDepth 100000
set_option maxHeartbeats 4000000
namespace K02
open PySem L2 PyProof.Rows
/-! ### a value and results, the source of a taking -/
abbrev sTInit : Stmt := inClass sTErr 0
abbrev sGInit : Stmt := inClass sGiven 0
abbrev sGNote : Stmt := inClass sGiven 1
abbrev sGAnswer : Stmt := inClass sGiven 2
abbrev sGFound : Stmt := inClass sGiven 3
abbrev sGValue : Stmt := inClass sGiven 4
/-- a class of errors, with the __init__ of the first -/
structure OErr (K : PySem.W.Frag) (mg : Str → Option Value) (C fI : Addr) (nm : Str) : Prop where
  mg : mg nm = some (.ref C)
  oex : OexC K C
  ini : PySem.W.findIn K (.ref C) "__init__" = some (some (.ref fI))
  val : PySem.W.findIn K (.ref C) "value" = some none
  tI : PySem.W.typeIn K (.ref fI) = some (.type "function")
def spTInit (K : PySem.W.Frag) : Sp := fun vs H Q _ => ∃ (x C : Addr) (v : V), vs = [.ref x, v] ∧ OexC K C ∧ PySem.W.findIn K (.ref C) "value" = some none ∧ H x = some (exo x C none) ∧
  ∀ dx, H dx = none → dx ≠ x → Q .non (upd (upd H dx (exd dx [("value", v)])) x (exo x C (some dx)))
theorem raise_at {K : PySem.W.Frag} {C : Addr} {H H1 : Hp} {E : XK} {n : Nat} (T : OexC K C) (hv : PySem.W.findIn K (.ref C) "value" = some none) (t : Gone C H E n fun H' => Same H H') (s : Same H H1) :
    ∀ a, H1 a = none → spTInit K [.ref a, .int (n : Int)] (upd H1 a (exo a C none)) (fun v' H2 => v' = .non ∧ ∃ (d : Addr) (fs : List (Str × V)), H2 a = some (exo a C (some d)) ∧ H2 d = some (exd d fs) ∧ H1 d = none ∧ E (.ref C) (some d) (upd (L2.del H2 a) d (.xd fs))) (fun _ _ _ => False) := fun a ha =>
  ⟨a, C, .int (n : Int), rfl, T, hv, upd_same, fun dx hd hn => by
    have hd0 : H1 dx = none := by
      rw [upd_ne hn] at hd
      exact hd
    have st : Same H1 (upd (L2.del (upd (upd (upd H1 a (exo a C none)) dx (exd dx [(("value" : Str), V.int (n : Int))])) a (exo a C (some dx))) a) dx (.xd [(("value" : Str), V.int (n : Int))])) := fun b o e => by
      have n1 := ne_of_none e hd0
      have n2 := ne_of_none e ha
      rw [upd_ne n1, del_ne n2, upd_ne n2, upd_ne n1, upd_ne n2]
      exact e
    refine ⟨rfl, dx, [(("value" : Str), V.int (n : Int))], upd_same, ?_, hd0, t dx _ (s.trans st) (s.free hd0) upd_same⟩
    rw [upd_ne hn, upd_same]⟩
def gN : List Str := ["whole", "results"].map Str.ofString
def gM : List Str := ["note_call", "answer", "found_at", "value_at"].map Str.ofString
theorem gNam : FNam gN gM := ⟨by decide +kernel, by decide +kernel⟩
def wP (w : Wv) (rs : List Wv) (p : Pth) : Option Wv := (wB w rs p.b).bind fun u => wKs u p.ks
/-- a Given of a value and results -/
def GvAt (CG s : Addr) (H : Hp) (w : Wv) (rs : List Wv) : Prop := ∃ dx fs vals ra xs, H s = some (.ins CG dx fs) ∧ FsK gN gM 2 fs vals ∧ RV H w (vals 0) ∧ vals 1 = .ref ra ∧ H ra = some (.lst xs) ∧ RVs H rs xs
theorem GvAt.same {CG s : Addr} {H H1 : Hp} {w : Wv} {rs : List Wv} (h : GvAt CG s H w rs) (st : Same H H1) : GvAt CG s H1 w rs := by
  obtain ⟨dx, fs, vals, ra, xs, h1, h2, h3, h4, h5, h6⟩ := h
  exact ⟨dx, fs, vals, ra, xs, st _ _ h1, h2, h3.same st, h4, st _ _ h5, h6.same st⟩
def okLq (u : Wv) : Lq → Prop
  | .has _ k => okKy u k
  | _ => True
def ansQ (u : Wv) : Lq → V
  | .what _ => .str (Str.ofString (kindS u))
  | .none _ => .bl u.isN
  | .has _ k => .bl (wIn u k).isSome
def spGInit (CG : Addr) : Sp := fun vs H Q _ => ∃ (x dx ra : Addr) (v : V) (xs : List V) (w : Wv) (rs : List Wv), vs = [.ref x, v, .ref ra] ∧ H x = some (.ins CG dx []) ∧ RV H w v ∧ H ra = some (.lst xs) ∧ RVs H rs xs ∧
  ∀ H' fs vals, H' = upd H x (.ins CG dx fs) → FsK gN gM 2 fs vals → vals 0 = v → vals 1 = .ref ra → Q .non H'
def spKind : Sp := fun vs H Q _ => ∃ (v : V) (w : Wv), vs = [v] ∧ RV H w v ∧ Q (.str (Str.ofString (kindS w))) H
def spGFound (K : PySem.W.Frag) (CG : Addr) : Sp := fun vs H Q _ => ∃ (s b : Addr) (p : Pth) (w u : Wv) (rs : List Wv), vs = [.ref s, .ref b] ∧ GvAt CG s H w rs ∧ PthAt K H b p ∧ wP w rs p = some u ∧ ∀ y H', Same H H' → RV H' u y → Q y H'
def spGAns (K : PySem.W.Frag) (CG : Addr) : Sp := fun vs H Q _ => ∃ (s : Addr) (v al : V) (l : Lq) (w u : Wv) (rs : List Wv), vs = [.ref s, v, al] ∧ GvAt CG s H w rs ∧ LqAt K H v l ∧ wP w rs (lqP l) = some u ∧ okLq u l ∧ ∀ H', Same H H' → Q (ansQ u l) H'
def spGNote (CG CE : Addr) : Sp := fun vs H Q E => ∃ (s : Addr) (n : Nat) (w : Wv) (rs : List Wv), vs = [.ref s, .int (n : Int)] ∧ GvAt CG s H w rs ∧ (n < rs.length → Q .non H) ∧ (rs.length ≤ n → Gone CE H E n fun H' => Same H H')
theorem wKs_prefix : ∀ {ks : List Ky} {w u : Wv}, wKs w ks = some u → ∀ i k, ks[i]? = some k → ∃ m m', wKs w (ks.take i) = some m ∧ wIn m k = some m' ∧ wKs w (ks.take (i + 1)) = some m'
  | [], w, u, h, i, k, e => by simp at e
  | k0 :: ks, w, u, h, 0, k, e => by
    have ek : k0 = k := Option.some.inj e
    subst ek
    cases q : wIn w k0 with
    | none =>
      have h' : ((wIn w k0).bind fun u => wKs u ks) = some u := h
      rw [q] at h'
      cases h'
    | some m => exact ⟨w, m, rfl, q, by show ((wIn w k0).bind fun u => wKs u (ks.take 0)) = some m; rw [q]; rfl⟩
  | k0 :: ks, w, u, h, i + 1, k, e => by
    have h' : ((wIn w k0).bind fun u => wKs u ks) = some u := h
    cases q : wIn w k0 with
    | none =>
      rw [q] at h'
      cases h'
    | some m0 =>
      rw [q] at h'
      obtain ⟨m, m', a1, a2, a3⟩ := wKs_prefix (show wKs m0 ks = some u from h') i k (by simpa using e)
      exact ⟨m, m', by show ((wIn w k0).bind fun u => wKs u (ks.take i)) = some m; rw [q]; exact a1, a2, by show ((wIn w k0).bind fun u => wKs u (ks.take (i + 1))) = some m'; rw [q]; exact a3⟩
theorem okKy_of {w u : Wv} {k : Ky} (h : wIn w k = some u) : okKy w k := by
  cases w <;> cases k <;> first | exact trivial | (exact absurd h (by unfold wIn; exact fun z => nomatch z))
section
variable {P : Program} {w : World} {K : PySem.W.Frag} {mg : Str → Option Value} {base : Heap} {CG CE fI0 : Addr} {fdI0 : FuncData}
theorem scTI : FnScope ["self", "value"] ["self", "value"] (defScope sTInit) := ⟨rfl, rfl, rfl, by decide +kernel, rfl, by decide +kernel, by decide +kernel⟩
theorem ok_tinit (F : Fun K "__init__" "TakeError.__init__" sTInit fI0 fdI0) : FnOk P w K mg base CX0 1 fI0 fdI0 ["self", "value"] (spTInit K) := by
  refine F.ok scTI (fun vs H Q E h => ?_) (fun cdv A outer s H vs Q E hr h => ?_)
  · obtain ⟨x, C, v, rfl, _⟩ := h
    rfl
  obtain ⟨x, C, v, rfl, T, hv, hx, k⟩ := h
  refine ⟨_, pss_one (ps_ost (pv 0) (pv 1)), ?_⟩
  exact ⟨_, rfl, _, rfl, x, C, rfl, T, hv, .inl ⟨hx, fun dx n ne => k dx n ne⟩⟩
theorem scGi : FnScope ["self", "value", "results"] ["self", "value", "results"] (defScope sGInit) := ⟨rfl, rfl, rfl, by decide +kernel, rfl, by decide +kernel, by decide +kernel⟩
theorem ok_ginit {f : Addr} {fd : FuncData} (F : Fun K "__init__" "Given.__init__" sGInit f fd) (c : FCls K CG gN) : FnOk P w K mg base CX0 1 f fd ["self", "value", "results"] (spGInit CG) := by
  refine F.ok scGi (fun vs H Q E h => ?_) (fun cdv A outer s H vs Q E hr h => ?_)
  · obtain ⟨x, dx, ra, v, xs, w, rs, rfl, _⟩ := h
    rfl
  obtain ⟨x, dx, ra, v, xs, w0, rs, rfl, hx, hv, hra, hrs, kk⟩ := h
  refine ⟨_, pss_cons (ps_fld (pv 0) (pv 1) rfl) (pss_one (ps_fld (pv 0) (pv 2) rfl)), ?_⟩
  have F1 : FsK gN gM 1 (putF (Str.ofString "whole") v []) (upN (fun _ => V.non) 0 v) := FsK.add gNam FsK.nil (x := Str.ofString "whole") rfl v
  have F2 := FsK.add gNam F1 (x := Str.ofString "results") rfl (.ref ra)
  refine ⟨_, rfl, _, rfl, x, CG, dx, _, rfl, hx, c.cl, c.at_ (i := 0) rfl, by show 0 < 1000; decide, ?_⟩
  refine ⟨_, rfl, _, rfl, x, CG, dx, _, rfl, upd_same, c.cl, c.at_ (i := 1) rfl, by rw [F1.len]; decide, ?_⟩
  refine kk _ _ _ ?_ F2 rfl rfl
  funext b
  by_cases e : b = x
  · subst e
    rw [upd_same, upd_same]
  · rw [upd_ne e, upd_ne e, upd_ne e]
theorem scKo : FnScope ["value"] ["value"] (defScope sKindOf) := ⟨rfl, rfl, rfl, by decide +kernel, rfl, by decide +kernel, by decide +kernel⟩
theorem ok_kind {f : Addr} {fd : FuncData} (F : Fun K "kind_of" "kind_of" sKindOf f fd) (T : Txt K mg) (zD : mg "dict" = none) : FnOk P w K mg base CX0 1 f fd ["value"] spKind := by
  refine F.ok scKo (fun vs H Q E h => ?_) (fun cdv A outer s H vs Q E hr h => ?_)
  · obtain ⟨v, w, rfl, _⟩ := h
    rfl
  obtain ⟨v, w, rfl, hw, kk⟩ := h
  refine ⟨_, pss_cons (ps_if (pt_cmpR op_isN (pv 0) pe_non (nomark _)) (pss_one (ps_ret pe_str)) pss_nil)
    (pss_cons (ps_if (pt_val (pe_callB call_isi (by rfl) T.isi boot_isinstance (pa_cons (pv 0) (pa_cons (pe_bltn (v := .ty "list") (by rfl) T.list boot_list rfl) pa_nil)))) (pss_one (ps_ret pe_str)) pss_nil)
    (pss_one (ps_ret (pe_ifExp (pt_val (pe_callB call_isi (by rfl) T.isi boot_isinstance (pa_cons (pv 0) (pa_cons (pe_bltn (v := .ty "dict") (by rfl) zD boot_dict rfl) pa_nil)))) pe_str pe_str)))), ?_⟩
  obtain ⟨sT, hty, k1, k2⟩ := hw.ty (K := K)
  refine ⟨_, rfl, rfl, _, rfl, ?_⟩
  cases w with
  | non =>
    obtain rfl : v = .non := hw
    exact ifT (decide_eq_true rfl) kk
  | int i =>
    obtain rfl : v = .int i := hw
    exact ifF (decide_eq_false fun z => nomatch z) ⟨_, rfl, _, _, _, _, _, rfl, .ty _, hty, kit_ty k1, _, rfl, iteF ⟨_, rfl, _, _, _, _, _, rfl, .ty _, hty, kit_ty k2, _, rfl, iteF kk⟩⟩
  | row ws =>
    obtain ⟨a, xs, rfl, _⟩ := id hw
    exact ifF (decide_eq_false fun z => nomatch z) ⟨_, rfl, _, _, _, _, _, rfl, .ty _, hty, kit_ty k1, _, rfl, iteT kk⟩
  | rcd ns ws =>
    obtain ⟨a, xs, rfl, _⟩ := id hw
    exact ifF (decide_eq_false fun z => nomatch z) ⟨_, rfl, _, _, _, _, _, rfl, .ty _, hty, kit_ty k1, _, rfl, iteF ⟨_, rfl, _, _, _, _, _, rfl, .ty _, hty, kit_ty k2, _, rfl, iteT kk⟩⟩
theorem pe_either {X : Cx} {e : Expr} {t1 t2 : TE} (h1 : PE X e t1) (h2 : PE X e t2) : PE X e (fun σ H Q => t1 σ H Q ∨ t2 σ H Q) := ⟨fun pins s σ H Q I h => h.elim (h1.run pins s σ H Q I) (h2.run pins s σ H Q I)⟩
theorem scGf : FnScope ["self", "path", "found", "key"] ["self", "path"] (defScope sGFound) := ⟨rfl, rfl, rfl, by decide +kernel, rfl, by decide +kernel, by decide +kernel⟩
theorem ok_gfound {f : Addr} {fd : FuncData} (F : Fun K "found_at" "Given.found_at" sGFound f fd) (c : FCls K CG gN) : FnOk P w K mg base CX0 1 f fd ["self", "path"] (spGFound K CG) := by
  refine F.ok scGf (fun vs H Q E h => ?_) (fun cdv A outer s H vs Q E hr h => ?_)
  · obtain ⟨x, b, p, w, u, rs, rfl, _⟩ := h
    rfl
  obtain ⟨x, b, p, w0, u, rs, rfl, hg, hb, hat, kk⟩ := h
  have hu1 : (A.deeper (envOfC "Given.found_at" (defScope sGFound) s.heap.objs.size f cdv)).units + 1 < cLine := by
    have := hr.units
    omega
  refine ⟨_, Evl.pss_cut (ps_set (i := 2) scGf.nd rfl (Or.inl rfl) (pe_ifExp (pt_cmpR (op_eqD hr.units) (pe_ix ix_tup (pv 1) pe_int (fun _ _ => rfl)) pe_str (nomark _)) (pe_fld (pv 0) rfl) (pe_ix ix_list (pe_fld (pv 0) rfl) (pe_ix ix_tup (pv 1) pe_int (fun _ _ => rfl)) (fun _ _ => rfl))))
    (Evl.pss_cut (ps_for PassesOwn.never rfl (pi_tup (pe_slice sl_tup (pv 1) (po_some pe_int) po_none)) (pg_name (i := 3) scGf.nd rfl (Or.inl rfl))
        (pss_one (ps_set (i := 2) scGf.nd rfl (Or.inl rfl) (pe_either (pe_dget hu1 (pv 2) (pv 3) (fun _ _ => rfl)) (pe_ix ix_list (pv 2) (pv 3) (fun _ _ => rfl))))))
    (pss_one (ps_ret (pv 2)))), ?_⟩
  obtain ⟨dx, fs, vals, ra, xs, hx, hF, hv, hv1, hra, hrs⟩ := hg
  have h0 : ∃ u0, wB w0 rs p.b = some u0 ∧ wKs u0 p.ks = some u := by
    unfold wP at hat
    cases q : wB w0 rs p.b with
    | none =>
      rw [q] at hat
      cases hat
    | some u0 =>
      rw [q] at hat
      exact ⟨u0, rfl, hat⟩
  obtain ⟨u0, hu0, hks⟩ := h0
  have b0 : atI (pvs p) 0 = some (bV p.b) := atI_nat (j := 0) rfl
  have l0 : fs.lookup ("whole" : Str) = some (vals 0) := hF.look (i := 0) rfl (by decide)
  have l1 : fs.lookup ("results" : Str) = some (.ref ra) := (hF.look (i := 1) rfl (by decide)).trans (congrArg some hv1)
  refine ⟨fun σ' H' => H' = H ∧ ∃ y, RV H u0 y ∧ σ' = [some (.ref x), some (.ref b), some y, none], ?_, ?_⟩
  · refine ⟨_, rfl, b, _, 0, _, rfl, rfl, hb, b0, ?_⟩
    cases q : p.b with
    | none =>
      rw [q] at hu0
      obtain rfl : w0 = u0 := Option.some.inj hu0
      exact ⟨.str (Str.ofString "value"), .str (Str.ofString "value"), .str _, .str _, by decide +kernel, by decide +kernel, _, rfl, ifT (by simp [PyData.eqv]) ⟨_, rfl, x, CG, dx, fs, _, rfl, hx, c.cl, c.at_ (i := 0) rfl, l0, rfl, _, hv, rfl⟩⟩
    | some i =>
      rw [q] at hu0
      obtain ⟨y, hy, ry⟩ := hrs.back (show rs[i]? = some u0 from hu0)
      exact ⟨.int (i : Int), .str (Str.ofString "value"), .int _, .str _, by simp [SeqAt.shaped, PyData.canLay0, PyData.depth], by decide +kernel, _, rfl, ifF (by simp [PyData.eqv]) ⟨_, rfl, x, CG, dx, fs, _, rfl, hx, c.cl, c.at_ (i := 1) rfl, l1, _, rfl, b, _, 0, _, rfl, rfl, hb, b0, ra, xs, _, y, rfl, by rw [q]; rfl, SqL.of hra, atI_nat hy, rfl, y, ry, rfl⟩⟩
  rintro _ H1 ⟨rfl, y0, ry0, rfl⟩
  refine ⟨fun σ' H' => Same H1 H' ∧ ∃ (y : V) (v5 : Option V), RV H' u y ∧ σ' = [some (.ref x), some (.ref b), some y, v5], ?_, ?_⟩
  · refine ⟨_, rfl, _, rfl, b, _, rfl, hb, ?_, fun t ht => ?_⟩
    · rw [pvs_len]
      intro z
      have z1 := z.1
      rw [show HT.sIx (p.ks.length + 1) 0 (some (1 : Int)) = 1 by rw [show (1 : Int) = ((1 : Nat) : Int) from rfl, HT.sIx_nat]; omega] at z1
      cases z1
    have ec : cutV (pvs p) (some 1) none = p.ks.map Ky.v := by
      unfold cutV pvs
      rw [HT.sIx_none, show (1 : Int) = ((1 : Nat) : Int) from rfl, HT.sIx_nat, List.length_cons, show min 1 ((p.ks.map Ky.v).length + 1) = 1 by omega]
      show (p.ks.map Ky.v).take ((p.ks.map Ky.v).length + 1 - 1) = _
      rw [Nat.add_sub_cancel, List.take_length]
    rw [ec]
    have st := same_new ht (.tup (p.ks.map Ky.v))
    have et : (upd H1 t (.tup (p.ks.map Ky.v))) t = some (.tup (p.ks.map Ky.v)) := upd_same
    generalize upd H1 t (.tup (p.ks.map Ky.v)) = H2 at st et ⊢
    refine ⟨t, rfl, ⟨_, SqT.of et⟩, ?_⟩
    refine for_tup (K := K) (a := t) (xs := p.ks.map Ky.v) (fun i σ' H' => Same H2 H' ∧ ∃ (m : Wv) (y : V) (v5 : Option V), wKs u0 (p.ks.take i) = some m ∧ RV H' m y ∧ σ' = [some (.ref x), some (.ref b), some y, v5])
      ⟨Same.refl _, u0, y0, _, rfl, ry0.same st, rfl⟩ (fun i σ' H' _ ⟨h, _⟩ => SqT.of (h _ _ et)) ?_ ?_
    · rintro i z σ' H3 hi ⟨hs3, m, y, v5, hm, ry, rfl⟩
      rw [List.getElem?_map] at hi
      obtain ⟨k, hk, rfl⟩ : ∃ k, p.ks[i]? = some k ∧ k.v = z := by
        cases e : p.ks[i]? with
        | none =>
          rw [e] at hi
          cases hi
        | some k =>
          rw [e] at hi
          exact ⟨k, rfl, Option.some.inj hi⟩
      obtain ⟨m1, m2, e1, e2, e3⟩ := wKs_prefix hks i k hk
      rw [hm] at e1
      obtain rfl : m = m1 := Option.some.inj e1
      have ok := okKy_of e2
      cases m with
      | non => exact ok.elim
      | int j => exact ok.elim
      | row ws =>
        cases k with
        | fd z => exact ok.elim
        | ix j =>
          obtain ⟨a, ys, rfl, ha, hr2⟩ := ry
          obtain ⟨y2, hy2, ry2⟩ := hr2.back (show ws[j]? = some m2 from e2)
          exact .inr ⟨_, rfl, _, rfl, a, ys, _, y2, rfl, rfl, SqL.of ha, atI_nat hy2, hs3, m2, y2, _, e3, ry2, rfl⟩
      | rcd ns ws =>
        cases k with
        | ix j => exact ok.elim
        | fd z =>
          obtain ⟨a, ys, rfl, ha, hln, hr2⟩ := ry
          obtain ⟨y2, hy2, ry2⟩ := (kz_val (ns := ns) (z := z) hr2).1 m2 e2
          refine .inl ⟨_, rfl, _, rfl, a, y2, rfl, ?_, hs3, m2, y2, _, e3, ry2, rfl⟩
          rw [← hy2]
          exact DGet.k (k := Sum.inr z) ha
    · rintro σ' H3 ⟨hs3, m, y, v5, hm, ry, rfl⟩
      rw [List.length_map, List.take_length, hks] at hm
      obtain rfl : u = m := Option.some.inj hm
      exact ⟨st.trans hs3, y, v5, ry, rfl⟩
  rintro _ H2 ⟨hs2, y, v5, ry, rfl⟩
  exact ⟨_, rfl, kk y H2 hs2 ry⟩
theorem scGa : FnScope ["self", "look", "answers", "found"] ["self", "look", "answers"] (defScope sGAnswer) := ⟨rfl, rfl, rfl, by decide +kernel, rfl, by decide +kernel, by decide +kernel⟩
theorem ok_ganswer {f fF fK : Addr} {fd fdF fdK : FuncData} (F : Fun K "answer" "Given.answer" sGAnswer f fd) (T : Txt K mg) (zD : mg "dict" = none) (c : FCls K CG gN)
    (FF : Fun K "found_at" "Given.found_at" sGFound fF fdF) (GF : FnOk P w K mg base CX0 1 fF fdF ["self", "path"] (spGFound K CG)) (bF : L2.Binds K fdF ["self", "path"] []) (mF : Meth K CG "found_at" fF)
    (FK : Fun K "kind_of" "kind_of" sKindOf fK fdK) (GK : FnOk P w K mg base CX0 1 fK fdK ["value"] spKind) (bK : L2.Binds K fdK ["value"] []) (mK : mg "kind_of" = some (.ref fK)) :
    FnOk P w K mg base (L2.CX P w) 9 f fd ["self", "look", "answers"] (spGAns K CG) := by
  refine F.okX scGa (fun vs H Q E h => ?_) (fun cdv A outer s H vs Q E hr h => ?_)
  · obtain ⟨x, v, al, l, w, u, rs, rfl, _⟩ := h
    rfl
  obtain ⟨x, v, al, l, w0, u, rs, rfl, hg, hl, hat, hok, kk⟩ := h
  have hr1 := hr.mono (show 1 ≤ 8 by decide)
  have hu1 : (A.deeper (envOfC "Given.answer" (defScope sGAnswer) s.heap.objs.size f cdv)).units + 1 < cLine := by
    have := hr.units
    omega
  refine ⟨_, pss_cons (ps_set (i := 3) scGa.nd rfl (Or.inl rfl) (pe_meth (pv 0) c.cl mF GF hr1 bF .nil pass0 (pa_cons (pe_ix ix_tup (pv 1) pe_int (fun _ _ => rfl)) pa_nil)))
    (pss_cons (ps_if (pt_cmpR op_eq (pe_ix ix_tup (pv 1) pe_int (fun _ _ => rfl)) pe_str (nomark _)) (pss_one (ps_ret (pe_call GK hr1 rfl mK FK.kp bK .nil pass0 (pa_cons (pv 3) pa_nil)))) pss_nil)
    (pss_cons (ps_if (pt_cmpR op_eq (pe_ix ix_tup (pv 1) pe_int (fun _ _ => rfl)) pe_str (nomark _)) (pss_one (ps_ret (pe_cmpR op_isN (pv 3) pe_non (nomark _)))) pss_nil)
    (pss_cons (ps_if (pt_val (pe_callB call_isi (by rfl) T.isi boot_isinstance (pa_cons (pv 3) (pa_cons (pe_bltn (v := .ty "dict") (by rfl) zD boot_dict rfl) pa_nil)))) (pss_one (ps_ret (pe_cmp (pc_din hu1 (pe_ix ix_tup (pv 1) pe_int (fun _ _ => rfl)) (pv 3))))) pss_nil)
    (pss_one (ps_ret (pe_cmpR op_lt (pe_ix ix_tup (pv 1) pe_int (fun _ _ => rfl)) (pe_callB call_len_seq (by rfl) T.len PySem.boot_len (pa_cons (pv 3) pa_nil)) (nomark _))))))), ?_⟩
  obtain ⟨a, b, rfl, ha, hb⟩ := hl
  obtain ⟨dx, fs, vals, ra, xs, hx, hF, hgr⟩ := id hg
  refine ⟨_, rfl, x, dx, fs, rfl, hx, hF.non _ (by decide +kernel), _, rfl, a, _, 1, _, rfl, rfl, ha, atI_nat (j := 1) rfl, x, b, lqP l, w0, u, rs, rfl, hg, hb, hat, fun y H1 hs1 hy => ?_⟩
  have ha1 := SqT.same ha hs1
  have a0 : ∀ {s : String} {ys : List V}, atI (V.str (Str.ofString s) :: ys) 0 = some (.str (Str.ofString s)) := atI_nat (j := 0) rfl
  refine ⟨_, rfl, a, _, 0, _, rfl, rfl, ha1, a0, rfl, _, rfl, ?_⟩
  cases l with
  | what p => exact ifT (decide_eq_true rfl) ⟨_, rfl, y, u, rfl, hy, kk H1 hs1⟩
  | none p =>
    refine ifF (so_ne (s := "none") (t := "what") (by decide)) ⟨_, rfl, a, _, 0, _, rfl, rfl, ha1, a0, rfl, _, rfl, ifT (decide_eq_true rfl) ⟨_, rfl, rfl, ?_⟩⟩
    have e : decide (y = V.non) = u.isN := by
      cases u with
      | non =>
        obtain rfl : y = .non := hy
        exact decide_eq_true rfl
      | int i =>
        obtain rfl : y = .int i := hy
        exact decide_eq_false fun z => nomatch z
      | row ws =>
        obtain ⟨a, xs, rfl, _⟩ := hy
        exact decide_eq_false fun z => nomatch z
      | rcd ns ws =>
        obtain ⟨a, xs, rfl, _⟩ := hy
        exact decide_eq_false fun z => nomatch z
    have := kk H1 hs1
    rw [show ansQ u (.none p) = .bl (decide (y = V.non)) by rw [e]; rfl] at this
    exact this
  | has p k =>
    refine ifF (so_ne (s := "has") (t := "what") (by decide)) ⟨_, rfl, a, _, 0, _, rfl, rfl, ha1, a0, rfl, _, rfl, ifF (so_ne (s := "has") (t := "none") (by decide)) ?_⟩
    obtain ⟨sT, hty, k1, k2⟩ := hy.ty (K := K)
    refine ⟨_, rfl, _, _, _, _, _, rfl, .ty _, hty, kit_ty k2, _, rfl, ?_⟩
    have kk1 := kk H1 hs1
    cases u with
    | non => exact hok.elim
    | int i => exact hok.elim
    | row ws =>
      cases k with
      | fd z => exact hok.elim
      | ix i =>
        obtain ⟨a2, ys, rfl, ha2, hr2⟩ := hy
        refine iteF ⟨_, rfl, a, _, 2, _, rfl, rfl, ha1, atI_nat (j := 2) rfl, _, rfl, a2, ys, rfl, .inl (SqL.of ha2), _, _, rfl, rfl, ?_⟩
        have e : decide (((i : Nat) : Int) < ((ys.length : Nat) : Int)) = (wIn (.row ws) (.ix i)).isSome := by
          show _ = (ws[i]?).isSome
          rw [hr2.len]
          by_cases c : i < ws.length
          · rw [List.getElem?_eq_getElem c, decide_eq_true (by omega)]
            rfl
          · rw [List.getElem?_eq_none (by omega), decide_eq_false (by omega)]
            rfl
        show Q (.bl (decide (((i : Nat) : Int) < ((ys.length : Nat) : Int)))) H1
        rw [e]
        exact kk1
    | rcd ns ws =>
      cases k with
      | ix i => exact hok.elim
      | fd z =>
        obtain ⟨a2, ys, rfl, ha2, hln, hr2⟩ := hy
        refine iteT ⟨_, rfl, a, _, 2, _, rfl, rfl, ha1, atI_nat (j := 2) rfl, _, rfl, a2, _, rfl, DGet.k (k := Sum.inr z) ha2, ?_⟩
        have hz := kz_val (ns := ns) (z := z) hr2
        have e : (valV (kz ns ys) (Sum.inr z)).isSome = (wIn (.rcd ns ws) (.fd z)).isSome := by
          show _ = (wFd ns ws z).isSome
          cases q : wFd ns ws z with
          | none => rw [hz.2 q hln]; rfl
          | some u =>
            obtain ⟨x, e1, _⟩ := hz.1 u q
            rw [e1]; rfl
        rw [e]
        exact kk1
theorem scGn : FnScope ["self", "number"] ["self", "number"] (defScope sGNote) := ⟨rfl, rfl, rfl, by decide +kernel, rfl, by decide +kernel, by decide +kernel⟩
theorem ok_gnote {f : Addr} {fd : FuncData} (F : Fun K "note_call" "Given.note_call" sGNote f fd) (T : Txt K mg) (c : FCls K CG gN) (EC : OErr K mg CE fI0 "TakeEnded") (FE : Fun K "__init__" "TakeError.__init__" sTInit fI0 fdI0) (bE : L2.Binds K fdI0 ["self", "value"] []) :
    FnOk P w K mg base (L2.CX P w) 9 f fd ["self", "number"] (spGNote CG CE) := by
  have GE : FnOk P w K mg base CX0 1 fI0 fdI0 ["self", "value"] (spTInit K) := ok_tinit FE
  refine F.okX scGn (fun vs H Q E h => ?_) (fun cdv A outer s H vs Q E hr h => ?_)
  · obtain ⟨x, n, w, rs, rfl, _⟩ := h
    rfl
  obtain ⟨x, n, w0, rs, rfl, hg, kk, ke⟩ := h
  have hr2 := hr.mono (show 1 + 1 ≤ 8 by decide)
  refine ⟨_, pss_one (ps_if (pt_cmpR op_ge (pv 1) (pe_callB call_len_seq (by rfl) T.len PySem.boot_len (pa_cons (pe_fld (pv 0) rfl) pa_nil)) (nomark _)) (pss_one (ps_raise rfl (takes_of rfl rfl rfl rfl) (pmk_oex EC.oex EC.ini EC.tI GE hr2 bE .nil pass0 rfl EC.mg (pa_cons (pv 1) pa_nil)))) pss_nil), ?_⟩
  obtain ⟨dx, fs, vals, ra, xs, hx, hF, hv, hv1, hra, hrs⟩ := hg
  have l1 : fs.lookup ("results" : Str) = some (.ref ra) := (hF.look (i := 1) rfl (by decide)).trans (congrArg some hv1)
  refine ⟨_, rfl, _, rfl, x, CG, dx, fs, _, rfl, hx, c.cl, c.at_ (i := 1) rfl, l1, ra, xs, rfl, .inl (SqL.of hra), _, _, rfl, rfl, _, rfl, ?_⟩
  rw [hrs.len]
  by_cases q : n < rs.length
  · exact ifF (decide_eq_false (by omega)) (kk q)
  · exact ifT (decide_eq_true (by omega)) ⟨_, rfl, (by show 1 ≤ 1000; decide), raise_at EC.oex EC.val (ke (by omega)) (Same.refl _)⟩
end
end K02
set_option Elab.async false
set_option linter.all false
set_option maxRecDepth 100000
set_option maxHeartbeats 4000000
namespace K02
open PySem L2 PyProof.Rows
/-! ### data with records -/
inductive Xd where
  | leaf (v : V)
  | lst (ds : List Xd)
  | tup (ds : List Xd)
  | rcd (ns : List Str) (ds : List Xd)
mutual
def RX (K : PySem.W.Frag) (H : Hp) : Xd → V → Prop
  | .leaf w, u => u = w ∧ Leaf w
  | .lst ds, u => ∃ a xs, u = .ref a ∧ H a = some (.lst xs) ∧ RXs K H ds xs
  | .tup ds, u => ∃ a xs, u = .ref a ∧ SqT K H a xs ∧ RXs K H ds xs
  | .rcd ns ds, u => ∃ a xs, u = .ref a ∧ H a = some (.dK (kz ns xs)) ∧ ns.length = ds.length ∧ RXs K H ds xs
def RXs (K : PySem.W.Frag) (H : Hp) : List Xd → List V → Prop
  | [], xs => xs = []
  | d :: ds, xs => ∃ x ys, xs = x :: ys ∧ RX K H d x ∧ RXs K H ds ys
end
mutual
/-- .. where its lists and records stand, each in one place -/
def RO (K : PySem.W.Frag) (H : Hp) : Xd → V → List Addr → Prop
  | .leaf w, u, F => u = w ∧ Leaf w ∧ F = []
  | .lst ds, u, F => ∃ a xs G, u = .ref a ∧ H a = some (.lst xs) ∧ ROs K H ds xs G ∧ a ∉ G ∧ F = a :: G
  | .tup ds, u, F => ∃ a xs, u = .ref a ∧ SqT K H a xs ∧ ROs K H ds xs F
  | .rcd ns ds, u, F => ∃ a xs G, u = .ref a ∧ H a = some (.dK (kz ns xs)) ∧ ns.length = ds.length ∧ ROs K H ds xs G ∧ a ∉ G ∧ F = a :: G
def ROs (K : PySem.W.Frag) (H : Hp) : List Xd → List V → List Addr → Prop
  | [], xs, F => xs = [] ∧ F = []
  | d :: ds, xs, F => ∃ x ys F1 F2, xs = x :: ys ∧ RO K H d x F1 ∧ ROs K H ds ys F2 ∧ (∀ a ∈ F1, a ∉ F2) ∧ F = F1 ++ F2
end
/-- what stands in S may change, but no tuple; all else stands -/
def Kq (S : Addr → Prop) (H H' : Hp) : Prop := ∀ b o, H b = some o → (¬ S b ∨ (∃ xs, o = .tup xs) ∨ ∃ q xs, o = .frz q (.tup xs)) → H' b = some o
theorem SqT.kq {K : PySem.W.Frag} {S : Addr → Prop} {H H1 : Hp} (k : Kq S H H1) {a : Addr} {xs : List V} (h : SqT K H a xs) : SqT K H1 a xs := by
  rcases h with (h | ⟨o, h⟩) | h
  · exact .inl (.inl (k _ _ h (.inr (.inl ⟨_, rfl⟩))))
  · exact .inl (.inr ⟨o, k _ _ h (.inr (.inr ⟨_, _, rfl⟩))⟩)
  · exact .inr h
theorem SqT.ty {K : PySem.W.Frag} {H : Hp} {a : Addr} {xs : List V} (h : SqT K H a xs) : TyX K H (.ref a) (.type "tuple") := by
  rcases h with (h | ⟨o, h⟩) | ⟨o, its, n, h1, h2, _⟩
  · exact .base (.tup h)
  · exact .fTuple h
  · exact .kTuple h1 h2
mutual
def noT : Xd → Prop
  | .leaf _ => True
  | .lst ds => noTs ds
  | .tup _ => False
  | .rcd _ ds => noTs ds
def noTs : List Xd → Prop
  | [] => True
  | d :: ds => noT d ∧ noTs ds
end
theorem noTs_of : ∀ {ds : List Xd}, (∀ d ∈ ds, noT d) → noTs ds
  | [], _ => trivial
  | d :: ds, h => ⟨h d List.mem_cons_self, noTs_of fun e he => h e (List.mem_cons_of_mem _ he)⟩
mutual
theorem RO.kq {K : PySem.W.Frag} {S : Addr → Prop} {H H1 : Hp} (k : Kq S H H1) : ∀ {d : Xd} {v : V} {F : List Addr}, RO K H d v F → (∀ a ∈ F, ¬ S a) → RO K H1 d v F
  | .leaf w, u, F, h, _ => h
  | .lst ds, u, F, h, n => by
    obtain ⟨a, xs, G, e, ha, hr, hn, rfl⟩ := h
    exact ⟨a, xs, G, e, k _ _ ha (.inl (n a List.mem_cons_self)), ROs.kq k hr fun b hb => n b (List.mem_cons_of_mem _ hb), hn, rfl⟩
  | .tup ds, u, F, h, n => by
    obtain ⟨a, xs, e, ha, hr⟩ := h
    exact ⟨a, xs, e, SqT.kq k ha, ROs.kq k hr n⟩
  | .rcd ns ds, u, F, h, n => by
    obtain ⟨a, xs, G, e, ha, hl, hr, hn, rfl⟩ := h
    exact ⟨a, xs, G, e, k _ _ ha (.inl (n a List.mem_cons_self)), hl, ROs.kq k hr fun b hb => n b (List.mem_cons_of_mem _ hb), hn, rfl⟩
theorem ROs.kq {K : PySem.W.Frag} {S : Addr → Prop} {H H1 : Hp} (k : Kq S H H1) : ∀ {ds : List Xd} {xs : List V} {F : List Addr}, ROs K H ds xs F → (∀ a ∈ F, ¬ S a) → ROs K H1 ds xs F
  | [], xs, F, h, _ => h
  | d :: ds, xs, F, h, n => by
    obtain ⟨x, ys, F1, F2, e, h1, h2, hd, rfl⟩ := h
    exact ⟨x, ys, F1, F2, e, RO.kq k h1 fun a ha => n a (List.mem_append_left _ ha), ROs.kq k h2 fun a ha => n a (List.mem_append_right _ ha), hd, rfl⟩
end
theorem Kq.same {S : Addr → Prop} {H H1 : Hp} (s : Same H H1) : Kq S H H1 := fun b o e _ => s b o e
theorem RO.same {K : PySem.W.Frag} {H H1 : Hp} {d : Xd} {v : V} {F : List Addr} (h : RO K H d v F) (s : Same H H1) : RO K H1 d v F := h.kq (S := fun _ => False) (.same s) fun _ _ z => z
theorem ROs.same {K : PySem.W.Frag} {H H1 : Hp} {ds : List Xd} {xs : List V} {F : List Addr} (h : ROs K H ds xs F) (s : Same H H1) : ROs K H1 ds xs F := ROs.kq (S := fun _ => False) (.same s) h fun _ _ z => z
mutual
theorem RO.at_ {K : PySem.W.Frag} {H : Hp} : ∀ {d : Xd} {v : V} {F : List Addr}, RO K H d v F → ∀ a ∈ F, ∃ o, H a = some o ∧ ∀ xs, o ≠ .tup xs
  | .leaf w, u, F, h, a, ha => by
    obtain ⟨_, _, rfl⟩ := h
    cases ha
  | .lst ds, u, F, h, a, ha => by
    obtain ⟨b, xs, G, e, hb, hr, hn, rfl⟩ := h
    rcases List.mem_cons.mp ha with z | z
    · exact ⟨.lst xs, z ▸ hb, fun _ q => nomatch q⟩
    · exact ROs.at_ hr a z
  | .tup ds, u, F, h, a, ha => by
    obtain ⟨b, xs, e, hb, hr⟩ := h
    exact ROs.at_ hr a ha
  | .rcd ns ds, u, F, h, a, ha => by
    obtain ⟨b, xs, G, e, hb, hl, hr, hn, rfl⟩ := h
    rcases List.mem_cons.mp ha with z | z
    · exact ⟨.dK (kz ns xs), z ▸ hb, fun _ q => nomatch q⟩
    · exact ROs.at_ hr a z
theorem ROs.at_ {K : PySem.W.Frag} {H : Hp} : ∀ {ds : List Xd} {xs : List V} {F : List Addr}, ROs K H ds xs F → ∀ a ∈ F, ∃ o, H a = some o ∧ ∀ xs, o ≠ .tup xs
  | [], xs, F, h, a, ha => by
    obtain ⟨_, rfl⟩ := h
    cases ha
  | d :: ds, xs, F, h, a, ha => by
    obtain ⟨x, ys, F1, F2, e, h1, h2, hd, rfl⟩ := h
    rcases List.mem_append.mp ha with z | z
    · exact RO.at_ h1 a z
    · exact ROs.at_ h2 a z
end
theorem ROs.len {K : PySem.W.Frag} {H : Hp} : ∀ {ds : List Xd} {xs : List V} {F : List Addr}, ROs K H ds xs F → xs.length = ds.length
  | [], xs, F, h => by
    obtain ⟨rfl, _⟩ := h
    rfl
  | d :: ds, xs, F, h => by
    obtain ⟨x, ys, F1, F2, rfl, h1, h2, hd, rfl⟩ := h
    rw [List.length_cons, List.length_cons, h2.len]
theorem ROs.snoc {K : PySem.W.Frag} {H : Hp} : ∀ {ds : List Xd} {xs : List V} {F G : List Addr} {d : Xd} {x : V}, ROs K H ds xs F → RO K H d x G → (∀ a ∈ F, a ∉ G) → ROs K H (ds ++ [d]) (xs ++ [x]) (F ++ G)
  | [], xs, F, G, d, x, h, hr, hn => by
    obtain ⟨rfl, rfl⟩ := h
    exact ⟨x, [], G, [], rfl, hr, ⟨rfl, rfl⟩, (fun _ _ z => nomatch z), by rw [List.append_nil]; rfl⟩
  | d0 :: ds, xs, F, G, d, x, h, hr, hn => by
    obtain ⟨y, ys, F1, F2, rfl, h1, h2, hd, rfl⟩ := h
    refine ⟨y, ys ++ [x], F1, F2 ++ G, rfl, h1, ROs.snoc h2 hr (fun a ha => hn a (List.mem_append_right _ ha)), fun a ha z => ?_, by rw [List.append_assoc]⟩
    rcases List.mem_append.mp z with z | z
    · exact hd a ha z
    · exact hn a (List.mem_append_left _ ha) z
mutual
theorem RX.same {K : PySem.W.Frag} {H H1 : Hp} (s : Same H H1) : ∀ {d : Xd} {v : V}, RX K H d v → RX K H1 d v
  | .leaf w, u, h => h
  | .lst ds, u, h => by
    obtain ⟨a, xs, e, ha, hr⟩ := h
    exact ⟨a, xs, e, s _ _ ha, RXs.same s hr⟩
  | .tup ds, u, h => by
    obtain ⟨a, xs, e, ha, hr⟩ := h
    exact ⟨a, xs, e, SqT.same ha s, RXs.same s hr⟩
  | .rcd ns ds, u, h => by
    obtain ⟨a, xs, e, ha, hl, hr⟩ := h
    exact ⟨a, xs, e, s _ _ ha, hl, RXs.same s hr⟩
theorem RXs.same {K : PySem.W.Frag} {H H1 : Hp} (s : Same H H1) : ∀ {ds : List Xd} {xs : List V}, RXs K H ds xs → RXs K H1 ds xs
  | [], xs, h => h
  | d :: ds, xs, h => by
    obtain ⟨x, ys, e, h1, h2⟩ := h
    exact ⟨x, ys, e, RX.same s h1, RXs.same s h2⟩
end
mutual
theorem RO.rx {K : PySem.W.Frag} {H : Hp} : ∀ {d : Xd} {v : V} {F : List Addr}, RO K H d v F → RX K H d v
  | .leaf w, u, F, h => ⟨h.1, h.2.1⟩
  | .lst ds, u, F, h => by
    obtain ⟨a, xs, G, e, ha, hr, _⟩ := h
    exact ⟨a, xs, e, ha, ROs.rx hr⟩
  | .tup ds, u, F, h => by
    obtain ⟨a, xs, e, ha, hr⟩ := h
    exact ⟨a, xs, e, ha, ROs.rx hr⟩
  | .rcd ns ds, u, F, h => by
    obtain ⟨a, xs, G, e, ha, hl, hr, _⟩ := h
    exact ⟨a, xs, e, ha, hl, ROs.rx hr⟩
theorem ROs.rx {K : PySem.W.Frag} {H : Hp} : ∀ {ds : List Xd} {xs : List V} {F : List Addr}, ROs K H ds xs F → RXs K H ds xs
  | [], xs, F, h => h.1
  | d :: ds, xs, F, h => by
    obtain ⟨x, ys, F1, F2, e, h1, h2, _⟩ := h
    exact ⟨x, ys, e, RO.rx h1, ROs.rx h2⟩
end
theorem RXs.len {K : PySem.W.Frag} {H : Hp} : ∀ {ds : List Xd} {xs : List V}, RXs K H ds xs → xs.length = ds.length
  | [], xs, h => by
    have e : xs = [] := h
    rw [e]
    rfl
  | d :: ds, xs, h => by
    obtain ⟨x, ys, rfl, h1, h2⟩ := h
    rw [List.length_cons, List.length_cons, h2.len]
theorem RXs.item {K : PySem.W.Frag} {H : Hp} : ∀ {ds : List Xd} {xs : List V} {i : Nat} {x : V}, RXs K H ds xs → xs[i]? = some x → ∃ d, ds[i]? = some d ∧ RX K H d x
  | [], xs, i, x, h, e => by
    have z : xs = [] := h
    rw [z] at e
    simp at e
  | d :: ds, xs, 0, x, h, e => by
    obtain ⟨y, ys, rfl, h1, h2⟩ := h
    have ey : y = x := Option.some.inj e
    exact ⟨d, rfl, ey ▸ h1⟩
  | d :: ds, xs, i + 1, x, h, e => by
    obtain ⟨y, ys, rfl, h1, h2⟩ := h
    exact RXs.item h2 (i := i) e
def Xd.isL : Xd → Bool
  | .lst _ => true
  | _ => false
def Xd.isT : Xd → Bool
  | .tup _ => true
  | _ => false
def Xd.isR : Xd → Bool
  | .rcd _ _ => true
  | _ => false
theorem RX.ty {K : PySem.W.Frag} {H : Hp} {d : Xd} {v : V} (h : RX K H d v) : ∃ s : String, TyX K H v (.type s) ∧ kitB s "list" = some d.isL ∧ kitB s "tuple" = some d.isT ∧ kitB s "dict" = some d.isR := by
  cases d with
  | leaf w =>
    obtain ⟨rfl, hl⟩ := h
    obtain ⟨s, ht, hs⟩ := leaf_ty (K := K) (H := H) hl
    refine ⟨s, ht, ?_⟩
    rcases hs with ⟨rfl, _⟩ | ⟨rfl, _⟩ | ⟨rfl, _⟩ | ⟨rfl, _⟩ <;> exact ⟨(by show kitB _ _ = some false; decide +kernel), (by show kitB _ _ = some false; decide +kernel), by show kitB _ _ = some false; decide +kernel⟩
  | lst ds =>
    obtain ⟨a, xs, rfl, ha, _⟩ := h
    exact ⟨"list", .base (.lst ha), (by show kitB _ _ = some true; decide +kernel), (by show kitB _ _ = some false; decide +kernel), by show kitB _ _ = some false; decide +kernel⟩
  | tup ds =>
    obtain ⟨a, xs, rfl, ha, _⟩ := h
    exact ⟨"tuple", SqT.ty ha, (by show kitB _ _ = some false; decide +kernel), (by show kitB _ _ = some true; decide +kernel), by show kitB _ _ = some false; decide +kernel⟩
  | rcd ns ds =>
    obtain ⟨a, xs, rfl, ha, _⟩ := h
    exact ⟨"dict", .base (.dK ha), (by show kitB _ _ = some false; decide +kernel), (by show kitB _ _ = some false; decide +kernel), by show kitB _ _ = some true; decide +kernel⟩
/-! ### records by names -/
theorem kz_keys : ∀ {ns : List Str} {xs : List V}, ns.length = xs.length → (kz ns xs).map (·.1) = ns.map Sum.inr
  | [], xs, _ => rfl
  | n :: ns, [], h => nomatch h
  | n :: ns, x :: xs, h => by
    show (Sum.inr n : Key) :: (kz ns xs).map (·.1) = _
    rw [kz_keys (Nat.succ.inj h)]
    rfl
theorem kz_vals : ∀ {ns : List Str} {xs : List V}, ns.length = xs.length → (kz ns xs).map (·.2) = xs
  | [], [], _ => rfl
  | [], x :: xs, h => nomatch h
  | n :: ns, [], h => nomatch h
  | n :: ns, x :: xs, h => by
    show x :: (kz ns xs).map (·.2) = _
    rw [kz_vals (Nat.succ.inj h)]
theorem inr_inj : ∀ {ns ms : List Str}, ns.map (Sum.inr : Str → Key) = ms.map Sum.inr → ns = ms
  | [], [], _ => rfl
  | [], m :: ms, h => nomatch h
  | n :: ns, [], h => nomatch h
  | n :: ns, m :: ms, h => by
    obtain ⟨h1, h2⟩ := List.cons.inj h
    rw [Sum.inr.inj h1, inr_inj h2]
theorem kz_inj {ns ms : List Str} {xs ys : List V} (h1 : ns.length = xs.length) (h2 : ms.length = ys.length) (e : kz ns xs = kz ms ys) : ns = ms ∧ xs = ys := by
  refine ⟨inr_inj ?_, ?_⟩
  · rw [← kz_keys h1, ← kz_keys h2, e]
  · rw [← kz_vals h1, ← kz_vals h2, e]
theorem kz_len {ns : List Str} {xs : List V} (h : ns.length = xs.length) : (kz ns xs).length = ns.length := by
  unfold kz
  rw [List.length_map, List.length_zip, ← h, Nat.min_self]
theorem kz_at : ∀ {ns : List Str} {xs : List V} {i : Nat} {k : Key} {v : V}, (kz ns xs)[i]? = some (k, v) → ∃ n, ns[i]? = some n ∧ xs[i]? = some v ∧ k = .inr n
  | [], xs, i, k, v, h => by simp [kz] at h
  | n :: ns, [], i, k, v, h => by simp [kz] at h
  | n :: ns, x :: xs, 0, k, v, h => by
    have e : (Sum.inr n, x) = (k, v) := Option.some.inj h
    cases e
    exact ⟨n, rfl, rfl, rfl⟩
  | n :: ns, x :: xs, i + 1, k, v, h => kz_at (ns := ns) (xs := xs) (i := i) h
theorem kz_none : ∀ {ns : List Str} {xs : List V} {z : Str}, z ∉ ns → valV (kz ns xs) (Sum.inr z) = none
  | [], xs, z, _ => rfl
  | n :: ns, [], z, _ => rfl
  | n :: ns, x :: xs, z, h => by
    show valV ((Sum.inr n, x) :: kz ns xs) _ = none
    rw [valV_neg (p := (Sum.inr n, x)) fun e => h (Sum.inr.inj e ▸ List.mem_cons_self)]
    exact kz_none fun m => h (List.mem_cons_of_mem _ m)
theorem kz_some : ∀ {ns : List Str} {xs : List V} {i : Nat} {n : Str} {v : V}, ns.Nodup → ns[i]? = some n → xs[i]? = some v → valV (kz ns xs) (Sum.inr n) = some v
  | [], xs, i, n, v, _, h, _ => by simp at h
  | m :: ns, [], i, n, v, _, _, h => by simp at h
  | m :: ns, x :: xs, 0, n, v, nd, h, hv => by
    obtain rfl : m = n := Option.some.inj h
    obtain rfl : x = v := Option.some.inj hv
    exact valV_pos (p := ((Sum.inr m : Key), x)) rfl
  | m :: ns, x :: xs, i + 1, n, v, nd, h, hv => by
    obtain ⟨n1, nd1⟩ := List.nodup_cons.mp nd
    show valV ((Sum.inr m, x) :: kz ns xs) _ = _
    rw [valV_neg (p := (Sum.inr m, x)) fun e => n1 (Sum.inr.inj e ▸ List.mem_of_getElem? (show ns[i]? = some n from h))]
    exact kz_some nd1 h hv
theorem kz_snoc : ∀ {ns : List Str} {xs : List V} {n : Str} {v : V}, ns.length = xs.length → kz (ns ++ [n]) (xs ++ [v]) = kz ns xs ++ [(Sum.inr n, v)]
  | [], [], n, v, _ => rfl
  | [], x :: xs, n, v, h => nomatch h
  | m :: ns, [], n, v, h => nomatch h
  | m :: ns, x :: xs, n, v, h => by
    show (Sum.inr m, x) :: kz (ns ++ [n]) (xs ++ [v]) = _
    rw [kz_snoc (Nat.succ.inj h)]
    rfl
/-- one more name -/
theorem kz_put {ns : List Str} {ys : List V} {i : Nat} {n : Str} {v : V} (nd : ns.Nodup) (h : ns[i]? = some n) (hl : ys.length = i) : putK (kz (ns.take i) ys) (Sum.inr n) v = kz (ns.take (i + 1)) (ys ++ [v]) := by
  have hi := (List.getElem?_eq_some_iff.mp h).1
  have e : ns.take (i + 1) = ns.take i ++ [n] := by
    rw [List.take_add_one, h]
    rfl
  rw [e, kz_snoc (by rw [List.length_take]; omega)]
  refine putK_new _ (kz_none fun m => ?_)
  obtain ⟨j, hj, ej⟩ := List.mem_iff_getElem.mp m
  rw [List.length_take] at hj
  rw [List.getElem_take] at ej
  have e2 : ns[j]? = some n := by rw [List.getElem?_eq_getElem (by omega), ej]
  exact absurd (nd_ix nd e2 h) (by omega)
/-! ### a thing is one datum at most; what lies within a record does not hold the record -/
theorem leaf_ref {a : Addr} (h : Leaf (.ref a)) : False := by
  rcases h with h | ⟨b, h⟩ | ⟨i, h⟩ | ⟨z, h⟩ <;> cases h
mutual
theorem RX.fun_ {K : PySem.W.Frag} {H : Hp} : ∀ {x y : Xd} {v : V}, noT x → noT y → RX K H x v → RX K H y v → x = y
  | .leaf w, y, v, _, hy, h, k => by
    obtain ⟨rfl, hl⟩ := h
    cases y with
    | leaf w' =>
      obtain ⟨rfl, _⟩ := k
      rfl
    | lst ds =>
      obtain ⟨a, xs, rfl, _⟩ := k
      exact (leaf_ref hl).elim
    | tup ds => exact hy.elim
    | rcd ns ds =>
      obtain ⟨a, xs, rfl, _⟩ := k
      exact (leaf_ref hl).elim
  | .lst ds, y, v, hx, hy, h, k => by
    obtain ⟨a, xs, rfl, ha, hr⟩ := h
    cases y with
    | leaf w' => exact (leaf_ref (k.1 ▸ k.2)).elim
    | lst ds' =>
      obtain ⟨b, ys, e, hb, kr⟩ := k
      cases e
      rw [ha] at hb
      cases hb
      rw [RXs.fun_ hx hy hr kr]
    | tup ds' => exact hy.elim
    | rcd ns' ds' =>
      obtain ⟨b, ys, e, hb, kr⟩ := k
      cases e
      rw [ha] at hb
      cases hb
  | .tup ds, y, v, hx, hy, h, k => hx.elim
  | .rcd ns ds, y, v, hx, hy, h, k => by
    obtain ⟨a, xs, rfl, ha, hl, hr⟩ := h
    cases y with
    | leaf w' => exact (leaf_ref (k.1 ▸ k.2)).elim
    | lst ds' =>
      obtain ⟨b, ys, e, hb, kr⟩ := k
      cases e
      rw [ha] at hb
      cases hb
    | tup ds' => exact hy.elim
    | rcd ns' ds' =>
      obtain ⟨b, ys, e, hb, kl, kr⟩ := k
      cases e
      rw [ha] at hb
      have e2 : kz ns xs = kz ns' ys := by
        injection hb with hb
        injection hb
      obtain ⟨rfl, rfl⟩ := kz_inj (hl.trans hr.len.symm) (kl.trans kr.len.symm) e2
      rw [RXs.fun_ hx hy hr kr]
theorem RXs.fun_ {K : PySem.W.Frag} {H : Hp} : ∀ {ds es : List Xd} {xs : List V}, noTs ds → noTs es → RXs K H ds xs → RXs K H es xs → ds = es
  | [], es, xs, _, _, h, k => by
    have e : xs = [] := h
    subst e
    cases es with
    | nil => rfl
    | cons e es =>
      obtain ⟨x, ys, z, _⟩ := k
      cases z
  | d :: ds, es, xs, hx, hy, h, k => by
    obtain ⟨x, ys, rfl, h1, h2⟩ := h
    cases es with
    | nil => cases (show x :: ys = [] from k)
    | cons e es =>
      obtain ⟨x', ys', z, k1, k2⟩ := k
      cases z
      rw [RX.fun_ hx.1 hy.1 h1 k1, RXs.fun_ hx.2 hy.2 h2 k2]
end
mutual
theorem RX.but {K : PySem.W.Frag} {H H1 : Hp} {p : Addr} {x0 : Xd} (hb : ∀ b o, b ≠ p → H b = some o → H1 b = some o) (h0 : RX K H x0 (.ref p)) (n0 : noT x0) : ∀ {x : Xd} {v : V}, noT x → sizeOf x < sizeOf x0 → RX K H x v → RX K H1 x v
  | .leaf w, v, _, _, h => h
  | .lst ds, v, hn, hs, h => by
    have h' := h
    obtain ⟨a, xs, rfl, ha, hr⟩ := h
    have ne : a ≠ p := fun e => by
      subst e
      rw [RX.fun_ hn n0 h' h0] at hs
      exact Nat.lt_irrefl _ hs
    exact ⟨a, xs, rfl, hb _ _ ne ha, RXs.but hb h0 n0 hn (by simp at hs; omega) hr⟩
  | .tup ds, v, hn, hs, h => hn.elim
  | .rcd ns ds, v, hn, hs, h => by
    have h' := h
    obtain ⟨a, xs, rfl, ha, hl, hr⟩ := h
    have ne : a ≠ p := fun e => by
      subst e
      rw [RX.fun_ hn n0 h' h0] at hs
      exact Nat.lt_irrefl _ hs
    exact ⟨a, xs, rfl, hb _ _ ne ha, hl, RXs.but hb h0 n0 hn (by simp at hs; omega) hr⟩
theorem RXs.but {K : PySem.W.Frag} {H H1 : Hp} {p : Addr} {x0 : Xd} (hb : ∀ b o, b ≠ p → H b = some o → H1 b = some o) (h0 : RX K H x0 (.ref p)) (n0 : noT x0) : ∀ {ds : List Xd} {xs : List V}, noTs ds → sizeOf ds < sizeOf x0 → RXs K H ds xs → RXs K H1 ds xs
  | [], xs, _, _, h => h
  | d :: ds, xs, hn, hs, h => by
    obtain ⟨x, ys, e, h1, h2⟩ := h
    exact ⟨x, ys, e, RX.but hb h0 n0 hn.1 (by simp at hs; omega) h1, RXs.but hb h0 n0 hn.2 (by simp at hs; omega) h2⟩
end
/-- so deep, so wide -/
def FitX (c : Nat) : Nat → Xd → Prop
  | 0, d => ∃ v, d = .leaf v
  | _ + 1, .leaf _ => True
  | n + 1, .lst ds => ds.length ≤ c ∧ ∀ d ∈ ds, FitX c n d
  | n + 1, .tup ds => ds.length ≤ c ∧ ∀ d ∈ ds, FitX c n d
  | n + 1, .rcd ns ds => ns.Nodup ∧ ds.length ≤ c ∧ (∀ d ∈ ds, FitX c n d) ∧ noTs ds
theorem FitX.leaf {c n : Nat} {v : V} : FitX c n (.leaf v) := by
  cases n with
  | zero => exact ⟨v, rfl⟩
  | succ n => trivial
theorem FitX.lst {c n : Nat} {ds : List Xd} (h : FitX c n (.lst ds)) : ∃ m, n = m + 1 ∧ ds.length ≤ c ∧ ∀ d ∈ ds, FitX c m d := by
  cases n with
  | zero =>
    obtain ⟨v, z⟩ := h
    cases z
  | succ m => exact ⟨m, rfl, h.1, h.2⟩
theorem FitX.tup {c n : Nat} {ds : List Xd} (h : FitX c n (.tup ds)) : ∃ m, n = m + 1 ∧ ds.length ≤ c ∧ ∀ d ∈ ds, FitX c m d := by
  cases n with
  | zero =>
    obtain ⟨v, z⟩ := h
    cases z
  | succ m => exact ⟨m, rfl, h.1, h.2⟩
theorem FitX.rcd {c n : Nat} {ns : List Str} {ds : List Xd} (h : FitX c n (.rcd ns ds)) : ∃ m, n = m + 1 ∧ ns.Nodup ∧ ds.length ≤ c ∧ (∀ d ∈ ds, FitX c m d) ∧ noTs ds := by
  cases n with
  | zero =>
    obtain ⟨v, z⟩ := h
    cases z
  | succ m => exact ⟨m, rfl, h.1, h.2.1, h.2.2.1, h.2.2.2⟩
/-! ### copies -/
/-- behind i copies, in a new thing at D0 -/
def CpI (K : PySem.W.Frag) (H1 : Hp) (D0 : Addr) (mk : Nat → List V → HO) (ds : List Xd) (i : Nat) (H2 : Hp) : Prop := ∃ ys G, Same H1 H2 ∧ H2 D0 = some (mk i ys) ∧ ROs K H2 (ds.take i) ys G ∧ ∀ a ∈ G, H1 a = none ∧ a ≠ D0
theorem CpI.zero {K : PySem.W.Frag} {H1 : Hp} {D0 : Addr} {mk : Nat → List V → HO} {ds : List Xd} (hD : H1 D0 = none) : CpI K H1 D0 mk ds 0 (upd H1 D0 (mk 0 [])) := ⟨[], [], same_new hD _, upd_same, ⟨rfl, rfl⟩, fun _ z => nomatch z⟩
theorem CpI.step {K : PySem.W.Frag} {H1 H2 H3 : Hp} {D0 : Addr} {mk : Nat → List V → HO} {ds : List Xd} {i : Nat} {e : Xd} {u : V} {G3 : List Addr} (h : CpI K H1 D0 mk ds i H2) (hmk : ∀ i ys, (∀ {xs}, mk i ys ≠ .tup xs) ∧ ∀ {q xs}, mk i ys ≠ .frz q (.tup xs)) (he : ds[i]? = some e) (hD : H1 D0 = none)
    (hs3 : Same H2 H3) (hr3 : RO K H3 e u G3) (hG3 : ∀ a ∈ G3, H2 a = none) : ∃ ys, H3 D0 = some (mk i ys) ∧ ys.length = i ∧ CpI K H1 D0 mk ds (i + 1) (upd H3 D0 (mk (i + 1) (ys ++ [u]))) := by
  obtain ⟨ys, G, hs2, hD2, hr, hG⟩ := h
  have hil := (List.getElem?_eq_some_iff.mp he).1
  have hD3 := hs3 _ _ hD2
  have hyl : ys.length = i := by
    rw [hr.len, List.length_take]
    omega
  have nD : ∀ a ∈ G3, a ≠ D0 := fun a ha z => by
    rw [← z, hG3 a ha] at hD2
    cases hD2
  have n1 : ∀ a ∈ G3, H1 a = none := fun a ha => hs2.free (hG3 a ha)
  have kp : Kq (fun a => a = D0) H3 (upd H3 D0 (mk (i + 1) (ys ++ [u]))) := fun b o eb n => by
    by_cases c : b = D0
    · subst c
      rcases n with n | ⟨xs, rfl⟩ | ⟨q, xs, rfl⟩
      · exact absurd rfl n
      · rw [hD3] at eb
        exact absurd (Option.some.inj eb) (hmk _ _).1
      · rw [hD3] at eb
        exact absurd (Option.some.inj eb) (hmk _ _).2
    · rw [upd_ne c]
      exact eb
  refine ⟨ys, hD3, hyl, ys ++ [u], G ++ G3, fun b o eb => ?_, upd_same, ?_, fun a ha => ?_⟩
  · rw [upd_ne (ne_of_none eb hD)]
    exact hs3 _ _ (hs2 _ _ eb)
  · have et : ds.take (i + 1) = ds.take i ++ [e] := by
      rw [List.take_add_one, he]
      rfl
    rw [et]
    refine ROs.snoc ((hr.same hs3).kq kp fun a ha => (hG a ha).2) (hr3.kq kp nD) fun a ha z => ?_
    obtain ⟨zs, hz, _⟩ := hr.at_ a ha
    rw [hG3 a z] at hz
    cases hz
  · rcases List.mem_append.mp ha with z | z
    · exact hG a z
    · exact ⟨n1 a z, nD a z⟩
def spCopyX (K : PySem.W.Frag) (n : Nat) : Sp := fun vs H Q _ => ∃ (v : V) (d : Xd) (m : Nat), vs = [v] ∧ m + 1 ≤ n ∧ RX K H d v ∧ FitX 1000 m d ∧ ∀ u H' G, Same H H' → RO K H' d u G → (∀ a ∈ G, H a = none) → Q u H'
/-- over the keys of a locked dict -/
theorem dc_keys {d : Addr} {o : Obj} {ks : List (Key × V)} {g : TG} {tt : TT} {tk tv : TE} {vs : List Nat} {σ : L2.St} {H1 : Hp} {D0 : Addr} {Qd : Hp → Prop} (Pv : Nat → Hp → Prop) (h0 : Pv 0 (upd H1 D0 (.dK []))) (hl : ∀ i H, i ≤ ks.length → Pv i H → H d = some (.frz o (.dK ks)))
    (hs : ∀ i k v H, ks[i]? = some (k, v) → Pv i H → g (kV k) (wipe σ vs) H fun σ2 H2 => wipe σ2 vs = wipe σ vs ∧ tt σ2 H2 fun b H3 =>
      if b = true then tk σ2 H3 fun y H4 => tv σ2 H4 fun z H5 => ∃ kvs k, y = kV k ∧ H5 D0 = some (.dK kvs) ∧ kvs.length < sizeLine ∧ Pv (i + 1) (upd H5 D0 (.dK (putK kvs k z))) else Pv (i + 1) H3) (hd : ∀ H, Pv ks.length H → Qd H) :
    ∃ W : Nat → Nat → Hp → Prop, (∃ m, W 0 m (upd H1 D0 (.dK []))) ∧ ∀ i m H, W i m H →
      ((Itk d o ks).stop i H ∧ Qd H) ∨ ((Itk d o ks).go i H ∧ ∃ Nx : Hp → Prop, (∀ H', Nx H' → ∃ m', m' < m ∧ W (i + 1) m' H') ∧ ∀ x H', (Itk d o ks).yld i H x H' → g x (wipe σ vs) H' fun σ2 H2 => wipe σ2 vs = wipe σ vs ∧ tt σ2 H2 fun b H3 =>
        if b = true then tk σ2 H3 fun y H4 => tv σ2 H4 fun z H5 => ∃ kvs k, y = kV k ∧ H5 D0 = some (.dK kvs) ∧ kvs.length < sizeLine ∧ Nx (upd H5 D0 (.dK (putK kvs k z))) else Nx H3) := by
  refine ⟨fun i m H => m = ks.length - i ∧ i ≤ ks.length ∧ Pv i H, ⟨ks.length, by simp, Nat.zero_le _, h0⟩, ?_⟩
  rintro i m H ⟨rfl, hi, p⟩
  have q := hl i H hi p
  by_cases hlt : i < ks.length
  · refine .inr ⟨⟨q, hlt⟩, Pv (i + 1), fun H' p' => ⟨ks.length - (i + 1), by omega, rfl, hlt, p'⟩, fun x H' y => ?_⟩
    obtain ⟨rfl, k, v, e, rfl⟩ := y
    exact hs i k v _ e p
  · have e : i = ks.length := by omega
    subst e
    exact .inl ⟨⟨q, Nat.le_refl _⟩, hd H p⟩
section
variable {P : Program} {w : World} {K : PySem.W.Frag} {mg : Str → Option Value} {base : Heap}
theorem ok_freshX {f : Addr} {fd : FuncData} {n : Nat} (F : Fun K "fresh" "fresh" sFresh f fd) (T : Txt K mg) (G : FnOk P w K mg base CX0 n f fd ["thing"] (spCopyX K n)) (b : L2.Binds K fd ["thing"] []) (m : mg "fresh" = some (.ref f)) (zD : mg "dict" = none) :
    FnOk P w K mg base CX0 (n + 1) f fd ["thing"] (spCopyX K (n + 1)) := by
  refine F.ok scFr (fun vs H Q E h => ?_) (fun cdv A outer s H vs Q E hr h => ?_)
  · obtain ⟨v, d, m0, rfl, _⟩ := h
    rfl
  obtain ⟨v, d, m0, rfl, hm, hR, hF, kk⟩ := h
  have hu1 : (A.deeper (envOfC "fresh" (defScope sFresh) s.heap.objs.size f cdv)).units + 1 < cLine := by
    have := hr.units
    omega
  refine ⟨_, pss_cons (ps_if (pt_val (pe_callB call_isi (by rfl) T.isi boot_isinstance (pa_cons (pv 0) (pa_cons (pe_bltn (v := .ty "list") (by rfl) T.list boot_list rfl) pa_nil))))
      (pss_one (ps_ret (pe_lc (own := [("each", 1)]) (g := gName 1) (tt := tYes) rfl scFr.nd (pi_list (pv 0)) (blkOk_by (N := ["thing", "each", "key"]) (sc := defScope sFresh) (by decide +kernel)) (fun _ _ _ _ _ => pg_name (i := 1) scFr.nd rfl (Or.inl rfl)) (fun _ _ _ _ _ => pts_nil)
        (fun _ _ _ _ _ => pe_call G hr rfl m F.kp b .nil pass0 (pa_cons (pv 1) pa_nil))))) pss_nil)
    (pss_cons (ps_if (pt_val (pe_callB call_isi (by rfl) T.isi boot_isinstance (pa_cons (pv 0) (pa_cons (pe_bltn (v := .ty "tuple") (by rfl) T.tuple boot_tuple rfl) pa_nil))))
      (pss_one (ps_ret (pe_callTy call_tuple_of (by rfl) T.tuple boot_tuple (pa_cons (pe_lc (own := [("each", 1)]) (g := gName 1) (tt := tYes) rfl scFr.nd (pi_tup (pv 0)) (blkOk_by (N := ["thing", "each", "key"]) (sc := defScope sFresh) (by decide +kernel)) (fun _ _ _ _ _ => pg_name (i := 1) scFr.nd rfl (Or.inl rfl)) (fun _ _ _ _ _ => pts_nil)
        (fun _ _ _ _ _ => pe_call G hr rfl m F.kp b .nil pass0 (pa_cons (pv 1) pa_nil))) pa_nil)))) pss_nil)
    (pss_cons (ps_if (pt_val (pe_callB call_isi (by rfl) T.isi boot_isinstance (pa_cons (pv 0) (pa_cons (pe_bltn (v := .ty "dict") (by rfl) zD boot_dict rfl) pa_nil))))
      (pss_one (ps_ret (pe_lock (pe_dc (own := [("key", 2)]) (g := gName 2) (tt := tYes) (tk := tVar 2) (tv := tCall (spCopyX K n) [] E0 (tCons (tDGet (tVar 0) (tVar 2)) tNil)) rfl scFr.nd (pi_keys (pv 0)) (blkOk_by (N := ["thing", "each", "key"]) (sc := defScope sFresh) (by decide +kernel)) (fun _ _ _ _ _ => pg_name (i := 2) scFr.nd rfl (Or.inl rfl)) (fun _ _ _ _ _ => pts_nil)
        (fun _ _ _ _ _ => pv 2) (fun _ _ _ _ _ => pe_call G hr rfl m F.kp b .nil pass0 (pa_cons (pe_dget hu1 (pv 0) (pv 2) (fun _ _ => rfl)) pa_nil)))))) pss_nil)
    (pss_one (ps_ret (pv 0))))), ?_⟩
  obtain ⟨sT, hty, k1, k2, k3⟩ := hR.ty (K := K)
  refine ⟨_, rfl, v, _, _, _, _, rfl, .ty _, hty, kit_ty k1, _, rfl, ?_⟩
  cases d with
  | leaf w0 =>
    refine iteF ⟨_, rfl, v, _, _, _, _, rfl, .ty _, hty, kit_ty k2, _, rfl, iteF ⟨_, rfl, v, _, _, _, _, rfl, .ty _, hty, kit_ty k3, _, rfl, iteF ⟨_, rfl, ?_⟩⟩⟩
    obtain ⟨rfl, hl⟩ := hR
    exact kk _ H [] (Same.refl H) ⟨rfl, hl, rfl⟩ fun _ z => nomatch z
  | lst ds =>
    refine iteT ?_
    obtain ⟨a, xs, rfl, ha, hr0⟩ := hR
    obtain ⟨m', rfl, hl, hf⟩ := hF.lst
    refine ⟨_, rfl, a, rfl, ⟨_, SqL.of ha⟩, fun D0 hD => ?_⟩
    refine lc_list (K := K) (a := a) (xs := xs) (CpI K H D0 (fun _ ys => .lst ys) ds) (CpI.zero (K := K) (mk := fun _ ys => .lst ys) hD) (fun i H2 _ ⟨_, _, h, _⟩ => SqL.of (h _ _ ha)) ?_ ?_
    · rintro i x H2 hi h
      have hs2 := h.choose_spec.choose_spec.1
      obtain ⟨e, he, hrep⟩ := RXs.item (hr0.same hs2) hi
      refine ⟨rfl, _, rfl, x, e, m', rfl, by omega, hrep, hf e (List.mem_of_getElem? he), fun u H3 G3 hs3 hr3 hG3 => ?_⟩
      obtain ⟨ys, hD3, hyl, hn⟩ := h.step (fun _ _ => ⟨(fun z => nomatch z), (fun z => nomatch z)⟩) he hD hs3 hr3 hG3
      have hil := (List.getElem?_eq_some_iff.mp he).1
      exact ⟨ys, hD3, Nat.lt_of_le_of_lt (show ys.length ≤ 1000 by omega) (by decide), hn⟩
    · rintro H2 ⟨ys, G, hs, hD2, hr2, hG⟩
      rw [hr0.len, List.take_length] at hr2
      exact kk _ H2 (D0 :: G) hs ⟨D0, ys, G, rfl, hD2, hr2, fun z => (hG _ z).2 rfl, rfl⟩ fun b hb => by
        rcases List.mem_cons.mp hb with z | z
        · exact z ▸ hD
        · exact (hG b z).1
  | tup ds =>
    refine iteF ⟨_, rfl, v, _, _, _, _, rfl, .ty _, hty, kit_ty k2, _, rfl, iteT ?_⟩
    obtain ⟨a, xs, rfl, ha, hr0⟩ := hR
    obtain ⟨m', rfl, hl, hf⟩ := hF.tup
    refine ⟨_, rfl, a, rfl, ⟨_, ha⟩, fun D0 hD => ?_⟩
    refine lc_tup (K := K) (a := a) (xs := xs) (CpI K H D0 (fun _ ys => .lst ys) ds) (CpI.zero (K := K) (mk := fun _ ys => .lst ys) hD) (fun i H2 _ ⟨_, _, h, _⟩ => SqT.same ha h) ?_ ?_
    · rintro i x H2 hi h
      have hs2 := h.choose_spec.choose_spec.1
      obtain ⟨e, he, hrep⟩ := RXs.item (hr0.same hs2) hi
      refine ⟨rfl, _, rfl, x, e, m', rfl, by omega, hrep, hf e (List.mem_of_getElem? he), fun u H3 G3 hs3 hr3 hG3 => ?_⟩
      obtain ⟨ys, hD3, hyl, hn⟩ := h.step (fun _ _ => ⟨(fun z => nomatch z), (fun z => nomatch z)⟩) he hD hs3 hr3 hG3
      have hil := (List.getElem?_eq_some_iff.mp he).1
      exact ⟨ys, hD3, Nat.lt_of_le_of_lt (show ys.length ≤ 1000 by omega) (by decide), hn⟩
    · rintro H2 ⟨ys, G, hs, hD2, hr2, hG⟩
      rw [hr0.len, List.take_length] at hr2
      refine ⟨D0, ys, rfl, .inl ⟨SqL.of hD2, fun l hl2 => ?_⟩⟩
      have s3 := same_new hl2 (.tup ys)
      exact kk _ _ G (hs.trans s3) ⟨l, ys, rfl, SqT.of upd_same, hr2.same s3⟩ fun b hb => (hG b hb).1
  | rcd ns ds =>
    refine iteF ⟨_, rfl, v, _, _, _, _, rfl, .ty _, hty, kit_ty k2, _, rfl, iteF ⟨_, rfl, v, _, _, _, _, rfl, .ty _, hty, kit_ty k3, _, rfl, iteT ?_⟩⟩
    have hR' := hR
    obtain ⟨a, xs, rfl, ha, hln, hr0⟩ := hR
    obtain ⟨m', rfl, nd, hl, hf, hnt⟩ := hF.rcd
    have hxl := hr0.len
    refine ⟨a, _, ha, trivial, fun od => ⟨_, rfl, a, od, rfl, .inl ⟨_, upd_same, fun D0 hD => ?_⟩⟩⟩
    have hb1 : ∀ b o, b ≠ a → H b = some o → (upd H a (.frz od (.dK (kz ns xs)))) b = some o := fun b o ne e => by
      rw [upd_ne ne]
      exact e
    have hr1 : RXs K (upd H a (.frz od (.dK (kz ns xs)))) ds xs := RXs.but hb1 hR' hnt hnt (by simp; omega) hr0
    have ha1 : (upd H a (.frz od (.dK (kz ns xs)))) a = some (.frz od (.dK (kz ns xs))) := upd_same
    have free1 : ∀ b, (upd H a (.frz od (.dK (kz ns xs)))) b = none → H b = none := fun b e => by
      by_cases c : b = a
      · rw [c, ha1] at e
        cases e
      · rw [upd_ne c] at e
        exact e
    generalize upd H a (.frz od (.dK (kz ns xs))) = H1 at hb1 hr1 ha1 hD free1 ⊢
    refine dc_keys (d := a) (o := od) (ks := kz ns xs) (CpI K H1 D0 (fun i ys => .dK (kz (ns.take i) ys)) ds) (CpI.zero (K := K) (mk := fun i ys => .dK (kz (ns.take i) ys)) hD) (fun i H2 _ ⟨_, _, h, _⟩ => h _ _ ha1) ?_ ?_
    · rintro i k z H2 hi h
      obtain ⟨nm, hnm, hz, rfl⟩ := kz_at hi
      have hs2 := h.choose_spec.choose_spec.1
      obtain ⟨e, he, hrep⟩ := RXs.item (hr1.same hs2) hz
      refine ⟨rfl, _, rfl, _, rfl, _, rfl, a, z, rfl, ?_, z, e, m', rfl, by omega, hrep, hf e (List.mem_of_getElem? he), fun u H3 G3 hs3 hr3 hG3 => ?_⟩
      · exact .inl ⟨kz ns xs, .inr nm, .inr ⟨od, hs2 _ _ ha1⟩, rfl, (kz_some nd hnm hz).symm⟩
      · obtain ⟨ys, hD3, hyl, hn⟩ := h.step (fun _ _ => ⟨(fun z => nomatch z), (fun z => nomatch z)⟩) he hD hs3 hr3 hG3
        have hil := (List.getElem?_eq_some_iff.mp he).1
        refine ⟨_, .inr nm, rfl, hD3, ?_, ?_⟩
        · rw [kz_len (by rw [List.length_take]; omega), List.length_take]
          exact Nat.lt_of_le_of_lt (show _ ≤ 1000 by omega) (by decide)
        · rw [kz_put nd hnm hyl]
          exact hn
    · rintro H2 ⟨ys, G, hs, hD2, hr2, hG⟩
      have eL : (kz ns xs).length = ds.length := by rw [kz_len (by omega), hln]
      rw [eL, List.take_length] at hr2
      rw [eL, ← hln] at hD2
      have hD2 : H2 D0 = some (.dK (kz (ns.take ns.length) ys)) := hD2
      rw [List.take_length] at hD2
      have ha2 := hs _ _ ha1
      have kq : Kq (fun b => b = a) H2 (upd H2 a (.dK (kz ns xs))) := fun b o eb n => by
        by_cases c : b = a
        · subst c
          rcases n with n | ⟨zs, rfl⟩ | ⟨q, zs, rfl⟩
          · exact absurd rfl n
          · rw [ha2] at eb
            cases eb
          · rw [ha2] at eb
            cases eb
        · rw [upd_ne c]
          exact eb
      have nDa : D0 ≠ a := fun z => by
        rw [z, ha1] at hD
        cases hD
      have nGa : ∀ b ∈ G, b ≠ a := fun b hb z => by
        have := (hG b hb).1
        rw [z, ha1] at this
        cases this
      refine ⟨ha2, kk _ _ (D0 :: G) (fun b o e => ?_) ⟨D0, ys, G, rfl, ?_, hln, hr2.kq kq nGa, fun z => (hG _ z).2 rfl, rfl⟩ fun b hb => ?_⟩
      · by_cases c : b = a
        · subst c
          rw [upd_same]
          exact ha.symm.trans e
        · rw [upd_ne c]
          exact hs _ _ (hb1 _ _ c e)
      · rw [upd_ne nDa]
        exact hD2
      · rcases List.mem_cons.mp hb with z | z
        · exact free1 _ (z ▸ hD)
        · exact free1 _ (hG b z).1
theorem copyX_none {f : Addr} {fd : FuncData} {ps : List Str} : FnOk P w K mg base CX0 0 f fd ps (spCopyX K 0) := none_of fun vs H Q E h => by
  obtain ⟨v, d, m, _, h1, _⟩ := h
  omega
end
end K02
set_option Elab.async false
set_option linter.all false
set_option maxRecDepth 100000
set_option maxHeartbeats 4000000
namespace K02
open PySem L2 PyProof.Rows
/-! ### a Given as the source of a run -/
noncomputable instance {u : Wv} {l : Lq} : Decidable (okLq u l) := Classical.propDecidable _
noncomputable def gSem (w : Wv) (rs : List Wv) : Sem := ⟨fun _ l => match wP w rs (lqP l) with
    | some u => if okLq u l then .val (ansQ u l) else .bad
    | none => .bad, fun _ n => if n < rs.length then none else some n⟩
theorem gSem_ok {w : Wv} {rs : List Wv} {L : List (Lq × V)} {l : Lq} {v : V} (h : (gSem w rs).ans L l = .val v) : ∃ u, wP w rs (lqP l) = some u ∧ okLq u l ∧ v = ansQ u l := by
  unfold gSem at h
  cases q : wP w rs (lqP l) with
  | none =>
    have h' : (match wP w rs (lqP l) with | some u => if okLq u l then Ans.val (ansQ u l) else .bad | none => .bad) = .val v := h
    rw [q] at h'
    cases h'
  | some u =>
    have h' : (match wP w rs (lqP l) with | some u => if okLq u l then Ans.val (ansQ u l) else .bad | none => .bad) = .val v := h
    rw [q] at h'
    by_cases c : okLq u l
    · have h2 : (if okLq u l then Ans.val (ansQ u l) else .bad) = .val v := h'
      rw [if_pos c] at h2
      exact ⟨u, rfl, c, (Ans.val.inj h2).symm⟩
    · have h2 : (if okLq u l then Ans.val (ansQ u l) else .bad) = .val v := h'
      rw [if_neg c] at h2
      cases h2
theorem gSem_up {w : Wv} {rs : List Wv} {L : List (Lq × V)} {l : Lq} {n : Nat} : (gSem w rs).ans L l ≠ .up n := fun h => by
  unfold gSem at h
  have h' : (match wP w rs (lqP l) with | some u => if okLq u l then Ans.val (ansQ u l) else .bad | none => .bad) = .up n := h
  cases q : wP w rs (lqP l) with
  | none =>
    rw [q] at h'
    cases h'
  | some u =>
    rw [q] at h'
    have h2 : (if okLq u l then Ans.val (ansQ u l) else .bad) = .up n := h'
    by_cases c : okLq u l
    · rw [if_pos c] at h2
      cases h2
    · rw [if_neg c] at h2
      cases h2
theorem ansQ_ok {u : Wv} {l : Lq} : okAn l (ansQ u l) := by
  cases l
  · exact ⟨_, rfl⟩
  · exact ⟨_, rfl⟩
  · exact ⟨_, rfl⟩
section
variable {P : Program} {w : World} {K : PySem.W.Frag} {mg : Str → Option Value} {base : Heap} {CG CE : Addr}
theorem keepM {M0 H H' : Hp} (h : Same M0 H) (k : ∀ b u, (M0 b ≠ none ∨ False) → H b = some u → H' b = some u) : Same M0 H' := fun b u e => k b u (.inl (by rw [e]; exact fun z => nomatch z)) (h b u e)
noncomputable def gSrc {s : Addr} {M0 : Hp} {w0 : Wv} {rs : List Wv} {fA fN : Addr} {fdA fdN : FuncData} (c : FCls K CG gN) (h : GvAt CG s M0 w0 rs)
    (GA : FnOk P w K mg base (L2.CX P w) 9 fA fdA ["self", "look", "answers"] (spGAns K CG)) (GN : FnOk P w K mg base (L2.CX P w) 9 fN fdN ["self", "number"] (spGNote CG CE))
    (mA : Meth K CG "answer" fA) (mN : Meth K CG "note_call" fN) (bA : L2.Binds K fdA ["self", "look", "answers"] []) (bN : L2.Binds K fdN ["self", "number"] []) : Src P w K mg base where
  sem := gSem w0 rs
  s := s
  C := CG
  CE := CE
  rep := fun H _ => Same M0 H
  up := fun H _ => Same M0 H
  mu := fun _ => False
  M0 := M0
  fA := fA
  fN := fN
  fdA := fdA
  fdN := fdN
  cl := c.cl
  ins := fun H L hr => by
    obtain ⟨dx, fs, vals, ra, xs, hx, hF, _⟩ := h
    exact ⟨dx, fs, hr _ _ hx, hF.non _ (by decide +kernel), hF.non _ (by decide +kernel)⟩
  keep := fun H H' L hr k => keepM hr k
  keepU := fun H H' L hr k => keepM hr k
  repUp := fun _ _ hr => hr
  muT := fun _ _ _ _ z => z.elim
  okA := fun L l v e => by
    obtain ⟨u, _, _, rfl⟩ := gSem_ok e
    exact ansQ_ok
  GA := GA.imp fun vs H Q E h2 => by
    obtain ⟨v, al, l, L, rfl, hr, hl, hal, hm⟩ := h2
    cases e : (gSem w0 rs).ans L l with
    | bad =>
      rw [e] at hm
      exact hm.elim
    | up n => exact (gSem_up e).elim
    | val x =>
      rw [e] at hm
      obtain ⟨u, h1, h3, rfl⟩ := gSem_ok e
      exact ⟨s, v, .ref al, l, w0, u, rs, rfl, h.same hr, hl, h1, h3, fun H' hs => hm H' (fun b u _ e => hs b u e) (TupSt.of hs) (hr.trans hs)⟩
  GN := GN.imp fun vs H Q E h2 => by
    obtain ⟨n, L, rfl, hr, hm⟩ := h2
    refine ⟨s, n, w0, rs, rfl, h.same hr, fun hn => ?_, fun hn => ?_⟩
    · have e : (gSem w0 rs).call L n = none := if_pos hn
      rw [e] at hm
      exact hm H (Same.refl H)
    · have e : (gSem w0 rs).call L n = some n := if_neg (by omega)
      rw [e] at hm
      exact hm
  mA := mA
  mN := mN
  bA := bA
  bN := bN
end
/-! ### the value at a place -/
mutual
def wX : Wv → Xd
  | .non => .leaf .non
  | .int i => .leaf (.int i)
  | .row ws => .lst (wXs ws)
  | .rcd ns ws => .rcd ns (wXs ws)
def wXs : List Wv → List Xd
  | [] => []
  | w :: ws => wX w :: wXs ws
end
theorem wXs_len : ∀ ws : List Wv, (wXs ws).length = ws.length
  | [] => rfl
  | w :: ws => by
    show (wXs ws).length + 1 = _
    rw [wXs_len ws]
    rfl
mutual
theorem RV.rx {K : PySem.W.Frag} {H : Hp} : ∀ {w : Wv} {v : V}, RV H w v → RX K H (wX w) v
  | .non, v, h => ⟨h, .inl rfl⟩
  | .int i, v, h => ⟨h, lf_int⟩
  | .row ws, v, h => by
    obtain ⟨a, xs, e, ha, hr⟩ := h
    exact ⟨a, xs, e, ha, RVs.rx hr⟩
  | .rcd ns ws, v, h => by
    obtain ⟨a, xs, e, ha, hl, hr⟩ := h
    exact ⟨a, xs, e, ha, by rw [wXs_len]; exact hl, RVs.rx hr⟩
theorem RVs.rx {K : PySem.W.Frag} {H : Hp} : ∀ {ws : List Wv} {xs : List V}, RVs H ws xs → RXs K H (wXs ws) xs
  | [], xs, h => h
  | w :: ws, xs, h => by
    obtain ⟨x, ys, e, h1, h2⟩ := h
    exact ⟨x, ys, e, RV.rx h1, RVs.rx h2⟩
end
theorem RXs.drop {K : PySem.W.Frag} {H : Hp} : ∀ {ds : List Xd} {xs : List V} (n : Nat), RXs K H ds xs → RXs K H (ds.drop n) (xs.drop n)
  | ds, xs, 0, h => h
  | [], xs, n + 1, h => by
    have e : xs = [] := h
    rw [e]
    rfl
  | d :: ds, xs, n + 1, h => by
    obtain ⟨x, ys, rfl, h1, h2⟩ := h
    exact RXs.drop (ds := ds) n h2
/-- the other entries of a record -/
def othr (zs : List Str) : List Str → List Wv → List Str × List Wv
  | n :: ns, w :: ws => if n ∈ zs then othr zs ns ws else (n :: (othr zs ns ws).1, w :: (othr zs ns ws).2)
  | _, _ => ([], [])
def keepK (zs : List Str) (q : Key × V) : Bool := !inV (kV q.1) (zs.map V.str)
theorem keep_inr {zs : List Str} {n : Str} {x : V} : keepK zs (Sum.inr n, x) = decide (n ∉ zs) := by
  unfold keepK
  show (!inV (.str n) (zs.map V.str)) = _
  have e : inV (.str n) (zs.map V.str) = decide (n ∈ zs) := by
    unfold inV
    induction zs with
    | nil => rfl
    | cons z zs ih =>
      rw [List.map_cons, List.any_cons, ih]
      by_cases c : z = n
      · subst c
        simp [eqV]
      · have c2 : ¬ n = z := fun e => c e.symm
        simp [eqV, c, c2]
  rw [e]
  by_cases c : n ∈ zs
  · simp [c]
  · simp [c]
theorem othr_at {H : Hp} {zs : List Str} : ∀ {ns : List Str} {ws : List Wv} {xs : List V}, ns.length = ws.length → RVs H ws xs → ∃ ys, (kz ns xs).filter (keepK zs) = kz (othr zs ns ws).1 ys ∧ RVs H (othr zs ns ws).2 ys ∧ (othr zs ns ws).1.length = (othr zs ns ws).2.length
  | [], [], xs, _, h => by
    have e : xs = [] := h
    rw [e]
    exact ⟨[], rfl, rfl, rfl⟩
  | [], w :: ws, xs, hl, h => nomatch hl
  | n :: ns, [], xs, hl, h => nomatch hl
  | n :: ns, w :: ws, xs, hl, h => by
    obtain ⟨x, ys, rfl, h1, h2⟩ := h
    obtain ⟨ys', e1, e2, e3⟩ := othr_at (zs := zs) (ns := ns) (Nat.succ.inj hl) h2
    show ∃ us, ((Sum.inr n, x) :: kz ns ys).filter (keepK zs) = _ ∧ _
    rw [List.filter_cons, keep_inr]
    by_cases c : n ∈ zs
    · have eo : othr zs (n :: ns) (w :: ws) = othr zs ns ws := by
        show (if n ∈ zs then _ else _) = _
        rw [if_pos c]
      rw [eo, if_neg (by simp [c])]
      exact ⟨ys', e1, e2, e3⟩
    · have eo : othr zs (n :: ns) (w :: ws) = (n :: (othr zs ns ws).1, w :: (othr zs ns ws).2) := by
        show (if n ∈ zs then _ else _) = _
        rw [if_neg c]
      rw [eo, if_pos (by simp [c]), e1]
      exact ⟨x :: ys', rfl, ⟨x, ys', rfl, h1, e2⟩, by show _ + 1 = _ + 1; rw [e3]⟩
theorem valV_no {l : List (Key × V)} {k : Key} (h : ∀ p ∈ l, p.1 ≠ k) : valV l k = none := by
  unfold valV
  rw [List.find?_eq_none.mpr fun p hp => by simpa using h p hp]
  rfl
theorem filt_no {ns : List Str} {ys : List V} {i : Nat} {n : Str} {f : Key × V → Bool} (nd : ns.Nodup) (h : ns[i]? = some n) : valV (((kz ns ys).take i).filter f) (Sum.inr n) = none := valV_no fun p hp e => by
  have hp := (List.mem_filter.mp hp).1
  obtain ⟨j, hj, ej⟩ := List.mem_iff_getElem.mp hp
  rw [List.length_take] at hj
  rw [List.getElem_take] at ej
  have e2 : (kz ns ys)[j]? = some (p.1, p.2) := by rw [List.getElem?_eq_getElem (by omega), ej]
  obtain ⟨m, hm, _, e3⟩ := kz_at e2
  rw [e3] at e
  cases Sum.inr.inj e
  exact absurd (nd_ix nd hm h) (by omega)
def valX (w : Wv) (rs : List Wv) : Pc → Option Xd
  | .at p => (wP w rs p).map wX
  | .items p n => match wP w rs p with
    | some (.row ws) => some (.lst ((wXs ws).drop n))
    | _ => none
  | .others p zs => match wP w rs p with
    | some (.rcd ns ws) => if ns.Nodup ∧ ns.length ≤ 1000 then some (.rcd (othr zs ns ws).1 (wXs (othr zs ns ws).2)) else none
    | _ => none
  | .known x => some (.leaf x)
  | .step => none
def Pc.lf : Pc → Prop
  | .known x => Leaf x
  | _ => True
def spGValue (K : PySem.W.Frag) (CG : Addr) (n : Nat) : Sp := fun vs H Q _ => ∃ (s : Addr) (v : V) (p : Pc) (w : Wv) (rs : List Wv) (x : Xd) (m : Nat), vs = [.ref s, v] ∧ GvAt CG s H w rs ∧ PcAt K H v p ∧ p.lf ∧ valX w rs p = some x ∧ m + 1 ≤ n ∧ FitX 1000 m x ∧
  ∀ u H' G, Same H H' → RO K H' x u G → (∀ a ∈ G, H a = none) → Q u H'
section
variable {P : Program} {w : World} {K : PySem.W.Frag} {mg : Str → Option Value} {base : Heap} {CG CE : Addr}
theorem cut_drop {xs : List V} {n : Nat} : cutV xs (some (n : Int)) none = xs.drop n := by
  unfold cutV
  rw [HT.sIx_none, HT.sIx_nat]
  by_cases c : n ≤ xs.length
  · rw [Nat.min_eq_left c, List.take_of_length_le (by rw [List.length_drop]; exact Nat.le_refl _)]
  · rw [Nat.min_eq_right (by omega), Nat.sub_self, List.drop_of_length_le (i := n) (by omega)]
    rfl
theorem scGv : FnScope ["self", "place", "found", "name"] ["self", "place"] (defScope sGValue) := ⟨rfl, rfl, rfl, by decide +kernel, rfl, by decide +kernel, by decide +kernel⟩
theorem ok_gvalue {f fF fR : Addr} {fd fdF fdR : FuncData} {n : Nat} (hn : n ≤ 40) (F : Fun K "value_at" "Given.value_at" sGValue f fd) (c : FCls K CG gN)
    (FF : Fun K "found_at" "Given.found_at" sGFound fF fdF) (GF : FnOk P w K mg base CX0 1 fF fdF ["self", "path"] (spGFound K CG)) (bF : L2.Binds K fdF ["self", "path"] []) (mF : Meth K CG "found_at" fF)
    (FR : Fun K "fresh" "fresh" sFresh fR fdR) (GR : FnOk P w K mg base CX0 n fR fdR ["thing"] (spCopyX K n)) (bR : L2.Binds K fdR ["thing"] []) (mR : mg "fresh" = some (.ref fR)) :
    FnOk P w K mg base CX0 (n + 1) f fd ["self", "place"] (spGValue K CG n) := by
  cases n with
  | zero =>
    refine ⟨fun vs H Q E x => ?_, fun A outer s H args us vs Q E _ _ _ _ x => ?_⟩
    · obtain ⟨_, _, _, _, _, _, m, _, _, _, _, _, z, _⟩ := x
      omega
    · obtain ⟨_, _, _, _, _, _, m, _, _, _, _, _, z, _⟩ := x
      omega
  | succ n =>
  refine F.ok scGv (fun vs H Q E h => ?_) (fun cdv A outer s H vs Q E hr h => ?_)
  · obtain ⟨x, v, p, w, rs, d, m, rfl, _⟩ := h
    rfl
  obtain ⟨x, v, p, w0, rs, d, m, rfl, hg, hp, hlf, hx, hm, hfit, kk⟩ := h
  have hr1 := hr.mono (show 1 ≤ n + 1 by omega)
  have hu1 : (A.deeper (envOfC "Given.value_at" (defScope sGValue) s.heap.objs.size f cdv)).units + 1 < cLine := by
    have := hr.units
    omega
  refine ⟨_, pss_cons (ps_if (pt_cmpR op_eq (pe_ix ix_tup (pv 1) pe_int (fun _ _ => rfl)) pe_str (nomark _)) (pss_one (ps_ret (pe_ix ix_tup (pv 1) pe_int (fun _ _ => rfl)))) pss_nil)
    (pss_cons (ps_set (i := 2) scGv.nd rfl (Or.inr rfl) (pe_meth (pv 0) c.cl mF GF hr1 bF .nil pass0 (pa_cons (pe_ix ix_tup (pv 1) pe_int (fun _ _ => rfl)) pa_nil)))
    (pss_cons (ps_if (pt_cmpR op_eq (pe_ix ix_tup (pv 1) pe_int (fun _ _ => rfl)) pe_str (nomark _)) (pss_one (ps_ret (pe_call GR hr rfl mR FR.kp bR .nil pass0 (pa_cons (pe_slice sl_list (pv 2) (po_some (pe_ix ix_tup (pv 1) pe_int (fun _ _ => rfl))) po_none) pa_nil)))) pss_nil)
    (pss_cons (ps_if (pt_cmpR op_eq (pe_ix ix_tup (pv 1) pe_int (fun _ _ => rfl)) pe_str (nomark _)) (pss_one (ps_ret (pe_call GR hr rfl mR FR.kp bR .nil pass0 (pa_cons
        (pe_lock (pe_dc (own := [("name", 3)]) (g := gName 3) (tt := tTest (tOp (rIn K true) (tVar 3) (tOp (rIxT K) (tVar 1) (tC (.int 2))))) (tk := tVar 3) (tv := tDGet (tVar 2) (tVar 3)) rfl scGv.nd (pi_keys (pv 2)) (blkOk_by (N := ["self", "place", "found", "name"]) (sc := defScope sGValue) (by decide +kernel)) (fun _ _ _ _ _ => pg_name (i := 3) scGv.nd rfl (Or.inl rfl))
          (fun _ _ _ _ _ => pts_one (pt_cmpR op_notIn_seq (pv 3) (pe_ix ix_tup (pv 1) pe_int (fun _ _ => rfl)) (by rfl))) (fun _ _ _ _ _ => pv 3) (fun _ _ _ _ _ => pe_dget hu1 (pv 2) (pv 3) (fun _ _ => rfl)))) pa_nil)))) pss_nil)
    (pss_one (ps_ret (pe_call GR hr rfl mR FR.kp bR .nil pass0 (pa_cons (pv 2) pa_nil))))))), ?_⟩
  have a0 : ∀ {s : String} {ys : List V}, atI (V.str (Str.ofString s) :: ys) 0 = some (.str (Str.ofString s)) := atI_nat (j := 0) rfl
  obtain ⟨dx, fs, vals, ra, xs0, hi, hF, hgr⟩ := id hg
  cases p with
  | step => cases hx
  | known y =>
    obtain ⟨a, rfl, ha⟩ := hp
    cases hx
    exact ⟨_, rfl, a, _, 0, _, rfl, rfl, ha, a0, rfl, _, rfl, ifT (decide_eq_true rfl) ⟨_, rfl, a, _, 1, _, rfl, rfl, ha, atI_nat (j := 1) rfl, kk _ H [] (Same.refl H) ⟨rfl, hlf, rfl⟩ fun _ z => nomatch z⟩⟩
  | «at» p =>
    obtain ⟨a, b, rfl, ha, hb⟩ := hp
    have hx : (wP w0 rs p).map wX = some d := hx
    cases q : wP w0 rs p with
    | none =>
      rw [q] at hx
      cases hx
    | some u =>
      rw [q] at hx
      cases hx
      refine ⟨_, rfl, a, _, 0, _, rfl, rfl, ha, a0, rfl, _, rfl, ifF (so_ne (s := "at") (t := "known") (by decide)) ?_⟩
      refine ⟨_, rfl, x, dx, fs, rfl, hi, hF.non _ (by decide +kernel), _, rfl, a, _, 1, _, rfl, rfl, ha, atI_nat (j := 1) rfl, x, b, p, w0, u, rs, rfl, hg, hb, q, fun y H1 hs1 hy => ?_⟩
      have ha1 := SqT.same ha hs1
      refine ⟨_, rfl, a, _, 0, _, rfl, rfl, ha1, a0, rfl, _, rfl, ifF (so_ne (s := "at") (t := "items") (by decide)) ?_⟩
      refine ⟨_, rfl, a, _, 0, _, rfl, rfl, ha1, a0, rfl, _, rfl, ifF (so_ne (s := "at") (t := "others") (by decide)) ?_⟩
      exact ⟨_, rfl, y, _, m, rfl, hm, hy.rx, hfit, fun u2 H2 G hs2 hr2 hG => kk u2 H2 G (hs1.trans hs2) hr2 fun b hb => hs1.free (hG b hb)⟩
  | items p j =>
    obtain ⟨a, b, rfl, ha, hb⟩ := hp
    have hx : (match wP w0 rs p with | some (.row ws) => some (Xd.lst ((wXs ws).drop j)) | _ => none) = some d := hx
    cases q : wP w0 rs p with
    | none =>
      rw [q] at hx
      cases hx
    | some u =>
      rw [q] at hx
      cases u with
      | non => cases hx
      | int i => cases hx
      | rcd ns ws => cases hx
      | row ws =>
        have hx : some (Xd.lst ((wXs ws).drop j)) = some d := hx
        cases hx
        refine ⟨_, rfl, a, _, 0, _, rfl, rfl, ha, a0, rfl, _, rfl, ifF (so_ne (s := "items") (t := "known") (by decide)) ?_⟩
        refine ⟨_, rfl, x, dx, fs, rfl, hi, hF.non _ (by decide +kernel), _, rfl, a, _, 1, _, rfl, rfl, ha, atI_nat (j := 1) rfl, x, b, p, w0, _, rs, rfl, hg, hb, q, fun y H1 hs1 hy => ?_⟩
        have ha1 := SqT.same ha hs1
        refine ⟨_, rfl, a, _, 0, _, rfl, rfl, ha1, a0, rfl, _, rfl, ifT (decide_eq_true rfl) ?_⟩
        obtain ⟨l, ys, rfl, hl, hr2⟩ := hy
        refine ⟨_, rfl, _, rfl, a, _, 2, _, rfl, rfl, ha1, atI_nat (j := 2) rfl, _, rfl, l, ys, rfl, SqL.of hl, fun t ht => ?_⟩
        rw [cut_drop]
        have st := same_new ht (.lst (ys.drop j))
        exact ⟨.ref t, .lst ((wXs ws).drop j), m, rfl, hm, ⟨t, _, rfl, upd_same, RXs.same st (RXs.drop j (RVs.rx hr2))⟩, hfit, fun u2 H2 G hs2 hr2 hG => kk u2 H2 G ((hs1.trans st).trans hs2) hr2 fun b hb => (hs1.trans st).free (hG b hb)⟩
  | others p zs =>
    obtain ⟨a, b, cz, rfl, ha, hb, hc⟩ := hp
    have hx : (match wP w0 rs p with | some (.rcd ns ws) => if ns.Nodup ∧ ns.length ≤ 1000 then some (Xd.rcd (othr zs ns ws).1 (wXs (othr zs ns ws).2)) else none | _ => none) = some d := hx
    cases q : wP w0 rs p with
    | none =>
      rw [q] at hx
      cases hx
    | some u =>
      rw [q] at hx
      cases u with
      | non => cases hx
      | int i => cases hx
      | row ws => cases hx
      | rcd ns ws =>
        have hx : (if ns.Nodup ∧ ns.length ≤ 1000 then some (Xd.rcd (othr zs ns ws).1 (wXs (othr zs ns ws).2)) else none) = some d := hx
        by_cases cN : ns.Nodup ∧ ns.length ≤ 1000
        rotate_left
        · rw [if_neg cN] at hx
          cases hx
        rw [if_pos cN] at hx
        cases hx
        obtain ⟨nd, hln⟩ := cN
        refine ⟨_, rfl, a, _, 0, _, rfl, rfl, ha, a0, rfl, _, rfl, ifF (so_ne (s := "others") (t := "known") (by decide)) ?_⟩
        refine ⟨_, rfl, x, dx, fs, rfl, hi, hF.non _ (by decide +kernel), _, rfl, a, _, 1, _, rfl, rfl, ha, atI_nat (j := 1) rfl, x, b, p, w0, _, rs, rfl, hg, hb, q, fun y H1 hs1 hy => ?_⟩
        have ha1 := SqT.same ha hs1
        have hc1 := SqT.same hc hs1
        refine ⟨_, rfl, a, _, 0, _, rfl, rfl, ha1, a0, rfl, _, rfl, ifF (so_ne (s := "others") (t := "items") (by decide)) ?_⟩
        refine ⟨_, rfl, a, _, 0, _, rfl, rfl, ha1, a0, rfl, _, rfl, ifT (decide_eq_true rfl) ?_⟩
        obtain ⟨l, ys, rfl, hl, hnl, hr2⟩ := hy
        have hyl := hr2.len
        obtain ⟨us, eu, hu, hul⟩ := othr_at (zs := zs) hnl hr2
        refine ⟨l, _, hl, trivial, fun od => ⟨_, rfl, l, od, rfl, .inl ⟨_, upd_same, fun D0 hD => ?_⟩⟩⟩
        have hb1 : ∀ b o, b ≠ l → H1 b = some o → (upd H1 l (.frz od (.dK (kz ns ys)))) b = some o := fun b o ne e => by
          rw [upd_ne ne]
          exact e
        have hl2 : (upd H1 l (.frz od (.dK (kz ns ys)))) l = some (.frz od (.dK (kz ns ys))) := upd_same
        have ha2 := ha1.st (TupSt.upd (o := .frz od (.dK (kz ns ys))) hl (fun _ z => nomatch z) (fun _ _ z => nomatch z))
        have hc2 := hc1.st (TupSt.upd (o := .frz od (.dK (kz ns ys))) hl (fun _ z => nomatch z) (fun _ _ z => nomatch z))
        generalize upd H1 l (.frz od (.dK (kz ns ys))) = H2 at hb1 hl2 hD ha2 hc2 ⊢
        refine dc_keys (d := l) (o := od) (ks := kz ns ys) (fun i H3 => Same H2 H3 ∧ H3 D0 = some (.dK (((kz ns ys).take i).filter (keepK zs)))) ⟨same_new hD _, upd_same⟩ (fun i H3 _ ⟨h, _⟩ => h _ _ hl2) ?_ ?_
        · rintro i k z H3 hi3 ⟨hs3, hD3⟩
          obtain ⟨nm, hnm, hz, rfl⟩ := kz_at hi3
          have et : (kz ns ys).take (i + 1) = (kz ns ys).take i ++ [(Sum.inr nm, z)] := by
            rw [List.take_add_one, hi3]
            rfl
          refine ⟨rfl, _, rfl, _, rfl, a, _, 2, _, rfl, rfl, SqT.same ha2 hs3, atI_nat (j := 2) rfl, cz, _, rfl, .inr (SqT.same hc2 hs3), rfl, ?_, _, rfl, ?_⟩
          · rw [List.all_map]
            exact List.all_eq_true.mpr fun _ _ => rfl
          by_cases ck : keepK zs (Sum.inr nm, z) = true
          · refine ifT ck ?_
            refine ⟨_, rfl, _, rfl, _, rfl, l, z, rfl, ?_, _, .inr nm, rfl, hD3, ?_, ?_, ?_⟩
            · exact .inl ⟨kz ns ys, .inr nm, .inr ⟨od, hs3 _ _ hl2⟩, rfl, (kz_some nd hnm hz).symm⟩
            · refine Nat.lt_of_le_of_lt (show _ ≤ 1000 from Nat.le_trans (List.length_filter_le _ _) ?_) (by decide)
              rw [List.length_take, kz_len (by omega)]
              omega
            · exact fun b o e => by
                rw [upd_ne (ne_of_none e hD)]
                exact hs3 _ _ e
            · rw [upd_same, et, List.filter_append]
              rw [show [((Sum.inr nm : Key), z)].filter (keepK zs) = [(Sum.inr nm, z)] by simp [ck]]
              rw [putK_new _ (filt_no nd hnm)]
          · refine ifF (Bool.eq_false_iff.mpr ck) ⟨hs3, ?_⟩
            rw [hD3, et, List.filter_append]
            rw [show [((Sum.inr nm : Key), z)].filter (keepK zs) = [] by simp [ck]]
            rw [List.append_nil]
        · rintro H3 ⟨hs3, hD3⟩
          rw [List.take_length, eu] at hD3
          have hl3 := hs3 _ _ hl2
          have s13 : Same H1 (upd H3 l (.dK (kz ns ys))) := fun b o e => by
            by_cases c : b = l
            · subst c
              rw [upd_same]
              exact hl.symm.trans e
            · rw [upd_ne c]
              exact hs3 _ _ (hb1 _ _ c e)
          have nDl : D0 ≠ l := fun z => by
            rw [z, hl2] at hD
            cases hD
          refine ⟨hl3, .ref D0, .rcd (othr zs ns ws).1 (wXs (othr zs ns ws).2), m, rfl, hm, ⟨D0, us, rfl, ?_, by rw [wXs_len]; exact hul, RXs.same s13 (RVs.rx hu)⟩, hfit, fun u2 H4 G hs4 hr4 hG => kk u2 H4 G ((hs1.trans s13).trans hs4) hr4 fun b hb => (hs1.trans s13).free (hG b hb)⟩
          rw [upd_ne nDl]
          exact hD3
end
end K02
set_option Elab.async false
set_option linter.all false
set_option maxRecDepth 100000
set_option maxHeartbeats 4000000
namespace K02
open PySem L2 PyProof.Rows
/-! ### an outcome with the values themselves -/
mutual
def dX : D → Xd
  | .leaf v => .leaf v
  | .lst ds => .lst (dXs ds)
  | .tup ds => .tup (dXs ds)
def dXs : List D → List Xd
  | [] => []
  | d :: ds => dX d :: dXs ds
end
mutual
theorem RW.rx {K : PySem.W.Frag} {H : Hp} : ∀ {d : D} {v : V}, RW H d v → RX K H (dX d) v
  | .leaf w, u, h => h
  | .lst ds, u, h => by
    obtain ⟨a, xs, e, ha, hr⟩ := h
    exact ⟨a, xs, e, ha, RWs.rx hr⟩
  | .tup ds, u, h => by
    obtain ⟨a, xs, e, ha, hr⟩ := h
    exact ⟨a, xs, e, SqT.of ha, RWs.rx hr⟩
theorem RWs.rx {K : PySem.W.Frag} {H : Hp} : ∀ {ds : List D} {xs : List V}, RWs H ds xs → RXs K H (dXs ds) xs
  | [], xs, h => h
  | d :: ds, xs, h => by
    obtain ⟨x, ys, e, h1, h2⟩ := h
    exact ⟨x, ys, e, RW.rx h1, RWs.rx h2⟩
end
def SX (s : String) : Xd := .leaf (.str (Str.ofString s))
def whyX : Why → Xd
  | .kind => SX "kind"
  | .cases => SX "cases"
  | .miss k => .tup [SX (missS k), .leaf k.v]
  | .unb z => .tup [SX "unbound", .leaf (.str z)]
theorem rx_leaf {K : PySem.W.Frag} {H : Hp} {v : V} (h : Leaf v) : RX K H (.leaf v) v := ⟨rfl, h⟩
theorem rx_str {K : PySem.W.Frag} {H : Hp} {s : Str} : RX K H (.leaf (.str s)) (.str s) := ⟨rfl, lf_str⟩
theorem rx_tup2 {K : PySem.W.Frag} {H : Hp} {a : Addr} {x y : V} {d e : Xd} (h : SqT K H a [x, y]) (h1 : RX K H d x) (h2 : RX K H e y) : RX K H (.tup [d, e]) (.ref a) := ⟨a, _, rfl, h, _, _, rfl, h1, _, _, rfl, h2, rfl⟩
theorem rx_tup3 {K : PySem.W.Frag} {H : Hp} {a : Addr} {x y z : V} {d e f : Xd} (h : SqT K H a [x, y, z]) (h1 : RX K H d x) (h2 : RX K H e y) (h3 : RX K H f z) : RX K H (.tup [d, e, f]) (.ref a) := ⟨a, _, rfl, h, _, _, rfl, h1, _, _, rfl, h2, _, _, rfl, h3, rfl⟩
theorem WhyAt.rx {K : PySem.W.Frag} {H : Hp} {x : V} {y : Why} (h : WhyAt K H x y) : RX K H (whyX y) x := by
  cases y with
  | kind =>
    obtain rfl : x = _ := h
    exact rx_str
  | cases =>
    obtain rfl : x = _ := h
    exact rx_str
  | miss k =>
    obtain ⟨b, rfl, hb⟩ := h
    exact rx_tup2 hb rx_str (rx_leaf (ky_lf k))
  | unb z =>
    obtain ⟨b, rfl, hb⟩ := h
    exact rx_tup2 hb rx_str rx_str
theorem ToldAt.rx {K : PySem.W.Frag} {H : Hp} {v : V} {p : Pc} (h : ToldAt K H v p) (hl : p.lf) : RX K H (dX (toldD p)) v := by
  unfold ToldAt at h
  cases p with
  | «at» p => exact RW.rx (show RW H (toldD (.at p)) v from h)
  | items p n => exact RW.rx (show RW H (toldD (.items p n)) v from h)
  | others p zs => exact RW.rx (show RW H (toldD (.others p zs)) v from h)
  | known x =>
    have h : PcAt K H v (.known x) := h
    obtain ⟨a, rfl, ha⟩ := h
    exact rx_tup2 ha rx_str (rx_leaf hl)
  | step =>
    have h : PcAt K H v .step := h
    obtain ⟨a, rfl, ha⟩ := h
    exact ⟨a, _, rfl, ha, _, _, rfl, rx_str, rfl⟩
def vD (w : Wv) (rs : List Wv) (p : Pc) : Xd := (valX w rs p).getD (.leaf .non)
def prX (w : Wv) (rs : List Wv) (q : Str × Pc) : Xd := .tup [.leaf (.str q.1), vD w rs q.2]
def mdX (w : Wv) (rs : List Wv) (m : Str × List Pc) : Xd := .tup [.leaf (.str m.1), .lst (m.2.map (vD w rs))]
def endX (w : Wv) (rs : List Wv) : EndM → Xd
  | .bound ps => .tup [SX "bound", .lst (ps.map (prX w rs))]
  | .failed p y => .tup [SX "failed", dX (toldD p), whyX y]
def ocX (w : Wv) (rs : List Wv) (ms : List (Str × List Pc)) (e : EndM) : Xd := .tup [.lst (ms.map (mdX w rs)), endX w rs e]
/-- a place that has a value, not too deep -/
def okV (w : Wv) (rs : List Wv) (n : Nat) (p : Pc) : Prop := ∃ x m, valX w rs p = some x ∧ p.lf ∧ m + 1 ≤ n ∧ FitX 1000 m x
def okEnd (w : Wv) (rs : List Wv) (n : Nat) : EndM → Prop
  | .bound ps => ps.length ≤ 1000 ∧ ∀ q ∈ ps, okV w rs n q.2
  | .failed p _ => p.lf
theorem okV.vD {w : Wv} {rs : List Wv} {n : Nat} {p : Pc} (h : okV w rs n p) : ∃ m, valX w rs p = some (vD w rs p) ∧ p.lf ∧ m + 1 ≤ n ∧ FitX 1000 m (vD w rs p) := by
  obtain ⟨x, m, h1, h2, h3, h4⟩ := h
  have e : K02.vD w rs p = x := by
    unfold K02.vD
    rw [h1]
    rfl
  rw [e]
  exact ⟨m, h1, h2, h3, h4⟩
def spWithEach (K : PySem.W.Frag) (CG g : Addr) (n : Nat) : Sp := fun vs H Q _ => ∃ (s q : Addr) (u : V) (w : Wv) (rs : List Wv) (ms : List (Str × List Pc)) (e : EndM), vs = [u, .ref q] ∧ OcAt K H u ms e ∧ H q = some (.met g s) ∧ GvAt CG s H w rs ∧
  ms.length ≤ 1000 ∧ (∀ m ∈ ms, m.2.length ≤ 1000 ∧ ∀ p ∈ m.2, okV w rs n p) ∧ okEnd w rs n e ∧
  ∀ u' H', Same H H' → RX K H' (ocX w rs ms e) u' → (∀ ps, e = .bound ps → ∃ G, RO K H' (ocX w rs ms e) u' G ∧ ∀ a ∈ G, H a = none) → Q u' H'
theorem paired_at {α β : Type} {R : α → β → Prop} {l₁ : List α} {l₂ : List β} (h : Paired R l₁ l₂) {i : Nat} {a : α} (e : l₁[i]? = some a) : ∃ b, l₂[i]? = some b ∧ R a b := paired_get h e
theorem ro_tup2 {K : PySem.W.Frag} {H : Hp} {a : Addr} {x y : V} {d e : Xd} {F G : List Addr} (h : SqT K H a [x, y]) (h1 : RO K H d x F) (h2 : RO K H e y G) (n : ∀ b ∈ F, b ∉ G) : RO K H (.tup [d, e]) (.ref a) (F ++ G) :=
  ⟨a, _, rfl, h, x, [y], F, G, rfl, h1, ⟨y, [], G, [], rfl, h2, ⟨rfl, rfl⟩, (fun _ _ z => nomatch z), (List.append_nil G).symm⟩, n, rfl⟩
theorem ro_leaf {K : PySem.W.Frag} {H : Hp} {s : Str} : RO K H (.leaf (.str s)) (.str s) [] := ⟨rfl, lf_str, rfl⟩
theorem ro_lst {K : PySem.W.Frag} {H : Hp} {a : Addr} {xs : List V} {ds : List Xd} {G : List Addr} (h : H a = some (.lst xs)) (r : ROs K H ds xs G) (n : a ∉ G) : RO K H (.lst ds) (.ref a) (a :: G) := ⟨a, xs, G, rfl, h, r, n, rfl⟩
section
variable {P : Program} {w : World} {K : PySem.W.Frag} {mg : Str → Option Value} {base : Heap} {CG : Addr}
abbrev scopeW : Scope := { kind := .function, names := [(".0", .local), ("name", .local), ("places", .local), ("change", .cell)], isGenerator := false, isCoroutine := false }
theorem scWi : FnScope ["outcome", "change", "calls", "end", "changed", "name", "places", "place"] ["outcome", "change"] (defScope sWithEach) := ⟨rfl, rfl, rfl, by decide +kernel, rfl, by decide +kernel, by decide +kernel⟩
theorem ok_with {f g : Addr} {fd gd : FuncData} {n : Nat} (F : Fun K "with_each_place" "with_each_place" sWithEach f fd)
    (FG : Fun K "value_at" "Given.value_at" sGValue g gd) (GG : FnOk P w K mg base CX0 (n + 1) g gd ["self", "place"] (spGValue K CG n)) (bG : L2.Binds K gd ["self", "place"] []) (fi : PySem.W.fnIn K g = true) :
    FnOk P w K mg base CX0 (n + 2) f fd ["outcome", "change"] (spWithEach K CG g n) := by
  have GR : FnR P w K mg base CX0 (n + 1) g (spGValue K CG n) := (FnOk.raw GG bG .nil).imp fun vs H Q E h => by
    rw [List.append_nil]
    exact h
  refine F.ok scWi (fun vs H Q E h => ?_) (fun cdv A outer s H vs Q E hr h => ?_)
  · obtain ⟨s, q, u, w, rs, ms, e, rfl, _⟩ := h
    rfl
  obtain ⟨sg, q, u, w0, rs, ms, e, rfl, ⟨a, l, xs, v, rfl, ha, hl, hms, he⟩, hq, hg, hml, hmo, heo, kk⟩ := h
  refine ⟨_, pss_cons (ps_asg (pv 0) (pg_tup rfl (pgs_cons (pg_name (i := 2) scWi.nd rfl (Or.inl rfl)) (pgs_cons (pg_name (i := 3) scWi.nd rfl (Or.inl rfl)) pgs_nil))))
    (pss_cons (ps_setLc (i := 4) (own := [("name", 5), ("places", 6)]) (g := gTup K 2 (gCons (gName 5) (gCons (gName 6) gNil))) (tt := tYes) (te := tTup (tCons (tVar 5) (tCons (tLc (iTup K (tVar 6)) (gName 7) tYes (tCallM 1 g (spGValue K CG n) E0 (tCons (tVar 7) tNil)) [7]) tNil))) rfl scWi.nd rfl rfl (sw_true rfl rfl rfl (by decide +kernel)) (pi_list (pv 2)) (blkOk_by (N := ["outcome", "change", "calls", "end", "changed", "name", "places", "place"]) (sc := defScope sWithEach) (by decide +kernel))
        (fun _ _ _ _ _ => pg_tup rfl (pgs_cons (pg_name (i := 5) scWi.nd rfl (Or.inl rfl) (Or.inr rfl)) (pgs_cons (pg_name (i := 6) scWi.nd rfl (Or.inl rfl) (Or.inr rfl)) pgs_nil))) (fun _ _ _ _ _ => pts_nil)
        (fun _ _ _ _ _ => pe_tup (pa_cons (pv 5) (pa_cons (pe_lc (own := [("place", 7)]) (g := gName 7) (tt := tYes) rfl scWi.nd (pi_tup (pv 6)) (blkOk_by (N := ["outcome", "change", "calls", "end", "changed", "name", "places", "place"]) (sc := scopeW) (by decide +kernel)) (fun _ _ _ _ _ => pg_name (i := 7) scWi.nd rfl (Or.inl rfl)) (fun _ _ _ _ _ => pts_nil)
          (fun _ _ _ _ _ => pe_callM (i := 1) GR fi hr rfl (Or.inr (Or.inl rfl)) pass0 (pa_cons (pv 7) pa_nil))) pa_nil))))
    (pss_cons (ps_if (pt_cmpR op_eq (pe_ix ix_tup (pv 3) pe_int (fun _ _ => rfl)) pe_str (nomark _)) (pss_one (ps_ret (pe_tup (pa_cons (pv 4) (pa_cons (pv 3) pa_nil))))) pss_nil)
    (pss_one (ps_ret (pe_tup (pa_cons (pv 4) (pa_cons (pe_tup (pa_cons pe_str (pa_cons
      (pe_lc (own := [("name", 5), ("place", 7)]) (g := gTup K 2 (gCons (gName 5) (gCons (gName 7) gNil))) (tt := tYes) (te := tTup (tCons (tVar 5) (tCons (tCallM 1 g (spGValue K CG n) E0 (tCons (tVar 7) tNil)) tNil))) rfl scWi.nd (pi_list (pe_ix ix_tup (pv 3) pe_int (fun _ _ => rfl))) (blkOk_by (N := ["outcome", "change", "calls", "end", "changed", "name", "places", "place"]) (sc := defScope sWithEach) (by decide +kernel))
        (fun _ _ _ _ _ => pg_tup rfl (pgs_cons (pg_name (i := 5) scWi.nd rfl (Or.inl rfl) (Or.inr rfl)) (pgs_cons (pg_name (i := 7) scWi.nd rfl (Or.inl rfl) (Or.inr rfl)) pgs_nil))) (fun _ _ _ _ _ => pts_nil)
        (fun _ _ _ _ _ => pe_tup (pa_cons (pv 5) (pa_cons (pe_callM (i := 1) GR fi hr rfl (Or.inr (Or.inl rfl)) pass0 (pa_cons (pv 7) pa_nil)) pa_nil)))) pa_nil))) pa_nil))))))), ?_⟩
  have nomk : ∀ (i : Nat) (ys : List V), (∀ {xs}, HO.lst ys ≠ .tup xs) ∧ ∀ {q xs}, HO.lst ys ≠ .frz q (.tup xs) := fun _ _ => ⟨(fun z => nomatch z), (fun z => nomatch z)⟩
  have a0 : ∀ {s : String} {ys : List V}, atI (V.str (Str.ofString s) :: ys) 0 = some (.str (Str.ofString s)) := atI_nat (j := 0) rfl
  refine ⟨_, rfl, a, _, rfl, SqT.of ha, rfl, _, _, rfl, _, _, rfl, rfl, ?_⟩
  refine ⟨_, rfl, l, rfl, ⟨_, SqL.of hl⟩, fun D0 hD => ?_⟩
  refine lc_list (K := K) (a := l) (xs := xs) (CpI K H D0 (fun _ ys => .lst ys) (ms.map (mdX w0 rs))) (CpI.zero (K := K) (mk := fun _ ys => .lst ys) hD) (fun i H2 _ ⟨_, _, h, _⟩ => SqL.of (h _ _ hl)) ?_ ?_
  · rintro i x H2 hi hC
    have hs2 := hC.choose_spec.choose_spec.1
    obtain ⟨m, hm, am, bm, vs, rfl, h1, h2, h3⟩ := paired_at hms hi
    obtain ⟨hm1, hm2⟩ := hmo m (List.mem_of_getElem? hm)
    have hem : (ms.map (mdX w0 rs))[i]? = some (mdX w0 rs m) := by
      rw [List.getElem?_map, hm]
      rfl
    refine ⟨am, _, rfl, SqT.same h1 hs2, rfl, _, _, rfl, _, _, rfl, rfl, rfl, ?_⟩
    refine ⟨_, rfl, _, rfl, bm, rfl, ⟨_, SqT.same h2 hs2⟩, fun D1 hD1 => ?_⟩
    refine lc_tup (K := K) (a := bm) (xs := vs) (CpI K H2 D1 (fun _ ys => .lst ys) (m.2.map (vD w0 rs))) (CpI.zero (K := K) (mk := fun _ ys => .lst ys) hD1) (fun i H3 _ ⟨_, _, h, _⟩ => SqT.same (SqT.same h2 hs2) h) ?_ ?_
    · rintro j y H3 hj hC3
      have hs3 := hC3.choose_spec.choose_spec.1
      obtain ⟨p, hp, hpa⟩ := paired_at h3 hj
      obtain ⟨k, v1, v2, v3, v4⟩ := (hm2 p (List.mem_of_getElem? hp)).vD
      have hep : (m.2.map (vD w0 rs))[j]? = some (vD w0 rs p) := by
        rw [List.getElem?_map, hp]
        rfl
      refine ⟨rfl, q, sg, rfl, _, rfl, (hs2.trans hs3) _ _ hq, sg, y, p, w0, rs, vD w0 rs p, k, rfl, hg.same (hs2.trans hs3), hpa.same (hs2.trans hs3), v2, v1, v3, v4, fun u4 H4 G4 hs4 hr4 hG4 => ?_⟩
      obtain ⟨ys, hD4, hyl, hn⟩ := hC3.step nomk hep hD1 hs4 hr4 hG4
      have hjl := (List.getElem?_eq_some_iff.mp hp).1
      exact ⟨ys, hD4, Nat.lt_of_le_of_lt (show ys.length ≤ 1000 by omega) (by decide), hn⟩
    · rintro H3 ⟨ys, G1, hs3, hD3, hr3, hG1⟩
      rw [show vs.length = (m.2.map (vD w0 rs)).length by rw [List.length_map]; exact h3.length, List.take_length] at hr3
      refine ⟨by show 2 ≤ sizeLine; decide, fun t ht => ?_⟩
      have s4 := same_new ht (.tup [V.str m.1, .ref D1])
      have hro : RO K (upd H3 t (.tup [V.str m.1, .ref D1])) (mdX w0 rs m) (.ref t) ([] ++ (D1 :: G1)) := ro_tup2 (SqT.of upd_same) ro_leaf (ro_lst (s4 _ _ hD3) (hr3.same s4) fun z => (hG1 _ z).2 rfl) fun _ z => nomatch z
      obtain ⟨ys0, hD4, hyl, hn⟩ := hC.step nomk hem hD (hs3.trans s4) hro fun b hb => by
        rcases List.mem_cons.mp hb with z | z
        · exact z ▸ hD1
        · exact (hG1 b z).1
      have hil := (List.getElem?_eq_some_iff.mp hm).1
      exact ⟨ys0, hD4, Nat.lt_of_le_of_lt (show ys0.length ≤ 1000 by omega) (by decide), hn⟩
  rintro H2 ⟨ys, G, hs2, hD2, hr2, hG⟩
  rw [show xs.length = (ms.map (mdX w0 rs)).length by rw [List.length_map]; exact hms.length, List.take_length] at hr2
  have nDG : D0 ∉ G := fun z => (hG _ z).2 rfl
  cases e with
  | failed p y =>
    obtain ⟨b, tv, x, rfl, hb, htold, hwhy⟩ := he
    refine ⟨_, rfl, b, _, 0, _, rfl, rfl, SqT.of (hs2 _ _ hb), a0, rfl, _, rfl, ifT (decide_eq_true rfl) ⟨_, rfl, _, rfl, by show 2 ≤ sizeLine; decide, fun t ht => ?_⟩⟩
    have s3 := same_new ht (.tup [V.ref D0, .ref b])
    have s13 := hs2.trans s3
    refine kk _ _ s13 (rx_tup2 (SqT.of upd_same) ⟨D0, ys, rfl, s3 _ _ hD2, RXs.same s3 (ROs.rx hr2)⟩ (rx_tup3 (SqT.of (s13 _ _ hb)) rx_str (RX.same s13 (ToldAt.rx htold heo)) (RX.same s13 (WhyAt.rx hwhy)))) fun ps z => nomatch z
  | bound ps =>
    obtain ⟨b, l2, xs2, rfl, hb, hl2, hps⟩ := he
    obtain ⟨hpl, hpo⟩ := heo
    have hb2 := hs2 _ _ hb
    have hl22 := hs2 _ _ hl2
    refine ⟨_, rfl, b, _, 0, _, rfl, rfl, SqT.of hb2, a0, rfl, _, rfl, ifF (so_ne (s := "bound") (t := "failed") (by decide)) ?_⟩
    refine ⟨_, rfl, _, rfl, b, _, 1, _, rfl, rfl, SqT.of hb2, atI_nat (j := 1) rfl, l2, rfl, ⟨_, SqL.of hl22⟩, fun D3 hD3 => ?_⟩
    refine lc_list (K := K) (a := l2) (xs := xs2) (CpI K H2 D3 (fun _ ys => .lst ys) (ps.map (prX w0 rs))) (CpI.zero (K := K) (mk := fun _ ys => .lst ys) hD3) (fun i H3 _ ⟨_, _, h, _⟩ => SqL.of (h _ _ hl22)) ?_ ?_
    · rintro i x H3 hi hC
      have hs3 := hC.choose_spec.choose_spec.1
      have hs03 := hs2.trans hs3
      obtain ⟨pr, hpr, tp, xp, rfl, h1, h2⟩ := paired_at hps hi
      obtain ⟨k, v1, v2, v3, v4⟩ := (hpo pr (List.mem_of_getElem? hpr)).vD
      have hep : (ps.map (prX w0 rs))[i]? = some (prX w0 rs pr) := by
        rw [List.getElem?_map, hpr]
        rfl
      refine ⟨tp, _, rfl, SqT.same h1 hs03, rfl, _, _, rfl, _, _, rfl, rfl, rfl, ?_⟩
      refine ⟨_, rfl, q, sg, rfl, _, rfl, hs03 _ _ hq, sg, xp, pr.2, w0, rs, vD w0 rs pr.2, k, rfl, hg.same hs03, h2.same hs03, v2, v1, v3, v4, fun u4 H4 G4 hs4 hr4 hG4 => ⟨by show 2 ≤ sizeLine; decide, fun t ht => ?_⟩⟩
      have s5 := same_new ht (.tup [V.str pr.1, u4])
      have hro : RO K (upd H4 t (.tup [V.str pr.1, u4])) (prX w0 rs pr) (.ref t) ([] ++ G4) := ro_tup2 (SqT.of upd_same) ro_leaf (hr4.same s5) fun _ z => nomatch z
      obtain ⟨ys0, hD4, hyl, hn⟩ := hC.step nomk hep hD3 (hs4.trans s5) hro hG4
      have hil := (List.getElem?_eq_some_iff.mp hpr).1
      exact ⟨ys0, hD4, Nat.lt_of_le_of_lt (show ys0.length ≤ 1000 by omega) (by decide), hn⟩
    · rintro H3 ⟨zs, G3, hs3, hD33, hr3, hG3⟩
      rw [show xs2.length = (ps.map (prX w0 rs)).length by rw [List.length_map]; exact hps.length, List.take_length] at hr3
      refine ⟨by show 2 ≤ sizeLine; decide, fun t1 ht1 => ⟨by show 2 ≤ sizeLine; decide, fun t2 ht2 => ?_⟩⟩
      have s4 := same_new ht1 (.tup [V.str (Str.ofString "bound"), .ref D3])
      have s5 := same_new ht2 (.tup [V.ref D0, .ref t1])
      have s25 := (hs3.trans s4).trans s5
      have s35 := s4.trans s5
      have hro := ro_tup2 (K := K) (H := upd (upd H3 t1 (.tup [V.str (Str.ofString "bound"), .ref D3])) t2 (.tup [V.ref D0, .ref t1])) (SqT.of upd_same) (ro_lst (s25 _ _ hD2) (hr2.same s25) nDG)
        (ro_tup2 (SqT.of (s5 _ _ upd_same)) (ro_leaf (s := Str.ofString "bound")) (ro_lst (s35 _ _ hD33) (hr3.same s35) fun z => (hG3 _ z).2 rfl) fun _ z => nomatch z) fun c hc z => by
          have new : H2 c = none := by
            rcases List.mem_cons.mp z with z | z
            · exact z ▸ hD3
            · exact (hG3 c z).1
          rcases List.mem_cons.mp hc with y | y
          · rw [y, hD2] at new
            cases new
          · obtain ⟨o, ho, _⟩ := hr2.at_ c y
            rw [ho] at new
            cases new
      refine kk _ _ (hs2.trans s25) (RO.rx hro) fun _ e => ⟨_, hro, fun c hc => ?_⟩
      rcases List.mem_append.mp hc with z | z
      · rcases List.mem_cons.mp z with z | z
        · exact z ▸ hD
        · exact (hG c z).1
      · refine hs2.free ?_
        rcases List.mem_cons.mp z with z | z
        · exact z ▸ hD3
        · exact (hG3 c z).1
end
end K02
set_option Elab.async false
set_option linter.all false
set_option maxRecDepth 100000
set_option maxHeartbeats 4000000
namespace K02
open PySem L2 PyProof.Rows
theorem pt_never {X : Cx} {e : Expr} : PT X e (fun _ _ _ => False) := ⟨fun _ _ _ _ _ _ h => h.elim⟩
theorem pw_never {X : Cx} {e : Expr} : PW X e (fun _ _ _ => False) := ⟨fun _ _ _ _ _ _ _ h => h.elim⟩
/-- a term of at most so many levels -/
def TmOk : Nat → D → Prop
  | 0, _ => False
  | n + 1, d => (∃ i, d = .tup [S "number", .leaf (.int i)]) ∨ (∃ z, okName z ∧ d = .tup [S "read", .leaf (.str z)]) ∨ ∃ z ts, okName z ∧ d = .tup [S "call", .leaf (.str z), .lst ts] ∧ ts.length ≤ 3 ∧ ∀ t ∈ ts, TmOk n t
theorem TmOk.succ : ∀ {n : Nat} {d : D}, TmOk n d → TmOk (n + 1) d
  | 0, _, h => h.elim
  | n + 1, d, h => by
    rcases h with h | h | ⟨z, ts, hz, e, hl, ht⟩
    · exact .inl h
    · exact .inr (.inl h)
    · exact .inr (.inr ⟨z, ts, hz, e, hl, fun t m => (ht t m).succ⟩)
theorem TmOk.le {n m : Nat} {d : D} (h : TmOk n d) (hm : n ≤ m) : TmOk m d := by
  induction hm with
  | refl => exact h
  | step _ ih => exact ih.succ
theorem leaf_str {z : Str} : Leaf (.str z) := .inr (.inr (.inr ⟨z, rfl⟩))
theorem leaf_int {i : Int} : Leaf (.int i) := .inr (.inr (.inl ⟨i, rfl⟩))
theorem leaf_non : Leaf .non := .inl rfl
theorem rep_leaf {H : Hp} {v : V} (h : Leaf v) : Rep H (.leaf v) v [] := ⟨rfl, h, rfl⟩
theorem reps_nil {H : Hp} : Reps H [] [] [] := ⟨rfl, rfl⟩
theorem reps_leaf {H : Hp} {v : V} {ds : List D} {xs : List V} {F : List Addr} (h : Leaf v) (r : Reps H ds xs F) : Reps H (.leaf v :: ds) (v :: xs) F := ⟨v, xs, [], F, rfl, rep_leaf h, r, (fun _ z => nomatch z), rfl⟩
theorem rep_tup {H : Hp} {a : Addr} {ds : List D} {xs : List V} {F : List Addr} (h : H a = some (.tup xs)) (r : Reps H ds xs F) : Rep H (.tup ds) (.ref a) F := ⟨a, xs, rfl, h, r⟩
theorem rep_lst {H : Hp} {a : Addr} {ds : List D} {xs : List V} {F : List Addr} (h : H a = some (.lst xs)) (r : Reps H ds xs F) (n : a ∉ F) : Rep H (.lst ds) (.ref a) (a :: F) := ⟨a, xs, F, rfl, h, r, n, rfl⟩
theorem reps_one {H : Hp} {d : D} {v : V} {F : List Addr} (h : Rep H d v F) : Reps H [d] [v] F := ⟨v, [], F, [], rfl, h, reps_nil, (fun _ _ z => nomatch z), (List.append_nil F).symm⟩
theorem reps_cons {H : Hp} {d : D} {v : V} {ds : List D} {xs : List V} {F G : List Addr} (h : Rep H d v F) (r : Reps H ds xs G) (n : ∀ a ∈ F, a ∉ G) : Reps H (d :: ds) (v :: xs) (F ++ G) := ⟨v, xs, F, G, rfl, h, r, n, rfl⟩
/-! ### parts, apart from the heap -/
def kid (e : D) : D := e.its.getD (e.its.length - 2) (.leaf .non)
def kids : D → List D
  | .tup [_, .lst es, _] => es.map kid
  | _ => []
def own : D → List Str
  | .tup [_, .leaf (.str z)] => [z]
  | .tup [_, .lst _, .leaf (.str z)] => [z]
  | _ => []
/-- the parts within, ahead of each other as in the text -/
def pre : Nat → D → List D
  | 0, _ => []
  | n + 1, d => d :: (kids d).flatMap (pre n)
def Opt (r : D) : Prop := r = .leaf .non ∨ ∃ z, okName z ∧ r = .leaf (.str z)
def Df (d : D) : Prop := d = .leaf .non ∨ TmOk 5 d
/-- an item, or a field, with what it takes and what it takes else -/
def ent (row : Bool) (q : Str × D × D) : D := if row = true then .tup [q.2.1, q.2.2] else .tup [.leaf (.str q.1), q.2.1, q.2.2]
theorem kid_ent {row : Bool} {q : Str × D × D} : kid (ent row q) = q.2.1 := by cases row <;> rfl
def PtOk : Nat → D → Prop
  | 0, _ => False
  | n + 1, d => d = .tup [S "any"] ∨ (∃ z, okName z ∧ d = .tup [S "name", .leaf (.str z)]) ∨
    ∃ (row : Bool) (qs : List (Str × D × D)) (r : D), d = .tup [S (if row = true then "row" else "record"), .lst (qs.map (ent row)), r] ∧ Opt r ∧ qs.length ≤ 25 ∧ (∀ q ∈ qs, PtOk n q.2.1 ∧ Df q.2.2) ∧ (row = false → (qs.map (·.1)).Nodup ∧ ∀ q ∈ qs, okName q.1)
theorem PtOk.succ : ∀ {n : Nat} {d : D}, PtOk n d → PtOk (n + 1) d
  | 0, _, h => h.elim
  | n + 1, d, h => by
    rcases h with h | h | ⟨row, qs, r, e, hr, hl, hq, hf⟩
    · exact .inl h
    · exact .inr (.inl h)
    · exact .inr (.inr ⟨row, qs, r, e, hr, hl, fun q m => ⟨(hq q m).1.succ, (hq q m).2⟩, hf⟩)
theorem kids_ent {s r : D} {row : Bool} {qs : List (Str × D × D)} : kids (.tup [s, .lst (qs.map (ent row)), r]) = qs.map fun q => q.2.1 := by
  show (qs.map (ent row)).map kid = _
  rw [List.map_map]
  exact List.map_congr_left fun q _ => kid_ent
def okOrd (z : Str) : Prop := z = Str.ofString "soon" ∨ z = Str.ofString "late"
def okLck (z : Str) : Prop := z = Str.ofString "absent" ∨ z = Str.ofString "nothing"
theorem PtOk.le {n m : Nat} {d : D} (h : PtOk n d) (hm : n ≤ m) : PtOk m d := by
  induction hm with
  | refl => exact h
  | step _ ih => exact ih.succ
end K02
set_option Elab.async false
set_option linter.all false
set_option maxRecDepth 100000
set_option maxHeartbeats 4000000
namespace K02
open PySem L2 PyProof.Rows
/-! ### a module's dict: what stands at a text -/
section
variable {X : Cx} {d : Addr} {es : Array DictEntry} {n : Nat} {o e : Expr} {td ty : TE} {apos cpos : Pos}
def tKGet (K : PySem.W.Frag) (d : Addr) (td ty : TE) : TE := fun σ H Q => td σ H fun x H1 => x = .ref d ∧ ty σ H1 fun y H2 => ∃ (z : Str) (u0 : Value) (v0 : V), y = .str z ∧ PySem.W.nsIn K d z = some (some u0) ∧ RelV v0 u0 ∧ Q v0 H2
theorem pe_kget (D : KDict X.K X.w d es n) (ho : PE X o td) (he : PE X e ty) (m : M1 X o "get" apos e cpos) : PE X (.Call (.Attribute o "get" apos) [e] [] cpos) (tKGet X.K d td ty) := by
  refine ⟨fun pins s σ H Q I h => ?_⟩
  refine wpAny_Call_method m.base m.few m.line PySem.F.plainAttrs_dict PySem.F.slot_dict_get PySem.F.type_dict_get (thn (ho.run pins s σ H _ I h) fun u s1 ⟨x, H1, I1, rx, ex, q1⟩ => ?_)
  subst ex
  obtain rfl : u = Value.ref d := rx
  refine ⟨kd_type D I1, fun a ea => ?_, ?_⟩
  · cases ea
    exact ⟨_, I1.kIn _ _ D.at_, rfl⟩
  rw [m.trees]
  refine Calls.callWith_builtin rfl (Calls.evalArgs_plain (Calls.spliced_cons (thn (he.run pins s1 σ H1 _ I1 q1) fun iv s2 ⟨y, H2, I2, ry, z, u0, v0, ey, hz, r0, q2⟩ => Calls.spliced_nil ?_)))
  subst ey
  obtain ⟨t, rfl⟩ := ry
  have hm := PySem.W.mapOf_K (prog := X.prog) I2.kIn D.at_ D.lit
  refine call_meetsIn PySem.F.slot_dict_get (kd_type D I2) PySem.F.entry_dict_get (PySem.F.args_dict_get_2 _ _) (meets_dict_get (PySem.strKind X.prog X.w) d (PySem.strKind_is X.prog X.w z t) D.low) ⟨_, hm, ?_⟩
  rw [PySem.W.find_K D.at_ hz]
  exact ⟨v0, H2, I2.tok _, r0, q2⟩
end
/-- a module's dict of texts to numbers -/
structure Tab (K : PySem.W.Frag) (w : World) (d : Addr) (xs : List (String × Int)) : Prop where
  kd : ∃ es n, KDict K w d es n
  at_ : ∀ q ∈ xs, ∃ u0, PySem.W.nsIn K d (Str.ofString q.1) = some (some u0) ∧ RelV (.int q.2) u0
/-! ### what is checked, and is right -/
def spFilled : Sp := fun vs H Q _ => ∃ (v : V) (e : D) (es : List D), vs = [v] ∧ RW H (.tup (e :: es)) v ∧ Q (.bl true) H
def spCkName : Sp := fun vs H Q _ => ∃ z : Str, vs = [.str z] ∧ okName z ∧ ∀ H', Same H H' → Q .non H'
def spCkOpt : Sp := fun vs H Q _ => ∃ v : V, vs = [v] ∧ Opt (.leaf v) ∧ ∀ H', Same H H' → Q .non H'
def spCkTerm (k : Nat) : Sp := fun vs H Q _ => ∃ (v : V) (d : D) (m : Nat), vs = [v] ∧ RW H d v ∧ TmOk m d ∧ m + 2 ≤ k ∧ ∀ H', Same H H' → Q .non H'
def spCkDef : Sp := fun vs H Q _ => ∃ (v : V) (d : D), vs = [v] ∧ RW H d v ∧ Df d ∧ ∀ H', Same H H' → Q .non H'
def spCkRules : Sp := fun vs H Q _ => ∃ r s : Str, vs = [.str r, .str s] ∧ okOrd r ∧ okLck s ∧ ∀ H', Same H H' → Q .non H'
theorem RW.leaf {H : Hp} {w v : V} (h : RW H (.leaf w) v) : v = w := h.1
theorem RWs.cons {H : Hp} {d : D} {ds : List D} {xs : List V} (h : RWs H (d :: ds) xs) : ∃ x ys, xs = x :: ys ∧ RW H d x ∧ RWs H ds ys := h
section
variable {P : Program} {w : World} {K : PySem.W.Frag} {mg : Str → Option Value} {base : Heap}
theorem sqFi : FnScope ["thing"] ["thing"] (defScope sFilled) := ⟨rfl, rfl, rfl, by decide +kernel, rfl, by decide +kernel, by decide +kernel⟩
theorem ok_filled {f : Addr} {fd : FuncData} (F : Fun K "is_filled" "is_filled" sFilled f fd) (T : Txt K mg) : FnOk P w K mg base CX0 1 f fd ["thing"] spFilled := by
  refine F.ok sqFi (fun vs H Q E h => ?_) (fun cdv A outer s H vs Q E hr h => ?_)
  · obtain ⟨v, e, es, rfl, _⟩ := h
    rfl
  obtain ⟨v, e, es, rfl, hR, kk⟩ := h
  refine ⟨_, pss_one (ps_ret (pe_and (pe_callB call_isi (by rfl) T.isi boot_isinstance (pa_cons (pv 0) (pa_cons (pe_bltn (v := .ty "tuple") (by rfl) T.tuple boot_tuple rfl) pa_nil)))
    (pe_one (pe_cmpR op_gt (pe_callB call_len_seq (by rfl) T.len PySem.boot_len (pa_cons (pv 0) pa_nil)) pe_int (nomark _))))), ?_⟩
  obtain ⟨sT, hty, k1, k2, k3⟩ := hR.ty (K := K)
  obtain ⟨a, xs, rfl, ha, hr0⟩ := hR
  refine ⟨_, rfl, _, _, _, _, _, rfl, .ty _, hty, kit_ty k2, _, rfl, iteT ⟨_, rfl, a, xs, rfl, .inr (SqT.of ha), _, _, rfl, rfl, ?_⟩⟩
  have e1 : decide ((0 : Int) < ((xs.length : Nat) : Int)) = true := decide_eq_true (by rw [hr0.len]; show (0 : Int) < ((es.length + 1 : Nat) : Int); omega)
  show Q (.bl (decide ((0 : Int) < ((xs.length : Nat) : Int)))) H
  rw [e1]
  exact kk
theorem sqCn : FnScope ["name", "letter"] ["name"] (defScope sCkName) := ⟨rfl, rfl, rfl, by decide +kernel, rfl, by decide +kernel, by decide +kernel⟩
theorem ok_ckname {f : Addr} {fd : FuncData} {t8 t9 : Nat} (F : Fun K "check_name" "check_name" sCkName f fd) (T : Txt K mg) (zS : mg "str" = none) (mL : mg "LONGEST_NAME" = some (.int 8 t8)) (mA : mg "LETTERS" = some (.str LT t9)) : FnOk P w K mg base CX0 1 f fd ["name"] spCkName := by
  refine F.ok sqCn (fun vs H Q E h => ?_) (fun cdv A outer s H vs Q E hr h => ?_)
  · obtain ⟨z, rfl, _⟩ := h
    rfl
  obtain ⟨z, rfl, ⟨hz1, hz8, hzl⟩, kk⟩ := h
  refine ⟨_, pss_cons (ps_if (PW.pt (pw_or (pt_not (pt_val (pe_callB call_isi (by rfl) T.isi boot_isinstance (pa_cons (pv 0) (pa_cons (pe_bltn (v := .ty "str") (by rfl) zS boot_str rfl) pa_nil)))))
      (pw_or1 (pt_not (pt_chain op_le op_le pe_int (pe_callB call_len (by rfl) T.len PySem.boot_len (pa_cons (pv 0) pa_nil)) (pe_glob (v := .int 8) rfl mL ⟨_, rfl⟩)))))) pss_never pss_nil)
    (pss_one (ps_if (pt_not (pt_val (pe_callB (cr_all rfl) (by rfl) T.all (by decide +kernel) (pa_cons (pe_lc (own := [("letter", 1)]) (g := gName 1) (tt := tYes) rfl sqCn.nd (pi_str (pv 0)) (blkOk_by (N := ["name", "letter"]) (sc := defScope sCkName) (by decide +kernel)) (fun _ _ _ _ _ => pg_name (i := 1) sqCn.nd rfl (Or.inl rfl)) (fun _ _ _ _ _ => pts_nil)
      (fun _ _ _ _ _ => pe_cmpR op_in_sign (pv 1) (pe_glob (v := .str LT) rfl mA ⟨_, rfl⟩) rfl)) pa_nil)))) pss_never pss_nil)), ?_⟩
  refine ⟨_, rfl, .str z, _, _, _, _, rfl, .ty _, .base (.str z), kit_ty (a := "str") (b := "str") (r := true) (by decide +kernel), _, rfl, iteF ?_⟩
  refine ⟨_, rfl, .str z, z.length, rfl, ⟨small100 (by omega), rfl⟩, _, _, rfl, rfl, _, rfl, ?_⟩
  refine ifT (decide_eq_true (by omega)) ⟨_, _, rfl, rfl, _, rfl, ?_⟩
  refine ifF (by rw [decide_eq_true (by omega)]; rfl) ?_
  refine ⟨_, rfl, z, rfl, fun D0 hD => ?_⟩
  refine lc_it walk_str (fun i H' => Same H H' ∧ H' D0 = some (.lst ((List.replicate i true).map V.bl))) ⟨same_new hD _, upd_same⟩ (fun _ _ _ _ => trivial) ?_ ?_
  · rintro i x H2 H3 hi ⟨hs2, hD2⟩ ⟨rfl, c, hc, rfl⟩
    have hi8 : i < 9 := Nat.lt_of_lt_of_le hi (show z.cps.size ≤ 9 from Nat.le_succ_of_le hz8)
    have hcm : c ∈ z.cps.toList := Array.mem_toList_iff.mpr (Array.mem_of_getElem? hc)
    obtain ⟨c1, c2⟩ := hzl c hcm
    refine ⟨rfl, ?_⟩
    unfold tYes
    refine iteT ?_
    refine ⟨_, rfl, c, LT, rfl, rfl, _, hD2, ?_, same_put hs2 hD, ?_⟩
    · rw [List.length_map, List.length_replicate]
      exact Nat.lt_of_lt_of_le (show i < 9 from hi8) (by decide)
    · have e : decide (c ∈ LT.cps.toList) = true := decide_eq_true (by
        have z := lt_all (c - 97) (by omega)
        rw [show 97 + (c - 97) = c by omega] at z
        exact List.mem_of_getElem? z)
      rw [upd_same, List.replicate_succ', List.map_append, e]
      rfl
  · rintro H2 ⟨hs2, hD2⟩
    refine ⟨D0, _, rfl, SqL.of hD2, ?_⟩
    have ea : (List.replicate z.cps.size true).all id = true := by simp
    rw [ea]
    exact ⟨_, rfl, iteF (kk H2 hs2)⟩
end
end K02
set_option Elab.async false
set_option linter.all false
set_option maxRecDepth 100000
set_option maxHeartbeats 4000000
namespace K02
open PySem L2 PyProof.Rows
abbrev szT : List (String × Int) := [("read", 2), ("number", 2), ("call", 3)]
abbrev szP : List (String × Int) := [("name", 2), ("any", 1), ("row", 3), ("record", 3)]
theorem TmOk.head : ∀ {m : Nat} {d : D}, TmOk m d → ∃ s es, d = .tup (S s :: es) ∧ (s, ((es.length + 1 : Nat) : Int)) ∈ szT
  | 0, _, h => h.elim
  | m + 1, d, h => by
    rcases h with ⟨i, rfl⟩ | ⟨z, _, rfl⟩ | ⟨z, ts, _, rfl, _⟩
    · exact ⟨"number", _, rfl, show (("number", (2 : Int)) : String × Int) ∈ szT by decide⟩
    · exact ⟨"read", _, rfl, show (("read", (2 : Int)) : String × Int) ∈ szT by decide⟩
    · exact ⟨"call", _, rfl, show (("call", (3 : Int)) : String × Int) ∈ szT by decide⟩
theorem PtOk.head : ∀ {m : Nat} {d : D}, PtOk m d → ∃ s es, d = .tup (S s :: es) ∧ (s, ((es.length + 1 : Nat) : Int)) ∈ szP
  | 0, _, h => h.elim
  | m + 1, d, h => by
    rcases h with rfl | ⟨z, _, rfl⟩ | ⟨row, qs, r, rfl, _⟩
    · exact ⟨"any", _, rfl, show (("any", (1 : Int)) : String × Int) ∈ szP by decide⟩
    · exact ⟨"name", _, rfl, show (("name", (2 : Int)) : String × Int) ∈ szP by decide⟩
    · cases row
      · exact ⟨"record", _, rfl, show (("record", (3 : Int)) : String × Int) ∈ szP by decide⟩
      · exact ⟨"row", _, rfl, show (("row", (3 : Int)) : String × Int) ∈ szP by decide⟩
theorem RW.head {H : Hp} {s : String} {es : List D} {v : V} (h : RW H (.tup (S s :: es)) v) : ∃ a ys, v = .ref a ∧ H a = some (.tup (.str (Str.ofString s) :: ys)) ∧ RWs H es ys := by
  obtain ⟨a, xs, rfl, ha, x, ys, rfl, hx, hy⟩ := h
  exact ⟨a, ys, rfl, hx.1 ▸ ha, hy⟩
section
variable {P : Program} {w : World} {K : PySem.W.Frag} {mg : Str → Option Value} {base : Heap}
theorem sqCo : FnScope ["name"] ["name"] (defScope sCkOpt) := ⟨rfl, rfl, rfl, by decide +kernel, rfl, by decide +kernel, by decide +kernel⟩
theorem ok_ckopt {f fN : Addr} {fd fdN : FuncData} (F : Fun K "check_optional_name" "check_optional_name" sCkOpt f fd)
    (FN : Fun K "check_name" "check_name" sCkName fN fdN) (GN : FnOk P w K mg base CX0 1 fN fdN ["name"] spCkName) (bN : Binds K fdN ["name"] []) (mN : mg "check_name" = some (.ref fN)) : FnOk P w K mg base CX0 2 f fd ["name"] spCkOpt := by
  refine F.ok sqCo (fun vs H Q E h => ?_) (fun cdv A outer s H vs Q E hr h => ?_)
  · obtain ⟨v, rfl, _⟩ := h
    rfl
  obtain ⟨v, rfl, ho, kk⟩ := h
  refine ⟨_, pss_one (ps_if (pt_cmpR op_notN (pv 0) pe_non (nomark _)) (pss_one (ps_expr (pe_call GN hr rfl mN FN.kp bN .nil pass0 (pa_cons (pv 0) pa_nil)))) pss_nil), ?_⟩
  rcases ho with e | ⟨z, hz, e⟩
  · obtain rfl : v = .non := D.leaf.inj e
    exact ⟨_, rfl, rfl, _, rfl, ifF (by rw [decide_eq_true rfl]; rfl) (kk H (Same.refl H))⟩
  · obtain rfl : v = .str z := D.leaf.inj e
    exact ⟨_, rfl, rfl, _, rfl, ifT (by rw [decide_eq_false (fun z => nomatch z)]; rfl) ⟨_, rfl, z, rfl, hz, fun H' hs => kk H' hs⟩⟩
theorem sqCd : FnScope ["default"] ["default"] (defScope sCkDef) := ⟨rfl, rfl, rfl, by decide +kernel, rfl, by decide +kernel, by decide +kernel⟩
theorem sqCt : FnScope ["term", "inner"] ["term"] (defScope sCkTerm) := ⟨rfl, rfl, rfl, by decide +kernel, rfl, by decide +kernel, by decide +kernel⟩
theorem ckterm_none {f : Addr} {fd : FuncData} {ps : List Str} : FnOk P w K mg base CX0 0 f fd ps (spCkTerm 0) := none_of fun vs H Q E h => by
  obtain ⟨v, d, m, _, _, _, h1, _⟩ := h
  omega
theorem ok_ckterm {f fN fF dT : Addr} {fd fdN fdF : FuncData} {k : Nat} (F : Fun K "check_term" "check_term" sCkTerm f fd) (T : Txt K mg)
    (FF : Fun K "is_filled" "is_filled" sFilled fF fdF) (GF : FnOk P w K mg base CX0 1 fF fdF ["thing"] spFilled) (bF : Binds K fdF ["thing"] []) (mF : mg "is_filled" = some (.ref fF))
    (FN : Fun K "check_name" "check_name" sCkName fN fdN) (GN : FnOk P w K mg base CX0 1 fN fdN ["name"] spCkName) (bN : Binds K fdN ["name"] []) (mN : mg "check_name" = some (.ref fN))
    (TT : Tab K w dT szT) (mT : mg "TERM_SIZES" = some (.ref dT))
    (G : FnOk P w K mg base CX0 k f fd ["term"] (spCkTerm k)) (b : Binds K fd ["term"] []) (m : mg "check_term" = some (.ref f)) : FnOk P w K mg base CX0 (k + 1) f fd ["term"] (spCkTerm (k + 1)) := by
  refine F.ok sqCt (fun vs H Q E h => ?_) (fun cdv A outer s H vs Q E hr h => ?_)
  · obtain ⟨v, d, m, rfl, _⟩ := h
    rfl
  obtain ⟨v, d, mm, rfl, hR, hT, hk, kk⟩ := h
  obtain ⟨es, n, KD⟩ := TT.kd
  have hm : 1 ≤ mm := by cases mm with
    | zero => exact hT.elim
    | succ j => omega
  have hr1 : Room 1 (A.deeper (envOfC "check_term" (defScope sCkTerm) s.heap.objs.size f cdv)) := hr.mono (by omega)
  refine ⟨_, pss_cons (ps_if (PW.pt (pw_or (pt_not (pt_val (pe_call GF hr1 rfl mF FF.kp bF .nil pass0 (pa_cons (pv 0) pa_nil)))) (pw_or1 (pt_cmpR op_ne (pe_kget KD (pe_glob (v := .ref dT) rfl mT rfl) (pe_ix ix_tup (pv 0) pe_int (fun _ _ => rfl)) ⟨rfl, rfl, rfl, rfl⟩) (pe_callB call_len_seq (by rfl) T.len PySem.boot_len (pa_cons (pv 0) pa_nil)) (nomark _))))) pss_never pss_nil)
    (pss_cons (ps_if (pt_cmpR op_eq (pe_ix ix_tup (pv 0) pe_int (fun _ _ => rfl)) pe_str (nomark _)) (pss_one ps_retN) pss_nil)
    (pss_cons (ps_expr (pe_call GN hr1 rfl mN FN.kp bN .nil pass0 (pa_cons (pe_ix ix_tup (pv 0) pe_int (fun _ _ => rfl)) pa_nil)))
    (pss_one (ps_if (pt_cmpR op_eq (pe_ix ix_tup (pv 0) pe_int (fun _ _ => rfl)) pe_str (nomark _))
      (pss_one (ps_for PassesOwn.never rfl (pi_list (pe_ix ix_tup (pv 0) pe_int (fun _ _ => rfl))) (pg_name (i := 1) sqCt.nd rfl (Or.inl rfl)) (pss_one (ps_expr (pe_call G hr rfl m F.kp b .nil pass0 (pa_cons (pv 1) pa_nil)))))) pss_nil)))), ?_⟩
  obtain ⟨s0, ds, rfl, hsz⟩ := hT.head
  obtain ⟨a, ys, rfl, ha, hys⟩ := hR.head
  obtain ⟨u0, hu, hrel⟩ := TT.at_ _ hsz
  have hl := hys.len
  have sq := SqT.of (K := K) ha
  have a0 : atI (V.str (Str.ofString s0) :: ys) 0 = some (.str (Str.ofString s0)) := atI_nat (j := 0) rfl
  refine ⟨_, rfl, _, S s0, ds, rfl, hR, _, rfl, iteF ⟨rfl, _, rfl, a, _, 0, _, rfl, rfl, sq, a0, _, u0, _, rfl, hu, hrel, _, rfl, a, _, rfl, .inr sq, rfl, _, rfl, ?_⟩⟩
  refine ifF ?_ ?_
  · rw [List.length_cons, hl, decide_eq_true rfl]
    rfl
  refine ⟨_, rfl, a, _, 0, _, rfl, rfl, sq, a0, rfl, _, rfl, ?_⟩
  cases mm with
  | zero => exact hT.elim
  | succ mm =>
  rcases hT with ⟨i, e⟩ | ⟨z, hz, e⟩ | ⟨z, ts, hz, e, hl3, hts⟩
  · obtain ⟨e1, e2⟩ := List.cons.inj (D.tup.inj e)
    rw [show Str.ofString s0 = Str.ofString "number" from V.str.inj (D.leaf.inj e1)]
    exact ifT (decide_eq_true rfl) (kk H (Same.refl H))
  · obtain ⟨e1, e2⟩ := List.cons.inj (D.tup.inj e)
    subst e2
    have es0 : Str.ofString s0 = Str.ofString "read" := V.str.inj (D.leaf.inj e1)
    obtain ⟨x, ys', rfl, hx, hy'⟩ := hys
    obtain rfl : x = .str z := hx.1
    refine ifF (decide_eq_false fun q => absurd (es0.symm.trans (V.str.inj q)) (by decide)) ⟨_, rfl, a, _, 1, _, rfl, rfl, sq, atI_nat (j := 1) rfl, z, rfl, hz, fun H1 hs1 => ?_⟩
    have sq1 := SqT.of (K := K) (hs1 _ _ ha)
    refine ⟨_, rfl, a, _, 0, _, rfl, rfl, sq1, atI_nat (j := 0) rfl, rfl, _, rfl, ?_⟩
    exact ifF (decide_eq_false fun q => absurd (es0.symm.trans (V.str.inj q)) (by decide)) (kk H1 hs1)
  · obtain ⟨e1, e2⟩ := List.cons.inj (D.tup.inj e)
    subst e2
    have es0 : Str.ofString s0 = Str.ofString "call" := V.str.inj (D.leaf.inj e1)
    obtain ⟨x, ys', rfl, hx, y, ys'', rfl, hy, hn⟩ := hys
    obtain rfl : x = .str z := hx.1
    obtain ⟨lA, xs, rfl, hlA, hxs⟩ := hy
    refine ifF (decide_eq_false fun q => absurd (es0.symm.trans (V.str.inj q)) (by decide)) ⟨_, rfl, a, _, 1, _, rfl, rfl, sq, atI_nat (j := 1) rfl, z, rfl, hz, fun H1 hs1 => ?_⟩
    have sq1 := SqT.of (K := K) (hs1 _ _ ha)
    refine ⟨_, rfl, a, _, 0, _, rfl, rfl, sq1, atI_nat (j := 0) rfl, rfl, _, rfl, ?_⟩
    refine ifT (decide_eq_true (by rw [es0])) ⟨_, rfl, a, _, 2, _, rfl, rfl, sq1, atI_nat (j := 2) rfl, lA, rfl, ⟨_, SqL.of (hs1 _ _ hlA)⟩, ?_⟩
    refine for_list (K := K) (a := lA) (xs := xs) (fun i σ' H' => Same H H' ∧ ∃ v1, σ' = [some (.ref a), v1]) ⟨hs1, none, rfl⟩ (fun i σ' H' _ ⟨h, _⟩ => SqL.of (h _ _ hlA)) ?_ ?_
    · rintro i x σ' H2 hi ⟨hs2, v1, rfl⟩
      obtain ⟨t, ht, hrt⟩ := RWs.item (hxs.same hs2) hi
      exact ⟨_, rfl, x, t, mm, rfl, hrt, hts t (List.mem_of_getElem? ht), by omega, fun H3 hs3 => ⟨hs2.trans hs3, _, rfl⟩⟩
    · rintro σ' H2 ⟨hs2, _⟩
      exact kk H2 hs2
theorem ok_ckdef {f fT : Addr} {fd fdT : FuncData} (F : Fun K "check_default" "check_default" sCkDef f fd)
    (FT : Fun K "check_term" "check_term" sCkTerm fT fdT) (GT : FnOk P w K mg base CX0 7 fT fdT ["term"] (spCkTerm 7)) (bT : Binds K fdT ["term"] []) (mT : mg "check_term" = some (.ref fT)) : FnOk P w K mg base CX0 8 f fd ["default"] spCkDef := by
  refine F.ok sqCd (fun vs H Q E h => ?_) (fun cdv A outer s H vs Q E hr h => ?_)
  · obtain ⟨v, d, rfl, _⟩ := h
    rfl
  obtain ⟨v, d, rfl, hR, hd, kk⟩ := h
  refine ⟨_, pss_one (ps_if (pt_cmpR op_notN (pv 0) pe_non (nomark _)) (pss_one (ps_expr (pe_call GT hr rfl mT FT.kp bT .nil pass0 (pa_cons (pv 0) pa_nil)))) pss_nil), ?_⟩
  rcases hd with rfl | hT
  · obtain rfl : v = .non := hR.1
    exact ⟨_, rfl, rfl, _, rfl, ifF (by rw [decide_eq_true rfl]; rfl) (kk H (Same.refl H))⟩
  · obtain ⟨s0, ds, rfl, _⟩ := hT.head
    obtain ⟨a, ys, rfl, ha, hys⟩ := hR.head
    exact ⟨_, rfl, rfl, _, rfl, ifT (by rw [decide_eq_false (fun z => nomatch z)]; rfl) ⟨_, rfl, _, _, 5, rfl, hR, hT, by decide, fun H' hs => kk H' hs⟩⟩
end
end K02
set_option Elab.async false
set_option linter.all false
set_option maxRecDepth 100000
set_option maxHeartbeats 4000000
namespace K02
open PySem L2 PyProof.Rows
def spCkPart (k : Nat) : Sp := fun vs H Q _ => ∃ (v : V) (d : D) (m : Nat), vs = [v] ∧ RW H d v ∧ PtOk m d ∧ 2 * m + 8 ≤ k ∧ ∀ H', Same H H' → Q .non H'
def spCkIn (row : Bool) (k : Nat) : Sp := fun vs H Q _ => ∃ (v : V) (qs : List (Str × D × D)) (r : V) (m : Nat), vs = [v] ∧ RW H (.tup [S (if row = true then "row" else "record"), .lst (qs.map (ent row)), .leaf r]) v ∧ Opt (.leaf r) ∧ qs.length ≤ 25 ∧ (∀ q ∈ qs, PtOk m q.2.1 ∧ Df q.2.2) ∧
  (row = false → (qs.map (·.1)).Nodup ∧ ∀ q ∈ qs, okName q.1) ∧ 2 * m + 9 ≤ k ∧ ∀ H', Same H H' → Q .non H'
section
variable {P : Program} {w : World} {K : PySem.W.Frag} {mg : Str → Option Value} {base : Heap}
theorem sqCu : FnScope ["order", "lacks"] ["order", "lacks"] (defScope sCkRules) := ⟨rfl, rfl, rfl, by decide +kernel, rfl, by decide +kernel, by decide +kernel⟩
theorem ok_ckrules {f : Addr} {fd : FuncData} (F : Fun K "check_rules" "check_rules" sCkRules f fd) : FnOk P w K mg base CX0 1 f fd ["order", "lacks"] spCkRules := by
  refine F.ok sqCu (fun vs H Q E h => ?_) (fun cdv A outer s H vs Q E hr h => ?_)
  · obtain ⟨r, s, rfl, _⟩ := h
    rfl
  obtain ⟨r, s, rfl, hr1, hs1, kk⟩ := h
  refine ⟨_, pss_cons (ps_if (pt_cmpR op_notIn_seq (pv 0) (pe_tup (pa_cons pe_str (pa_cons pe_str pa_nil))) (by rfl)) pss_never pss_nil)
    (pss_one (ps_if (pt_cmpR op_notIn_seq (pv 1) (pe_tup (pa_cons pe_str (pa_cons pe_str pa_nil))) (by rfl)) pss_never pss_nil)), ?_⟩
  have go : ∀ {x y z : Str}, z = x ∨ z = y → (!inV (.str z) [.str x, .str y]) = false := fun {x y z} h => by
    rcases h with rfl | rfl
    · simp [inV, eqV]
    · simp [inV, eqV]
  refine ⟨_, rfl, by show 2 ≤ sizeLine; decide, fun t ht => ⟨t, _, rfl, .inr (SqT.of upd_same), rfl, rfl, _, rfl, ifF (go hr1) ?_⟩⟩
  have s1 := same_new ht (.tup [V.str (Str.ofString "soon"), V.str (Str.ofString "late")])
  refine ⟨_, rfl, by show 2 ≤ sizeLine; decide, fun t2 ht2 => ⟨t2, _, rfl, .inr (SqT.of upd_same), rfl, rfl, _, rfl, ifF (go hs1) ?_⟩⟩
  exact kk _ (s1.trans (same_new ht2 _))
theorem ckpart_none {f : Addr} {fd : FuncData} {ps : List Str} : FnOk P w K mg base CX0 0 f fd ps (spCkPart 0) := none_of fun vs H Q E h => by
  obtain ⟨v, d, m, _, _, _, h1, _⟩ := h
  omega
theorem ckin_none {row : Bool} {f : Addr} {fd : FuncData} {ps : List Str} : FnOk P w K mg base CX0 0 f fd ps (spCkIn row 0) := none_of fun vs H Q E h => by
  obtain ⟨v, qs, r, m, _, _, _, _, _, _, h1, _⟩ := h
  omega
theorem sqCr : FnScope ["part", "inner", "default"] ["part"] (defScope sCkRow) := ⟨rfl, rfl, rfl, by decide +kernel, rfl, by decide +kernel, by decide +kernel⟩
theorem ok_ckrow {f fO fP fD : Addr} {fd fdO fdP fdD : FuncData} {k : Nat} (F : Fun K "check_row" "check_row" sCkRow f fd)
    (FO : Fun K "check_optional_name" "check_optional_name" sCkOpt fO fdO) (GO : FnOk P w K mg base CX0 2 fO fdO ["name"] spCkOpt) (bO : Binds K fdO ["name"] []) (mO : mg "check_optional_name" = some (.ref fO))
    (FD : Fun K "check_default" "check_default" sCkDef fD fdD) (GD : FnOk P w K mg base CX0 8 fD fdD ["default"] spCkDef) (bD : Binds K fdD ["default"] []) (mD : mg "check_default" = some (.ref fD))
    (FP : Fun K "check_part" "check_part" sCkPart fP fdP) (GP : FnOk P w K mg base CX0 k fP fdP ["part"] (spCkPart k)) (bP : Binds K fdP ["part"] []) (mP : mg "check_part" = some (.ref fP)) : FnOk P w K mg base CX0 (k + 1) f fd ["part"] (spCkIn true (k + 1)) := by
  refine F.ok sqCr (fun vs H Q E h => ?_) (fun cdv A outer s H vs Q E hr h => ?_)
  · obtain ⟨v, qs, r, m, rfl, _⟩ := h
    rfl
  obtain ⟨v, qs, r, m, rfl, hR, ho, hl, hq, _, hk, kk⟩ := h
  have hr2 : Room 2 (A.deeper (envOfC "check_row" (defScope sCkRow) s.heap.objs.size f cdv)) := hr.mono (by omega)
  have hr8 : Room 8 (A.deeper (envOfC "check_row" (defScope sCkRow) s.heap.objs.size f cdv)) := hr.mono (by omega)
  refine ⟨_, pss_cons (ps_expr (pe_call GO hr2 rfl mO FO.kp bO .nil pass0 (pa_cons (pe_ix ix_tup (pv 0) pe_int (fun _ _ => rfl)) pa_nil)))
    (pss_one (ps_for PassesOwn.never rfl (pi_list (pe_ix ix_tup (pv 0) pe_int (fun _ _ => rfl))) (pg_tup rfl (pgs_cons (pg_name (i := 1) sqCr.nd rfl (Or.inl rfl)) (pgs_cons (pg_name (i := 2) sqCr.nd rfl (Or.inl rfl)) pgs_nil)))
      (pss_cons (ps_expr (pe_call GP hr rfl mP FP.kp bP .nil pass0 (pa_cons (pv 1) pa_nil))) (pss_one (ps_expr (pe_call GD hr8 rfl mD FD.kp bD .nil pass0 (pa_cons (pv 2) pa_nil))))))), ?_⟩
  obtain ⟨a, ys, rfl, ha, hys⟩ := hR.head
  obtain ⟨x, ys', rfl, hx, hy'⟩ := hys
  obtain ⟨y, ys'', rfl, hy, hn⟩ := hy'
  obtain ⟨lA, xs, rfl, hlA, hxs⟩ := hx
  obtain rfl : y = r := hy.1
  refine ⟨_, rfl, a, _, 2, _, rfl, rfl, SqT.of ha, atI_nat (j := 2) rfl, y, rfl, ho, fun H1 hs1 => ?_⟩
  refine ⟨_, rfl, a, _, 1, _, rfl, rfl, SqT.of (hs1 _ _ ha), atI_nat (j := 1) rfl, lA, rfl, ⟨_, SqL.of (hs1 _ _ hlA)⟩, ?_⟩
  refine for_list (K := K) (a := lA) (xs := xs) (fun i σ' H' => Same H H' ∧ ∃ v1 v2, σ' = [some (.ref a), v1, v2]) ⟨hs1, none, none, rfl⟩ (fun i σ' H' _ ⟨h, _⟩ => SqL.of (h _ _ hlA)) ?_ ?_
  · rintro i x σ' H2 hi ⟨hs2, v1, v2, rfl⟩
    obtain ⟨t, ht, hrt⟩ := RWs.item (hxs.same hs2) hi
    obtain ⟨q, hqm, rfl⟩ := List.mem_map.mp (List.mem_of_getElem? ht)
    obtain ⟨e, zs, rfl, he, hzs⟩ := hrt
    obtain ⟨z1, zs1, rfl, h1, z2, zs2, rfl, h2, hn2⟩ := hzs
    obtain rfl : zs2 = [] := hn2
    refine ⟨e, _, rfl, SqT.of he, rfl, _, _, rfl, _, _, rfl, rfl, ?_⟩
    refine ⟨_, rfl, z1, q.2.1, m, rfl, h1, (hq q hqm).1, by omega, fun H3 hs3 => ⟨_, rfl, z2, q.2.2, rfl, h2.same hs3, (hq q hqm).2, fun H4 hs4 => ⟨(hs2.trans hs3).trans hs4, _, _, rfl⟩⟩⟩
  · rintro σ' H2 ⟨hs2, _⟩
    exact kk H2 hs2
theorem sqCe : FnScope ["part", "ahead", "field", "inner", "default"] ["part"] (defScope sCkRec) := ⟨rfl, rfl, rfl, by decide +kernel, rfl, by decide +kernel, by decide +kernel⟩
theorem ok_ckrec {f fO fP fD fN : Addr} {fd fdO fdP fdD fdN : FuncData} {k : Nat} (F : Fun K "check_record" "check_record" sCkRec f fd)
    (FO : Fun K "check_optional_name" "check_optional_name" sCkOpt fO fdO) (GO : FnOk P w K mg base CX0 2 fO fdO ["name"] spCkOpt) (bO : Binds K fdO ["name"] []) (mO : mg "check_optional_name" = some (.ref fO))
    (FN : Fun K "check_name" "check_name" sCkName fN fdN) (GN : FnOk P w K mg base CX0 1 fN fdN ["name"] spCkName) (bN : Binds K fdN ["name"] []) (mN : mg "check_name" = some (.ref fN))
    (FD : Fun K "check_default" "check_default" sCkDef fD fdD) (GD : FnOk P w K mg base CX0 8 fD fdD ["default"] spCkDef) (bD : Binds K fdD ["default"] []) (mD : mg "check_default" = some (.ref fD))
    (FP : Fun K "check_part" "check_part" sCkPart fP fdP) (GP : FnOk P w K mg base CX0 k fP fdP ["part"] (spCkPart k)) (bP : Binds K fdP ["part"] []) (mP : mg "check_part" = some (.ref fP)) : FnOk P w K mg base CX0 (k + 1) f fd ["part"] (spCkIn false (k + 1)) := by
  refine F.ok sqCe (fun vs H Q E h => ?_) (fun cdv A outer s H vs Q E hr h => ?_)
  · obtain ⟨v, qs, r, m, rfl, _⟩ := h
    rfl
  obtain ⟨v, qs, r, m, rfl, hR, ho, hl, hq, hf, hk, kk⟩ := h
  obtain ⟨hnd, hok⟩ := hf rfl
  have hr1 : Room 1 (A.deeper (envOfC "check_record" (defScope sCkRec) s.heap.objs.size f cdv)) := hr.mono (by omega)
  have hr2 : Room 2 (A.deeper (envOfC "check_record" (defScope sCkRec) s.heap.objs.size f cdv)) := hr.mono (by omega)
  have hr8 : Room 8 (A.deeper (envOfC "check_record" (defScope sCkRec) s.heap.objs.size f cdv)) := hr.mono (by omega)
  refine ⟨_, pss_cons (ps_expr (pe_call GO hr2 rfl mO FO.kp bO .nil pass0 (pa_cons (pe_ix ix_tup (pv 0) pe_int (fun _ _ => rfl)) pa_nil)))
    (pss_cons (ps_set (i := 1) sqCe.nd rfl (Or.inl rfl) pe_dnewK)
    (pss_one (ps_for PassesOwn.never rfl (pi_list (pe_ix ix_tup (pv 0) pe_int (fun _ _ => rfl))) (pg_tup rfl (pgs_cons (pg_name (i := 2) sqCe.nd rfl (Or.inl rfl)) (pgs_cons (pg_name (i := 3) sqCe.nd rfl (Or.inl rfl)) (pgs_cons (pg_name (i := 4) sqCe.nd rfl (Or.inl rfl)) pgs_nil))))
      (pss_cons (ps_expr (pe_call GN hr1 rfl mN FN.kp bN .nil pass0 (pa_cons (pv 2) pa_nil)))
      (pss_cons (ps_if (pt_cmp (pc_din (hu_of hr) (pv 2) (pv 1)) rfl) pss_never pss_nil)
      (pss_cons (ps_dput (hu_of hr) (pv 1) (pv 2) pe_bl rfl)
      (pss_cons (ps_expr (pe_call GP hr rfl mP FP.kp bP .nil pass0 (pa_cons (pv 3) pa_nil))) (pss_one (ps_expr (pe_call GD hr8 rfl mD FD.kp bD .nil pass0 (pa_cons (pv 4) pa_nil))))))))))), ?_⟩
  obtain ⟨a, ys, rfl, ha, hys⟩ := hR.head
  obtain ⟨x, ys', rfl, hx, hy'⟩ := hys
  obtain ⟨y, ys'', rfl, hy, hn⟩ := hy'
  obtain ⟨lA, xs, rfl, hlA, hxs⟩ := hx
  obtain rfl : y = r := hy.1
  refine ⟨_, rfl, a, _, 2, _, rfl, rfl, SqT.of ha, atI_nat (j := 2) rfl, y, rfl, ho, fun H1 hs1 => ?_⟩
  intro dA hdA
  have s2 := same_new hdA (.dK [])
  refine ⟨_, rfl, a, _, 1, _, rfl, rfl, SqT.of (s2 _ _ (hs1 _ _ ha)), atI_nat (j := 1) rfl, lA, rfl, ⟨_, SqL.of (s2 _ _ (hs1 _ _ hlA))⟩, ?_⟩
  refine for_list (K := K) (a := lA) (xs := xs) (fun i σ' H' => Same H H' ∧ (∃ kvs : List (Key × V), H' dA = some (.dK kvs) ∧ kvs.length ≤ i ∧ ∀ z, z ∉ (qs.take i).map (·.1) → valV kvs (.inr z) = none) ∧ ∃ v2 v3 v4, σ' = [some (.ref a), some (.ref dA), v2, v3, v4]) ⟨hs1.trans s2, ⟨[], upd_same, Nat.le_refl _, fun _ _ => rfl⟩, none, none, none, rfl⟩ (fun i σ' H' _ ⟨h, _⟩ => SqL.of (h _ _ hlA)) ?_ ?_
  · rintro i x σ' H2 hi ⟨hs2, ⟨kvs, hd2, hkl, hkn⟩, v2, v3, v4, rfl⟩
    obtain ⟨t, ht, hrt⟩ := RWs.item hxs hi
    rw [List.getElem?_map] at ht
    obtain ⟨q, hqi, rfl⟩ : ∃ q, qs[i]? = some q ∧ ent false q = t := by
      cases e : qs[i]? with
      | none =>
        rw [e] at ht
        cases ht
      | some q =>
        rw [e] at ht
        exact ⟨q, rfl, Option.some.inj ht⟩
    have hqm := List.mem_of_getElem? hqi
    obtain ⟨hil, hqe⟩ := List.getElem?_eq_some_iff.mp hqi
    obtain ⟨e, zs, rfl, he, hzs⟩ := hrt
    obtain ⟨z0, zs0, rfl, h0, z1, zs1, rfl, h1, z2, zs2, rfl, h2, hn2⟩ := hzs
    obtain rfl : zs2 = [] := hn2
    obtain rfl : z0 = .str q.1 := h0.1
    have hnot : q.1 ∉ (qs.take i).map (·.1) := fun z => by
      have e1 : qs.map (·.1) = (qs.take i).map (·.1) ++ q.1 :: (qs.drop (i + 1)).map (·.1) := by
        have w1 : qs = qs.take i ++ q :: qs.drop (i + 1) := by
          rw [← hqe, ← List.drop_eq_getElem_cons hil, List.take_append_drop]
        calc qs.map (·.1) = (qs.take i ++ q :: qs.drop (i + 1)).map (·.1) := by rw [← w1]
          _ = _ := by rw [List.map_append, List.map_cons]
      rw [e1] at hnd
      exact (List.nodup_append.mp hnd).2.2 _ z _ List.mem_cons_self rfl
    have hvn := hkn _ hnot
    refine ⟨e, _, rfl, SqT.of (hs2 _ _ he), rfl, _, _, rfl, _, _, rfl, _, _, rfl, rfl, ?_⟩
    refine ⟨_, rfl, q.1, rfl, hok q hqm, fun H3 hs3 => ?_⟩
    have hd3 := hs3 _ _ hd2
    refine ⟨_, rfl, _, rfl, dA, _, rfl, DGet.k (k := Sum.inr q.1) hd3, _, rfl, ?_⟩
    refine ifF (by rw [hvn]; rfl) ⟨_, rfl, _, rfl, dA, _, rfl, DPut.k (k := Sum.inr q.1) hd3 (Nat.lt_of_le_of_lt (show kvs.length ≤ 25 by omega) (by decide)), ?_⟩
    have hs4 : Same H (upd H3 dA (.dK (putK kvs (Sum.inr q.1) (.bl true)))) := same_put (hs2.trans hs3) (hs1.free hdA)
    refine ⟨_, rfl, z1, q.2.1, m, rfl, h1.same hs4, (hq q hqm).1, by omega, fun H5 hs5 => ⟨_, rfl, z2, q.2.2, rfl, h2.same (hs4.trans hs5), (hq q hqm).2, fun H6 hs6 => ?_⟩⟩
    have hd4 : (upd H3 dA (.dK (putK kvs (Sum.inr q.1) (.bl true)))) dA = some (.dK (putK kvs (Sum.inr q.1) (.bl true))) := upd_same
    refine ⟨(hs4.trans hs5).trans hs6, ⟨_, hs6 _ _ (hs5 _ _ hd4), Nat.le_trans (length_putK _ _ _) (by omega), fun z hz => ?_⟩, _, _, _, rfl⟩
    have et : qs.take (i + 1) = qs.take i ++ [q] := by
      rw [List.take_add_one, hqi]
      rfl
    rw [et, List.map_append] at hz
    have hz1 : z ∉ (qs.take i).map (·.1) := fun y => hz (List.mem_append_left _ y)
    have hz2 : ¬ ((Sum.inr z : Key) = Sum.inr q.1) := fun y => hz (List.mem_append_right _ (by rw [Sum.inr.inj y]; exact List.mem_cons_self))
    rw [valV_put, if_neg hz2]
    exact hkn z hz1
  · rintro σ' H2 ⟨hs2, _⟩
    exact kk H2 hs2
theorem sqCp : FnScope ["part"] ["part"] (defScope sCkPart) := ⟨rfl, rfl, rfl, by decide +kernel, rfl, by decide +kernel, by decide +kernel⟩
theorem ok_ckpart {f fF fN fR fE dP : Addr} {fd fdF fdN fdR fdE : FuncData} {k : Nat} (F : Fun K "check_part" "check_part" sCkPart f fd) (T : Txt K mg)
    (FF : Fun K "is_filled" "is_filled" sFilled fF fdF) (GF : FnOk P w K mg base CX0 1 fF fdF ["thing"] spFilled) (bF : Binds K fdF ["thing"] []) (mF : mg "is_filled" = some (.ref fF))
    (FN : Fun K "check_name" "check_name" sCkName fN fdN) (GN : FnOk P w K mg base CX0 1 fN fdN ["name"] spCkName) (bN : Binds K fdN ["name"] []) (mN : mg "check_name" = some (.ref fN))
    (TT : Tab K w dP szP) (mT : mg "PART_SIZES" = some (.ref dP))
    (FR : Fun K "check_row" "check_row" sCkRow fR fdR) (GR : FnOk P w K mg base CX0 k fR fdR ["part"] (spCkIn true k)) (bR : Binds K fdR ["part"] []) (mR : mg "check_row" = some (.ref fR))
    (FE : Fun K "check_record" "check_record" sCkRec fE fdE) (GE : FnOk P w K mg base CX0 k fE fdE ["part"] (spCkIn false k)) (bE : Binds K fdE ["part"] []) (mE : mg "check_record" = some (.ref fE)) : FnOk P w K mg base CX0 (k + 1) f fd ["part"] (spCkPart (k + 1)) := by
  refine F.ok sqCp (fun vs H Q E h => ?_) (fun cdv A outer s H vs Q E hr h => ?_)
  · obtain ⟨v, d, m, rfl, _⟩ := h
    rfl
  obtain ⟨v, d, mm, rfl, hR, hT, hk, kk⟩ := h
  obtain ⟨es, n, KD⟩ := TT.kd
  have hm : 1 ≤ mm := by cases mm with
    | zero => exact hT.elim
    | succ j => omega
  have hr1 : Room 1 (A.deeper (envOfC "check_part" (defScope sCkPart) s.heap.objs.size f cdv)) := hr.mono (by omega)
  refine ⟨_, pss_cons (ps_if (PW.pt (pw_or (pt_not (pt_val (pe_call GF hr1 rfl mF FF.kp bF .nil pass0 (pa_cons (pv 0) pa_nil)))) (pw_or1 (pt_cmpR op_ne (pe_kget KD (pe_glob (v := .ref dP) rfl mT rfl) (pe_ix ix_tup (pv 0) pe_int (fun _ _ => rfl)) ⟨rfl, rfl, rfl, rfl⟩) (pe_callB call_len_seq (by rfl) T.len PySem.boot_len (pa_cons (pv 0) pa_nil)) (nomark _))))) pss_never pss_nil)
    (pss_one (ps_if (pt_cmpR op_eq (pe_ix ix_tup (pv 0) pe_int (fun _ _ => rfl)) pe_str (nomark _)) (pss_one (ps_expr (pe_call GN hr1 rfl mN FN.kp bN .nil pass0 (pa_cons (pe_ix ix_tup (pv 0) pe_int (fun _ _ => rfl)) pa_nil))))
      (pss_one (ps_if (pt_cmpR op_eq (pe_ix ix_tup (pv 0) pe_int (fun _ _ => rfl)) pe_str (nomark _)) (pss_one (ps_expr (pe_call GR hr rfl mR FR.kp bR .nil pass0 (pa_cons (pv 0) pa_nil))))
        (pss_one (ps_if (pt_cmpR op_eq (pe_ix ix_tup (pv 0) pe_int (fun _ _ => rfl)) pe_str (nomark _)) (pss_one (ps_expr (pe_call GE hr rfl mE FE.kp bE .nil pass0 (pa_cons (pv 0) pa_nil)))) pss_nil)))))), ?_⟩
  obtain ⟨s0, ds, rfl, hsz⟩ := hT.head
  obtain ⟨a, ys, rfl, ha, hys⟩ := hR.head
  obtain ⟨u0, hu, hrel⟩ := TT.at_ _ hsz
  have hl := hys.len
  have sq := SqT.of (K := K) ha
  have a0 : atI (V.str (Str.ofString s0) :: ys) 0 = some (.str (Str.ofString s0)) := atI_nat (j := 0) rfl
  refine ⟨_, rfl, _, S s0, ds, rfl, hR, _, rfl, iteF ⟨rfl, _, rfl, a, _, 0, _, rfl, rfl, sq, a0, _, u0, _, rfl, hu, hrel, _, rfl, a, _, rfl, .inr sq, rfl, _, rfl, ?_⟩⟩
  refine ifF ?_ ?_
  · rw [List.length_cons, hl, decide_eq_true rfl]
    rfl
  have dif : ∀ {x y z : String}, Str.ofString x = Str.ofString y → Str.ofString y ≠ Str.ofString z → decide (V.str (Str.ofString x) = V.str (Str.ofString z)) = false := fun h1 h2 => decide_eq_false fun q => h2 (h1.symm.trans (V.str.inj q))
  cases mm with
  | zero => exact hT.elim
  | succ mm =>
  rcases hT with e | ⟨z, hz, e⟩ | ⟨row, qs, r, e, ho, hl3, hq, hf⟩
  · obtain ⟨e1, e2⟩ := List.cons.inj (D.tup.inj e)
    have es0 : Str.ofString s0 = Str.ofString "any" := V.str.inj (D.leaf.inj e1)
    refine ⟨_, rfl, a, _, 0, _, rfl, rfl, sq, a0, rfl, _, rfl, ifF (dif es0 (by decide)) ?_⟩
    refine ⟨_, rfl, a, _, 0, _, rfl, rfl, sq, a0, rfl, _, rfl, ifF (dif es0 (by decide)) ?_⟩
    exact ⟨_, rfl, a, _, 0, _, rfl, rfl, sq, a0, rfl, _, rfl, ifF (dif es0 (by decide)) (kk H (Same.refl H))⟩
  · obtain ⟨e1, e2⟩ := List.cons.inj (D.tup.inj e)
    subst e2
    have es0 : Str.ofString s0 = Str.ofString "name" := V.str.inj (D.leaf.inj e1)
    obtain ⟨x, ys', rfl, hx, hy'⟩ := hys
    obtain rfl : x = .str z := hx.1
    refine ⟨_, rfl, a, _, 0, _, rfl, rfl, sq, a0, rfl, _, rfl, ifT (decide_eq_true (by rw [es0])) ?_⟩
    exact ⟨_, rfl, a, _, 1, _, rfl, rfl, sq, atI_nat (j := 1) rfl, z, rfl, hz, fun H1 hs1 => kk H1 hs1⟩
  · rcases ho with rfl | ⟨z, hz, rfl⟩
    all_goals
      cases row
      · have es0 : Str.ofString s0 = Str.ofString "record" := V.str.inj (D.leaf.inj (List.cons.inj (D.tup.inj e)).1)
        refine ⟨_, rfl, a, _, 0, _, rfl, rfl, sq, a0, rfl, _, rfl, ifF (dif es0 (by decide)) ?_⟩
        refine ⟨_, rfl, a, _, 0, _, rfl, rfl, sq, a0, rfl, _, rfl, ifF (dif es0 (by decide)) ?_⟩
        refine ⟨_, rfl, a, _, 0, _, rfl, rfl, sq, a0, rfl, _, rfl, ifT (decide_eq_true (by rw [es0])) ?_⟩
        rw [e] at hR
        exact ⟨_, rfl, _, qs, _, mm, rfl, hR, (by first | exact .inl rfl | exact .inr ⟨z, hz, rfl⟩), hl3, hq, hf, by omega, fun H1 hs1 => kk H1 hs1⟩
      · have es0 : Str.ofString s0 = Str.ofString "row" := V.str.inj (D.leaf.inj (List.cons.inj (D.tup.inj e)).1)
        refine ⟨_, rfl, a, _, 0, _, rfl, rfl, sq, a0, rfl, _, rfl, ifF (dif es0 (by decide)) ?_⟩
        refine ⟨_, rfl, a, _, 0, _, rfl, rfl, sq, a0, rfl, _, rfl, ifT (decide_eq_true (by rw [es0])) ?_⟩
        rw [e] at hR
        exact ⟨_, rfl, _, qs, _, mm, rfl, hR, (by first | exact .inl rfl | exact .inr ⟨z, hz, rfl⟩), hl3, hq, hf, by omega, fun H1 hs1 => kk H1 hs1⟩
end
end K02
set_option Elab.async false
set_option linter.all false
set_option maxRecDepth 100000
set_option maxHeartbeats 4000000
namespace K02
open PySem L2 PyProof.Rows
abbrev sInit : Stmt := inClass sPattern 0
abbrev sGPart : Stmt := inClass sPattern 1
abbrev sGOrd : Stmt := inClass sPattern 2
abbrev sGLck : Stmt := inClass sPattern 3
abbrev sMNames : Stmt := inClass sPattern 4
abbrev sMWith : Stmt := inClass sPattern 5
abbrev sMLen : Stmt := inClass sPattern 6
/-! ### depth -/
theorem Fits.succ {c : Nat} : ∀ {n : Nat} {d : D}, Fits c n d → Fits c (n + 1) d
  | 0, d, h => by
    obtain ⟨v, rfl⟩ := h
    trivial
  | n + 1, .leaf _, _ => trivial
  | n + 1, .lst ds, h => ⟨h.1, fun e m => (h.2 e m).succ⟩
  | n + 1, .tup ds, h => ⟨h.1, fun e m => (h.2 e m).succ⟩
theorem Fits.le {c n m : Nat} {d : D} (h : Fits c n d) (hm : n ≤ m) : Fits c m d := by
  induction hm with
  | refl => exact h
  | step _ ih => exact ih.succ
theorem fits_tup {c n : Nat} {ds : List D} (h1 : ds.length ≤ c) (h2 : ∀ d ∈ ds, Fits c n d) : Fits c (n + 1) (.tup ds) := ⟨h1, h2⟩
theorem fits_lst {c n : Nat} {ds : List D} (h1 : ds.length ≤ c) (h2 : ∀ d ∈ ds, Fits c n d) : Fits c (n + 1) (.lst ds) := ⟨h1, h2⟩
theorem TmOk.fits : ∀ {n : Nat} {d : D}, TmOk n d → Fits 1000 (2 * n) d
  | 0, _, h => h.elim
  | n + 1, d, h => by
    rcases h with ⟨i, rfl⟩ | ⟨z, _, rfl⟩ | ⟨z, ts, _, rfl, hl, ht⟩
    · refine fits_tup (by show 2 ≤ 1000; decide) fun e he => ?_
      simp at he
      rcases he with rfl | rfl <;> exact Fits.leaf
    · refine fits_tup (by show 2 ≤ 1000; decide) fun e he => ?_
      simp at he
      rcases he with rfl | rfl <;> exact Fits.leaf
    · refine fits_tup (n := 2 * n + 1) (by show 3 ≤ 1000; decide) fun e he => ?_
      simp at he
      rcases he with rfl | rfl | rfl
      · exact Fits.leaf
      · exact Fits.leaf
      · exact fits_lst (by omega) fun t m => (ht t m).fits
theorem Df.fits {d : D} (h : Df d) : Fits 1000 10 d := by
  rcases h with rfl | h
  · exact Fits.leaf
  · exact h.fits
theorem Opt.fits {d : D} {n : Nat} (h : Opt d) : Fits 1000 n d := by
  rcases h with rfl | ⟨z, _, rfl⟩ <;> exact Fits.leaf
theorem PtOk.fits : ∀ {n : Nat} {d : D}, PtOk n d → Fits 1000 (3 * n + 10) d
  | 0, _, h => h.elim
  | n + 1, d, h => by
    rcases h with rfl | ⟨z, _, rfl⟩ | ⟨row, qs, r, rfl, hr, hl, hq, hf⟩
    · refine fits_tup (n := 3 * n + 12) (by show 1 ≤ 1000; decide) fun e he => ?_
      simp at he
      rcases he with rfl
      exact Fits.leaf
    · refine fits_tup (n := 3 * n + 12) (by show 2 ≤ 1000; decide) fun e he => ?_
      simp at he
      rcases he with rfl | rfl <;> exact Fits.leaf
    · refine fits_tup (n := 3 * n + 12) (by show 3 ≤ 1000; decide) fun e he => ?_
      have he' : e = S (if row = true then "row" else "record") ∨ e = .lst (qs.map (ent row)) ∨ e = r := by
        rcases List.mem_cons.mp he with z | z
        · exact .inl z
        · rcases List.mem_cons.mp z with z | z
          · exact .inr (.inl z)
          · exact .inr (.inr (List.mem_singleton.mp z))
      rcases he' with rfl | rfl | rfl
      · exact Fits.leaf
      · refine fits_lst (n := 3 * n + 11) (by rw [List.length_map]; omega) fun t m => ?_
        obtain ⟨q, hm, rfl⟩ := List.mem_map.mp m
        obtain ⟨h1, h2⟩ := hq q hm
        have p1 : Fits 1000 (3 * n + 10) q.2.1 := h1.fits
        have p2 : Fits 1000 (3 * n + 10) q.2.2 := h2.fits.le (by omega)
        cases row
        · refine fits_tup (n := 3 * n + 10) (by show 3 ≤ 1000; decide) fun e he => ?_
          simp at he
          rcases he with rfl | rfl | rfl
          · exact Fits.leaf
          · exact p1
          · exact p2
        · refine fits_tup (n := 3 * n + 10) (by show 2 ≤ 1000; decide) fun e he => ?_
          simp at he
          rcases he with rfl | rfl
          · exact p1
          · exact p2
      · exact hr.fits
/-! ### a pattern in the heap -/
/-- lists and tuples stand -/
def LT1 (H H1 : Hp) : Prop := ∀ b xs, (H b = some (.lst xs) → H1 b = some (.lst xs)) ∧ (H b = some (.tup xs) → H1 b = some (.tup xs))
theorem LT1.ins {H H1 : Hp} {x C dx : Addr} {fs : List (Str × V)} (hx : H x = some (.ins C dx fs)) (b : But x H H1) : LT1 H H1 := fun c xs => by
  have n : ∀ {o}, H c = some o → (∀ C dx fs, o ≠ HO.ins C dx fs) → c ≠ x := fun e q z => by
    rw [z, hx] at e
    exact q _ _ _ (Option.some.inj e).symm
  exact ⟨fun e => b c _ (n e fun _ _ _ z => nomatch z) e, fun e => b c _ (n e fun _ _ _ z => nomatch z) e⟩
mutual
theorem Rep.lt {H H1 : Hp} (k : LT1 H H1) : ∀ {d : D} {v : V} {F : List Addr}, Rep H d v F → Rep H1 d v F
  | .leaf w, u, F, h => h
  | .lst ds, u, F, h => by
    obtain ⟨a, xs, G, e, ha, hr, hn, rfl⟩ := h
    exact ⟨a, xs, G, e, (k a xs).1 ha, Reps.lt k hr, hn, rfl⟩
  | .tup ds, u, F, h => by
    obtain ⟨a, xs, e, ha, hr⟩ := h
    exact ⟨a, xs, e, (k a xs).2 ha, Reps.lt k hr⟩
theorem Reps.lt {H H1 : Hp} (k : LT1 H H1) : ∀ {ds : List D} {xs : List V} {F : List Addr}, Reps H ds xs F → Reps H1 ds xs F
  | [], xs, F, h => h
  | d :: ds, xs, F, h => by
    obtain ⟨x, ys, F1, F2, e, h1, h2, hd, rfl⟩ := h
    exact ⟨x, ys, F1, F2, e, Rep.lt k h1, Reps.lt k h2, hd, rfl⟩
end
theorem po_ : ¬ (("_part" : Str) = "_order") := by decide +kernel
theorem pl_ : ¬ (("_part" : Str) = "_lacks") := by decide +kernel
theorem ol_ : ¬ (("_order" : Str) = "_lacks") := by decide +kernel
def pfs (v : V) (r s : Str) : List (Str × V) := putF "_lacks" (.str s) (putF "_order" (.str r) (putF "_part" v []))
theorem pfs_part (v : V) (r s : Str) : (pfs v r s).lookup ("_part" : Str) = some v := by
  unfold pfs
  rw [lookup_putF, if_neg pl_, lookup_putF, if_neg po_, lookup_putF, if_pos rfl]
theorem pfs_order (v : V) (r s : Str) : (pfs v r s).lookup ("_order" : Str) = some (.str r) := by
  unfold pfs
  rw [lookup_putF, if_neg ol_, lookup_putF, if_pos rfl]
theorem pfs_lacks (v : V) (r s : Str) : (pfs v r s).lookup ("_lacks" : Str) = some (.str s) := by
  unfold pfs
  rw [lookup_putF, if_pos rfl]
def PatAt (C : Addr) (H : Hp) (o : Addr) (d : D) (r s : Str) (G : List Addr) : Prop := ∃ dx v, H o = some (.ins C dx (pfs v r s)) ∧ Rep H d v G
structure PCls (K : PySem.W.Frag) (C : Addr) : Prop where
  cl : Cls K C
  nP : NoAttr K C "_part"
  nO : NoAttr K C "_order"
  nL : NoAttr K C "_lacks"
def spInit (C : Addr) : Sp := fun vs H Q _ => ∃ (x dx : Addr) (v : V) (r s : Str) (d : D), vs = [.ref x, v, .str r, .str s] ∧ H x = some (.ins C dx []) ∧ RW H d v ∧ PtOk 8 d ∧ okOrd r ∧ okLck s ∧
  ∀ u H' G, But x H H' → H' x = some (.ins C dx (pfs u r s)) → Rep H' d u G → (∀ a ∈ G, H a = none) → Q .non H'
def spGPart (C : Addr) : Sp := fun vs H Q _ => ∃ (o : Addr) (d : D) (r s : Str) (G : List Addr), vs = [.ref o] ∧ PatAt C H o d r s G ∧ PtOk 8 d ∧ ∀ u H' G', Same H H' → Rep H' d u G' → (∀ a ∈ G', H a = none) → Q u H'
def spGOrd (C : Addr) : Sp := fun vs H Q _ => ∃ (o : Addr) (d : D) (r s : Str) (G : List Addr), vs = [.ref o] ∧ PatAt C H o d r s G ∧ Q (.str r) H
def spGLck (C : Addr) : Sp := fun vs H Q _ => ∃ (o : Addr) (d : D) (r s : Str) (G : List Addr), vs = [.ref o] ∧ PatAt C H o d r s G ∧ Q (.str s) H


def spMWith (C : Addr) : Sp := fun vs H Q _ => ∃ (o : Addr) (d : D) (r s r' : Str) (G : List Addr), vs = [.ref o, .str r'] ∧ PatAt C H o d r s G ∧ PtOk 8 d ∧ okOrd r' ∧ okLck s ∧
  ∀ o' H' G', Same H H' → H o' = none → PatAt C H' o' d r' s G' → (∀ a ∈ G', H a = none) → Q (.ref o') H'
section
variable {P : Program} {w : World} {K : PySem.W.Frag} {mg : Str → Option Value} {base : Heap}
theorem sqIn : FnScope ["self", "part", "order", "lacks"] ["self", "part", "order", "lacks"] (defScope sInit) := ⟨rfl, rfl, rfl, by decide +kernel, rfl, by decide +kernel, by decide +kernel⟩
theorem ok_init {f C fP fU fF : Addr} {fd fdP fdU fdF : FuncData} (F : Fun K "__init__" "Pattern.__init__" sInit f fd) (CC : PCls K C)
    (FP : Fun K "check_part" "check_part" sCkPart fP fdP) (GP : FnOk P w K mg base CX0 24 fP fdP ["part"] (spCkPart 24)) (bP : Binds K fdP ["part"] []) (mP : mg "check_part" = some (.ref fP))
    (FU : Fun K "check_rules" "check_rules" sCkRules fU fdU) (GU : FnOk P w K mg base CX0 1 fU fdU ["order", "lacks"] spCkRules) (bU : Binds K fdU ["order", "lacks"] []) (mU : mg "check_rules" = some (.ref fU))
    (FF : Fun K "fresh" "fresh" sFresh fF fdF) (GF : FnOk P w K mg base CX0 40 fF fdF ["thing"] (spCopy 40)) (bF : Binds K fdF ["thing"] []) (mF : mg "fresh" = some (.ref fF)) : FnOk P w K mg base CX0 41 f fd ["self", "part", "order", "lacks"] (spInit C) := by
  refine F.ok sqIn (fun vs H Q E h => ?_) (fun cdv A outer s H vs Q E hr h => ?_)
  · obtain ⟨x, dx, v, r, s, d, rfl, _⟩ := h
    rfl
  obtain ⟨x, dx, v, r, s, d, rfl, hx, hR, hT, ho, hc, kk⟩ := h
  have hr1 := hr.mono (show 1 ≤ 40 by decide)
  have hr24 := hr.mono (show 24 ≤ 40 by decide)
  refine ⟨_, pss_cons (ps_expr (pe_call GP hr24 rfl mP FP.kp bP .nil pass0 (pa_cons (pv 1) pa_nil)))
    (pss_cons (ps_expr (pe_call GU hr1 rfl mU FU.kp bU .nil pass0 (pa_cons (pv 2) (pa_cons (pv 3) pa_nil))))
    (pss_cons (ps_fld (pv 0) (pe_call GF hr rfl mF FF.kp bF .nil pass0 (pa_cons (pv 1) pa_nil)) rfl)
    (pss_cons (ps_fld (pv 0) (pv 2) rfl) (pss_one (ps_fld (pv 0) (pv 3) rfl))))), ?_⟩
  refine ⟨_, rfl, v, d, 8, rfl, hR, hT, by decide, fun H1 hs1 => ⟨_, rfl, _, rfl, r, s, rfl, ho, hc, fun H2 hs2 => ?_⟩⟩
  have hs12 := hs1.trans hs2
  refine ⟨_, rfl, v, d, 34, rfl, by decide, hR.same hs12, hT.fits, fun u H3 G hs3 hr3 hG => ?_⟩
  have hs123 := hs12.trans hs3
  have hx3 := hs123 _ _ hx
  refine ⟨_, rfl, x, C, dx, [], rfl, hx3, CC.cl, CC.nP, (by show 0 < 1000; decide), _, rfl, _, rfl, x, C, dx, _, rfl, upd_same, CC.cl, CC.nO, (by show 1 < 1000; decide), _, rfl, _, rfl, x, C, dx, _, rfl, upd_same, CC.cl, CC.nL, (by show 2 < 1000; decide), ?_⟩
  have hb : But x H3 (upd (upd (upd H3 x (.ins C dx (putF "_part" u []))) x (.ins C dx (putF "_order" (.str r) (putF "_part" u [])))) x (.ins C dx (pfs u r s))) := fun b o n e => by
    rw [upd_ne n, upd_ne n, upd_ne n]
    exact e
  exact kk u _ G ((But.of hs123).trans hb) upd_same (hr3.lt (.ins hx3 hb)) fun a ha => hs12.free (hG a ha)
theorem sqGp : FnScope ["self"] ["self"] (defScope sGPart) := ⟨rfl, rfl, rfl, by decide +kernel, rfl, by decide +kernel, by decide +kernel⟩
theorem ok_gpart {f C fF : Addr} {fd fdF : FuncData} (F : Fun K "part" "Pattern.part" sGPart f fd) (CC : PCls K C)
    (FF : Fun K "fresh" "fresh" sFresh fF fdF) (GF : FnOk P w K mg base CX0 40 fF fdF ["thing"] (spCopy 40)) (bF : Binds K fdF ["thing"] []) (mF : mg "fresh" = some (.ref fF)) : FnOk P w K mg base CX0 41 f fd ["self"] (spGPart C) := by
  refine F.ok sqGp (fun vs H Q E h => ?_) (fun cdv A outer s H vs Q E hr h => ?_)
  · obtain ⟨o, d, r, s, G, rfl, _⟩ := h
    rfl
  obtain ⟨o, d, r, s, G, rfl, ⟨dx, v, ho, hR⟩, hT, kk⟩ := h
  refine ⟨_, pss_one (ps_ret (pe_call GF hr rfl mF FF.kp bF .nil pass0 (pa_cons (pe_fld (pv 0) rfl) pa_nil))), ?_⟩
  exact ⟨_, rfl, o, C, dx, _, _, rfl, ho, CC.cl, CC.nP, pfs_part _ _ _, v, d, 34, rfl, by decide, hR.rw, hT.fits, fun u H3 G3 hs3 hr3 hG => kk u H3 G3 hs3 hr3 hG⟩
theorem sqGo : FnScope ["self"] ["self"] (defScope sGOrd) := ⟨rfl, rfl, rfl, by decide +kernel, rfl, by decide +kernel, by decide +kernel⟩
theorem ok_gord {f C : Addr} {fd : FuncData} (F : Fun K "order" "Pattern.order" sGOrd f fd) (CC : PCls K C) : FnOk P w K mg base CX0 1 f fd ["self"] (spGOrd C) := by
  refine F.ok sqGo (fun vs H Q E h => ?_) (fun cdv A outer s H vs Q E hr h => ?_)
  · obtain ⟨o, d, r, s, G, rfl, _⟩ := h
    rfl
  obtain ⟨o, d, r, s, G, rfl, ⟨dx, v, ho, hR⟩, kk⟩ := h
  exact ⟨_, pss_one (ps_ret (pe_fld (pv 0) rfl)), _, rfl, o, C, dx, _, _, rfl, ho, CC.cl, CC.nO, pfs_order _ _ _, kk⟩
theorem sqGl : FnScope ["self"] ["self"] (defScope sGLck) := ⟨rfl, rfl, rfl, by decide +kernel, rfl, by decide +kernel, by decide +kernel⟩
theorem ok_glck {f C : Addr} {fd : FuncData} (F : Fun K "lacks" "Pattern.lacks" sGLck f fd) (CC : PCls K C) : FnOk P w K mg base CX0 1 f fd ["self"] (spGLck C) := by
  refine F.ok sqGl (fun vs H Q E h => ?_) (fun cdv A outer s H vs Q E hr h => ?_)
  · obtain ⟨o, d, r, s, G, rfl, _⟩ := h
    rfl
  obtain ⟨o, d, r, s, G, rfl, ⟨dx, v, ho, hR⟩, kk⟩ := h
  exact ⟨_, pss_one (ps_ret (pe_fld (pv 0) rfl)), _, rfl, o, C, dx, _, _, rfl, ho, CC.cl, CC.nL, pfs_lacks _ _ _, kk⟩
end
end K02
set_option Elab.async false
set_option linter.all false
set_option maxRecDepth 100000
set_option maxHeartbeats 4000000
namespace K02
open PySem L2 PyProof.Rows
/-- a new instance's heap -/
theorem same_ins {H : Hp} {x dx C : Addr} (hx : H x = none) (hdx : H dx = none) : Same H (upd (upd H dx (.own x)) x (.ins C dx [])) := fun b o e => by
  rw [upd_ne (ne_of_none e hx), upd_ne (ne_of_none e hdx)]
  exact e
theorem But.same {x : Addr} {H H1 H2 : Hp} (s : Same H H1) (b : But x H1 H2) (hx : H x = none) : Same H H2 := fun c o e => b c o (fun z => by
  rw [z, hx] at e
  cases e) (s c o e)
structure IsC (K : PySem.W.Frag) (C D : Addr) (b : Bool) : Prop where
  ha : PySem.W.findIn K (.ref C) "__class__" = some (some (.builtin "object.__class__"))
  hn : PySem.W.specialIn K (.builtin "object.__class__") "__get__" = some (some (.builtin "getset_descriptor.__get__"))
  htk : PySem.W.takesIn K (.builtin "object.__class__") = some true
  hm : PySem.W.mroIn K C (.type "object") = some true
  kit : PySem.W.kitOne K (.ref C) (.ref D) = some b
def stepD (d : D) : D := .tup [S "take", .leaf .non, d]
def spStepsP (CP : Addr) : Sp := fun vs H Q _ => ∃ (o : Addr) (d : D) (r s : Str) (G : List Addr), vs = [.ref o] ∧ PatAt CP H o d r s G ∧ PtOk 8 d ∧ ∀ v H' G', Same H H' → Rep H' (.lst [stepD d]) v G' → (∀ a ∈ G', H a = none) → Q v H'
section
variable {P : Program} {w : World} {K : PySem.W.Frag} {mg : Str → Option Value} {base : Heap}
theorem sqMw : FnScope ["self", "order"] ["self", "order"] (defScope sMWith) := ⟨rfl, rfl, rfl, by decide +kernel, rfl, by decide +kernel, by decide +kernel⟩
theorem ok_mwith {f C fI : Addr} {fd fdI : FuncData} (F : Fun K "with_order" "Pattern.with_order" sMWith f fd) (CC : PCls K C) (M : Mk K C fI) (mC : mg "Pattern" = some (.ref C))
    (GI : FnOk P w K mg base CX0 41 fI fdI ["self", "part", "order", "lacks"] (spInit C)) (bI : Binds K fdI ["self", "part", "order", "lacks"] []) : FnOk P w K mg base CX0 43 f fd ["self", "order"] (spMWith C) := by
  refine F.ok sqMw (fun vs H Q E h => ?_) (fun cdv A outer s H vs Q E hr h => ?_)
  · obtain ⟨o, d, r, s, r', G, rfl, _⟩ := h
    rfl
  obtain ⟨o, d, r, s, r', G, rfl, ⟨dx, v, ho, hR⟩, hT, hr', hs', kk⟩ := h
  refine ⟨_, pss_one (ps_ret (pe_make M GI hr rfl mC bI .nil pass0 (pa_cons (pe_fld (pv 0) rfl) (pa_cons (pv 1) (pa_cons (pe_fld (pv 0) rfl) pa_nil))))), ?_⟩
  refine ⟨_, rfl, o, C, dx, _, _, rfl, ho, CC.cl, CC.nP, pfs_part _ _ _, _, rfl, _, rfl, o, C, dx, _, _, rfl, ho, CC.cl, CC.nL, pfs_lacks _ _ _, ?_⟩
  intro x dx2 hx hdx hne
  have st := same_ins (C := C) hx hdx
  refine ⟨x, dx2, v, r', s, d, rfl, upd_same, hR.rw.same st, hT, hr', hs', fun u H' G' hb hx' hr2 hG => ⟨rfl, kk x H' G' (But.same st hb hx) hx ⟨dx2, u, hx', hr2⟩ fun a ha => st.free (hG a ha)⟩⟩
theorem sqSo : FnScope ["pattern"] ["pattern"] (defScope sStepsOf) := ⟨rfl, rfl, rfl, by decide +kernel, rfl, by decide +kernel, by decide +kernel⟩
theorem ok_steps {f C CR g pP : Addr} {fd gd : FuncData} (F : Fun K "steps_of" "steps_of" sStepsOf f fd) (T : Txt K mg) (CC : PCls K C) (mR : mg "Program" = some (.ref CR)) (IC : IsC K C CR false)
    (pg : PropOf K C "part" pP g) (GG : FnOk P w K mg base CX0 41 g gd ["self"] (spGPart C)) (bG : L2.Binds K gd ["self"] []) : FnOk P w K mg base CX0 43 f fd ["pattern"] (spStepsP C) := by
  refine F.ok sqSo (fun vs H Q E h => ?_) (fun cdv A outer s H vs Q E hr h => ?_)
  · obtain ⟨o, d, r, s, G, rfl, _⟩ := h
    rfl
  obtain ⟨o, d, r, s, G, rfl, hP, hT, kk⟩ := h
  refine ⟨_, pss_cons (ps_if (pt_val (pe_callB call_isi (by rfl) T.isi boot_isinstance (pa_cons (pv 0) (pa_cons (pe_glob (v := .ref CR) rfl mR rfl) pa_nil)))) pss_never pss_nil)
    (pss_one (ps_ret (pe_lst (pa_cons (pe_tup (pa_cons pe_str (pa_cons pe_non (pa_cons (pe_prop (pv 0) CC.cl pg GG hr bG .nil pass0 rfl) pa_nil)))) pa_nil)))), ?_⟩
  obtain ⟨dx, v, ho, hR⟩ := id hP
  refine ⟨_, rfl, .ref o, _, _, _, _, rfl, .own _, .base (.ins ho CC.cl IC.ha IC.hn IC.htk IC.hm), IC.kit, _, rfl, iteF ?_⟩
  refine ⟨_, rfl, o, dx, _, rfl, ho, o, d, r, s, G, rfl, hP, hT, fun u H1 G1 hs1 hr1 hG1 => ⟨by show 3 ≤ sizeLine; decide, fun t ht => ⟨by show 1 ≤ sizeLine; decide, fun l hl => ?_⟩⟩⟩
  have s2 := same_new ht (.tup [V.str (Str.ofString "take"), .non, u])
  have s3 := same_new hl (.lst [V.ref t])
  have ht3 : (upd (upd H1 t (.tup [V.str (Str.ofString "take"), .non, u])) l (.lst [V.ref t])) t = some (.tup [V.str (Str.ofString "take"), .non, u]) := s3 _ _ upd_same
  refine kk _ _ (l :: G1) ((hs1.trans s2).trans s3) (rep_lst upd_same (reps_one (rep_tup ht3 (reps_leaf leaf_str (reps_leaf leaf_non (reps_one ((hr1.same s2).same s3)))))) fun z => ?_) fun a ha => ?_
  · obtain ⟨zs, hz⟩ := hr1.at_ l z
    rw [s2 _ _ hz] at hl
    cases hl
  · rcases List.mem_cons.mp ha with z | z
    · exact z ▸ (hs1.trans s2).free hl
    · exact hG1 a z
end
end K02
set_option Elab.async false
set_option linter.all false
set_option maxRecDepth 100000
set_option maxHeartbeats 4000000
namespace K02
open PySem L2 PyProof.Rows
/-! ### take -/
open Classical in
/-- all but a run's own things -/
noncomputable def offO (o : Nat → Addr) (H : Hp) : Hp := fun b => if ∃ i, i < 13 ∧ b = o i then none else H b
theorem offO_le {o : Nat → Addr} {H : Hp} : Same (offO o H) H := fun b u e => by
  unfold offO at e
  split at e
  · cases e
  · exact e
theorem offO_at {o : Nat → Addr} {H : Hp} {b : Addr} (h : ∀ i, i < 13 → b ≠ o i) : offO o H b = H b := if_neg fun ⟨i, hi, e⟩ => h i hi e
theorem offO_own {o : Nat → Addr} {H : Hp} {i : Nat} (h : i < 13) : offO o H (o i) = none := if_pos ⟨i, h, rfl⟩
mutual
theorem Rep.offO {H : Hp} {o : Nat → Addr} (ho : ∀ i, i < 13 → ∃ u, H (o i) = some u ∧ plain u) : ∀ {d : D} {v : V} {F : List Addr}, Rep H d v F → (∀ a ∈ F, ∀ i, i < 13 → a ≠ o i) → RW (K02.offO o H) d v
  | .leaf w, u, F, h, _ => ⟨h.1, h.2.1⟩
  | .lst ds, u, F, h, n => by
    obtain ⟨a, xs, G, e, ha, hr, hn, rfl⟩ := h
    exact ⟨a, xs, e, (offO_at (n a List.mem_cons_self)).trans ha, Reps.offO ho hr fun b hb => n b (List.mem_cons_of_mem _ hb)⟩
  | .tup ds, u, F, h, n => by
    obtain ⟨a, xs, e, ha, hr⟩ := h
    refine ⟨a, xs, e, (offO_at fun i hi z => ?_).trans ha, Reps.offO ho hr n⟩
    obtain ⟨u, e2, n1, _⟩ := ho i hi
    rw [← z, ha] at e2
    exact n1 xs (Option.some.inj e2).symm
theorem Reps.offO {H : Hp} {o : Nat → Addr} (ho : ∀ i, i < 13 → ∃ u, H (o i) = some u ∧ plain u) : ∀ {ds : List D} {xs : List V} {F : List Addr}, Reps H ds xs F → (∀ a ∈ F, ∀ i, i < 13 → a ≠ o i) → RWs (K02.offO o H) ds xs
  | [], xs, F, h, _ => h.1
  | d :: ds, xs, F, h, n => by
    obtain ⟨x, ys, F1, F2, e, h1, h2, hd, rfl⟩ := h
    exact ⟨x, ys, e, Rep.offO ho h1 fun a ha => n a (List.mem_append_left _ ha), Reps.offO ho h2 fun a ha => n a (List.mem_append_right _ ha)⟩
end
theorem PrAt.same {K : PySem.W.Frag} {H H1 : Hp} {v : V} {q : Str × Pc} (h : PrAt K H v q) (s : Same H H1) : PrAt K H1 v q := by
  obtain ⟨t, x, e, h1, h2⟩ := h
  exact ⟨t, x, e, SqT.same h1 s, h2.same s⟩
theorem ToldAt.same {K : PySem.W.Frag} {H H1 : Hp} {v : V} {p : Pc} (h : ToldAt K H v p) (s : Same H H1) : ToldAt K H1 v p := by
  unfold ToldAt at h ⊢
  split
  · rename_i c
    rw [if_pos c] at h
    exact RW.same s h
  · rename_i c
    rw [if_neg c] at h
    exact h.same s
theorem EndAt.same {K : PySem.W.Frag} {H H1 : Hp} {v : V} {e : EndM} (h : EndAt K H v e) (s : Same H H1) : EndAt K H1 v e := by
  cases e with
  | bound ps =>
    obtain ⟨b, l, xs, e, h1, h2, h3⟩ := h
    exact ⟨b, l, xs, e, s _ _ h1, s _ _ h2, Paired.mapP h3 fun _ _ z => z.same s⟩
  | failed p y =>
    obtain ⟨b, tv, x, e, h1, h2, h3⟩ := h
    exact ⟨b, tv, x, e, s _ _ h1, h2.same s, h3.st (TupSt.of s)⟩
theorem OcAt.same {K : PySem.W.Frag} {H H1 : Hp} {u : V} {ms : List (Str × List Pc)} {e : EndM} (h : OcAt K H u ms e) (s : Same H H1) : OcAt K H1 u ms e := by
  obtain ⟨a, l, xs, v, e0, h1, h2, h3, h4⟩ := h
  exact ⟨a, l, xs, v, e0, s _ _ h1, s _ _ h2, Paired.mapP h3 fun _ _ z => z.st (TupSt.of s), h4.same s⟩
/-- a promise of one of several kinds -/
theorem fn_any.{u} {ι : Sort u} {P : Program} {w : World} {K : PySem.W.Frag} {mg : Str → Option Value} {base : Heap} {CX : CXT} {k : Nat} {f : Addr} {fd : FuncData} {ps : List Str} {sp : ι → Sp} (h : ∀ i, FnOk P w K mg base CX k f fd ps (sp i)) : FnOk P w K mg base CX k f fd ps (fun vs H Q E => ∃ i, sp i vs H Q E) :=
  ⟨fun vs H Q E ⟨i, x⟩ => (h i).len vs H Q E x, fun A outer s H args us vs Q E h1 h2 h3 h4 ⟨i, x⟩ => (h i).run A outer s H args us vs Q E h1 h2 h3 h4 x⟩
section
variable {P : Program} {w : World} {K : PySem.W.Frag} {mg : Str → Option Value} {base : Heap} {CT CF CG CE CP : Addr}
def mkT (cT : FCls K CT tN) (cF : FCls K CF K02.fN) (S : Src P w K mg base) (l n : Bool) : Tc P w K mg base := ⟨S, CT, CF, l, n, cT, cF⟩
noncomputable def runG (w0 : Wv) (rs : List Wv) (r s : Str) (m : Nat) (d : D) : Out Unit :=
  runAll (takePart (gSem w0 rs) (decide (r = Str.ofString "late")) (decide (s = Str.ofString "nothing")) m) (workOut (gSem w0 rs) 7) 0 [stepD d] Tst.nil
def spTake (K : PySem.W.Frag) (CE CP : Addr) (nv m : Nat) : Sp := fun vs H Q E => ∃ (o ra : Addr) (v : V) (d : D) (r s : Str) (G : List Addr) (w0 : Wv) (rs : List Wv) (xs : List V), vs = [.ref o, v, .ref ra] ∧ PatAt CP H o d r s G ∧ PtOk 8 d ∧ RV H w0 v ∧ H ra = some (.lst xs) ∧ RVs H rs xs ∧
  Post (runG w0 rs r s m d) (fun _ σ => σ.held.length < 64 ∧ σ.made.length ≤ 1000 ∧ (∀ q ∈ σ.made, q.2.length ≤ 1000 ∧ ∀ p ∈ q.2, okV w0 rs nv p) ∧ okEnd w0 rs nv (endOf σ) ∧
      ∀ u H', Same H H' → RX K H' (ocX w0 rs σ.made (endOf σ)) u → (∀ ps, endOf σ = .bound ps → ∃ G, RO K H' (ocX w0 rs σ.made (endOf σ)) u G ∧ ∀ a ∈ G, H a = none) → Q u H')
    (fun n _ => Gone CE H E n fun H' => Same H H')
theorem sqTk : FnScope ["pattern", "value", "results", "given", "taking"] ["pattern", "value", "results"] (defScope sTake) := ⟨rfl, rfl, rfl, by decide +kernel, rfl, by decide +kernel, by decide +kernel⟩
theorem ok_take {f gI fA fN gV tI fR fO fGO fGL pO pL fS fW : Addr} {fd gdI fdA fdN tdI fdR fdO fdGO fdGL fdS fdW : FuncData} {N kR nv m : Nat} (hN : 44 ≤ N) (hkR : kR ≤ N) (hnv : nv + 2 ≤ N) (hm : 4 * m + 23 ≤ kR) (F : Fun K "take" "take" sTake f fd)
    (cG : FCls K CG gN) (MG : Mk K CG gI) (mG : mg "Given" = some (.ref CG)) (GGI : FnOk P w K mg base CX0 1 gI gdI ["self", "value", "results"] (spGInit CG)) (bGI : L2.Binds K gdI ["self", "value", "results"] [])
    (GA : FnOk P w K mg base (L2.CX P w) 9 fA fdA ["self", "look", "answers"] (spGAns K CG)) (GN : FnOk P w K mg base (L2.CX P w) 9 fN fdN ["self", "number"] (spGNote CG CE))
    (mA : Meth K CG "answer" fA) (mN : Meth K CG "note_call" fN) (bA : L2.Binds K fdA ["self", "look", "answers"] []) (bN : L2.Binds K fdN ["self", "number"] []) (bV : BMeth K CG "value_at" gV)
    (cT : FCls K CT tN) (cF : FCls K CF K02.fN) (MT : Mk K CT tI) (mT : mg "Taking" = some (.ref CT))
    (GTI : ∀ (S : Src P w K mg base) (l n : Bool), FnOk P w K mg base CX0 3 tI tdI ["self", "source", "order", "lacks"] (spTkInit (mkT cT cF S l n))) (bTI : L2.Binds K tdI ["self", "source", "order", "lacks"] [])
    (GTR : ∀ (S : Src P w K mg base) (l n : Bool), FnOk P w K mg base (L2.CX P w) kR fR fdR ["self", "steps"] (spRun (mkT cT cF S l n) kR)) (bTR : L2.Binds K fdR ["self", "steps"] []) (mTR : Meth K CT "run" fR)
    (GTO : ∀ (S : Src P w K mg base) (l n : Bool), FnOk P w K mg base CX0 3 fO fdO ["self"] (spOutcome (mkT cT cF S l n))) (bTO : L2.Binds K fdO ["self"] []) (mTO : Meth K CT "outcome" fO)
    (CC : PCls K CP) (pgO : PropOf K CP "order" pO fGO) (GGO : FnOk P w K mg base CX0 1 fGO fdGO ["self"] (spGOrd CP)) (bGO : L2.Binds K fdGO ["self"] []) (pgL : PropOf K CP "lacks" pL fGL) (GGL : FnOk P w K mg base CX0 1 fGL fdGL ["self"] (spGLck CP)) (bGL : L2.Binds K fdGL ["self"] [])
    (FS : Fun K "steps_of" "steps_of" sStepsOf fS fdS) (GS : FnOk P w K mg base CX0 43 fS fdS ["pattern"] (spStepsP CP)) (bS : L2.Binds K fdS ["pattern"] []) (mS : mg "steps_of" = some (.ref fS))
    (FW : Fun K "with_each_place" "with_each_place" sWithEach fW fdW) (GW : FnOk P w K mg base CX0 (nv + 2) fW fdW ["outcome", "change"] (spWithEach K CG gV nv)) (bW : L2.Binds K fdW ["outcome", "change"] []) (mW : mg "with_each_place" = some (.ref fW)) :
    FnOk P w K mg base (L2.CX P w) (N + 1) f fd ["pattern", "value", "results"] (spTake K CE CP nv m) := by
  have GTI' := fn_any (sp := fun (S : Src P w K mg base) vs H Q E => ∃ ln : Bool × Bool, spTkInit (mkT cT cF S ln.1 ln.2) vs H Q E) fun S => fn_any (sp := fun ln : Bool × Bool => spTkInit (mkT cT cF S ln.1 ln.2)) fun ln => GTI S ln.1 ln.2
  have GTR' := fn_any (sp := fun (S : Src P w K mg base) vs H Q E => ∃ ln : Bool × Bool, spRun (mkT cT cF S ln.1 ln.2) kR vs H Q E) fun S => fn_any (sp := fun ln : Bool × Bool => spRun (mkT cT cF S ln.1 ln.2) kR) fun ln => GTR S ln.1 ln.2
  have GTO' := fn_any (sp := fun (S : Src P w K mg base) vs H Q E => ∃ ln : Bool × Bool, spOutcome (mkT cT cF S ln.1 ln.2) vs H Q E) fun S => fn_any (sp := fun ln : Bool × Bool => spOutcome (mkT cT cF S ln.1 ln.2)) fun ln => GTO S ln.1 ln.2
  refine F.okX sqTk (fun vs H Q E h => ?_) (fun cdv A outer s H vs Q E hr h => ?_)
  · obtain ⟨o, ra, v, d, r, s, G, w0, rs, xs, rfl, _⟩ := h
    rfl
  obtain ⟨o, ra, v, d, r, s, G, w0, rs, xs, rfl, hP, hT, hv, hra, hrs, hG⟩ := h
  have hr2 := hr.mono (show 1 + 1 ≤ N by omega)
  have hr4 := hr.mono (show 3 + 1 ≤ N by omega)
  have hr3 := hr.mono (show 3 ≤ N by omega)
  have hr43 := hr.mono (show 43 ≤ N by omega)
  have hrR := hr.mono hkR
  have hrW := hr.mono hnv
  refine ⟨_, pss_cons (ps_set (i := 3) sqTk.nd rfl (Or.inl rfl) (pe_make MG GGI hr2 rfl mG bGI .nil pass0 (pa_cons (pv 1) (pa_cons (pv 2) pa_nil))))
    (pss_cons (ps_set (i := 4) sqTk.nd rfl (Or.inl rfl) (pe_make MT GTI' hr4 rfl mT bTI .nil pass0 (pa_cons (pv 3) (pa_cons (pe_prop (pv 0) CC.cl pgO GGO hr2 bGO .nil pass0 rfl) (pa_cons (pe_prop (pv 0) CC.cl pgL GGL hr2 bGL .nil pass0 rfl) pa_nil)))))
    (pss_cons (ps_expr (pe_meth (pv 4) cT.cl mTR GTR' hrR bTR .nil (passes_call (takes_of rfl rfl rfl rfl) fun _ _ _ _ h => h) (pa_cons (pe_call GS hr43 rfl mS FS.kp bS .nil pass0 (pa_cons (pv 0) pa_nil)) pa_nil)))
    (pss_one (ps_ret (pe_call GW hrW rfl mW FW.kp bW .nil pass0 (pa_cons (pe_meth0 (pv 4) cT.cl mTO GTO' hr3 bTO .nil pass0) (pa_cons (pe_bound (pv 3) cG.cl bV) pa_nil))))))), ?_⟩
  -- the Given
  refine ⟨_, rfl, _, rfl, fun x dx hx hdx hne => ?_⟩
  have s1 := same_ins (C := CG) hx hdx
  refine ⟨x, dx, ra, v, xs, w0, rs, rfl, upd_same, hv.same s1, s1 _ _ hra, hrs.same s1, fun H1 fs vals e1 hF hv0 hv1 => ⟨rfl, ?_⟩⟩
  have s01 : Same H H1 := fun b u e => by
    rw [e1, upd_ne (ne_of_none e hx)]
    exact s1 b u e
  have hx1 : H1 x = some (.ins CG dx fs) := by rw [e1, upd_same]
  have hgv : GvAt CG x H1 w0 rs := ⟨dx, fs, vals, ra, xs, hx1, hF, by rw [hv0]; exact hv.same s01, hv1, s01 _ _ hra, hrs.same s01⟩
  clear e1
  have hP1 : PatAt CP H1 o d r s G := by
    obtain ⟨dx, v, ho, hR⟩ := hP
    exact ⟨dx, v, s01 _ _ ho, hR.same s01⟩
  obtain ⟨dxp, vp, hop, _⟩ := id hP1
  -- the run
  refine ⟨_, rfl, _, rfl, o, dxp, _, rfl, hop, o, d, r, s, G, rfl, hP1, _, rfl, o, dxp, _, rfl, hop, o, d, r, s, G, rfl, hP1, fun y dy hy hdy hney => ?_⟩
  have s2 := same_ins (C := CT) hy hdy
  let S0 : Src P w K mg base := gSrc cG hgv GA GN mA mN bA bN
  let T0 : Tc P w K mg base := mkT cT cF S0 (decide (r = Str.ofString "late")) (decide (s = Str.ofString "nothing"))
  refine ⟨S0, (decide (r = Str.ofString "late"), decide (s = Str.ofString "nothing")), y, dy, r, s, H1, rfl, upd_same, rfl, rfl, s2, hy, Same.refl H1, fun b z => z.elim, fun z => z, s2, fun oo H2 ho hT2 ts2 => ⟨rfl, ?_⟩⟩
  have f2 := hT2.fr.same
  have hP2 : PatAt CP H2 o d r s G := by
    obtain ⟨dx, v, ho, hR⟩ := hP1
    exact ⟨dx, v, f2 _ _ ho, hR.same f2⟩
  have iy : ∃ dx fs, H2 y = some (.ins CT dx fs) ∧ (∀ m ∈ tM, fs.lookup m = none) := by
    obtain ⟨dx, fs, vals, hi, hF, _⟩ := hT2.ct.ins
    rw [ho] at hi
    exact ⟨dx, fs, hi, hF.non⟩
  obtain ⟨dyi, fsi, hyi, hni⟩ := iy
  refine ⟨_, rfl, y, dyi, fsi, rfl, hyi, hni _ (by decide +kernel), _, rfl, o, d, r, s, G, rfl, hP2, hT, fun u H3 G3 hs3 hr3 hG3 => ?_⟩
  have hT3 : TkAt T0 T0.S.rep H1 H3 oo Tst.nil := hT2.same T0.S.keep hs3
  have own3 : ∀ i, i < 13 → ∃ u, H3 (oo i) = some u ∧ plain u := hT3.ct.kind
  have hRW : RW (offO oo H3) (.lst [stepD d]) u := Rep.offO own3 hr3 fun a ha i hi z => by
    obtain ⟨u, e, _⟩ := hT2.ct.kind i hi
    rw [← z, hG3 a ha] at e
    cases e
  have sM : Same H1 (offO oo H3) := fun b v e => by
    rw [offO_at fun i hi z => ?_]
    · exact hT3.fr.same b v e
    · rw [z, hT3.fr.free i hi] at e
      cases e
  have hT4 : TkAt T0 T0.S.rep (offO oo H3) H3 oo Tst.nil := hT3.more sM offO_le (fun i hi => offO_own hi) fun b z => z.elim
  have sHM := s01.trans sM
  refine ⟨S0, (decide (r = Str.ofString "late"), decide (s = Str.ofString "nothing")), oo, offO oo H3, Tst.nil, u, [stepD d], m, by rw [← ho]; rfl, hT4, hRW, hm, ?_⟩
  refine Post.mono (x := runG w0 rs r s m d) hG (fun _ σ q H4 o4 hT5 ho4 ts4 => ?_) fun n σ q dd H4 ⟨o4, h4, _, _⟩ hd hx4 => q dd H4 (sHM.trans h4.fr.same) (sHM.free hd) hx4
  obtain ⟨q1, q2, q3, q4, kk⟩ := q
  have iy4 : ∃ dx fs, H4 y = some (.ins CT dx fs) ∧ (∀ m ∈ tM, fs.lookup m = none) := by
    obtain ⟨dx, fs, vals, hi, hF, _⟩ := hT5.ct.ins
    rw [ho4, ho] at hi
    exact ⟨dx, fs, hi, hF.non⟩
  obtain ⟨dy4, fs4, hy4, hn4⟩ := iy4
  have s04 : Same H H4 := sHM.trans hT5.fr.same
  refine ⟨_, rfl, y, dy4, fs4, rfl, hy4, hn4 _ (by decide +kernel), S0, (decide (r = Str.ofString "late"), decide (s = Str.ofString "nothing")), o4, offO oo H3, σ, T0.S.rep, by rw [ho4, ho]; rfl, T0.S.keep, hT5, q1, fun u5 H5 hs5 hoc => ?_⟩
  have hg5 : GvAt CG x H5 w0 rs := hgv.same ((hT5.fr.src : Same H1 H4).trans hs5)
  obtain ⟨dx5, fs5, vals5, ra5, xs5, hx5, hF5, hgr5⟩ := id hg5
  refine ⟨_, rfl, x, dx5, fs5, rfl, hx5, hF5.non _ (by decide +kernel), fun qa hqa => ?_⟩
  have s6 := same_new hqa (.met gV x)
  refine ⟨x, qa, u5, w0, rs, σ.made, endOf σ, rfl, ?_, upd_same, hg5.same s6, q2, q3, q4, fun u6 H6 hs6 hrx hro => ?_⟩
  · exact hoc.same s6
  · exact kk u6 H6 ((s04.trans hs5).trans (s6.trans hs6)) hrx fun ps e => by
      obtain ⟨G6, h1, h2⟩ := hro ps e
      exact ⟨G6, h1, fun a ha => ((s04.trans hs5).trans s6).free (h2 a ha)⟩
end
end K02
set_option Elab.async false
set_option linter.all false
set_option maxRecDepth 100000
set_option maxHeartbeats 4000000
namespace K02
open PySem L2 PyProof.Rows
/-! ### the law's own sameness, of data with records -/
def Xd.its : Xd → List Xd
  | .lst ds => ds
  | .tup ds => ds
  | _ => []
def spSameX (K : PySem.W.Frag) (n : Nat) : Sp := fun vs H Q _ => ∃ (v u : V) (d : Xd) (m : Nat), vs = [v, u] ∧ m + 1 ≤ n ∧ RX K H d v ∧ RX K H d u ∧ FitX 1000 m d ∧ ∀ H', Same H H' → Q (.bl true) H'
theorem RX.seq {K : PySem.W.Frag} {H : Hp} {d : Xd} {v : V} (h : RX K H d v) (hd : (d.isL || d.isT) = true) : ∃ a xs, v = .ref a ∧ (H a = some (.lst xs) ∨ SqT K H a xs) ∧ RXs K H d.its xs := by
  cases d with
  | leaf w => cases hd
  | lst ds =>
    obtain ⟨a, xs, e, ha, hr⟩ := h
    exact ⟨a, xs, e, .inl ha, hr⟩
  | tup ds =>
    obtain ⟨a, xs, e, ha, hr⟩ := h
    exact ⟨a, xs, e, .inr ha, hr⟩
  | rcd ns ds => cases hd
theorem FitX.its {c m : Nat} {d : Xd} (h : FitX c m d) (hd : (d.isL || d.isT) = true) : ∃ m', m = m' + 1 ∧ d.its.length ≤ c ∧ ∀ e ∈ d.its, FitX c m' e := by
  cases d with
  | leaf v => cases hd
  | lst ds => exact h.lst
  | tup ds => exact h.tup
  | rcd ns ds => cases hd
theorem sameX_none {P : Program} {w : World} {K : PySem.W.Frag} {mg : Str → Option Value} {base : Heap} {f : Addr} {fd : FuncData} {ps : List Str} : FnOk P w K mg base CX0 0 f fd ps (spSameX K 0) := none_of fun vs H Q E h => by
  obtain ⟨v, u, d, m, _, h1, _⟩ := h
  omega
section
variable {P : Program} {w : World} {K : PySem.W.Frag} {mg : Str → Option Value} {base : Heap}
theorem sqSa : FnScope ["told", "owed", "name", "at"] ["told", "owed"] (defScope sSame) := ⟨rfl, rfl, rfl, by decide +kernel, rfl, by decide +kernel, by decide +kernel⟩
theorem ok_sameX {f : Addr} {fd : FuncData} {n : Nat} (F : Fun K "_law_ta_same" "_law_ta_same" sSame f fd) (T : Txt K mg) (G : FnOk P w K mg base CX0 n f fd ["told", "owed"] (spSameX K n)) (b : Binds K fd ["told", "owed"] []) (m : mg "_law_ta_same" = some (.ref f)) (zD : mg "dict" = none) (zB : mg "bool" = none) (zS : mg "str" = none) :
    FnOk P w K mg base CX0 (n + 1) f fd ["told", "owed"] (spSameX K (n + 1)) := by
  refine F.ok sqSa (fun vs H Q E h => ?_) (fun cdv A outer s H vs Q E hr h => ?_)
  · obtain ⟨v, u, d, m0, rfl, _⟩ := h
    rfl
  obtain ⟨v, u, d, m0, rfl, hm, hv, hu, hF, kk⟩ := h
  have hu9 : (A.deeper (envOfC "_law_ta_same" (defScope sSame) s.heap.objs.size f cdv)).units + 1 < cLine := by
    have := hr.units
    omega
  refine ⟨_, pss_cons (ps_if (pt_val (pe_callB call_isi (by rfl) T.isi boot_isinstance (pa_cons (pv 1) (pa_cons (pe_bltn (v := .ty "dict") (by rfl) zD boot_dict rfl) pa_nil))))
      (pss_cons (ps_if (pw_or (pt_not (pt_val (pe_callB call_isi (by rfl) T.isi boot_isinstance (pa_cons (pv 0) (pa_cons (pe_bltn (v := .ty "dict") (by rfl) zD boot_dict rfl) pa_nil))))) (pw_or1 (pt_cmpR op_ne (pe_callB call_lenD (by rfl) T.len PySem.boot_len (pa_cons (pv 0) pa_nil)) (pe_callB call_lenD (by rfl) T.len PySem.boot_len (pa_cons (pv 1) pa_nil)) (nomark _)))).pt pss_never pss_nil)
      (pss_one (ps_ret (pe_callB (cr_all rfl) (by rfl) T.all (by decide +kernel) (pa_cons (pe_lock (pe_lc (own := [("name", 2)]) (g := gName 2) (tt := tYes) (te := tAndV (tDIn (tVar 2) (tVar 0)) (tCall (spSameX K n) [] E0 (tCons (tDGet (tVar 0) (tVar 2)) (tCons (tDGet (tVar 1) (tVar 2)) tNil)))) rfl sqSa.nd (pi_keys (pv 1)) (blkOk_by (N := ["told", "owed", "name", "at"]) (sc := defScope sSame) (by decide +kernel)) (fun _ _ _ _ _ => pg_name (i := 2) sqSa.nd rfl (Or.inl rfl)) (fun _ _ _ _ _ => pts_nil)
          (fun _ _ _ _ _ => pe_and (pe_cmp (pc_din hu9 (pv 2) (pv 0))) (pe_one (pe_call G hr rfl m F.kp b .nil pass0 (pa_cons (pe_dget hu9 (pv 0) (pv 2) (fun _ _ => rfl)) (pa_cons (pe_dget hu9 (pv 1) (pv 2) (fun _ _ => rfl)) pa_nil))))))) pa_nil))))) pss_nil)
    (pss_cons (ps_if (pt_val (pe_callB call_isiT (by rfl) T.isi boot_isinstance (pa_cons (pv 1) (pa_cons (pe_tup (pa_cons (pe_bltn (v := .ty "list") (by rfl) T.list boot_list rfl) (pa_cons (pe_bltn (v := .ty "tuple") (by rfl) T.tuple boot_tuple rfl) pa_nil))) pa_nil))))
      (pss_cons (ps_if (pw_or (pt_cmpR op_ne (pe_callB call_isi (by rfl) T.isi boot_isinstance (pa_cons (pv 0) (pa_cons (pe_bltn (v := .ty "list") (by rfl) T.list boot_list rfl) pa_nil))) (pe_callB call_isi (by rfl) T.isi boot_isinstance (pa_cons (pv 1) (pa_cons (pe_bltn (v := .ty "list") (by rfl) T.list boot_list rfl) pa_nil))) (nomark _))
          (pw_or1 (pt_cmpR op_ne (pe_callB call_isi (by rfl) T.isi boot_isinstance (pa_cons (pv 0) (pa_cons (pe_bltn (v := .ty "tuple") (by rfl) T.tuple boot_tuple rfl) pa_nil))) (pe_callB call_isi (by rfl) T.isi boot_isinstance (pa_cons (pv 1) (pa_cons (pe_bltn (v := .ty "tuple") (by rfl) T.tuple boot_tuple rfl) pa_nil))) (nomark _)))).pt pss_never pss_nil)
      (pss_one (ps_ret (pe_and (pe_cmpR op_eq (pe_callB call_len_seq (by rfl) T.len PySem.boot_len (pa_cons (pv 0) pa_nil)) (pe_callB call_len_seq (by rfl) T.len PySem.boot_len (pa_cons (pv 1) pa_nil)) (nomark _))
        (pe_one (pe_callB (cr_all rfl) (by rfl) T.all (by decide +kernel) (pa_cons (pe_lc (own := [("at", 3)]) (g := gName 3) (tt := tYes) rfl sqSa.nd (pi_range1 rfl T.range (pa_cons (pe_callB call_len_seq (by rfl) T.len PySem.boot_len (pa_cons (pv 1) pa_nil)) pa_nil)) (blkOk_by (N := ["told", "owed", "name", "at"]) (sc := defScope sSame) (by decide +kernel)) (fun _ _ _ _ _ => pg_name (i := 3) sqSa.nd rfl (Or.inl rfl)) (fun _ _ _ _ _ => pts_nil)
          (fun _ _ _ _ _ => pe_call G hr rfl m F.kp b .nil pass0 (pa_cons (pe_ix (show IxR _ (rIx K) from ix_seq) (pv 0) (pv 3) (fun _ _ => rfl)) (pa_cons (pe_ix (show IxR _ (rIx K) from ix_seq) (pv 1) (pv 3) (fun _ _ => rfl)) pa_nil)))) pa_nil))))))) pss_nil)
    (pss_cons (ps_if (pw_or (pt_cmpR op_isN (pv 1) pe_non (nomark _)) (pw_or1 (pt_val (pe_callB call_isi (by rfl) T.isi boot_isinstance (pa_cons (pv 1) (pa_cons (pe_bltn (v := .ty "bool") (by rfl) zB boot_bool rfl) pa_nil)))))).pt
      (pss_one (ps_ret (pe_cmpR op_eq (pe_callB call_reprNB (by rfl) T.repr boot_repr (pa_cons (pv 0) pa_nil)) (pe_callB call_reprNB (by rfl) T.repr boot_repr (pa_cons (pv 1) pa_nil)) (nomark _)))) pss_nil)
    (pss_cons (ps_if (pt_val (pe_callB call_isi (by rfl) T.isi boot_isinstance (pa_cons (pv 1) (pa_cons (pe_bltn (v := .ty "int") (by rfl) T.int boot_int rfl) pa_nil))))
      (pss_one (ps_ret (pe_and (pe_callB call_isi (by rfl) T.isi boot_isinstance (pa_cons (pv 0) (pa_cons (pe_bltn (v := .ty "int") (by rfl) T.int boot_int rfl) pa_nil)))
        (pe_and (pe_not (pe_callB call_isi (by rfl) T.isi boot_isinstance (pa_cons (pv 0) (pa_cons (pe_bltn (v := .ty "bool") (by rfl) zB boot_bool rfl) pa_nil)))) (pe_one (pe_cmpR op_eq (pv 0) (pv 1) (nomark _))))))) pss_nil)
    (pss_one (ps_ret (pe_and (pe_callB call_isi (by rfl) T.isi boot_isinstance (pa_cons (pv 0) (pa_cons (pe_bltn (v := .ty "str") (by rfl) zS boot_str rfl) pa_nil))) (pe_one (pe_cmpR op_eq (pv 0) (pv 1) (nomark _))))))))), ?_⟩
  obtain ⟨sT, hty, k1, k2, k3⟩ := hu.ty (K := K)
  refine ⟨_, rfl, u, _, _, _, _, rfl, .ty _, hty, kit_ty k3, _, rfl, ?_⟩
  by_cases cR : d.isR = true
  · cases d with
    | leaf w0 => cases cR
    | lst ds => cases cR
    | tup ds => cases cR
    | rcd ns ds =>
      refine iteT ?_
      have hv' := hv
      have hu' := hu
      obtain ⟨sa, hta, a1, a2, a3⟩ := hv.ty (K := K)
      obtain ⟨a, xs, rfl, ha, hla, ra⟩ := hv
      obtain ⟨c, ys, rfl, hc, hlc, rc⟩ := hu
      obtain ⟨m', rfl, nd, hl, hf, hnt⟩ := hF.rcd
      have hlx := ra.len
      have hly := rc.len
      refine ⟨_, rfl, .ref a, _, _, _, _, rfl, .ty _, hta, kit_ty a3, _, rfl, iteF ?_⟩
      refine ⟨_, rfl, a, _, rfl, ha, _, rfl, c, _, rfl, hc, rfl, _, rfl, ?_⟩
      rw [kz_len (show ns.length = xs.length by omega), kz_len (show ns.length = ys.length by omega), decide_eq_true rfl]
      refine iteF ?_
      refine ⟨c, _, hc, trivial, fun od => ⟨_, rfl, c, od, rfl, .inl ⟨_, upd_same, fun D0 hD => ?_⟩⟩⟩
      have hb1 : ∀ b o, b ≠ c → H b = some o → (upd H c (.frz od (.dK (kz ns ys)))) b = some o := fun b o ne e => by
        rw [upd_ne ne]
        exact e
      have r1 : RXs K (upd H c (.frz od (.dK (kz ns ys)))) ds xs := RXs.but hb1 hu' hnt hnt (by simp; omega) ra
      have r2 : RXs K (upd H c (.frz od (.dK (kz ns ys)))) ds ys := RXs.but hb1 hu' hnt hnt (by simp; omega) rc
      have hc1 : (upd H c (.frz od (.dK (kz ns ys)))) c = some (.frz od (.dK (kz ns ys))) := upd_same
      have ha1 : Rd (upd H c (.frz od (.dK (kz ns ys)))) a (.dK (kz ns xs)) := by
        by_cases e : a = c
        · subst e
          rw [ha] at hc
          have e2 : kz ns xs = kz ns ys := by
            injection hc with hc
            injection hc
          rw [e2]
          exact .inr ⟨od, hc1⟩
        · exact .inl (hb1 _ _ e ha)
      generalize upd H c (.frz od (.dK (kz ns ys))) = H1 at hb1 r1 r2 hc1 ha1 hD ⊢
      refine lc_it walk_keys (fun i H' => Same H1 H' ∧ H' D0 = some (.lst ((List.replicate i true).map V.bl))) ⟨same_new hD _, upd_same⟩ (fun i H' _ ⟨h, _⟩ => h _ _ hc1) ?_ ?_
      · rintro i x H2 _ hi ⟨hs2, hD2⟩ ⟨rfl, k, z, hk, rfl⟩
        obtain ⟨nm, hnm, hz, rfl⟩ := kz_at hk
        obtain ⟨e2, he2, hr2⟩ := RXs.item (r2.same hs2) hz
        have hil := (List.getElem?_eq_some_iff.mp he2).1
        have hx := List.getElem?_eq_getElem (show i < xs.length by omega)
        generalize xs[i] = x1 at hx
        obtain ⟨e1, he1, hr1⟩ := RXs.item (r1.same hs2) hx
        have ee : e1 = e2 := Option.some.inj (he1.symm.trans he2)
        subst ee
        have ha2 : Rd _ a (.dK (kz ns xs)) := ha1.imp (hs2 _ _) fun ⟨o, h⟩ => ⟨o, hs2 _ _ h⟩
        refine ⟨rfl, _, rfl, _, rfl, a, some x1, rfl, .inl ⟨kz ns xs, .inr nm, ha2, rfl, (kz_some nd hnm hx).symm⟩, _, rfl, ?_⟩
        refine iteT ⟨_, rfl, _, rfl, a, x1, rfl, .inl ⟨kz ns xs, .inr nm, ha2, rfl, (kz_some nd hnm hx).symm⟩, _, rfl, _, rfl, c, z, rfl, .inl ⟨kz ns ys, .inr nm, .inr ⟨od, hs2 _ _ hc1⟩, rfl, (kz_some nd hnm hz).symm⟩, ?_⟩
        refine ⟨x1, z, e1, m', rfl, by omega, hr1, hr2, hf e1 (List.mem_of_getElem? he1), fun H3 hs3 => ⟨_, hs3 _ _ hD2, ?_, same_put (hs2.trans hs3) hD, ?_⟩⟩
        · rw [List.length_map, List.length_replicate]
          exact Nat.lt_of_lt_of_le (show i < 1000 by omega) (by decide)
        · rw [upd_same, List.replicate_succ', List.map_append]
          rfl
      · rintro H2 ⟨hs2, hD2⟩
        have nDc : D0 ≠ c := fun z => by
          rw [z, hc1] at hD
          cases hD
        refine ⟨hs2 _ _ hc1, D0, _, rfl, SqL.of (by rw [upd_ne nDc]; exact hD2), ?_⟩
        have ea : (List.replicate (kz ns ys).length true).all id = true := by simp
        rw [ea]
        refine kk _ fun b o e => ?_
        by_cases cb : b = c
        · subst cb
          rw [upd_same]
          exact hc.symm.trans e
        · rw [upd_ne cb]
          exact hs2 _ _ (hb1 _ _ cb e)
  refine ifF (by simpa using cR) ?_
  refine ⟨_, rfl, by show 2 ≤ sizeLine; decide, fun tp htp => ?_⟩
  have hs1 := same_new htp (.tup [V.ty "list", V.ty "tuple"])
  have hv1 := hv.same hs1
  have hu1 := hu.same hs1
  obtain ⟨s1, hty1, q1, q2, q3⟩ := hu1.ty (K := K)
  refine ⟨u, tp, _, _, _, _, rfl, upd_same, .cons (.ty _) (.cons (.ty _) .nil), hty1, kit_two q1 q2, _, rfl, ?_⟩
  clear hty hty1
  generalize hH1 : upd H tp (.tup [V.ty "list", V.ty "tuple"]) = H1 at hs1 hv1 hu1
  refine ite2 (fun e => ?_) (fun e => ?_)
  · -- a list or a tuple
    obtain ⟨sa, hta, a1, a2, a3⟩ := hv1.ty (K := K)
    obtain ⟨sb, htb, b1, b2, b3⟩ := hu1.ty (K := K)
    refine ⟨_, rfl, v, _, _, _, _, rfl, .ty _, hta, kit_ty a1, _, rfl, u, _, _, _, _, rfl, .ty _, htb, kit_ty b1, rfl, _, rfl, ?_⟩
    have nx : (!decide (V.bl d.isL = V.bl d.isL)) = false := by simp
    have ny : (!decide (V.bl d.isT = V.bl d.isT)) = false := by simp
    show if (!decide (V.bl d.isL = V.bl d.isL)) = true then _ else _
    rw [nx]
    refine iteF ?_
    refine ⟨_, rfl, v, _, _, _, _, rfl, .ty _, hta, kit_ty a2, _, rfl, u, _, _, _, _, rfl, .ty _, htb, kit_ty b2, rfl, _, rfl, ?_⟩
    show if (!decide (V.bl d.isT = V.bl d.isT)) = true then _ else _
    rw [ny]
    refine iteF ?_
    clear hta htb
    obtain ⟨m', rfl, hlen, hf⟩ := hF.its e
    obtain ⟨a, xs, rfl, ha, ra⟩ := hv1.seq e
    obtain ⟨c, ys, rfl, hc, rc⟩ := hu1.seq e
    have hlx := ra.len
    have hly := rc.len
    have sq : ∀ {a : Addr} {xs : List V} {H : Hp}, (H a = some (.lst xs) ∨ SqT K H a xs) → SqL K H a xs ∨ SqT K H a xs := fun h => by
      rcases h with h | h
      · exact .inl (SqL.of h)
      · exact .inr h
    refine ⟨_, rfl, a, xs, rfl, sq ha, _, rfl, c, ys, rfl, sq hc, rfl, _, rfl, ?_⟩
    rw [hlx, hly, decide_eq_true rfl]
    refine iteT ?_
    refine ⟨_, rfl, c, ys, rfl, sq hc, _, rfl, by omega, by omega, fun D hD => ?_⟩
    have hat : ∀ (a : Addr) (xs : List V), (H1 a = some (.lst xs) ∨ SqT K H1 a xs) → ∀ (i : Nat) (y : V), xs[i]? = some y → ∀ H' : Hp, Same H1 H' → ∀ Q : VK, Q y H' → rIx K (.ref a) (.int (0 + (i : Int))) H' Q := fun a xs ha i y hy H' hs Q q => by
      have e0 : atI xs (0 + (i : Int)) = some y := by
        rw [Int.zero_add]
        exact atI_nat hy
      rcases ha with ha | ha
      · exact .inl ⟨a, xs, _, y, rfl, rfl, SqL.of (hs _ _ ha), e0, q⟩
      · exact .inr (.inl ⟨a, xs, _, y, rfl, rfl, SqT.same ha hs, e0, q⟩)
    refine lc_range (lo := 0) (fun i H' => Same H1 H' ∧ H' D = some (.lst ((List.replicate i true).map V.bl))) ⟨same_new hD _, upd_same⟩ ?_ ?_
    · rintro i H2 hi ⟨hs2, hD2⟩
      have hi2 : i < d.its.length := by omega
      refine ⟨rfl, ?_⟩
      show tCall (spSameX K n) [] E0 (tCons (tOp (rIx K) (tVar 0) (tVar 3)) (tCons (tOp (rIx K) (tVar 1) (tVar 3)) tNil)) _ H2 _
      have hx := List.getElem?_eq_getElem (show i < xs.length by omega)
      have hy := List.getElem?_eq_getElem (show i < ys.length by omega)
      generalize xs[i] = x at hx
      generalize ys[i] = y at hy
      obtain ⟨e1, he1, hr1⟩ := ra.item hx
      obtain ⟨e2, he2, hr2⟩ := rc.item hy
      have ee : e1 = e2 := Option.some.inj (he1.symm.trans he2)
      subst ee
      refine ⟨_, rfl, _, rfl, hat a xs ha i x hx H2 hs2 _ ⟨_, rfl, _, rfl, hat c ys hc i y hy H2 hs2 _ ?_⟩⟩
      refine ⟨x, y, e1, m', rfl, by omega, hr1.same hs2, hr2.same hs2, hf e1 (List.mem_of_getElem? he1), fun H3 hs3 => ?_⟩
      refine ⟨_, hs3 _ _ hD2, ?_, same_put (hs2.trans hs3) hD, ?_⟩
      · rw [List.length_map, List.length_replicate]
        exact Nat.lt_of_lt_of_le (show i < 1000 by omega) (by decide)
      · rw [upd_same, List.replicate_succ', List.map_append]
        rfl
    · rintro H2 ⟨hs2, hD2⟩
      refine ⟨D, _, rfl, SqL.of hD2, ?_⟩
      have ea : (List.replicate (((ys.length : Nat) : Int).toNat) true).all id = true := by simp
      rw [ea]
      exact kk H2 (hs1.trans hs2)
  · -- a leaf
    obtain ⟨rfl, hl⟩ : d = .leaf u ∧ Leaf u := by
      cases d with
      | leaf w0 =>
        obtain ⟨rfl, hl⟩ := hu
        exact ⟨rfl, hl⟩
      | lst ds => exact absurd rfl e
      | tup ds => exact absurd rfl e
      | rcd ns ds => exact absurd rfl cR
    obtain ⟨rfl, _⟩ := hv
    rcases hl with rfl | ⟨b0, rfl⟩ | ⟨i0, rfl⟩ | ⟨z0, rfl⟩
    · refine ⟨_, rfl, rfl, _, rfl, ifT (decide_eq_true rfl) (iteT ?_)⟩
      refine ⟨_, rfl, .inl ⟨rfl, _, rfl, .inl ⟨rfl, rfl, ?_⟩⟩⟩
      rw [decide_eq_true rfl]
      exact kk _ hs1
    · refine ⟨_, rfl, rfl, _, rfl, ifF (decide_eq_false (fun z => nomatch z)) ?_⟩
      refine ⟨_, rfl, .bl b0, _, _, _, _, rfl, .ty _, .base (.bl b0), kit_ty (a := "bool") (b := "bool") (r := true) (by decide +kernel), _, rfl, iteT ?_⟩
      refine ⟨_, rfl, .inr ⟨b0, rfl, _, rfl, .inr ⟨b0, rfl, rfl, ?_⟩⟩⟩
      rw [decide_eq_true rfl]
      exact kk _ hs1
    · refine ⟨_, rfl, rfl, _, rfl, ifF (decide_eq_false (fun z => nomatch z)) ?_⟩
      refine ⟨_, rfl, .int i0, _, _, _, _, rfl, .ty _, .base (.int i0), kit_ty (a := "int") (b := "bool") (r := false) (by decide +kernel), _, rfl, iteF ?_⟩
      refine ⟨_, rfl, .int i0, _, _, _, _, rfl, .ty _, .base (.int i0), kit_ty (a := "int") (b := "int") (r := true) (by decide +kernel), _, rfl, iteT ?_⟩
      refine ⟨_, rfl, .int i0, _, _, _, _, rfl, .ty _, .base (.int i0), kit_ty (a := "int") (b := "int") (r := true) (by decide +kernel), _, rfl, iteT ?_⟩
      refine ⟨_, rfl, .int i0, _, _, _, _, rfl, .ty _, .base (.int i0), kit_ty (a := "int") (b := "bool") (r := false) (by decide +kernel), _, rfl, _, rfl, iteT ?_⟩
      refine ⟨_, rfl, _, rfl, rfl, ?_⟩
      rw [decide_eq_true rfl]
      exact kk _ hs1
    · refine ⟨_, rfl, rfl, _, rfl, ifF (decide_eq_false (fun z => nomatch z)) ?_⟩
      refine ⟨_, rfl, .str z0, _, _, _, _, rfl, .ty _, .base (.str z0), kit_ty (a := "str") (b := "bool") (r := false) (by decide +kernel), _, rfl, iteF ?_⟩
      refine ⟨_, rfl, .str z0, _, _, _, _, rfl, .ty _, .base (.str z0), kit_ty (a := "str") (b := "int") (r := false) (by decide +kernel), _, rfl, iteF ?_⟩
      refine ⟨_, rfl, .str z0, _, _, _, _, rfl, .ty _, .base (.str z0), kit_ty (a := "str") (b := "str") (r := true) (by decide +kernel), _, rfl, iteT ?_⟩
      refine ⟨_, rfl, _, rfl, rfl, ?_⟩
      rw [decide_eq_true rfl]
      exact kk _ hs1
end
end K02
set_option Elab.async false
set_option linter.all false
set_option maxRecDepth 100000
set_option maxHeartbeats 4000000
namespace K02
open PySem L2 PyProof.Rows
/-! ### names drawn for takings -/
abbrev nTW : List Str := ["purse", "many", "letters", "sort_here", "stem", "menu", "start", "rank", "found", "at", "size", "turn"]
def menuK : List Str := ["soon", "a", "late", "absent", "nothing", "name", "any", "row", "record", "b", "f", "read", "call", "known"].map Str.ofString
theorem menuK_ok : ∀ z ∈ menuK, 1 ≤ z.length ∧ z.length ≤ 8 ∧ z.cps.toList.all (fun c => decide (97 ≤ c ∧ c ≤ 122)) = true := by decide +kernel
theorem menuK_name {z : Str} (h : z ∈ menuK) : okName z := by
  obtain ⟨h1, h2, h3⟩ := menuK_ok z h
  exact ⟨h1, h2, fun c hc => of_decide_eq_true (List.all_eq_true.mp h3 c hc)⟩
theorem menuK_inj : ∀ i, i < 14 → ∀ j, j < 14 → menuK.getD i Str.empty = menuK.getD j Str.empty → i = j := by decide +kernel
theorem menuK_at {d : Int} (h0 : 0 ≤ d) (h1 : d < 14) : atI (menuK.map V.str) d = some (.str (menuK.getD d.toNat Str.empty)) ∧ menuK.getD d.toNat Str.empty ∈ menuK := by
  have hl : menuK.length = 14 := rfl
  have hd : d.toNat < menuK.length := by omega
  have e : menuK.getD d.toNat Str.empty = menuK[d.toNat] := by
    rw [List.getD_eq_getElem?_getD, List.getElem?_eq_getElem hd]
    rfl
  refine ⟨at_ofN (show d = ((d.toNat : Nat) : Int) by omega) ?_, by rw [e]; exact List.getElem_mem hd⟩
  rw [List.getElem?_map, List.getElem?_eq_getElem hd, e]
  rfl
theorem cut_mid {z : Str} {i j : Int} {a b : Nat} (ei : i = (a : Int)) (ej : j = (b : Int)) : (cutS z (some i) (some j)).cps.toList = (z.cps.toList.drop (min a z.length)).take (min b z.length - min a z.length) := by
  subst ei ej
  show ((z.cps.toList.drop (HT.sIx z.length 0 (some (a : Int)))).take (HT.sIx z.length z.length (some (b : Int)) - HT.sIx z.length 0 (some (a : Int)))).toArray.toList = _
  rw [HT.sIx_nat, HT.sIx_nat, List.toList_toArray]
theorem cut_mid_len {z : Str} {i j : Int} {a b : Nat} (ei : i = (a : Int)) (ej : j = (b : Int)) : (cutS z (some i) (some j)).length = min b z.length - min a z.length := by
  show (cutS z (some i) (some j)).cps.toList.length = _
  rw [cut_mid ei ej, List.length_take, List.length_drop]
  have hz : z.cps.toList.length = z.length := rfl
  omega
def spTkWords : Sp := fun vs H Q _ => ∃ (p : Addr) (m n : Nat), vs = [.ref p, .int (m : Int)] ∧ m ≤ 14 ∧ Purse H p n ∧ n + 20 < 10 ^ 60 ∧
  ∀ (r : Addr) (zs : List Str) H', Around1 H p (n + 20) H' → H r = none → H' r = some (.lst (zs.map V.str)) → zs.length = m → zs.Nodup → (∀ z ∈ zs, okName z) → Q (.ref r) H'
/-- [letters[_law_coin(purse, 26)] for turn in range(m)], the loop alone, at slot 11 -/
theorem lettersK_go {σ : L2.St} {H0 H : Hp} {p D : Addr} {c m : Nat} {Qd : Hp → Prop} (h0 : ∀ v, ((wipe σ [11]).set 11 (some v))[0]? = some (some (.ref p))) (h2 : ∀ v, ((wipe σ [11]).set 11 (some v))[2]? = some (some (.str LT)))
    (hw : ∀ v, wipe ((wipe σ [11]).set 11 (some v)) [11] = wipe σ [11]) (hA : Around1 H0 p c H) (hc : c + m < 10 ^ 60) (hm : m ≤ 1000) (hD : H D = none)
    (hd : ∀ (ys : List Str) H', Around1 H p (c + m) H' → H' D = some (.lst (ys.map V.str)) → ys.length = m → (∀ y ∈ ys, y.length = 1) → (∀ y ∈ ys, ls y) → Qd H') :
    ∃ W : Nat → Nat → Hp → Prop, (∃ m, W 0 m (upd H D (.lst []))) ∧ ∀ i k H1, W i k H1 →
      ((Itr 0 m).stop i H1 ∧ Qd H1) ∨ ((Itr 0 m).go i H1 ∧ ∃ Nx : Hp → Prop, (∀ H', Nx H' → ∃ m', m' < k ∧ W (i + 1) m' H') ∧ ∀ x H', (Itr 0 m).yld i H1 x H' → gName 11 x (wipe σ [11]) H' fun σ2 H2 => wipe σ2 [11] = wipe σ [11] ∧ tYes σ2 H2 fun b H3 =>
        if b = true then tOp rIxS (tVar 2) (tCall spCoin [] E0 (tCons (tVar 0) (tCons (tC (.int 26)) tNil))) σ2 H3 fun y H4 => ∃ acc, H4 D = some (.lst acc) ∧ acc.length < sizeLine ∧ Nx (upd H4 D (.lst (acc ++ [y]))) else Nx H3) := by
  have hDp : D ≠ p := hA.2.ne hD
  refine lc_range (lo := 0) (n := m) (fun i H' => ∃ ys : List Str, Around1 H p (c + i) H' ∧ H' D = some (.lst (ys.map V.str)) ∧ ys.length = i ∧ (∀ y ∈ ys, y.length = 1) ∧ ∀ y ∈ ys, ls y)
    ⟨[], ⟨.of (same_new hD _), hA.2.same (same_new hD _)⟩, upd_same, rfl, (fun _ h => nomatch h), fun _ h => nomatch h⟩ ?_ ?_
  · rintro i H1 hi ⟨ys, hA1, hD1, hl, h1, hs1⟩
    refine ⟨hw _, ?_⟩
    show tOp rIxS (tVar 2) (tCall spCoin [] E0 (tCons (tVar 0) (tCons (tC (.int 26)) tNil))) _ H1 _
    refine ⟨_, h2 _, _, h0 _, p, 26, c + i, rfl, hA1.2, by omega, by decide, by decide, fun d H2 d0 d1 hb hp2 => ?_⟩
    refine ⟨LT, d, _, rfl, rfl, by decide +kernel, lt_at d0 d1, ?_⟩
    have hD2 : H2 D = some (.lst (ys.map V.str)) := hb _ _ hDp hD1
    refine ⟨_, hD2, by rw [List.length_map]; exact Nat.lt_of_lt_of_le (show ys.length < 1000 by omega) (by decide), ys ++ [⟨#[97 + d.toNat]⟩], ?_, ?_, ?_, ?_, ?_⟩
    · exact (hA1.draw hb hp2).put hD hDp
    · rw [upd_same, List.map_append]
      rfl
    · rw [List.length_append, hl]
      rfl
    · intro y hy
      rcases List.mem_append.mp hy with hy | hy
      · exact h1 y hy
      · rw [List.mem_singleton.mp hy]
        rfl
    · intro y hy
      rcases List.mem_append.mp hy with hy | hy
      · exact hs1 y hy
      · rw [List.mem_singleton.mp hy]
        exact ls_one (by omega)
  · rintro H1 ⟨ys, hA1, hD1, hl, h1, hs1⟩
    exact hd ys H1 hA1 hD1 hl h1 hs1
section
variable {P : Program} {w : World} {K : PySem.W.Frag} {mg : Str → Option Value} {base : Heap}
theorem sqW : FnScope nTW ["purse", "many"] (defScope sWords) := ⟨rfl, rfl, rfl, by decide +kernel, rfl, by decide +kernel, by decide +kernel⟩
theorem ok_tkwords {f fC : Addr} {fd fdC : FuncData} (F : Fun K "_law_tk_words" "_law_tk_words" sWords f fd) (T : Txt K mg) (FC : Fun K "_law_coin" "_law_coin" sCoin fC fdC) (bC : L2.Binds K fdC ["purse", "many"] []) (mC : mg "_law_coin" = some (.ref fC)) :
    FnOk P w K mg base CX0 2 f fd ["purse", "many"] spTkWords := by
  have GC : FnOk P w K mg base CX0 1 fC fdC ["purse", "many"] spCoin := ok_coin FC T
  refine F.ok sqW (fun vs H Q E h => ?_) (fun cdv A outer s H vs Q E hr h => ?_)
  · obtain ⟨p, m, n, rfl, _⟩ := h
    rfl
  obtain ⟨p, m, n, rfl, hm14', hp, hn, k⟩ := h
  refine ⟨_, Evl.pss_cut (ps_asg (pe_tup (pa_cons pe_str (pa_cons (pe_call GC hr rfl mC FC.kp bC .nil pass0 (pa_cons (pv 0) (pa_cons pe_int pa_nil))) pa_nil))) (pg_tup rfl (pgs_cons (pg_name (i := 2) sqW.nd rfl (.inr rfl)) (pgs_cons (pg_name (i := 3) sqW.nd rfl (.inl rfl)) pgs_nil))))
    (Evl.pss_cut (ps_set (i := 4) sqW.nd rfl (Or.inr rfl) (pe_bm PySem.F.plainAttrs_str PySem.F.slot_str_join PySem.F.type_str_join mt_join pe_str (pa_cons (pe_lc (own := [("turn", 11)]) (g := gName 11) (tt := tYes) rfl sqW.nd (pi_range1 rfl T.range (pa_cons pe_int pa_nil)) (blkOk_by (N := nTW) (sc := defScope sWords) (by decide +kernel)) (fun _ _ _ _ _ => pg_name (i := 11) sqW.nd rfl (Or.inl rfl)) (fun _ _ _ _ _ => pts_nil)
        (fun _ _ _ _ _ => pe_ix ix_str (pv 2) (pe_call GC hr rfl mC FC.kp bC .nil pass0 (pa_cons (pv 0) (pa_cons pe_int pa_nil))) (fun _ _ => rfl))) pa_nil)))
    (Evl.pss_cut (ps_set (i := 5) sqW.nd rfl (Or.inr rfl) (pe_lst (pa_cons pe_str (pa_cons pe_str (pa_cons pe_str (pa_cons pe_str (pa_cons pe_str (pa_cons pe_str (pa_cons pe_str (pa_cons pe_str (pa_cons pe_str (pa_cons pe_str (pa_cons pe_str (pa_cons pe_str (pa_cons pe_str (pa_cons pe_str pa_nil))))))))))))))))
    (Evl.pss_cut (ps_if (pw_and (pt_cmpR op_eq (pv 3) pe_int (nomark _)) (pw_and1 (pt_cmpR op_lt (pv 1) pe_int (nomark _)))).pt
        (pss_cons (ps_set (i := 6) sqW.nd rfl (Or.inr rfl) (pe_call GC hr rfl mC FC.kp bC .nil pass0 (pa_cons (pv 0) (pa_cons pe_int pa_nil))))
        (pss_one (ps_ret (pe_lc (own := [("rank", 7)]) (g := gName 7) (tt := tYes) rfl sqW.nd (pi_range1 rfl T.range (pa_cons (pv 1) pa_nil)) (blkOk_by (N := nTW) (sc := defScope sWords) (by decide +kernel)) (fun _ _ _ _ _ => pg_name (i := 7) sqW.nd rfl (Or.inl rfl)) (fun _ _ _ _ _ => pts_nil)
          (fun _ _ _ _ _ => pe_ix (show IxR _ (rIxL K) from ix_list) (pv 5) (pe_op op_mod (pe_callTy call_int1 (by rfl) T.int boot_int (pa_cons (pe_op op_add (pv 6) (pe_op op_mul pe_int (pv 7))) pa_nil)) pe_int) (fun _ _ => rfl)))))) pss_nil)
    (Evl.pss_cut (ps_if (pw_and (pt_cmpR op_eq (pv 3) pe_int (nomark _)) (pw_and1 (pt_cmpR op_lt (pv 1) pe_int (nomark _)))).pt
        (pss_one (ps_ret (pe_lc (own := [("rank", 7)]) (g := gName 7) (tt := tYes) rfl sqW.nd (pi_range1 rfl T.range (pa_cons (pv 1) pa_nil)) (blkOk_by (N := nTW) (sc := defScope sWords) (by decide +kernel)) (fun _ _ _ _ _ => pg_name (i := 7) sqW.nd rfl (Or.inl rfl)) (fun _ _ _ _ _ => pts_nil)
          (fun _ _ _ _ _ => pe_slice sl_str (pv 4) po_none (po_some (pe_op op_add (pv 7) pe_int)))))) pss_nil)
    (Evl.pss_cut (ps_setLc (i := 8) (own := [("rank", 7)]) (g := gName 7) (tt := tYes) (by rfl) sqW.nd rfl rfl (sw_true rfl rfl rfl (by decide +kernel)) (pi_range1 rfl T.range (pa_cons (pe_callB (call_min2 rfl) (by rfl) T.min boot_min (pa_cons (pv 1) (pa_cons pe_int pa_nil))) pa_nil)) (blkOk_by (N := nTW) (sc := defScope sWords) (by decide +kernel)) (fun _ _ _ _ _ => pg_name (i := 7) sqW.nd rfl (Or.inl rfl)) (fun _ _ _ _ _ => pts_nil)
          (fun _ _ _ _ _ => pe_slice sl_str (pv 4) (po_some (pv 7)) (po_some (pe_op op_add (pe_op op_add (pv 7) pe_int) (pe_call GC hr rfl mC FC.kp bC .nil pass0 (pa_cons (pv 0) (pa_cons pe_int pa_nil)))))))
    (Evl.pss_cut (ps_if (pw_and (pt_cmpR op_eq (pv 3) pe_int (nomark _)) (pw_and1 (pt_cmpR op_eq (pe_lenSetT rfl (by rfl) T.len (by rfl) T.set (pv 8)) (pv 1) (nomark _)))).pt (pss_one (ps_ret (pv 8))) pss_nil)
    (Evl.pss_cut (ps_asg (pe_tup (pa_cons (pe_call GC hr rfl mC FC.kp bC .nil pass0 (pa_cons (pv 0) (pa_cons pe_int pa_nil))) (pa_cons (pe_call GC hr rfl mC FC.kp bC .nil pass0 (pa_cons (pv 0) (pa_cons pe_int pa_nil))) (pa_cons (pe_call GC hr rfl mC FC.kp bC .nil pass0 (pa_cons (pv 0) (pa_cons pe_int pa_nil))) pa_nil))))
        (pg_tup rfl (pgs_cons (pg_name (i := 9) sqW.nd rfl (.inr rfl)) (pgs_cons (pg_name (i := 6) sqW.nd rfl (.inr rfl)) (pgs_cons (pg_name (i := 10) sqW.nd rfl (.inr rfl)) pgs_nil)))))
    (pss_one (ps_ret (pe_lc (own := [("rank", 7)]) (g := gName 7) (tt := tYes) rfl sqW.nd (pi_range1 rfl T.range (pa_cons (pv 1) pa_nil)) (blkOk_by (N := nTW) (sc := defScope sWords) (by decide +kernel)) (fun _ _ _ _ _ => pg_name (i := 7) sqW.nd rfl (Or.inl rfl)) (fun _ _ _ _ _ => pts_nil)
        (fun _ _ _ _ _ => pe_op op_add_str (pe_op op_add_str (pe_slice sl_str (pv 4) po_none (po_some (pv 9))) (pe_ix ix_str (pv 2) (pe_op op_mod (pe_callTy call_int1 (by rfl) T.int boot_int (pa_cons (pe_op op_add (pv 6) (pv 7)) pa_nil)) pe_int) (fun _ _ => rfl)))
            (pe_slice sl_str (pv 4) (po_some (pv 9)) (po_some (pe_callB (call_max2 rfl) (by rfl) T.max boot_max (pa_cons (pv 9) (pa_cons (pv 10) pa_nil)))))))))))))))), ?_⟩
  -- letters, sort_here
  refine ⟨fun σ' H' => Around1 H p (n + 1) H' ∧ ∃ sh : Int, σ' = [some (.ref p), some (.int (m : Int)), some (.str LT), some (.int sh), none, none, none, none, none, none, none, none], ?_, ?_⟩
  · refine ⟨_, rfl, p, 4, n, rfl, hp, by omega, by decide, by decide, fun d H1 d0 d1 hb hp1 => ?_⟩
    refine ⟨by show 2 ≤ sizeLine; decide, fun t ht => ?_⟩
    refine ⟨t, _, rfl, SqT.of upd_same, rfl, _, _, rfl, _, _, rfl, rfl, ?_⟩
    exact ⟨Around1.same ⟨hb, hp1⟩ (same_new ht _), d, rfl⟩
  rintro _ H1 ⟨hA1, sh, rfl⟩
  -- stem
  refine ⟨fun σ' H' => Around1 H p (n + 9) H' ∧ ∃ st : Str, st.length = 8 ∧ ls st ∧ σ' = [some (.ref p), some (.int (m : Int)), some (.str LT), some (.int sh), some (.str st), none, none, none, none, none, none, none], ?_, ?_⟩
  · refine ⟨rfl, 8, rfl, by decide, by decide, fun D hD => ?_⟩
    refine lettersK_go (m := 8) (fun _ => rfl) (fun _ => rfl) (fun _ => rfl) hA1 (by omega) (by decide) hD fun ys H' hA hys hl h1 hs => ?_
    have hj : (Txt.join (Str.ofString "") ys).length = 8 := (PySem.W.KT.join_ones ys h1).trans hl
    refine ⟨_, D, ys, rfl, rfl, .inl (SqL.of hys), join_room h1 (by omega), ?_⟩
    exact ⟨hA1.trans hA, _, hj, ls_joinT hs, rfl⟩
  rintro _ H2 ⟨hA2, st, hst, hls, rfl⟩
  -- menu
  refine ⟨fun σ' H' => Around1 H p (n + 9) H' ∧ ∃ w : Addr, w ≠ p ∧ H' w = some (.lst (menuK.map V.str)) ∧ σ' = [some (.ref p), some (.int (m : Int)), some (.str LT), some (.int sh), some (.str st), some (.ref w), none, none, none, none, none, none], ?_, ?_⟩
  · refine ⟨by show 14 ≤ sizeLine; decide, fun w hw => ?_⟩
    exact ⟨hA2.new hw, w, hA2.2.ne hw, upd_same, rfl⟩
  clear hA1 hA2
  rintro _ H4 ⟨hA4, w, hwp, hw4, rfl⟩
  -- the menu's words
  refine ⟨fun σ' H' => Around1 H p (n + 9) H' ∧ H' w = some (.lst (menuK.map V.str)) ∧ σ' = [some (.ref p), some (.int (m : Int)), some (.str LT), some (.int sh), some (.str st), some (.ref w), none, none, none, none, none, none], ?_, ?_⟩
  · refine ⟨_, rfl, rfl, _, rfl, ?_⟩
    refine ite2 (fun c0 => ?_) (fun _ => ⟨hA4, hw4, rfl⟩)
    refine ⟨_, rfl, _, _, rfl, rfl, _, rfl, ?_⟩
    refine ite2 (fun c1 => ?_) (fun _ => ⟨hA4, hw4, rfl⟩)
    refine ⟨_, rfl, p, 14, n + 9, rfl, hA4.2, by omega, by decide, by decide, fun d H5 d0 d1 hb hp5 => ?_⟩
    have hA5 := hA4.draw hb hp5
    have hw5 := hb w _ hwp hw4
    refine ⟨_, rfl, (m : Int), rfl, by omega, by omega, fun D hD => ?_⟩
    refine lc_range (lo := 0) (fun i H' => Same H5 H' ∧ H' D = some (.lst (((List.range i).map fun (r : Nat) => menuK.getD ((d + 3 * (0 + (r : Int))) % 14).toNat Str.empty).map V.str))) ⟨same_new hD _, upd_same⟩ ?_ ?_
    · rintro i H6 hi ⟨hs6, hD6⟩
      refine ⟨rfl, ?_⟩
      show tOp (rIxL K) (tVar 5) _ _ H6 _
      refine ⟨_, rfl, _, rfl, _, rfl, _, _, rfl, rfl, .inl ⟨by decide, by decide⟩, _, _, rfl, rfl, .inl ⟨_, rfl, _, _, rfl, rfl, (by show (0 : Int) < 14; decide), ?_⟩⟩
      have z := menuK_at (d := (d + 3 * (0 + (i : Int))) % 14) (Int.emod_nonneg _ (by decide)) (Int.emod_lt_of_pos _ (by decide))
      refine ⟨w, _, _, _, rfl, rfl, SqL.of (hs6 w _ hw5), z.1, _, hD6, room_map (by omega), same_put hs6 hD, more_map rfl⟩
    · rintro H6 ⟨hs6, hD6⟩
      have hA6 := (hA5.same hs6).mono (show n + 9 + 1 ≤ n + 20 by omega)
      rw [Int.toNat_natCast] at hD6
      refine k D _ H6 hA6 (hA5.free hp hD) hD6 (by rw [List.length_map, List.length_range]) (nodup_map fun i j hi hj e => ?_) (fun z hz => ?_)
      · have z := menuK_inj _ (by omega) _ (by omega) e
        omega
      · obtain ⟨r, _, rfl⟩ := List.mem_map.mp hz
        exact menuK_name (menuK_at (d := (d + 3 * (0 + (r : Int))) % 14) (Int.emod_nonneg _ (by decide)) (Int.emod_lt_of_pos _ (by decide))).2
  clear hA4 hw4
  rintro _ H4 ⟨hA4, hw4, rfl⟩
  -- the stem's beginnings
  refine ⟨fun σ' H' => Around1 H p (n + 9) H' ∧ H' w = some (.lst (menuK.map V.str)) ∧ σ' = [some (.ref p), some (.int (m : Int)), some (.str LT), some (.int sh), some (.str st), some (.ref w), none, none, none, none, none, none], ?_, ?_⟩
  · refine ⟨_, rfl, rfl, _, rfl, ?_⟩
    refine ite2 (fun c0 => ?_) (fun _ => ⟨hA4, hw4, rfl⟩)
    refine ⟨_, rfl, _, _, rfl, rfl, _, rfl, ?_⟩
    refine ite2 (fun c1 => ?_) (fun _ => ⟨hA4, hw4, rfl⟩)
    have hm9 : (m : Int) < 9 := of_decide_eq_true c1
    have pre : ∀ r : Nat, (cutS st none (some ((0 + (r : Int)) + 1))).length = min (r + 1) 8 := fun r => by
      rw [(cut_pre (n := r + 1) (by omega)).1, hst]
    refine ⟨_, rfl, (m : Int), rfl, by omega, by omega, fun D hD => ?_⟩
    refine lc_range (lo := 0) (fun i H' => Same H4 H' ∧ H' D = some (.lst (((List.range i).map fun (r : Nat) => cutS st none (some ((0 + (r : Int)) + 1))).map V.str))) ⟨same_new hD _, upd_same⟩ ?_ ?_
    · rintro i H6 hi ⟨hs6, hD6⟩
      refine ⟨rfl, ?_⟩
      show tSl rSlS (tVar 4) _ _ _ H6 _
      refine ⟨_, rfl, _, rfl, _, _, rfl, rfl, _, rfl, _, rfl, small100 (by omega), _, hD6, room_map (by omega), same_put hs6 hD, more_map rfl⟩
    · rintro H6 ⟨hs6, hD6⟩
      have hA6 := (hA4.same hs6).mono (show n + 9 ≤ n + 20 by omega)
      rw [Int.toNat_natCast] at hD6
      refine k D _ H6 hA6 (hA4.free hp hD) hD6 (by rw [List.length_map, List.length_range]) (nodup_map fun i j hi hj e => ?_) (fun z hz => ?_)
      · have z := congrArg Str.length e
        rw [pre, pre] at z
        omega
      · obtain ⟨r, hr', rfl⟩ := List.mem_map.mp hz
        have hr2 := List.mem_range.mp hr'
        have z := pre r
        exact ⟨by omega, by omega, ls_cut hls _ _⟩
  clear hA4 hw4
  rintro _ H4 ⟨hA4, hw4, rfl⟩
  -- pieces of the stem
  refine ⟨fun σ' H' => Around1 H p (n + 17) H' ∧ ∃ (fd : Addr) (ys : List Str), H fd = none ∧ H' fd = some (.lst (ys.map V.str)) ∧ ys.length ≤ m ∧ (∀ y ∈ ys, okName y) ∧ σ' = [some (.ref p), some (.int (m : Int)), some (.str LT), some (.int sh), some (.str st), some (.ref w), none, none, some (.ref fd), none, none, none], ?_, ?_⟩
  · obtain ⟨mm, hmm, hm8, hmm2⟩ : ∃ mm : Nat, (if (8 : Int) < (m : Int) then (8 : Int) else (m : Int)) = (mm : Int) ∧ mm ≤ 8 ∧ mm ≤ m := by
      by_cases c : (8 : Int) < (m : Int)
      · exact ⟨8, by rw [if_pos c]; rfl, by omega, by omega⟩
      · exact ⟨m, by rw [if_neg c], by omega, by omega⟩
    refine ⟨_, rfl, _, _, rfl, _, rfl, ?_⟩
    rw [hmm]
    refine ⟨by omega, by omega, fun D hD => ?_⟩
    have hD0 := hA4.free hp hD
    have hDp := hA4.2.ne hD
    refine lc_range (lo := 0) (fun i H' => Around1 H p (n + 9 + i) H' ∧ ∃ ys : List Str, H' D = some (.lst (ys.map V.str)) ∧ ys.length = i ∧ ∀ y ∈ ys, okName y) ⟨hA4.new hD, [], upd_same, rfl, fun _ h => nomatch h⟩ ?_ ?_
    · rintro i H6 hi ⟨hA6, ys, hD6, hl, hy⟩
      have hi8 : i < 8 := by omega
      refine ⟨rfl, ?_⟩
      show tSl rSlS (tVar 4) _ _ _ H6 _
      refine ⟨_, rfl, _, rfl, _, rfl, _, rfl, _, _, rfl, rfl, _, rfl, p, 8, n + 9 + i, rfl, hA6.2, by omega, by decide, by decide, fun d H7 d0 d1 hb hp7 => ?_⟩
      have hA7 := hA6.draw hb hp7
      have hD7 := hb D _ hDp hD6
      have hln := cut_mid_len (z := st) (i := 0 + (i : Int)) (j := (0 + (i : Int)) + 1 + d) (a := i) (b := i + 1 + d.toNat) (by omega) (by omega)
      refine ⟨_, _, rfl, rfl, _, rfl, st, rfl, small100 (by omega), _, hD7, room_more (n := 26) (by omega) (by decide), hA7.put hD0 hDp, ys ++ [cutS st (some (0 + (i : Int))) (some ((0 + (i : Int)) + 1 + d))], more_str, len_more hl, fun y hyy => ?_⟩
      rcases List.mem_append.mp hyy with hyy | hyy
      · exact hy y hyy
      · rw [List.mem_singleton.mp hyy]
        exact ⟨by omega, by omega, ls_cut hls _ _⟩
    · rintro H6 ⟨hA6, ys, hD6, hl, hy⟩
      rw [Int.toNat_natCast] at hA6 hl
      exact ⟨hA6.mono (by omega), D, ys, hD0, hD6, by omega, hy, rfl⟩
  clear hA4 hw4
  rintro _ H4 ⟨hA4, fd, ys, hfd0, hfd4, hyl, hyo, rfl⟩
  refine ⟨fun σ' H' => Around1 H p (n + 17) H' ∧ σ' = [some (.ref p), some (.int (m : Int)), some (.str LT), some (.int sh), some (.str st), some (.ref w), none, none, some (.ref fd), none, none, none], ?_, ?_⟩
  · refine ⟨_, rfl, rfl, _, rfl, ?_⟩
    refine ite2 (fun c0 => ?_) (fun _ => ⟨hA4, rfl⟩)
    refine ⟨_, rfl, fd, ys, rfl, SqL.of hfd4, by omega, _, rfl, rfl, _, rfl, ?_⟩
    refine ite2 (fun c1 => ?_) (fun _ => ⟨hA4, rfl⟩)
    have c2 : (TxSet.dd ys).length = m := by
      have := of_decide_eq_true c1
      exact Int.ofNat.inj (V.int.inj this)
    have c3 := TxSet.dd_len ys
    have c4 : ys.length = m := by omega
    exact ⟨_, rfl, k fd ys H4 (hA4.mono (by omega)) hfd0 hfd4 c4 ((TxSet.dd_full ys).mp (c2.trans c4.symm)) hyo⟩
  clear hA4
  rintro _ H4 ⟨hA4, rfl⟩
  -- at, start, size
  refine ⟨fun σ' H' => Around1 H p (n + 20) H' ∧ ∃ (at' i0 sz : Nat), at' < 8 ∧ i0 < 26 ∧ sz < 8 ∧ σ' = [some (.ref p), some (.int (m : Int)), some (.str LT), some (.int sh), some (.str st), some (.ref w), some (.int (i0 : Int)), none, some (.ref fd), some (.int (at' : Int)), some (.int (sz : Int)), none], ?_, ?_⟩
  · refine ⟨_, rfl, p, 8, n + 17, rfl, hA4.2, by omega, by decide, by decide, fun d H5 d0 d1 hb hp5 => ?_⟩
    have hA5 := hA4.draw hb hp5
    refine ⟨_, rfl, p, 26, n + 18, rfl, hA5.2, by omega, by decide, by decide, fun d2 H6 d20 d21 hb6 hp6 => ?_⟩
    have hA6 := hA5.draw hb6 hp6
    refine ⟨_, rfl, p, 8, n + 19, rfl, hA6.2, by omega, by decide, by decide, fun d3 H7 d30 d31 hb7 hp7 => ?_⟩
    have hA7 := hA6.draw hb7 hp7
    obtain ⟨d, rfl⟩ : ∃ e : Nat, d = (e : Int) := ⟨d.toNat, by omega⟩
    obtain ⟨d2, rfl⟩ : ∃ e : Nat, d2 = (e : Int) := ⟨d2.toNat, by omega⟩
    obtain ⟨d3, rfl⟩ : ∃ e : Nat, d3 = (e : Int) := ⟨d3.toNat, by omega⟩
    refine ⟨by show 3 ≤ sizeLine; decide, fun t ht => ?_⟩
    refine ⟨t, _, rfl, SqT.of upd_same, rfl, _, _, rfl, _, _, rfl, _, _, rfl, rfl, ?_⟩
    exact ⟨hA7.new ht, d, d2, d3, by omega, by omega, by omega, rfl⟩
  clear hA4
  rintro _ H4 ⟨hA4, at', i0, sz, hat, hi0, hsz, rfl⟩
  obtain ⟨mx, hmx, hmx1, hmx2⟩ : ∃ mx : Nat, (if ((sz : Nat) : Int) > ((at' : Nat) : Int) then ((sz : Nat) : Int) else ((at' : Nat) : Int)) = (mx : Int) ∧ at' ≤ mx ∧ mx < 8 := by
    by_cases c : ((sz : Nat) : Int) > ((at' : Nat) : Int)
    · exact ⟨sz, by rw [if_pos c], by omega, hsz⟩
    · exact ⟨at', by rw [if_neg c], Nat.le_refl _, hat⟩
  have hb0 : (cutS st none (some ((at' : Nat) : Int))).length = at' := by
    rw [(cut_pre (z := st) (k := (at' : Int)) (n := at') rfl).1, hst]
    omega
  have hb2 : (cutS st (some ((at' : Nat) : Int)) (some ((mx : Nat) : Int))).length = mx - at' := by
    rw [cut_mid_len (z := st) (a := at') (b := mx) rfl rfl, hst]
    omega
  have wd : ∀ r : Nat, ((cutS st none (some (at' : Int)) ++ (⟨#[97 + (((i0 : Int) + (0 + (r : Int))) % 26).toNat]⟩ : Str)) ++ cutS st (some (at' : Int)) (some ((mx : Nat) : Int))).cps.toList = ((cutS st none (some (at' : Int))).cps.toList ++ [97 + (((i0 : Int) + (0 + (r : Int))) % 26).toNat]) ++ (cutS st (some (at' : Int)) (some ((mx : Nat) : Int))).cps.toList := fun r => by
    rw [show ∀ x y : Str, (x ++ y).cps.toList = x.cps.toList ++ y.cps.toList from fun x y => Array.toList_append, show ∀ x y : Str, (x ++ y).cps.toList = x.cps.toList ++ y.cps.toList from fun x y => Array.toList_append]
  refine ⟨_, rfl, (m : Int), rfl, by omega, by omega, fun D hD => ?_⟩
  refine lc_range (lo := 0) (fun i H' => Same H4 H' ∧ H' D = some (.lst (((List.range i).map fun (r : Nat) => (cutS st none (some (at' : Int)) ++ (⟨#[97 + (((i0 : Int) + (0 + (r : Int))) % 26).toNat]⟩ : Str)) ++ cutS st (some (at' : Int)) (some ((mx : Nat) : Int))).map V.str))) ⟨same_new hD _, upd_same⟩ ?_ ?_
  · rintro i H6 hi ⟨hs6, hD6⟩
    refine ⟨rfl, ?_⟩
    unfold tYes
    refine iteT ?_
    refine ⟨_, rfl, _, rfl, _, rfl, st, rfl, small100 (by omega), _, rfl, _, rfl, _, rfl, _, _, rfl, rfl, .inl ⟨_, rfl, _, _, rfl, rfl, (by show (0 : Int) < 26; decide), ?_⟩⟩
    refine ⟨LT, _, _, rfl, rfl, by decide +kernel, lt_at (d := ((i0 : Int) + (0 + (i : Int))) % 26) (Int.emod_nonneg _ (by decide)) (Int.emod_lt_of_pos _ (by decide)), _, _, rfl, rfl, small100 (show _ + 1 ≤ 1000 by omega), ?_⟩
    refine ⟨_, rfl, _, rfl, _, rfl, _, rfl, _, rfl, _, _, rfl, ?_⟩
    rw [hmx]
    refine ⟨_, rfl, st, rfl, small100 (by omega), _, _, rfl, rfl, ?_, _, hD6, room_map (by omega), same_put hs6 hD, more_map rfl⟩
    rw [Str.length_append]
    exact small100 (show _ + 1 + _ ≤ 1000 by omega)
  · rintro H6 ⟨hs6, hD6⟩
    rw [Int.toNat_natCast] at hD6
    refine k D _ H6 (hA4.same hs6) (hA4.free hp hD) hD6 (by rw [List.length_map, List.length_range]) (nodup_map fun i j hi hj e => ?_) (fun z hz => ?_)
    · have e2 := congrArg (fun z : Str => z.cps.toList) e
      rw [wd, wd] at e2
      have e3 := List.append_cancel_right e2
      have e4 := List.append_cancel_left e3
      have e5 := (List.cons.inj e4).1
      omega
    · obtain ⟨r, _, rfl⟩ := List.mem_map.mp hz
      have b0 : (((i0 : Int) + (0 + (r : Int))) % 26).toNat < 26 := by omega
      refine ⟨?_, ?_, ls_app (ls_app (ls_cut hls _ _) (ls_one b0)) (ls_cut hls _ _)⟩
      · rw [Str.length_append, Str.length_append]
        show 1 ≤ _ + 1 + _
        omega
      · rw [Str.length_append, Str.length_append, hb0, hb2]
        show at' + 1 + (mx - at') ≤ 8
        omega
end
end K02
set_option Elab.async false
set_option linter.all false
set_option maxRecDepth 100000
set_option maxHeartbeats 4000000
namespace K02
open PySem L2 PyProof.Rows
/-! ### the pattern, made on a drawn road -/
theorem But.kp {p : Addr} {H H' : Hp} {n : Nat} (h : But p H H') (q : Purse H p n) : Kp (fun a => a = p) H H' := fun b o e z => by
  rcases z with z | z
  · exact h b o z e
  · refine h b o (fun y => ?_) e
    obtain ⟨a1, a2, a3, e2, _⟩ := q
    rw [y, e2] at e
    exact z _ (Option.some.inj e).symm
def spMade (C : Addr) : Sp := fun vs H Q _ => ∃ (p t : Addr) (n : Nat) (v : V) (d : D) (r s : Str), vs = [.ref p, .ref t] ∧ Purse H p n ∧ n + 1 < 10 ^ 60 ∧ H t = some (.tup [v, .str r, .str s]) ∧ RW H d v ∧ PtOk 8 d ∧ okOrd r ∧ okLck s ∧
  ∀ o H' G, But p H H' → Purse H' p (n + 1) → H o = none → PatAt C H' o d r s G → (∀ a ∈ G, H a = none) → Q (.ref o) H'
theorem pfs_with (v : V) (r s : Str) : (pfs v r s).lookup ("with_order" : Str) = none := by
  unfold pfs
  rw [lookup_putF, if_neg (by decide +kernel), lookup_putF, if_neg (by decide +kernel), lookup_putF, if_neg (by decide +kernel)]
  rfl
/-- a pattern was made; else all stands but the purse -/
structure Done (C : Addr) (H : Hp) (p : Addr) (n : Nat) (d : D) (r s : Str) (H' : Hp) (o : Addr) (Go : List Addr) : Prop where
  bt : But p H H'
  pu : Purse H' p n
  pa : PatAt C H' o d r s Go
  no : H o = none
  nw : ∀ a ∈ Go, H a = none
theorem Done.kp {C p o : Addr} {H H1 H2 : Hp} {n m : Nat} {d : D} {r s : Str} {Go : List Addr} {S : Addr → Prop} (h : Done C H p n d r s H1 o Go) (hp : Purse H p m) (k : Kp S H1 H2) (hS : ∀ a, S a → H a = none ∧ a ∉ Go) : Done C H p n d r s H2 o Go := by
  have np : ¬ S p := fun z => by
    obtain ⟨po, e⟩ := hp.some
    rw [(hS p z).1] at e
    cases e
  refine ⟨fun b o n e => k b o (h.bt b o n e) (.inl fun z => ?_), ?_, ?_, h.no, h.nw⟩
  · rw [(hS b z).1] at e
    cases e
  · obtain ⟨x, y, z, e, q⟩ := h.pu
    exact ⟨x, y, z, k _ _ e (.inl np), q⟩
  · obtain ⟨dx, v, e, q⟩ := h.pa
    exact ⟨dx, v, k.there e (fun _ z => nomatch z), q.kp k fun a ha z => (hS a z).2 ha⟩
section
variable {P : Program} {w : World} {K : PySem.W.Frag} {mg : Str → Option Value} {base : Heap}
theorem sqMd : FnScope ["purse", "plan", "handed", "road", "made"] ["purse", "plan"] (defScope sMade) := ⟨rfl, rfl, rfl, by decide +kernel, rfl, by decide +kernel, by decide +kernel⟩
theorem ok_tkmade {f C fC fY fI fW fG fM pP fO pO fL pL : Addr} {fd fdC fdY fdI fdW fdG fdM fdO fdL : FuncData} (F : Fun K "_law_tk_made" "_law_tk_made" sMade f fd) (T : Txt K mg) (CC : PCls K C) (M : Mk K C fI) (mP : mg "Pattern" = some (.ref C))
    (FC : Fun K "_law_coin" "_law_coin" sCoin fC fdC) (GC : FnOk P w K mg base CX0 1 fC fdC ["purse", "many"] spCoin) (bC : L2.Binds K fdC ["purse", "many"] []) (mC : mg "_law_coin" = some (.ref fC))
    (FY : Fun K "_law_ta_copy" "_law_ta_copy" sCopied fY fdY) (GY : FnOk P w K mg base CX0 40 fY fdY ["thing"] (spCopy 40)) (bY : L2.Binds K fdY ["thing"] []) (mY : mg "_law_ta_copy" = some (.ref fY))
    (GI : FnOk P w K mg base CX0 41 fI fdI ["self", "part", "order", "lacks"] (spInit C)) (bI : L2.Binds K fdI ["self", "part", "order", "lacks"] [])
    (mW : Meth K C "with_order" fW) (GW : FnOk P w K mg base CX0 43 fW fdW ["self", "order"] (spMWith C)) (bW : L2.Binds K fdW ["self", "order"] [])
    (pg : PropOf K C "part" pP fG) (GG : FnOk P w K mg base CX0 41 fG fdG ["self"] (spGPart C)) (bG : L2.Binds K fdG ["self"] [])
    (pgO : PropOf K C "order" pO fO) (GO : FnOk P w K mg base CX0 1 fO fdO ["self"] (spGOrd C)) (bO : L2.Binds K fdO ["self"] [])
    (pgL : PropOf K C "lacks" pL fL) (GL : FnOk P w K mg base CX0 1 fL fdL ["self"] (spGLck C)) (bL : L2.Binds K fdL ["self"] [])
    (FM : Fun K "_law_ta_mark" "_law_ta_mark" sMark fM fdM) (GM : FnOk P w K mg base CX0 40 fM fdM ["thing", "tally"] (spMark 40)) (bM : L2.Binds K fdM ["thing", "tally"] []) (mM : mg "_law_ta_mark" = some (.ref fM)) :
    FnOk P w K mg base CX0 44 f fd ["purse", "plan"] (spMade C) := by
  refine F.ok sqMd (fun vs H Q E h => ?_) (fun cdv A outer s H vs Q E hr h => ?_)
  · obtain ⟨p, t, n, v, d, r, s, rfl, _⟩ := h
    rfl
  obtain ⟨p, t, n, v, d, r, s, rfl, hp, hn, ht, hR, hT, hrd, hlk, kk⟩ := h
  have hr1 := hr.mono (show 1 ≤ 43 by decide)
  have hr2 := hr.mono (show 1 + 1 ≤ 43 by decide)
  have hr40 := hr.mono (show 40 ≤ 43 by decide)
  have hr42 := hr.mono (show 41 + 1 ≤ 43 by decide)
  refine ⟨_, Evl.pss_cut (ps_par (i := 2) (j := 3) rfl sqMd.nd rfl rfl (by decide) rfl rfl (pa_cons (pe_call GY hr40 rfl mY FY.kp bY .nil pass0 (pa_cons (pe_ix ix_tup (pv 1) pe_int (fun _ _ => rfl)) pa_nil)) (pa_cons (pe_call GC hr1 rfl mC FC.kp bC .nil pass0 (pa_cons (pv 0) (pa_cons pe_int pa_nil))) pa_nil)) (by rfl))
    (Evl.pss_cut (ps_set (i := 4) sqMd.nd rfl (Or.inl rfl) (pe_make M GI hr42 rfl mP bI .nil pass0 (pa_cons (pv 2) (pa_cons (pe_ifExp (pt_cmpR op_eq (pv 3) pe_int (nomark _)) pe_str (pe_ix ix_tup (pv 1) pe_int (fun _ _ => rfl))) (pa_cons (pe_ix ix_tup (pv 1) pe_int (fun _ _ => rfl)) pa_nil)))))
    (Evl.pss_cut (ps_if (pt_cmpR op_eq (pv 3) pe_int (nomark _)) (pss_one (ps_set (i := 4) sqMd.nd rfl (Or.inl rfl) (pe_meth (pv 4) CC.cl mW GW hr bW .nil pass0 (pa_cons (pe_ix ix_tup (pv 1) pe_int (fun _ _ => rfl)) pa_nil)))) pss_nil)
    (Evl.pss_cut (ps_if (pt_cmpR op_eq (pv 3) pe_int (nomark _)) (pss_one (ps_set (i := 4) sqMd.nd rfl (Or.inl rfl) (pe_make M GI hr42 rfl mP bI .nil pass0 (pa_cons (pe_prop (pv 4) CC.cl pg GG hr42 bG .nil pass0 rfl) (pa_cons (pe_prop (pv 4) CC.cl pgO GO hr2 bO .nil pass0 rfl) (pa_cons (pe_prop (pv 4) CC.cl pgL GL hr2 bL .nil pass0 rfl) pa_nil)))))) pss_nil)
    (pss_cons (ps_expr (pe_call GM hr40 rfl mM FM.kp bM .nil pass0 (pa_cons (pv 2) (pa_cons (pe_lst (pa_cons pe_int pa_nil)) pa_nil))))
    (pss_one (ps_ret (pv 4))))))), ?_⟩
  obtain ⟨po, hpo⟩ := hp.some
  have htp : t ≠ p := fun z => by
    obtain ⟨x, y, z', e, _⟩ := hp
    rw [z, e] at ht
    cases ht
  have t0 : atI [v, V.str r, V.str s] 0 = some v := atI_nat (j := 0) rfl
  have t1 : atI [v, V.str r, V.str s] 1 = some (.str r) := atI_nat (j := 1) rfl
  have t2 : atI [v, V.str r, V.str s] 2 = some (.str s) := atI_nat (j := 2) rfl
  refine ⟨fun σ' H' => ∃ (u : V) (G : List Addr) (rd : Int), But p H H' ∧ Purse H' p (n + 1) ∧ Rep H' d u G ∧ (∀ a ∈ G, H a = none) ∧ σ' = [some (.ref p), some (.ref t), some u, some (.int rd), none], ?_, ?_⟩
  · refine ⟨_, rfl, t, _, 0, _, rfl, rfl, SqT.of ht, t0, v, d, 34, rfl, by decide, hR, hT.fits, fun u H1 G hs1 hr1 hG => ⟨_, rfl, p, 3, n, rfl, hp.same hs1, by omega, by decide, by decide, fun rd H2 r0 r1 hb hp2 => ⟨_, _, rfl, u, G, rd, (But.of hs1).trans hb, hp2, hr1.kp (hb.kp (hp.same hs1)) fun a ha z => hp.ne (hG a ha) z, hG, rfl⟩⟩⟩
  rintro _ H2 ⟨u, G, rd, hb2, hp2, hr2, hG, rfl⟩
  have ht2 := SqT.of (K := K) (hb2 _ _ htp ht)
  have mk : ∀ (Hx : Hp) (u' : V) (r' : Str), okOrd r' → But p H Hx → Purse Hx p (n + 1) → RW Hx d u' → ∀ x dx : Addr, Hx x = none → Hx dx = none → ∀ Q' : Hp → Prop, (∀ H' Go, Done C H p (n + 1) d r' s H' x Go → Same Hx H' → (∀ a ∈ Go, Hx a = none) → Q' H') →
      spInit C [.ref x, u', .str r', .str s] (upd (upd Hx dx (.own x)) x (.ins C dx [])) (fun v H3 => v = .non ∧ Q' H3) E0 := fun Hx u' r' hr' hbx hpx hw x dx hx hdx Q' q => by
    have st := same_ins (C := C) hx hdx
    refine ⟨x, dx, u', r', s, d, rfl, upd_same, hw.same st, hT, hr', hlk, fun w H' Go hb hx' hrw hG => ?_⟩
    have sx : Same Hx H' := But.same st hb hx
    have fr : ∀ {a}, Hx a = none → H a = none := fun e => hbx.free hpo hpx.some e
    exact ⟨rfl, q H' Go ⟨hbx.trans (.of sx), hpx.same sx, ⟨dx, w, hx', hrw⟩, fr hx, fun a ha => fr (st.free (hG a ha))⟩ sx fun a ha => st.free (hG a ha)⟩
  have apart : ∀ {Hx : Hp} {e : D} {u' : V} {G' Go : List Addr}, Rep Hx e u' G' → (∀ a ∈ Go, Hx a = none) → ∀ a, a ∈ G' → a ∉ Go := fun hr h a ha z => by
    obtain ⟨zs, q⟩ := hr.at_ a ha
    rw [h a z] at q
    cases q
  -- made first
  refine ⟨fun σ' H' => ∃ (o : Addr) (Go : List Addr) (r' : Str), Done C H p (n + 1) d r' s H' o Go ∧ Rep H' d u G ∧ (∀ a ∈ G, a ∉ Go) ∧ (rd = 0 ∨ r' = r) ∧ σ' = [some (.ref p), some (.ref t), some u, some (.int rd), some (.ref o)], ?_, ?_⟩
  · refine ⟨_, rfl, _, rfl, rfl, _, rfl, ?_⟩
    refine ite2 (fun c => ?_) (fun _ => ?_)
    · refine ⟨_, rfl, t, _, 2, _, rfl, rfl, ht2, t2, fun x dx hx hdx hne => mk H2 u _ (.inl rfl) hb2 hp2 hr2.rw x dx hx hdx _ fun H' Go hD hs hGo => ⟨x, Go, _, hD, hr2.same hs, apart hr2 hGo, .inl ?_, rfl⟩⟩
      have := of_decide_eq_true c
      exact V.int.inj this
    · exact ⟨_, rfl, t, _, 1, _, rfl, rfl, ht2, t1, _, rfl, t, _, 2, _, rfl, rfl, ht2, t2, fun x dx hx hdx hne => mk H2 u r hrd hb2 hp2 hr2.rw x dx hx hdx _ fun H' Go hD hs hGo => ⟨x, Go, r, hD, hr2.same hs, apart hr2 hGo, .inr rfl, rfl⟩⟩
  rintro _ H3 ⟨o, Go, r', hD, hr3, hap, hro, rfl⟩
  refine ⟨fun σ' H' => ∃ (o : Addr) (Go : List Addr), Done C H p (n + 1) d r s H' o Go ∧ Rep H' d u G ∧ (∀ a ∈ G, a ∉ Go) ∧ σ' = [some (.ref p), some (.ref t), some u, some (.int rd), some (.ref o)], ?_, ?_⟩
  · refine ⟨_, rfl, rfl, _, rfl, ?_⟩
    refine ite2 (fun c => ?_) (fun c => ?_)
    · obtain ⟨dx2, w2, e1, e2⟩ := hD.pa
      refine ⟨_, rfl, o, dx2, _, rfl, e1, pfs_with _ _ _, _, rfl, t, _, 1, _, rfl, rfl, SqT.of (hD.bt _ _ htp ht), t1, o, d, r', s, r, Go, rfl, hD.pa, hT, hrd, hlk, fun o' H'' G' hs2 ho' pat' hG' => ?_⟩
      have fr : ∀ {a}, H3 a = none → H a = none := fun e => hD.bt.free hpo hD.pu.some e
      exact ⟨o', G', ⟨hD.bt.trans (.of hs2), hD.pu.same hs2, pat', fr ho', fun a ha => fr (hG' a ha)⟩, hr3.same hs2, apart hr3 hG', rfl⟩
    · have e : r' = r := by
        rcases hro with z | z
        · exact absurd (decide_eq_true (by rw [z])) c
        · exact z
      subst e
      exact ⟨o, Go, hD, hr3, hap, rfl⟩
  clear hD hr3 hap hro
  rintro _ H3 ⟨o, Go, hD, hr3, hap, rfl⟩
  refine ⟨fun σ' H' => ∃ (o : Addr) (Go : List Addr), Done C H p (n + 1) d r s H' o Go ∧ Rep H' d u G ∧ (∀ a ∈ G, a ∉ Go) ∧ σ' = [some (.ref p), some (.ref t), some u, some (.int rd), some (.ref o)], ?_, ?_⟩
  · refine ⟨_, rfl, rfl, _, rfl, ?_⟩
    refine ite2 (fun c => ?_) (fun c => ⟨o, Go, hD, hr3, hap, rfl⟩)
    obtain ⟨dx2, w2, e1, e2⟩ := hD.pa
    refine ⟨_, rfl, o, dx2, _, rfl, e1, o, d, r, s, Go, rfl, hD.pa, hT, fun u2 H4 G2 hs2 hr32 hG2 => ?_⟩
    have e4 := hs2 _ _ e1
    have pa4 : PatAt C H4 o d r s Go := ⟨dx2, w2, e4, e2.same hs2⟩
    refine ⟨_, rfl, o, dx2, _, rfl, e4, o, d, r, s, Go, rfl, pa4, _, rfl, o, dx2, _, rfl, e4, o, d, r, s, Go, rfl, pa4, fun x dx hx hdx hne => ?_⟩
    exact mk H4 u2 r hrd (hD.bt.trans (.of hs2)) (hD.pu.same hs2) hr32.rw x dx hx hdx _ fun H' Go' hD' hs hGo => ⟨x, Go', hD', (hr3.same hs2).same hs, apart (hr3.same hs2) hGo, rfl⟩
  clear hD hr3 hap
  rintro _ H3 ⟨o, Go, hD, hr3, hap, rfl⟩
  refine ⟨_, rfl, by show 1 ≤ sizeLine; decide, fun tl htl => ?_⟩
  have sl := same_new htl (.lst [.int 0])
  have ntl : tl ∉ G := fun z => by
    obtain ⟨zs, e⟩ := hr3.at_ tl z
    rw [htl] at e
    cases e
  have ntl2 : tl ∉ Go := fun z => by
    obtain ⟨dx2, w2, e1, e2⟩ := hD.pa
    obtain ⟨zs, e⟩ := e2.at_ tl z
    rw [htl] at e
    cases e
  have htl0 : H tl = none := hD.bt.free hpo hD.pu.some htl
  refine ⟨u, tl, d, G, 34, 0, rfl, by decide, hr3.same sl, hT.fits, upd_same, ntl, fun H4 kp hr4 ht4 => ⟨_, rfl, ?_⟩⟩
  have hD4 : Done C H p (n + 1) d r s H4 o Go := hD.kp hp ((Kp.same sl).trans kp) fun a z => by
    rcases z with z | rfl
    · exact ⟨hG a z, hap a z⟩
    · exact ⟨htl0, ntl2⟩
  exact kk o H4 Go hD4.bt hD4.pu hD4.no hD4.pa hD4.nw
end
end K02
set_option Elab.async false
set_option linter.all false
set_option maxRecDepth 100000
set_option maxHeartbeats 4000000
namespace K02
open PySem L2 PyProof.Rows
/-! ### flat parts -/
def flQ (q : Str × Str) : Str × D × D := (q.1, .tup [S "name", .leaf (.str q.2)], .leaf .non)
def rD : Option Str → D
  | none => .leaf .non
  | some z => .leaf (.str z)
def flD (row : Bool) (qs : List (Str × Str)) (r : Option Str) : D := .tup [S (if row = true then "row" else "record"), .lst ((qs.map flQ).map (ent row)), rD r]
structure FlOk (row : Bool) (qs : List (Str × Str)) (r : Option Str) : Prop where
  len : qs.length ≤ 20
  nm : ∀ q ∈ qs, okName q.2
  rst : ∀ z, r = some z → okName z
  fld : row = false → (qs.map (·.1)).Nodup ∧ ∀ q ∈ qs, okName q.1
theorem FlOk.pt {row : Bool} {qs : List (Str × Str)} {r : Option Str} (h : FlOk row qs r) : PtOk 8 (flD row qs r) := by
  refine .inr (.inr ⟨row, qs.map flQ, rD r, rfl, ?_, by rw [List.length_map]; have := h.len; omega, fun q hq => ?_, fun hr => ?_⟩)
  · cases r with
    | none => exact .inl rfl
    | some z => exact .inr ⟨z, h.rst z rfl, rfl⟩
  · obtain ⟨q0, h0, rfl⟩ := List.mem_map.mp hq
    exact ⟨.inr (.inl ⟨q0.2, h.nm q0 h0, rfl⟩), .inl rfl⟩
  · obtain ⟨h1, h2⟩ := h.fld hr
    refine ⟨by rw [List.map_map]; exact h1, fun q hq => ?_⟩
    obtain ⟨q0, h0, rfl⟩ := List.mem_map.mp hq
    exact h2 q0 h0
def spFlat : Sp := fun vs H Q _ => ∃ (p : Addr) (n : Nat), vs = [.ref p] ∧ Purse H p n ∧ n + 100 < 10 ^ 60 ∧
  ∀ (t : Addr) (row : Bool) (qs : List (Str × Str)) (r : Option Str) (o l : Str) (v : V) (G : List Addr) H', Around1 H p (n + 100) H' → H t = none → H' t = some (.tup [v, .str o, .str l]) → Rep H' (flD row qs r) v G → (∀ a ∈ G, H a = none) → FlOk row qs r → okOrd o → okLck l → Q (.ref t) H'
def rsV : Option Str → V
  | none => .non
  | some z => .str z
theorem rsV_rep {H : Hp} {r : Option Str} : Rep H (rD r) (rsV r) [] := by
  cases r with
  | none => exact rep_leaf leaf_non
  | some z => exact rep_leaf leaf_str
theorem rep_name {H : Hp} {a : Addr} {z : Str} (h : H a = some (.tup [.str (Str.ofString "name"), .str z])) : Rep H (.tup [S "name", .leaf (.str z)]) (.ref a) [] := rep_tup h (reps_leaf leaf_str (reps_leaf leaf_str reps_nil))
theorem len_moreQ {α : Type} {ys : List α} {z : α} {i : Nat} (h : ys.length = i) : (ys ++ [z]).length = i + 1 := by
  rw [List.length_append, h]
  rfl
section
variable {P : Program} {w : World} {K : PySem.W.Frag} {mg : Str → Option Value} {base : Heap}
theorem sqFl : FnScope ["purse", "names", "rest", "rules", "lot", "turn", "name"] ["purse"] (defScope sFlat) := ⟨rfl, rfl, rfl, by decide +kernel, rfl, by decide +kernel, by decide +kernel⟩
theorem ok_flat {f fC fW : Addr} {fd fdC fdW : FuncData} (F : Fun K "_law_ta_flat" "_law_ta_flat" sFlat f fd) (T : Txt K mg)
    (FC : Fun K "_law_coin" "_law_coin" sCoin fC fdC) (GC : FnOk P w K mg base CX0 1 fC fdC ["purse", "many"] spCoin) (bC : L2.Binds K fdC ["purse", "many"] []) (mC : mg "_law_coin" = some (.ref fC))
    (FW : Fun K "_law_tk_words" "_law_tk_words" sWords fW fdW) (GW : FnOk P w K mg base CX0 2 fW fdW ["purse", "many"] spTkWords) (bW : L2.Binds K fdW ["purse", "many"] []) (mW : mg "_law_tk_words" = some (.ref fW)) :
    FnOk P w K mg base CX0 3 f fd ["purse"] spFlat := by
  refine F.ok sqFl (fun vs H Q E h => ?_) (fun cdv A outer s H vs Q E hr h => ?_)
  · obtain ⟨p, n, rfl, _⟩ := h
    rfl
  obtain ⟨p, n, rfl, hp, hn, kk⟩ := h
  have hr1 := hr.mono (show 1 ≤ 2 by decide)
  refine ⟨_, Evl.pss_cut (ps_set (i := 1) sqFl.nd rfl (Or.inr rfl) (pe_call GW hr rfl mW FW.kp bW .nil pass0 (pa_cons (pv 0) (pa_cons (pe_op op_add pe_int (pe_call GC hr1 rfl mC FC.kp bC .nil pass0 (pa_cons (pv 0) (pa_cons pe_int pa_nil)))) pa_nil))))
    (Evl.pss_cut (ps_set (i := 2) sqFl.nd rfl (Or.inl rfl) (pe_ifExp (pt_cmpR op_eq (pe_call GC hr1 rfl mC FC.kp bC .nil pass0 (pa_cons (pv 0) (pa_cons pe_int pa_nil))) pe_int (nomark _)) pe_non (pe_ix ix_list (pv 1) (pe_call GC hr1 rfl mC FC.kp bC .nil pass0 (pa_cons (pv 0) (pa_cons (pe_callB call_len_seq (by rfl) T.len PySem.boot_len (pa_cons (pv 1) pa_nil)) pa_nil))) (fun _ _ => rfl))))
    (Evl.pss_cut (ps_set (i := 3) sqFl.nd rfl (Or.inl rfl) (pe_lst (pa_cons (pe_ix ix_list (pe_lst (pa_cons pe_str (pa_cons pe_str pa_nil))) (pe_call GC hr1 rfl mC FC.kp bC .nil pass0 (pa_cons (pv 0) (pa_cons pe_int pa_nil))) (fun _ _ => rfl)) (pa_cons (pe_ix ix_list (pe_lst (pa_cons pe_str (pa_cons pe_str pa_nil))) (pe_call GC hr1 rfl mC FC.kp bC .nil pass0 (pa_cons (pv 0) (pa_cons pe_int pa_nil))) (fun _ _ => rfl)) pa_nil))))
    (pss_cons (ps_if (pt_cmpR op_eq (pe_call GC hr1 rfl mC FC.kp bC .nil pass0 (pa_cons (pv 0) (pa_cons pe_int pa_nil))) pe_int (nomark _))
      (Evl.pss_cut (ps_setLc (i := 4) (own := [("turn", 5)]) (g := gName 5) (tt := tYes) (te := tTup (tCons (tTup (tCons (tC (.str (Str.ofString "name"))) (tCons (tOp (rIxL K) (tVar 1) (tCall spCoin [] E0 (tCons (tVar 0) (tCons (tCB (fun xs H Q => ∃ p ys, xs = [.ref p] ∧ (SqL K H p ys ∨ SqT K H p ys) ∧ Q (.int ys.length) H) (tCons (tVar 1) tNil)) tNil)))) tNil))) (tCons (tC .non) tNil))) (by rfl) sqFl.nd rfl rfl (sw_true rfl rfl rfl (by decide +kernel)) (pi_range1 rfl T.range (pa_cons (pe_call GC hr1 rfl mC FC.kp bC .nil pass0 (pa_cons (pv 0) (pa_cons pe_int pa_nil))) pa_nil)) (blkOk_by (N := ["purse", "names", "rest", "rules", "lot", "turn", "name"]) (sc := defScope sFlat) (by decide +kernel)) (fun _ _ _ _ _ => pg_name (i := 5) sqFl.nd rfl (Or.inl rfl)) (fun _ _ _ _ _ => pts_nil)
          (fun _ _ _ _ _ => pe_tup (pa_cons (pe_tup (pa_cons pe_str (pa_cons (pe_ix (show IxR _ (rIxL K) from ix_list) (pv 1) (pe_call GC hr1 rfl mC FC.kp bC .nil pass0 (pa_cons (pv 0) (pa_cons (pe_callB call_len_seq (by rfl) T.len PySem.boot_len (pa_cons (pv 1) pa_nil)) pa_nil))) (fun _ _ => rfl)) pa_nil))) (pa_cons pe_non pa_nil))))
        (pss_one (ps_ret (pe_tup (pa_cons (pe_tup (pa_cons pe_str (pa_cons (pv 4) (pa_cons (pv 2) pa_nil)))) (pa_cons (pe_ix ix_list (pv 3) pe_int (fun _ _ => rfl)) (pa_cons (pe_ix ix_list (pv 3) pe_int (fun _ _ => rfl)) pa_nil))))))) pss_nil)
    (pss_cons (ps_set (i := 4) sqFl.nd rfl (Or.inl rfl) (pe_lst pa_nil))
    (Evl.pss_cut (ps_for PassesOwn.never rfl (pi_list (pe_call GW hr rfl mW FW.kp bW .nil pass0 (pa_cons (pv 0) (pa_cons (pe_call GC hr1 rfl mC FC.kp bC .nil pass0 (pa_cons (pv 0) (pa_cons pe_int pa_nil))) pa_nil)))) (pg_name (i := 6) sqFl.nd rfl (Or.inl rfl))
        (pss_one (ps_expr (pe_bm PySem.F.plainAttrs_list PySem.F.slot_list_append PySem.F.type_list_append mt_append (pv 4) (pa_cons (pe_tup (pa_cons (pv 6) (pa_cons (pe_tup (pa_cons pe_str (pa_cons (pe_ix ix_list (pv 1) (pe_call GC hr1 rfl mC FC.kp bC .nil pass0 (pa_cons (pv 0) (pa_cons (pe_callB call_len_seq (by rfl) T.len PySem.boot_len (pa_cons (pv 1) pa_nil)) pa_nil))) (fun _ _ => rfl)) pa_nil))) (pa_cons pe_non pa_nil)))) pa_nil)))))
    (pss_one (ps_ret (pe_tup (pa_cons (pe_tup (pa_cons pe_str (pa_cons (pv 4) (pa_cons (pv 2) pa_nil)))) (pa_cons (pe_ix ix_list (pv 3) pe_int (fun _ _ => rfl)) (pa_cons (pe_ix ix_list (pv 3) pe_int (fun _ _ => rfl)) pa_nil))))))))))), ?_⟩
  have pickN : ∀ {zs : List Str} {d : Int}, 0 ≤ d → d < (((zs.map V.str).length : Nat) : Int) → ∃ z, z ∈ zs ∧ atI (zs.map V.str) d = some (.str z) := fun {zs d} d0 d1 => by
    rw [List.length_map] at d1
    obtain ⟨j, rfl⟩ : ∃ j : Nat, d = (j : Int) := ⟨d.toNat, by omega⟩
    have hj : j < zs.length := by omega
    exact ⟨zs[j], List.getElem_mem hj, atI_nat (by rw [List.getElem?_map, List.getElem?_eq_getElem hj]; rfl)⟩
  have two : ∀ {x y : Str} {d : Int}, 0 ≤ d → d < 2 → ∃ z, (z = x ∨ z = y) ∧ atI [V.str x, V.str y] d = some (.str z) := fun {x y d} d0 d1 => by
    rcases (by omega : d = 0 ∨ d = 1) with rfl | rfl
    · exact ⟨x, .inl rfl, at_ofN (j := 0) rfl rfl⟩
    · exact ⟨y, .inr rfl, at_ofN (j := 1) rfl rfl⟩
  -- names
  refine ⟨fun σ' H' => Around1 H p (n + 21) H' ∧ ∃ (na : Addr) (zs : List Str), na ≠ p ∧ H' na = some (.lst (zs.map V.str)) ∧ 1 ≤ zs.length ∧ zs.length ≤ 9 ∧ (∀ z ∈ zs, okName z) ∧ σ' = [some (.ref p), some (.ref na), none, none, none, none, none], ?_, ?_⟩
  · refine ⟨_, rfl, _, rfl, p, 9, n, rfl, hp, by omega, by decide, by decide, fun c H1 c0 c1 hb hp1 => ?_⟩
    obtain ⟨c, rfl⟩ : ∃ c' : Nat, c = (c' : Int) := ⟨c.toNat, by omega⟩
    refine ⟨_, _, rfl, rfl, p, 1 + c, n + 1, ?_, by omega, hp1, by omega, fun na zs H2 hA2 hna0 hna hzl hnd hzo => ?_⟩
    · show [V.ref p, V.int (1 + (c : Int))] = _
      rw [show ((1 + c : Nat) : Int) = 1 + (c : Int) by omega]
    have hA1 : Around1 H p (n + 1) H1 := ⟨hb, hp1⟩
    exact ⟨(hA1.trans hA2).mono (by omega), na, zs, hp1.ne hna0, hna, by omega, by omega, hzo, rfl⟩
  rintro _ H1 ⟨hA1, na, zs, nap, hna, hz1, hz9, hzo, rfl⟩
  have hlen : 0 < (((zs.map V.str).length : Nat) : Int) ∧ (((zs.map V.str).length : Nat) : Int) ≤ 10 ^ 12 := by
    rw [List.length_map]
    exact ⟨by omega, by omega⟩
  -- rest
  refine ⟨fun σ' H' => Around1 H p (n + 23) H' ∧ H' na = some (.lst (zs.map V.str)) ∧ ∃ r : Option Str, (∀ z, r = some z → okName z) ∧ σ' = [some (.ref p), some (.ref na), some (rsV r), none, none, none, none], ?_, ?_⟩
  · refine ⟨_, rfl, p, 2, n + 21, rfl, hA1.2, by omega, by decide, by decide, fun d H2 d0 d1 hb hp2 => ?_⟩
    have hA2 := hA1.draw hb hp2
    have hna2 := hb na _ nap hna
    refine ⟨rfl, _, rfl, ?_⟩
    refine ite2 (fun _ => ?_) (fun _ => ?_)
    · exact ⟨hA2.mono (by omega), hna2, none, (fun _ z => nomatch z), rfl⟩
    · refine ⟨_, rfl, _, rfl, _, rfl, na, _, rfl, .inl (SqL.of hna2), p, _, n + 22, rfl, hA2.2, by omega, hlen.1, hlen.2, fun d2 H3 d20 d21 hb3 hp3 => ?_⟩
      obtain ⟨z, hz, hat⟩ := pickN d20 d21
      have hna3 := hb3 na _ nap hna2
      exact ⟨na, _, _, _, rfl, rfl, SqL.of hna3, hat, hA2.draw hb3 hp3, hna3, some z, (fun _ e => by cases e; exact hzo z hz), rfl⟩
  clear hA1 hna
  rintro _ H2 ⟨hA2, hna2, r, hro, rfl⟩
  -- rules
  refine ⟨fun σ' H' => Around1 H p (n + 25) H' ∧ H' na = some (.lst (zs.map V.str)) ∧ ∃ (ru : Addr) (o l : Str), okOrd o ∧ okLck l ∧ H' ru = some (.lst [.str o, .str l]) ∧ ru ≠ p ∧ σ' = [some (.ref p), some (.ref na), some (rsV r), some (.ref ru), none, none, none], ?_, ?_⟩
  · refine ⟨by show 2 ≤ sizeLine; decide, fun q1 hq1 => ?_⟩
    have s1 := same_new hq1 (.lst [V.str (Str.ofString "soon"), V.str (Str.ofString "late")])
    have nq1 := hA2.2.ne hq1
    refine ⟨_, rfl, p, 2, n + 23, rfl, hA2.2.same s1, by omega, by decide, by decide, fun d H3 d0 d1 hb hp3 => ?_⟩
    have hA3 := (hA2.same s1).draw hb hp3
    obtain ⟨o, ho, hat⟩ := two (x := Str.ofString "soon") (y := Str.ofString "late") d0 d1
    refine ⟨q1, _, _, _, rfl, rfl, SqL.of (hb _ _ nq1 upd_same), hat, ?_⟩
    have hna3 := hb na _ nap (s1 _ _ hna2)
    refine ⟨by show 2 ≤ sizeLine; decide, fun q2 hq2 => ?_⟩
    have s2 := same_new hq2 (.lst [V.str (Str.ofString "absent"), V.str (Str.ofString "nothing")])
    have nq2 := hA3.2.ne hq2
    refine ⟨_, rfl, p, 2, n + 24, rfl, hA3.2.same s2, by omega, by decide, by decide, fun d2 H4 d20 d21 hb4 hp4 => ?_⟩
    have hA4 := (hA3.same s2).draw hb4 hp4
    obtain ⟨l, hl, hat2⟩ := two (x := Str.ofString "absent") (y := Str.ofString "nothing") d20 d21
    refine ⟨q2, _, _, _, rfl, rfl, SqL.of (hb4 _ _ nq2 upd_same), hat2, ?_⟩
    have hna4 := hb4 na _ nap (s2 _ _ hna3)
    refine ⟨by show 2 ≤ sizeLine; decide, fun ru hru => ?_⟩
    exact ⟨hA4.new hru, same_new hru _ _ _ hna4, ru, o, l, ho, hl, upd_same, hA4.2.ne hru, rfl⟩
  clear hA2 hna2
  rintro _ H3 ⟨hA3, hna3, ru, o, l, ho, hl, hru3, nrup, rfl⟩
  refine ⟨_, rfl, p, 2, n + 25, rfl, hA3.2, by omega, by decide, by decide, fun d H4 d0 d1 hb hp4 => ?_⟩
  have hA4 := hA3.draw hb hp4
  have hna4 := hb na _ nap hna3
  have hru4 := hb ru _ nrup hru3
  clear hA3 hna3 hru3
  have t0 : atI [V.str o, V.str l] 0 = some (.str o) := atI_nat (j := 0) rfl
  have t1 : atI [V.str o, V.str l] 1 = some (.str l) := atI_nat (j := 1) rfl
  have kpp : ∀ {Ha Hb : Hp} {c : Nat} {ds : List D} {xs : List V}, But p Ha Hb → Purse Ha p c → Reps Ha ds xs [] → Reps Hb ds xs [] := fun b q r => Reps.kp (b.kp q) r fun _ z => nomatch z
  refine ⟨rfl, _, rfl, ?_⟩
  refine ite2 (fun _ => ?_) (fun _ => ?_)
  · -- a row
    refine ⟨fun σ' H' => Around1 H p (n + 47) H' ∧ H' ru = some (.lst [.str o, .str l]) ∧ ∃ (D0 : Addr) (qs : List (Str × Str)) (xs : List V), H D0 = none ∧ H' D0 = some (.lst xs) ∧ Reps H' ((qs.map flQ).map (ent true)) xs [] ∧ qs.length ≤ 20 ∧ (∀ q ∈ qs, okName q.2) ∧ σ' = [some (.ref p), some (.ref na), some (rsV r), some (.ref ru), some (.ref D0), none, none], ?_, ?_⟩
    · refine ⟨_, rfl, p, 21, n + 26, rfl, hA4.2, by omega, by decide, by decide, fun m H5 m0 m1 hb5 hp5 => ?_⟩
      have hA5 := hA4.draw hb5 hp5
      have hna5 := hb5 na _ nap hna4
      have hru5 := hb5 ru _ nrup hru4
      obtain ⟨m, rfl⟩ : ∃ m' : Nat, m = (m' : Int) := ⟨m.toNat, by omega⟩
      refine ⟨(m : Int), rfl, by omega, by omega, fun D0 hD => ?_⟩
      have hD0 := hA5.free hp hD
      have hDp := hA5.2.ne hD
      have nnD : na ≠ D0 := ne_of_none hna5 hD
      have nrD : ru ≠ D0 := ne_of_none hru5 hD
      refine lc_range (lo := 0) (fun i H' => Around1 H p (n + 27 + i) H' ∧ H' na = some (.lst (zs.map V.str)) ∧ H' ru = some (.lst [.str o, .str l]) ∧ ∃ (qs : List (Str × Str)) (xs : List V), H' D0 = some (.lst xs) ∧ Reps H' ((qs.map flQ).map (ent true)) xs [] ∧ qs.length = i ∧ ∀ q ∈ qs, okName q.2)
        ⟨hA5.new hD, same_new hD _ _ _ hna5, same_new hD _ _ _ hru5, [], [], upd_same, reps_nil, rfl, fun _ z => nomatch z⟩ ?_ ?_
      · rintro i H6 hi ⟨hA6, hna6, hru6, qs, xs, hD6, hr6, hql, hqo⟩
        refine ⟨rfl, ?_⟩
        unfold tYes
        refine iteT ?_
        refine ⟨_, rfl, _, rfl, _, rfl, na, _, rfl, .inl (SqL.of hna6), p, _, n + 27 + i, rfl, hA6.2, by omega, hlen.1, hlen.2, fun d2 H7 d20 d21 hb7 hp7 => ?_⟩
        have hA7 := hA6.draw hb7 hp7
        obtain ⟨z, hz, hat⟩ := pickN d20 d21
        have hna7 := hb7 na _ nap hna6
        refine ⟨na, _, _, _, rfl, rfl, SqL.of hna7, hat, by show 2 ≤ sizeLine; decide, fun t1 ht1 => ⟨by show 2 ≤ sizeLine; decide, fun t2 ht2 => ?_⟩⟩
        have s1 := same_new ht1 (.tup [V.str (Str.ofString "name"), .str z])
        have s2 := same_new ht2 (.tup [V.ref t1, .non])
        have s12 := s1.trans s2
        have hD7 := hb7 D0 _ hDp hD6
        have hD8 := s12 _ _ hD7
        have e1 := rep_name (s2 _ _ (upd_same (a := t1) (H := H7) (o := .tup [V.str (Str.ofString "name"), .str z])))
        have hrep : Rep (upd (upd H7 t1 (.tup [V.str (Str.ofString "name"), .str z])) t2 (.tup [V.ref t1, .non])) (ent true (flQ (Str.empty, z))) (.ref t2) [] := rep_tup upd_same (reps_cons e1 (reps_leaf leaf_non reps_nil) fun _ z => nomatch z)
        have hr8 := ((kpp hb7 hA6.2 hr6).same s12).snoc hrep fun _ z => nomatch z
        have hx := hr6.len
        rw [List.length_map, List.length_map] at hx
        refine ⟨xs, hD8, Nat.lt_of_le_of_lt (show xs.length ≤ 1000 by omega) (by decide), (hA7.same s12).put hD0 hDp, ?_, ?_, qs ++ [(Str.empty, z)], _, upd_same, ?_, len_moreQ hql, fun q hq => ?_⟩
        · rw [upd_ne nnD]
          exact s12 _ _ hna7
        · rw [upd_ne nrD]
          exact s12 _ _ (hb7 ru _ nrup hru6)
        · rw [List.map_append, List.map_append]
          exact Reps.kp (S := fun a => a = D0) (Kp.set hD8 rfl) hr8 fun _ z => nomatch z
        · rcases List.mem_append.mp hq with hq | hq
          · exact hqo q hq
          · rw [List.mem_singleton.mp hq]
            exact hzo z hz
      · rintro H6 ⟨hA6, hna6, hru6, qs, xs, hD6, hr6, hql, hqo⟩
        rw [Int.toNat_natCast] at hA6 hql
        exact ⟨hA6.mono (by omega), hru6, D0, qs, xs, hD0, hD6, hr6, by omega, hqo, rfl⟩
    rintro _ H6 ⟨hA6, hru6, D0, qs, xs, hD0, hD6, hr6, hql, hqo, rfl⟩
    refine ⟨_, rfl, _, rfl, by show 3 ≤ sizeLine; decide, fun u1 hu1 => ?_⟩
    have s1 := same_new hu1 (.tup [V.str (Str.ofString "row"), .ref D0, rsV r])
    refine ⟨_, rfl, ru, _, 0, _, rfl, rfl, SqL.of (s1 _ _ hru6), t0, _, rfl, ru, _, 1, _, rfl, rfl, SqL.of (s1 _ _ hru6), t1, by show 3 ≤ sizeLine; decide, fun u2 hu2 => ?_⟩
    have s2 := same_new hu2 (.tup [V.ref u1, .str o, .str l])
    have s12 := s1.trans s2
    have hr8 := hr6.same s12
    refine kk u2 true qs r o l (.ref u1) _ _ ((hA6.same s12).mono (by omega)) ((hA6.same s1).free hp hu2) upd_same (rep_tup (s2 _ _ upd_same) (reps_leaf leaf_str (reps_cons (rep_lst (s12 _ _ hD6) hr8 fun z => nomatch z) (reps_one rsV_rep) fun _ _ z => nomatch z))) (fun a ha => ?_) ⟨hql, hqo, hro, fun z => nomatch z⟩ ho hl
    simp at ha
    rw [ha]
    exact hD0
  · -- a record
    refine ⟨by show 0 ≤ sizeLine; decide, fun D0 hD => ?_⟩
    have hD0 := hA4.free hp hD
    have hDp := hA4.2.ne hD
    have nnD : na ≠ D0 := ne_of_none hna4 hD
    have nrD : ru ≠ D0 := ne_of_none hru4 hD
    have hA5 := hA4.new (o := .lst []) hD
    have hna5 := same_new hD (.lst []) _ _ hna4
    have hru5 := same_new hD (.lst []) _ _ hru4
    have hD5 : (upd H4 D0 (.lst [])) D0 = some (.lst []) := upd_same
    generalize upd H4 D0 (.lst []) = H5 at hA5 hna5 hru5 hD5
    refine ⟨fun σ' H' => Around1 H p (n + 70) H' ∧ H' ru = some (.lst [.str o, .str l]) ∧ ∃ (qs : List (Str × Str)) (xs : List V) (v6 : Option V), H' D0 = some (.lst xs) ∧ Reps H' ((qs.map flQ).map (ent false)) xs [] ∧ qs.length ≤ 20 ∧ (∀ q ∈ qs, okName q.2) ∧ (qs.map (·.1)).Nodup ∧ (∀ q ∈ qs, okName q.1) ∧ σ' = [some (.ref p), some (.ref na), some (rsV r), some (.ref ru), some (.ref D0), none, v6], ?_, ?_⟩
    · refine ⟨_, rfl, _, rfl, p, 10, n + 26, rfl, hA5.2, by omega, by decide, by decide, fun m H6 m0 m1 hb6 hp6 => ?_⟩
      have hA6 := hA5.draw hb6 hp6
      have hna6 := hb6 na _ nap hna5
      have hru6 := hb6 ru _ nrup hru5
      have hD6 := hb6 D0 _ hDp hD5
      obtain ⟨m, rfl⟩ : ∃ m' : Nat, m = (m' : Int) := ⟨m.toNat, by omega⟩
      refine ⟨p, m, n + 27, rfl, by omega, hp6, by omega, fun fa fs H7 hA7 hfa0 hfa hfl hfnd hfo => ?_⟩
      have hfp : fa ≠ p := hp6.ne hfa0
      have nDf : D0 ≠ fa := ne_of_none hD6 hfa0
      have hA7' : Around1 H p (n + 47) H7 := hA6.trans hA7
      have hna7 := hA7.1 na _ nap hna6
      have hru7 := hA7.1 ru _ nrup hru6
      have hD7 := hA7.1 D0 _ hDp hD6
      refine ⟨fa, rfl, ⟨_, SqL.of hfa⟩, ?_⟩
      refine for_list (K := K) (a := fa) (xs := fs.map V.str) (fun i σ' H' => Around1 H p (n + 47 + i) H' ∧ H' na = some (.lst (zs.map V.str)) ∧ H' ru = some (.lst [.str o, .str l]) ∧ H' fa = some (.lst (fs.map V.str)) ∧ ∃ (qs : List (Str × Str)) (xs : List V) (v6 : Option V), H' D0 = some (.lst xs) ∧ Reps H' ((qs.map flQ).map (ent false)) xs [] ∧ qs.map (·.1) = fs.take i ∧ (∀ q ∈ qs, okName q.2) ∧ σ' = [some (.ref p), some (.ref na), some (rsV r), some (.ref ru), some (.ref D0), none, v6])
        ⟨hA7', hna7, hru7, hfa, [], [], none, hD7, reps_nil, rfl, (fun _ z => nomatch z), rfl⟩ (fun i σ' H' _ ⟨_, _, _, h, _⟩ => SqL.of h) ?_ ?_
      · rintro i y σ' H8 hi ⟨hA8, hna8, hru8, hfa8, qs, xs, v6, hD8, hr8, hqf, hqo, rfl⟩
        rw [List.getElem?_map] at hi
        obtain ⟨fz, hfz, rfl⟩ : ∃ fz, fs[i]? = some fz ∧ V.str fz = y := by
          cases e : fs[i]? with
          | none =>
            rw [e] at hi
            cases hi
          | some fz =>
            rw [e] at hi
            exact ⟨fz, rfl, Option.some.inj hi⟩
        have hif := (List.getElem?_eq_some_iff.mp hfz).1
        refine ⟨_, rfl, .inl ⟨rfl, _, SqL.of hD8⟩, _, rfl, _, rfl, _, rfl, _, rfl, na, _, rfl, .inl (SqL.of hna8), p, _, n + 47 + i, rfl, hA8.2, by omega, hlen.1, hlen.2, fun d2 H9 d20 d21 hb9 hp9 => ?_⟩
        have hA9 := hA8.draw hb9 hp9
        obtain ⟨z, hz, hat⟩ := pickN d20 d21
        have hna9 := hb9 na _ nap hna8
        refine ⟨na, _, _, _, rfl, rfl, SqL.of hna9, hat, by show 2 ≤ sizeLine; decide, fun t1 ht1 => ⟨by show 3 ≤ sizeLine; decide, fun t2 ht2 => ?_⟩⟩
        have s1 := same_new ht1 (.tup [V.str (Str.ofString "name"), .str z])
        have s2 := same_new ht2 (.tup [V.str fz, V.ref t1, .non])
        have s12 := s1.trans s2
        have hD9 := hb9 D0 _ hDp hD8
        have hD10 := s12 _ _ hD9
        have e1 := rep_name (s2 _ _ (upd_same (a := t1) (H := H9) (o := .tup [V.str (Str.ofString "name"), .str z])))
        have hrep : Rep (upd (upd H9 t1 (.tup [V.str (Str.ofString "name"), .str z])) t2 (.tup [V.str fz, V.ref t1, .non])) (ent false (flQ (fz, z))) (.ref t2) [] := rep_tup upd_same (reps_leaf leaf_str (reps_cons e1 (reps_leaf leaf_non reps_nil) fun _ z => nomatch z))
        have hr10 := ((kpp hb9 hA8.2 hr8).same s12).snoc hrep fun _ z => nomatch z
        have hx := hr8.len
        rw [List.length_map, List.length_map] at hx
        have hql : qs.length = i := by
          have := congrArg List.length hqf
          rw [List.length_map, List.length_take] at this
          omega
        refine ⟨D0, _, _, rfl, rfl, hD10, Nat.lt_of_le_of_lt (show xs.length ≤ 1000 by omega) (by decide), (hA9.same s12).put hD0 hDp, ?_, ?_, ?_, qs ++ [(fz, z)], _, _, upd_same, ?_, ?_, fun q hq => ?_, rfl⟩
        · rw [upd_ne nnD]
          exact s12 _ _ hna9
        · rw [upd_ne nrD]
          exact s12 _ _ (hb9 ru _ nrup hru8)
        · rw [upd_ne nDf.symm]
          exact s12 _ _ (hb9 fa _ hfp hfa8)
        · rw [List.map_append, List.map_append]
          exact Reps.kp (S := fun a => a = D0) (Kp.set hD10 rfl) hr10 fun _ z => nomatch z
        · rw [List.map_append, hqf, List.take_add_one, hfz]
          rfl
        · rcases List.mem_append.mp hq with hq | hq
          · exact hqo q hq
          · rw [List.mem_singleton.mp hq]
            exact hzo z hz
      · rintro σ' H8 ⟨hA8, hna8, hru8, hfa8, qs, xs, v6, hD8, hr8, hqf, hqo, rfl⟩
        rw [List.length_map, List.take_length] at hqf
        rw [List.length_map] at hA8
        have hql : qs.length ≤ 20 := by
          have := congrArg List.length hqf
          rw [List.length_map] at this
          omega
        exact ⟨hA8.mono (by omega), hru8, qs, xs, v6, hD8, hr8, hql, hqo, by rw [hqf]; exact hfnd, (fun q hq => hfo _ (by rw [← hqf]; exact List.mem_map.mpr ⟨q, hq, rfl⟩)), rfl⟩
    rintro _ H6 ⟨hA6, hru6, qs, xs, v6, hD6, hr6, hql, hqo, hqn, hqf, rfl⟩
    refine ⟨_, rfl, _, rfl, by show 3 ≤ sizeLine; decide, fun u1 hu1 => ?_⟩
    have s1 := same_new hu1 (.tup [V.str (Str.ofString "record"), .ref D0, rsV r])
    refine ⟨_, rfl, ru, _, 0, _, rfl, rfl, SqL.of (s1 _ _ hru6), t0, _, rfl, ru, _, 1, _, rfl, rfl, SqL.of (s1 _ _ hru6), t1, by show 3 ≤ sizeLine; decide, fun u2 hu2 => ?_⟩
    have s2 := same_new hu2 (.tup [V.ref u1, .str o, .str l])
    have s12 := s1.trans s2
    have hr8 := hr6.same s12
    refine kk u2 false qs r o l (.ref u1) _ _ ((hA6.same s12).mono (by omega)) ((hA6.same s1).free hp hu2) upd_same (rep_tup (s2 _ _ upd_same) (reps_leaf leaf_str (reps_cons (rep_lst (s12 _ _ hD6) hr8 fun z => nomatch z) (reps_one rsV_rep) fun _ _ z => nomatch z))) (fun a ha => ?_) ⟨hql, hqo, hro, fun _ => ⟨hqn, hqf⟩⟩ ho hl
    simp at ha
    rw [ha]
    exact hD0
end
end K02
set_option Elab.async false
set_option linter.all false
set_option maxRecDepth 100000
set_option maxHeartbeats 4000000
namespace K02
open PySem L2 PyProof.Rows
/-! ### flat values -/
def flatV : Wv → Prop
  | .non => True
  | .int _ => True
  | _ => False
def flatW : Wv → Prop
  | .row ws => ws.length ≤ 40 ∧ ∀ w ∈ ws, flatV w
  | .rcd ns ws => ns.Nodup ∧ ns.length = ws.length ∧ ns.length ≤ 40 ∧ ∀ w ∈ ws, flatV w
  | _ => True
def lfV : Wv → V
  | .int i => .int i
  | _ => .non
theorem rv_flat {H : Hp} {w : Wv} (h : flatV w) : RV H w (lfV w) := by
  cases w with
  | non => rfl
  | int i => rfl
  | row ws => exact h.elim
  | rcd ns ws => exact h.elim
theorem rvs_flat {H : Hp} : ∀ {ws : List Wv}, (∀ w ∈ ws, flatV w) → RVs H ws (ws.map lfV)
  | [], _ => rfl
  | w :: ws, h => ⟨_, _, rfl, rv_flat (h w List.mem_cons_self), rvs_flat fun u hu => h u (List.mem_cons_of_mem _ hu)⟩
theorem kz_over {z : Str} {w : Wv} : ∀ {ns : List Str} {ws : List Wv}, ns.length = ws.length → (kz ns (ws.map lfV)).map (fun kv => if kv.1 = (Sum.inr z : Key) then (kv.1, lfV w) else kv) = kz ns ((List.zipWith (fun n u => if n = z then w else u) ns ws).map lfV)
  | [], [], _ => rfl
  | [], u :: ws, h => nomatch h
  | n :: ns, [], h => nomatch h
  | n :: ns, u :: ws, h => by
    have ih := kz_over (z := z) (w := w) (ns := ns) (ws := ws) (Nat.succ.inj h)
    show (if (Sum.inr n : Key) = Sum.inr z then ((Sum.inr n : Key), lfV w) else (Sum.inr n, lfV u)) :: (kz ns (ws.map lfV)).map _ = (Sum.inr n, lfV (if n = z then w else u)) :: kz ns _
    rw [ih]
    congr 1
    by_cases e : n = z
    · rw [if_pos (by rw [e]), if_pos e]
    · rw [if_neg (fun q => e (Sum.inr.inj q)), if_neg e]
theorem kz_putF {z : Str} {w : Wv} {ns : List Str} {ws : List Wv} (nd : ns.Nodup) (hl : ns.length = ws.length) (hw : flatV w) (hs : ∀ u ∈ ws, flatV u) : ∃ (ns' : List Str) (ws' : List Wv), putK (kz ns (ws.map lfV)) (Sum.inr z) (lfV w) = kz ns' (ws'.map lfV) ∧ ns'.Nodup ∧ ns'.length = ws'.length ∧ ns'.length ≤ ns.length + 1 ∧ ∀ u ∈ ws', flatV u := by
  by_cases hz : z ∈ ns
  · refine ⟨ns, List.zipWith (fun n u => if n = z then w else u) ns ws, ?_, nd, by rw [List.length_zipWith]; omega, by omega, fun u hu => ?_⟩
    · rw [← kz_over hl]
      unfold putK
      rw [if_pos]
      rw [List.any_eq_true]
      have hk := kz_keys (ns := ns) (xs := ws.map lfV) (by rw [List.length_map]; exact hl)
      have hm : (Sum.inr z : Key) ∈ (kz ns (ws.map lfV)).map (·.1) := by
        rw [hk]
        exact List.mem_map.mpr ⟨z, hz, rfl⟩
      obtain ⟨q, hq, e⟩ := List.mem_map.mp hm
      exact ⟨q, hq, decide_eq_true e⟩
    · obtain ⟨i, hi, e⟩ := List.mem_iff_getElem.mp hu
      rw [List.getElem_zipWith] at e
      rw [← e]
      split
      · exact hw
      · exact hs _ (List.getElem_mem _)
  · refine ⟨ns ++ [z], ws ++ [w], ?_, ?_, by rw [List.length_append, List.length_append, hl]; rfl, by rw [List.length_append]; exact Nat.le_refl _, fun u hu => ?_⟩
    · rw [putK_new _ (kz_none hz), List.map_append]
      exact (kz_snoc (by rw [List.length_map]; exact hl)).symm
    · exact List.nodup_append.mpr ⟨nd, by simp, fun a ha b hb => by rw [List.mem_singleton.mp hb]; exact fun e => hz (e ▸ ha)⟩
    · rcases List.mem_append.mp hu with hu | hu
      · exact hs u hu
      · rw [List.mem_singleton.mp hu]
        exact hw
theorem flD_at {M : Hp} {row : Bool} {qs : List (Str × Str)} {r : Option Str} {v : V} (h : RW M (flD row qs r) v) : ∃ a l es, v = .ref a ∧ M a = some (.tup [.str (Str.ofString (if row = true then "row" else "record")), .ref l, rsV r]) ∧ M l = some (.lst es) ∧ RWs M ((qs.map flQ).map (ent row)) es := by
  obtain ⟨a, xs, rfl, ha, x1, y1, rfl, h1, x2, y2, rfl, ⟨l, es, rfl, hl, hes⟩, x3, y3, rfl, h3, h4⟩ := h
  obtain rfl : y3 = [] := h4
  obtain rfl := RW.leaf h1
  have e3 : x3 = rsV r := by
    cases r with
    | none => exact RW.leaf h3
    | some z => exact RW.leaf h3
  rw [e3] at ha
  exact ⟨a, l, es, rfl, ha, hl, hes⟩
theorem ent_f {M : Hp} {q : Str × Str} {v : V} (h : RW M (ent false (flQ q)) v) : ∃ a t, v = .ref a ∧ M a = some (.tup [.str q.1, .ref t, .non]) ∧ M t = some (.tup [.str (Str.ofString "name"), .str q.2]) := by
  obtain ⟨a, xs, rfl, ha, x1, y1, rfl, h1, x2, y2, rfl, ⟨t, ts, rfl, ht, z1, w1, rfl, g1, z2, w2, rfl, g2, g3⟩, x3, y3, rfl, h3, h4⟩ := h
  obtain rfl : y3 = [] := h4
  obtain rfl : w2 = [] := g3
  obtain rfl := RW.leaf h1
  obtain rfl := RW.leaf h3
  obtain rfl := RW.leaf g1
  obtain rfl := RW.leaf g2
  exact ⟨a, t, rfl, ha, ht⟩
theorem ent_t {M : Hp} {q : Str × Str} {v : V} (h : RW M (ent true (flQ q)) v) : ∃ a t, v = .ref a ∧ M a = some (.tup [.ref t, .non]) ∧ M t = some (.tup [.str (Str.ofString "name"), .str q.2]) := by
  obtain ⟨a, xs, rfl, ha, x2, y2, rfl, ⟨t, ts, rfl, ht, z1, w1, rfl, g1, z2, w2, rfl, g2, g3⟩, x3, y3, rfl, h3, h4⟩ := h
  obtain rfl : y3 = [] := h4
  obtain rfl : w2 = [] := g3
  obtain rfl := RW.leaf h3
  obtain rfl := RW.leaf g1
  obtain rfl := RW.leaf g2
  exact ⟨a, t, rfl, ha, ht⟩
def spFlatV : Sp := fun vs H Q _ => ∃ (p : Addr) (n : Nat) (v : V) (M : Hp) (row : Bool) (qs : List (Str × Str)) (r : Option Str), vs = [.ref p, v] ∧ Purse H p n ∧ n + 200 < 10 ^ 60 ∧ Same M H ∧ M p = none ∧ RW M (flD row qs r) v ∧ FlOk row qs r ∧
  ∀ (w : Wv) (u : V) H', Around1 H p (n + 200) H' → RV H' w u → flatW w → Q u H'
section
variable {P : Program} {w : World} {K : PySem.W.Frag} {mg : Str → Option Value} {base : Heap}
abbrev nFV : List Str := ["purse", "piece", "way", "size", "worths", "turn", "found", "at", "one"]
theorem sqFv : FnScope nFV ["purse", "piece"] (defScope sFlatV) := ⟨rfl, rfl, rfl, by decide +kernel, rfl, by decide +kernel, by decide +kernel⟩
theorem ok_flatv {f fC : Addr} {fd fdC : FuncData} (F : Fun K "_law_ta_flat_value" "_law_ta_flat_value" sFlatV f fd) (T : Txt K mg) (zE : mg "enumerate" = none)
    (FC : Fun K "_law_coin" "_law_coin" sCoin fC fdC) (GC : FnOk P w K mg base CX0 1 fC fdC ["purse", "many"] spCoin) (bC : L2.Binds K fdC ["purse", "many"] []) (mC : mg "_law_coin" = some (.ref fC)) :
    FnOk P w K mg base CX0 2 f fd ["purse", "piece"] spFlatV := by
  refine F.ok sqFv (fun vs H Q E h => ?_) (fun cdv A outer s H vs Q E hr h => ?_)
  · obtain ⟨p, n, v, M, row, qs, r, rfl, _⟩ := h
    rfl
  obtain ⟨p, n, v, M, row, qs, r, rfl, hp, hn, hMH, hMp, hR, hF, kk⟩ := h
  have hu1 : (A.deeper (envOfC "_law_ta_flat_value" (defScope sFlatV) s.heap.objs.size f cdv)).units + 1 < cLine := by
    have := hr.units
    omega
  refine ⟨_, Evl.pss_cut (ps_set (i := 2) sqFv.nd rfl (Or.inl rfl) (pe_call GC hr rfl mC FC.kp bC .nil pass0 (pa_cons (pv 0) (pa_cons pe_int pa_nil))))
    (Evl.pss_cut (ps_if (pt_cmpR op_lt (pv 2) pe_int (nomark _)) (pss_one (ps_ret (pe_ix ix_list (pe_lst (pa_cons pe_non (pa_cons (pe_op op_sub (pe_call GC hr rfl mC FC.kp bC .nil pass0 (pa_cons (pv 0) (pa_cons pe_int pa_nil))) pe_int) (pa_cons (pe_lst pa_nil) (pa_cons pe_dnewK pa_nil))))) (pe_call GC hr rfl mC FC.kp bC .nil pass0 (pa_cons (pv 0) (pa_cons pe_int pa_nil))) (fun _ _ => rfl)))) pss_nil)
    (Evl.pss_cut (ps_set (i := 3) sqFv.nd rfl (Or.inl rfl) (pe_callB (call_max2 rfl) (by rfl) T.max boot_max (pa_cons pe_int (pa_cons (pe_op op_sub (pe_op op_add (pe_callB call_len_seq (by rfl) T.len PySem.boot_len (pa_cons (pe_ix ix_tup (pv 1) pe_int (fun _ _ => rfl)) pa_nil)) (pe_call GC hr rfl mC FC.kp bC .nil pass0 (pa_cons (pv 0) (pa_cons pe_int pa_nil)))) pe_int) pa_nil))))
    (Evl.pss_cut (ps_setLc (i := 4) (own := [("turn", 5)]) (g := gName 5) (tt := tYes) (by rfl) sqFv.nd rfl rfl (sw_true rfl rfl rfl (by decide +kernel)) (pi_range1 rfl T.range (pa_cons (pv 3) pa_nil)) (blkOk_by (N := nFV) (sc := defScope sFlatV) (by decide +kernel)) (fun _ _ _ _ _ => pg_name (i := 5) sqFv.nd rfl (Or.inl rfl)) (fun _ _ _ _ _ => pts_nil)
        (fun _ _ _ _ _ => pe_ix (show IxR _ (rIxL K) from ix_list) (pe_lst (pa_cons pe_non (pa_cons (pe_op op_sub (pe_call GC hr rfl mC FC.kp bC .nil pass0 (pa_cons (pv 0) (pa_cons pe_int pa_nil))) pe_int) pa_nil))) (pe_callB (call_min2 rfl) (by rfl) T.min boot_min (pa_cons pe_int (pa_cons (pe_call GC hr rfl mC FC.kp bC .nil pass0 (pa_cons (pv 0) (pa_cons pe_int pa_nil))) pa_nil))) (fun _ _ => rfl)))
    (Evl.pss_cut (ps_if (pw_or (pt_cmpR op_eq (pe_ix ix_tup (pv 1) pe_int (fun _ _ => rfl)) pe_str (nomark _)) (pw_or1 (pt_cmpR op_eq (pv 2) pe_int (nomark _)))).pt (pss_one (ps_ret (pv 4))) pss_nil)
    (pss_cons (ps_set (i := 6) sqFv.nd rfl (Or.inl rfl) pe_dnewK)
    (Evl.pss_cut (ps_for PassesOwn.never rfl (pi_enum rfl zE (pa_cons (pe_ix ix_tup (pv 1) pe_int (fun _ _ => rfl)) pa_nil)) (pg_tup rfl (pgs_cons (pg_name (i := 7) sqFv.nd rfl (Or.inl rfl)) (pgs_cons (pg_name (i := 8) sqFv.nd rfl (Or.inl rfl)) pgs_nil)))
        (pss_one (ps_if (PW.pt (pw_and (pt_cmpR op_lt (pv 7) (pv 3) (nomark _)) (pw_and1 (pt_cmpR op_gt (pe_call GC hr rfl mC FC.kp bC .nil pass0 (pa_cons (pv 0) (pa_cons pe_int pa_nil))) pe_int (nomark _)))))
          (pss_one (ps_dput hu1 (pv 6) (pe_ix ix_tup (pv 8) pe_int (fun _ _ => rfl)) (pe_ix ix_list (pv 4) (pv 7) (fun _ _ => rfl)) rfl)) pss_nil)))
    (Evl.pss_cut (ps_if (pt_cmpR op_eq (pe_call GC hr rfl mC FC.kp bC .nil pass0 (pa_cons (pv 0) (pa_cons pe_int pa_nil))) pe_int (nomark _)) (pss_one (ps_dput hu1 (pv 6) pe_str pe_int rfl)) pss_nil)
    (pss_one (ps_ret (pv 6)))))))))), ?_⟩
  obtain ⟨pa, la, es, rfl, hpa, hla, hes⟩ := flD_at hR
  have hel : es.length = qs.length := by rw [hes.len, List.length_map, List.length_map]
  have hql := hF.len
  have keep : ∀ {b : Addr} {o : HO} {H' : Hp} {c : Nat}, M b = some o → Around1 H p c H' → H' b = some o := fun {b o H' c} e a => a.1 _ _ (fun z => by rw [z, hMp] at e; cases e) (hMH _ _ e)
  -- way
  refine ⟨fun σ' H' => Around1 H p (n + 1) H' ∧ ∃ wy : Int, σ' = [some (.ref p), some (.ref pa), some (.int wy), none, none, none, none, none, none], ?_, ?_⟩
  · exact ⟨_, rfl, p, 8, n, rfl, hp, by omega, by decide, by decide, fun d H1 d0 d1 hb hp1 => ⟨⟨hb, hp1⟩, d, rfl⟩⟩
  rintro _ H1 ⟨hA1, wy, rfl⟩
  -- something else
  refine ⟨fun σ' H' => Around1 H p (n + 1) H' ∧ σ' = [some (.ref p), some (.ref pa), some (.int wy), none, none, none, none, none, none], ?_, ?_⟩
  · refine ⟨_, rfl, _, _, rfl, rfl, _, rfl, ?_⟩
    refine ite2 (fun _ => ?_) (fun _ => ⟨hA1, rfl⟩)
    refine ⟨_, rfl, p, 1999, n + 1, rfl, hA1.2, by omega, by decide, by decide, fun d H2 d0 d1 hb hp2 => ⟨_, _, rfl, rfl, by show 0 ≤ sizeLine; decide, fun l1 hl1 => fun l2 hl2 => ⟨by show 4 ≤ sizeLine; decide, fun q hq => ?_⟩⟩⟩
    have hA2 := hA1.draw hb hp2
    have nl1 := hA2.2.ne hl1
    have s1 := same_new hl1 (.lst [])
    have nl2 := (hA2.same s1).2.ne hl2
    have s2 := same_new hl2 (.dK [])
    have nq := (hA2.same (s1.trans s2)).2.ne hq
    have s3 := same_new hq (.lst [V.non, V.int (d - 999), V.ref l1, V.ref l2])
    have hA3 := hA2.same ((s1.trans s2).trans s3)
    refine ⟨_, rfl, p, 4, n + 2, rfl, hA3.2, by omega, by decide, by decide, fun e H4 e0 e1 hb4 hp4 => ?_⟩
    have hA4 := (hA3.draw hb4 hp4).mono (show n + 2 + 1 ≤ n + 200 by omega)
    have hq4 := hb4 q _ nq (upd_same (a := q) (o := .lst [V.non, V.int (d - 999), V.ref l1, V.ref l2]))
    rcases (by omega : e = 0 ∨ e = 1 ∨ e = 2 ∨ e = 3) with rfl | rfl | rfl | rfl
    · exact ⟨q, _, _, _, rfl, rfl, SqL.of hq4, at_ofN (j := 0) rfl rfl, kk .non .non H4 hA4 rfl trivial⟩
    · exact ⟨q, _, _, _, rfl, rfl, SqL.of hq4, at_ofN (j := 1) rfl rfl, kk (.int (d - 999)) _ H4 hA4 rfl trivial⟩
    · exact ⟨q, _, _, _, rfl, rfl, SqL.of hq4, at_ofN (j := 2) rfl rfl, kk (.row []) _ H4 hA4 ⟨l1, [], rfl, hb4 _ _ nl1 (s3 _ _ (s2 _ _ upd_same)), rfl⟩ ⟨Nat.zero_le _, fun _ z => nomatch z⟩⟩
    · exact ⟨q, _, _, _, rfl, rfl, SqL.of hq4, at_ofN (j := 3) rfl rfl, kk (.rcd [] []) _ H4 hA4 ⟨l2, [], rfl, hb4 _ _ nl2 (s3 _ _ upd_same), rfl, rfl⟩ ⟨List.nodup_nil, rfl, Nat.zero_le _, fun _ z => nomatch z⟩⟩
  clear hA1
  rintro _ H2 ⟨hA2, rfl⟩
  -- size
  refine ⟨fun σ' H' => Around1 H p (n + 2) H' ∧ ∃ sz : Nat, sz ≤ 26 ∧ σ' = [some (.ref p), some (.ref pa), some (.int wy), some (.int (sz : Int)), none, none, none, none, none], ?_, ?_⟩
  · refine ⟨_, rfl, pa, _, 1, _, rfl, rfl, SqT.of (keep hpa hA2), atI_nat (j := 1) rfl, la, es, rfl, .inl (SqL.of (keep hla hA2)), _, rfl, p, 8, n + 1, rfl, hA2.2, by omega, by decide, by decide, fun d H3 d0 d1 hb hp3 => ?_⟩
    refine ⟨_, _, rfl, rfl, _, _, rfl, rfl, _, _, rfl, ?_⟩
    obtain ⟨sz, hsz, hs26⟩ : ∃ sz : Nat, (if ((es.length : Nat) : Int) + d - 2 > 0 then ((es.length : Nat) : Int) + d - 2 else 0) = (sz : Int) ∧ sz ≤ 26 := by
      split
      · exact ⟨(((es.length : Nat) : Int) + d - 2).toNat, by omega, by omega⟩
      · exact ⟨0, rfl, by omega⟩
    rw [hsz]
    exact ⟨hA2.draw hb hp3, sz, hs26, rfl⟩
  clear hA2
  rintro _ H3 ⟨hA3, sz, hs26, rfl⟩
  -- worths
  refine ⟨fun σ' H' => Around1 H p (n + 60) H' ∧ ∃ (wl : Addr) (ws : List Wv), wl ≠ p ∧ H' wl = some (.lst (ws.map lfV)) ∧ ws.length = sz ∧ (∀ w ∈ ws, flatV w) ∧ σ' = [some (.ref p), some (.ref pa), some (.int wy), some (.int (sz : Int)), some (.ref wl), none, none, none, none], ?_, ?_⟩
  · refine ⟨_, rfl, (sz : Int), rfl, by omega, by omega, fun D hD => ?_⟩
    have hD0 := hA3.free hp hD
    have hDp := hA3.2.ne hD
    refine lc_range (lo := 0) (fun i H' => Around1 H p (n + 2 + 2 * i) H' ∧ ∃ ws : List Wv, H' D = some (.lst (ws.map lfV)) ∧ ws.length = i ∧ ∀ w ∈ ws, flatV w) ⟨hA3.new hD, [], upd_same, rfl, fun _ z => nomatch z⟩ ?_ ?_
    · rintro i H6 hi ⟨hA6, ws, hD6, hl, hfl⟩
      refine ⟨rfl, ?_⟩
      unfold tYes
      refine iteT ?_
      refine ⟨_, rfl, p, 1999, n + 2 + 2 * i, rfl, hA6.2, by omega, by decide, by decide, fun d H7 d0 d1 hb hp7 => ⟨_, _, rfl, rfl, by show 2 ≤ sizeLine; decide, fun q hq => ?_⟩⟩
      have hA7 := hA6.draw hb hp7
      have nq := hA7.2.ne hq
      have s1 := same_new hq (.lst [V.non, V.int (d - 999)])
      have hD7 := s1 _ _ (hb D _ hDp hD6)
      refine ⟨_, rfl, p, 5, n + 2 + 2 * i + 1, rfl, hA7.2.same s1, by omega, by decide, by decide, fun e H8 e0 e1 hb8 hp8 => ⟨_, _, rfl, ?_⟩⟩
      have hA8 := (hA7.same s1).draw hb8 hp8
      have hD8 := hb8 D _ hDp hD7
      have hq8 := hb8 q _ nq (upd_same (a := q) (o := .lst [V.non, V.int (d - 999)]))
      obtain ⟨w1, hw1, hat⟩ : ∃ w1 : Wv, flatV w1 ∧ atI [V.non, V.int (d - 999)] (if e < 1 then e else 1) = some (lfV w1) := by
        by_cases c : e < 1
        · rw [if_pos c]
          exact ⟨.non, trivial, at_ofN (j := 0) (by omega) rfl⟩
        · rw [if_neg c]
          exact ⟨.int (d - 999), trivial, at_ofN (j := 1) rfl rfl⟩
      refine ⟨q, _, _, _, rfl, rfl, SqL.of hq8, hat, _, hD8, by rw [List.length_map]; exact Nat.lt_of_le_of_lt (show ws.length ≤ 1000 by omega) (by decide), ?_, ws ++ [w1], ?_, len_moreQ hl, fun u hu => ?_⟩
      · exact (hA8.mono (by omega)).put hD0 hDp
      · rw [upd_same, List.map_append]
        rfl
      · rcases List.mem_append.mp hu with hu | hu
        · exact hfl u hu
        · rw [List.mem_singleton.mp hu]
          exact hw1
    · rintro H6 ⟨hA6, ws, hD6, hl, hfl⟩
      rw [Int.toNat_natCast] at hA6 hl
      exact ⟨hA6.mono (by omega), D, ws, hDp, hD6, hl, hfl, rfl⟩
  clear hA3
  rintro _ H4 ⟨hA4, wl, ws, nwp, hwl4, hwsl, hwsf, rfl⟩
  refine ⟨fun σ' H' => H' = H4 ∧ row = false ∧ σ' = [some (.ref p), some (.ref pa), some (.int wy), some (.int (sz : Int)), some (.ref wl), none, none, none, none], ?_, ?_⟩
  · have done := kk (.row ws) (.ref wl) H4 (hA4.mono (by omega)) ⟨wl, _, rfl, hwl4, rvs_flat hwsf⟩ ⟨by omega, hwsf⟩
    refine ⟨_, rfl, pa, _, 0, _, rfl, rfl, SqT.of (keep hpa hA4), atI_nat (j := 0) rfl, rfl, _, rfl, ?_⟩
    cases row with
    | true => exact ifT (decide_eq_true rfl) (iteT ⟨_, rfl, done⟩)
    | false => exact ifF (so_ne (s := "record") (t := "row") (by decide)) ⟨_, rfl, rfl, _, rfl, ite2 (fun _ => ⟨_, rfl, done⟩) fun _ => ⟨rfl, rfl, rfl⟩⟩
  rintro _ H4 ⟨rfl, rfl, rfl⟩
  intro D hD
  have hD0 := hA4.free hp hD
  have hDp := hA4.2.ne hD
  have nwD : wl ≠ D := ne_of_none hwl4 hD
  refine ⟨fun σ' H' => Around1 H p (n + 90) H' ∧ ∃ (ns : List Str) (us : List Wv) (v7 v8 : Option V), H' D = some (.dK (kz ns (us.map lfV))) ∧ ns.Nodup ∧ ns.length = us.length ∧ ns.length ≤ 20 ∧ (∀ u ∈ us, flatV u) ∧ σ' = [some (.ref p), some (.ref pa), some (.int wy), some (.int (sz : Int)), some (.ref wl), none, some (.ref D), v7, v8], ?_, ?_⟩
  · have hA5 := hA4.new (o := .dK []) hD
    have hwl5 := same_new hD (.dK []) _ _ hwl4
    have hD5 : (upd H4 D (.dK [])) D = some (.dK []) := upd_same
    generalize upd H4 D (.dK []) = H5 at hA5 hwl5 hD5
    refine ⟨_, rfl, pa, _, 1, _, rfl, rfl, SqT.of (keep hpa hA5), atI_nat (j := 1) rfl, la, es, rfl, SqL.of (keep hla hA5), ?_⟩
    refine for_it walk_enum (fun i σ' H' => Around1 H p (n + 60 + i) H' ∧ H' wl = some (.lst (ws.map lfV)) ∧ ∃ (ns : List Str) (us : List Wv) (v7 v8 : Option V), H' D = some (.dK (kz ns (us.map lfV))) ∧ ns.Nodup ∧ ns.length = us.length ∧ ns.length ≤ i ∧ (∀ u ∈ us, flatV u) ∧ σ' = [some (.ref p), some (.ref pa), some (.int wy), some (.int (sz : Int)), some (.ref wl), none, some (.ref D), v7, v8])
      ⟨hA5, hwl5, [], [], none, none, hD5, List.nodup_nil, rfl, Nat.le_refl _, (fun _ z => nomatch z), rfl⟩ (fun i σ' H' _ ⟨h, _⟩ => SqL.of (keep hla h)) ?_ ?_
    · rintro i x σ' H6 H7 hi ⟨hA6, hwl6, ns, us, v7, v8, hD6, hnd, hnl, hni, huf, rfl⟩ ⟨tA, x1, y1, rfl, htA, rfl, ex, ey⟩
      obtain rfl : V.int ((i : Nat) : Int) = x1 := Option.some.inj ex
      obtain ⟨d, hd, hrd⟩ := hes.item ey
      rw [List.getElem?_map, List.getElem?_map] at hd
      obtain ⟨q0, hq0, rfl⟩ : ∃ q0, qs[i]? = some q0 ∧ ent false (flQ q0) = d := by
        cases e : qs[i]? with
        | none =>
          rw [e] at hd
          cases hd
        | some q0 =>
          rw [e] at hd
          exact ⟨q0, rfl, Option.some.inj hd⟩
      obtain ⟨ea, et, rfl, hea, het⟩ := ent_f hrd
      have s3 := same_new htA (.tup [V.int ((i : Nat) : Int), .ref ea])
      have hA7 := hA6.same s3
      have hwl7 := s3 _ _ hwl6
      have hD7 := s3 _ _ hD6
      have hiq : i < qs.length := (List.getElem?_eq_some_iff.mp hq0).1
      refine ⟨tA, _, rfl, SqT.of upd_same, rfl, _, _, rfl, _, _, rfl, rfl, ?_⟩
      refine ⟨_, rfl, _, rfl, _, _, rfl, rfl, _, rfl, ?_⟩
      refine ite2 (fun c => ?_) (fun _ => ⟨hA7.mono (by omega), hwl7, ns, us, _, _, hD7, hnd, hnl, by omega, huf, rfl⟩)
      have hisz : i < sz := by
        have := of_decide_eq_true c
        omega
      refine ⟨_, rfl, p, 9, n + 60 + i, rfl, hA7.2, by omega, by decide, by decide, fun e H8 e0 e1 hb8 hp8 => ⟨_, _, rfl, rfl, _, rfl, ?_⟩⟩
      have hA8 := hA7.draw hb8 hp8
      have hwl8 := hb8 wl _ nwp hwl7
      have hD8 := hb8 D _ hDp hD7
      refine ite2 (fun _ => ?_) (fun _ => ⟨hA8, hwl8, ns, us, _, _, hD8, hnd, hnl, by omega, huf, rfl⟩)
      have hwi := List.getElem?_eq_getElem (show i < ws.length by omega)
      generalize ws[i] = w1 at hwi
      have hw1 := hwsf w1 (List.mem_of_getElem? hwi)
      obtain ⟨ns', us', e9, nd9, nl9, ni9, uf9⟩ := kz_putF (z := q0.1) hnd hnl hw1 huf
      refine ⟨_, rfl, _, rfl, wl, _, _, lfV w1, rfl, rfl, SqL.of hwl8, atI_nat (by rw [List.getElem?_map, hwi]; rfl), _, rfl, _, rfl, ea, _, 0, _, rfl, rfl, SqT.of (keep hea hA8), atI_nat (j := 0) rfl, D, _, rfl, DPut.k (k := Sum.inr q0.1) hD8 (by rw [kz_len (by rw [List.length_map]; exact hnl)]; exact Nat.lt_of_le_of_lt (show ns.length ≤ 1000 by omega) (by decide)), ?_⟩
      refine ⟨hA8.put hD0 hDp, by rw [upd_ne nwD]; exact hwl8, ns', us', _, _, by rw [upd_same, e9], nd9, nl9, by omega, uf9, rfl⟩
    · rintro σ' H6 ⟨hA6, hwl6, ns, us, v7, v8, hD6, hnd, hnl, hni, huf, rfl⟩
      exact ⟨hA6.mono (by omega), ns, us, v7, v8, hD6, hnd, hnl, by omega, huf, rfl⟩
  rintro _ H5 ⟨hA5, ns, us, v7, v8, hD5, hnd, hnl, hni, huf, rfl⟩
  refine ⟨fun σ' H' => Around1 H p (n + 91) H' ∧ ∃ (ns : List Str) (us : List Wv), H' D = some (.dK (kz ns (us.map lfV))) ∧ ns.Nodup ∧ ns.length = us.length ∧ ns.length ≤ 21 ∧ (∀ u ∈ us, flatV u) ∧ σ' = [some (.ref p), some (.ref pa), some (.int wy), some (.int (sz : Int)), some (.ref wl), none, some (.ref D), v7, v8], ?_, ?_⟩
  · refine ⟨_, rfl, p, 2, n + 90, rfl, hA5.2, by omega, by decide, by decide, fun e H6 e0 e1 hb6 hp6 => ?_⟩
    have hA6 := hA5.draw hb6 hp6
    have hD6 := hb6 D _ hDp hD5
    refine ⟨rfl, _, rfl, ?_⟩
    refine ite2 (fun _ => ?_) (fun _ => ⟨hA6, ns, us, hD6, hnd, hnl, by omega, huf, rfl⟩)
    obtain ⟨ns', us', e9, nd9, nl9, ni9, uf9⟩ := kz_putF (z := Str.ofString "strange") (w := .int 7) hnd hnl trivial huf
    refine ⟨_, rfl, D, _, rfl, DPut.k (k := Sum.inr (Str.ofString "strange")) hD6 (by rw [kz_len (by rw [List.length_map]; exact hnl)]; exact Nat.lt_of_le_of_lt (show ns.length ≤ 1000 by omega) (by decide)), ?_⟩
    exact ⟨hA6.put hD0 hDp, ns', us', by rw [upd_same]; exact congrArg (fun k => some (HO.dK k)) e9, nd9, nl9, by omega, uf9, rfl⟩
  rintro _ H6 ⟨hA6, ns, us, hD6, hnd, hnl, hni, huf, rfl⟩
  exact ⟨_, rfl, kk (.rcd ns us) _ H6 (hA6.mono (by omega)) ⟨D, _, rfl, hD6, hnl, rvs_flat huf⟩ ⟨hnd, hnl, by omega, huf⟩⟩
end
end K02
set_option Elab.async false
set_option linter.all false
set_option maxRecDepth 100000
set_option maxHeartbeats 4000000
namespace K02
open PySem L2 PyProof.Rows
/-! ### what a run over a Given knows is so -/
structure FSound (w : Wv) (rs : List Wv) (f : Fx) : Prop where
  kinds : ∀ p s, f.kinds p = some s → ∃ u, wP w rs p = some u ∧ s = Str.ofString (kindS u)
  filled : ∀ p, f.filled p = true → ∃ u, wP w rs p = some u ∧ u.isN = false
  fields : ∀ p z b, f.fields (Pth.push p (.fd z)) = some b → ∃ u, wP w rs p = some u ∧ b = (wIn u (.fd z)).isSome
  least : ∀ p n, f.least p = some n → ∃ ws, wP w rs p = some (.row ws) ∧ n ≤ ws.length
  most : ∀ p n, f.most p = some n → ∃ ws, wP w rs p = some (.row ws) ∧ ws.length ≤ n
theorem FSound.nil {w : Wv} {rs : List Wv} : FSound w rs Fx.nil := ⟨(fun _ _ h => nomatch h), (fun _ h => nomatch h), (fun _ _ _ h => nomatch h), (fun _ _ h => nomatch h), (fun _ _ h => nomatch h)⟩
theorem push_inj {p q : Pth} {k j : Ky} (h : Pth.push p k = Pth.push q j) : p = q ∧ k = j := by
  obtain ⟨b, ks⟩ := p
  obtain ⟨c, js⟩ := q
  have h1 : b = c := congrArg Pth.b h
  have h2 : ks ++ [k] = js ++ [j] := congrArg Pth.ks h
  obtain ⟨h3, h4⟩ := List.append_inj' h2 rfl
  rw [h1, h3]
  exact ⟨rfl, (List.cons.inj h4).1⟩
theorem put1_some {α : Type} {m : Pth → Option α} {p q : Pth} {v x : α} (h : put1 m p (some v) q = some x) : (q = p ∧ v = x) ∨ m q = some x := by
  unfold put1 at h
  by_cases e : q = p
  · rw [if_pos e] at h
    exact .inl ⟨e, Option.some.inj h⟩
  · rw [if_neg e] at h
    exact .inr h
theorem isN_kind {u : Wv} : (Str.ofString (kindS u) = sNone) ↔ u.isN = true := by
  cases u
  · exact ⟨fun _ => rfl, fun _ => rfl⟩
  · exact ⟨fun h => absurd (show Str.ofString "integer" = sNone from h) (by decide +kernel), fun h => nomatch h⟩
  · exact ⟨fun h => absurd (show Str.ofString "row" = sNone from h) (by decide +kernel), fun h => nomatch h⟩
  · exact ⟨fun h => absurd (show Str.ofString "record" = sNone from h) (by decide +kernel), fun h => nomatch h⟩
theorem FSound.learn {w : Wv} {rs : List Wv} {f : Fx} (h : FSound w rs f) {l : Lq} {u : Wv} (hu : wP w rs (lqP l) = some u) (ok : okLq u l) : FSound w rs (learn f l (ansQ u l)) := by
  cases l with
  | what p =>
    refine ⟨fun q s e => ?_, h.filled, h.fields, h.least, h.most⟩
    rcases put1_some e with ⟨rfl, rfl⟩ | e
    · exact ⟨u, hu, rfl⟩
    · exact h.kinds q s e
  | none p =>
    show FSound w rs (K02.learn f (.none p) (.bl u.isN))
    cases e : u.isN with
    | true =>
      refine ⟨fun q s e2 => ?_, h.filled, h.fields, h.least, h.most⟩
      rcases put1_some e2 with ⟨rfl, rfl⟩ | e2
      · exact ⟨u, hu, (isN_kind.2 e).symm⟩
      · exact h.kinds q s e2
    | false =>
      refine ⟨h.kinds, fun q e2 => ?_, h.fields, h.least, h.most⟩
      have e2 : put1 f.filled p true q = true := e2
      unfold put1 at e2
      by_cases c : q = p
      · rw [c]
        exact ⟨u, hu, e⟩
      · rw [if_neg c] at e2
        exact h.filled q e2
  | has p k =>
    cases k with
    | fd z =>
      refine ⟨h.kinds, h.filled, fun q y b e => ?_, h.least, h.most⟩
      rcases put1_some e with ⟨e1, rfl⟩ | e
      · obtain ⟨rfl, e3⟩ := push_inj e1
        cases e3
        exact ⟨u, hu, rfl⟩
      · exact h.fields q y b e
    | ix i =>
      cases u with
      | non => exact ok.elim
      | int j => exact ok.elim
      | rcd ns ws => exact ok.elim
      | row ws =>
        show FSound w rs (K02.learn f (.has p (.ix i)) (.bl (ws[i]?).isSome))
        by_cases c : i < ws.length
        · rw [List.getElem?_eq_getElem c]
          refine ⟨h.kinds, h.filled, h.fields, fun q n e => ?_, h.most⟩
          rcases put1_some e with ⟨rfl, rfl⟩ | e
          · exact ⟨ws, hu, c⟩
          · exact h.least q n e
        · rw [List.getElem?_eq_none (by omega)]
          refine ⟨h.kinds, h.filled, h.fields, h.least, fun q n e => ?_⟩
          rcases put1_some e with ⟨rfl, rfl⟩ | e
          · exact ⟨ws, hu, by omega⟩
          · exact h.most q n e
theorem FSound.follows {w : Wv} {rs : List Wv} {f : Fx} (h : FSound w rs f) {l : Lq} {u : Wv} (hu : wP w rs (lqP l) = some u) (ok : okLq u l) : follows f l = ansQ u l ∨ follows f l = .non := by
  cases l with
  | what p =>
    show ((f.kinds p).map V.str).getD .non = _ ∨ ((f.kinds p).map V.str).getD .non = _
    cases e : f.kinds p with
    | none => exact .inr rfl
    | some s =>
      obtain ⟨u', h1, rfl⟩ := h.kinds p s e
      have hu : wP w rs p = some u := hu
      rw [hu] at h1
      cases h1
      exact .inl rfl
  | none p =>
    have hu : wP w rs p = some u := hu
    cases e : f.kinds p with
    | some s =>
      have e9 : K02.follows f (.none p) = .bl (decide (s = sNone)) := by
        show (match f.kinds p with | some s => V.bl (decide (s = sNone)) | none => if f.filled p = true then .bl false else .non) = _
        rw [e]
      obtain ⟨u', h1, rfl⟩ := h.kinds p s e
      rw [hu] at h1
      cases h1
      refine .inl (e9.trans ?_)
      show V.bl _ = V.bl u.isN
      cases q : u.isN with
      | true => rw [decide_eq_true (isN_kind.2 q)]
      | false => rw [decide_eq_false fun z => by rw [isN_kind.1 z] at q; cases q]
    | none =>
      have e9 : K02.follows f (.none p) = if f.filled p = true then .bl false else .non := by
        show (match f.kinds p with | some s => V.bl (decide (s = sNone)) | none => if f.filled p = true then .bl false else .non) = _
        rw [e]
      by_cases c : f.filled p = true
      · obtain ⟨u', h1, h2⟩ := h.filled p c
        rw [hu] at h1
        cases h1
        refine .inl (e9.trans ?_)
        rw [if_pos c]
        show V.bl false = V.bl u.isN
        rw [h2]
      · exact .inr (e9.trans (if_neg c))
  | has p k =>
    have hu : wP w rs p = some u := hu
    cases k with
    | fd z =>
      show ((f.fields (p.push (.fd z))).map V.bl).getD .non = _ ∨ ((f.fields (p.push (.fd z))).map V.bl).getD .non = _
      cases e : f.fields (p.push (.fd z)) with
      | none => exact .inr rfl
      | some b =>
        obtain ⟨u', h1, rfl⟩ := h.fields p z b e
        have hu : wP w rs p = some u := hu
        rw [hu] at h1
        cases h1
        exact .inl rfl
    | ix i =>
      cases u with
      | non => exact ok.elim
      | int j => exact ok.elim
      | rcd ns ws => exact ok.elim
      | row ws =>
        have ea : ansQ (.row ws) (.has p (.ix i)) = .bl (decide (i < ws.length)) := by
          show V.bl (ws[i]?).isSome = _
          by_cases c : i < ws.length
          · rw [List.getElem?_eq_getElem c, decide_eq_true c]
            rfl
          · rw [List.getElem?_eq_none (by omega), decide_eq_false c]
            rfl
        rw [ea]
        show (if i < (f.least p).getD 0 then V.bl true else match f.most p with | some m => if m ≤ i then .bl false else .non | none => .non) = _ ∨ (if i < (f.least p).getD 0 then V.bl true else match f.most p with | some m => if m ≤ i then .bl false else .non | none => .non) = _
        by_cases c : i < (f.least p).getD 0
        · rw [if_pos c]
          cases e : f.least p with
          | none =>
            rw [e] at c
            exact absurd c (Nat.not_lt_zero _)
          | some n =>
            rw [e] at c
            obtain ⟨ws', h1, h2⟩ := h.least p n e
            have hu : wP w rs p = some (.row ws) := hu
            rw [hu] at h1
            cases h1
            have c : i < n := c
            exact .inl (by rw [decide_eq_true (show i < ws.length by omega)])
        · rw [if_neg c]
          cases e : f.most p with
          | none => exact .inr rfl
          | some n =>
            obtain ⟨ws', h1, h2⟩ := h.most p n e
            have hu : wP w rs p = some (.row ws) := hu
            rw [hu] at h1
            cases h1
            show (if n ≤ i then V.bl false else .non) = _ ∨ (if n ≤ i then V.bl false else .non) = _
            by_cases c2 : n ≤ i
            · rw [if_pos c2]
              exact .inl (by rw [decide_eq_false (show ¬ i < ws.length by omega)])
            · exact .inr (if_neg c2)
theorem ansQ_non {u : Wv} {l : Lq} : ansQ u l ≠ .non := by
  cases l
  · exact fun h => nomatch h
  · exact fun h => nomatch h
  · exact fun h => nomatch h
/-- a look over a Given -/
theorem ask_true {w : Wv} {rs : List Wv} {σ : Tst} {l : Lq} {u : Wv} (h : FSound w rs (fx σ.looks)) (hu : wP w rs (lqP l) = some u) (ok : okLq u l) (hl : σ.looks.length < 100000) :
    ∃ L, ask (gSem w rs) l σ = .ok (ansQ u l) { σ with looks := L } ∧ L.length ≤ σ.looks.length + 1 ∧ FSound w rs (fx L) := by
  unfold ask
  by_cases c : K02.follows (fx σ.looks) l ≠ .non
  · rw [if_pos c]
    rcases h.follows hu ok with e | e
    · exact ⟨σ.looks, by rw [e], Nat.le_succ _, h⟩
    · exact absurd e c
  · rw [if_neg c]
    have e : (gSem w rs).ans σ.looks l = .val (ansQ u l) := by
      show (match wP w rs (lqP l) with | some u => if okLq u l then Ans.val (ansQ u l) else .bad | none => .bad) = _
      rw [hu]
      exact if_pos ok
    rw [e]
    refine ⟨σ.looks ++ [(l, ansQ u l)], ?_, by rw [List.length_append]; exact Nat.le_refl _, by rw [fx_snoc]; exact h.learn hu ok⟩
    exact if_pos hl
end K02
set_option Elab.async false
set_option linter.all false
set_option maxRecDepth 100000
set_option maxHeartbeats 4000000
namespace K02
open PySem L2 PyProof.Rows
/-! ### a flat part taken -/
def entK (row : Bool) (i : Nat) (q : Str × Str) : Ky := if row = true then .ix i else .fd q.1
def flE (row : Bool) : Nat → List (Str × Str) → List En
  | _, [] => []
  | i, q :: qs => (entK row i q, .tup [S "name", .leaf (.str q.2)], .leaf .non) :: flE row (i + 1) qs
theorem rowE_flat : ∀ (qs : List (Str × Str)) (i : Nat), rowE i ((qs.map flQ).map (ent true)) = some (flE true i qs)
  | [], _ => rfl
  | q :: qs, i => by
    show (rowE (i + 1) ((qs.map flQ).map (ent true))).map _ = _
    rw [rowE_flat qs (i + 1)]
    rfl
theorem recE_flat : ∀ (qs : List (Str × Str)) (i : Nat), recE ((qs.map flQ).map (ent false)) = some (flE false i qs)
  | [], _ => rfl
  | q :: qs, i => by
    show (recE ((qs.map flQ).map (ent false))).map _ = _
    rw [recE_flat qs (i + 1)]
    rfl
theorem parse_flat (row : Bool) (qs : List (Str × Str)) (r : Option Str) : parseP (flD row qs r) = .ent row (flE row 0 qs) r := by
  have hr : restE (rsV r) = some r := by cases r <;> rfl
  have e : flD row qs r = .tup [S (if row = true then "row" else "record"), .lst ((qs.map flQ).map (ent row)), .leaf (rsV r)] := by
    unfold flD
    cases r <;> rfl
  rw [e]
  show (match restE (rsV r) with | none => ShP.bad | some r => _) = _
  rw [hr]
  cases row with
  | true =>
    show (if Str.ofString "row" = Str.ofString "row" then (match rowE 0 ((qs.map flQ).map (ent true)) with | some qs => ShP.ent true qs r | none => .bad) else _) = _
    rw [if_pos rfl, rowE_flat]
  | false =>
    show (if Str.ofString "record" = Str.ofString "row" then _ else if Str.ofString "record" = Str.ofString "record" then (match recE ((qs.map flQ).map (ent false)) with | some qs => ShP.ent false qs r | none => .bad) else _) = _
    rw [if_neg (by decide +kernel), if_pos rfl, recE_flat qs 0]
def flGo (row : Bool) (w : Wv) : Nat → List (Str × Str) → List (Str × Pc) → Ky ⊕ List (Str × Pc)
  | _, [], h => .inr h
  | i, q :: qs, h => if (wIn w (entK row i q)).isSome = true then flGo row w (i + 1) qs (putH h q.2 (.at (pV0.push (entK row i q)))) else .inl (entK row i q)
def rowW (row : Bool) : Wv → Prop
  | .row _ => row = true
  | .rcd _ _ => row = false
  | _ => False
theorem rowW.ky {row : Bool} {w : Wv} (h : rowW row w) (i : Nat) (q : Str × Str) : okKy w (entK row i q) := by
  cases w with
  | non => exact h.elim
  | int j => exact h.elim
  | row ws =>
    have e : row = true := h
    subst e
    exact trivial
  | rcd ns ws =>
    have e : row = false := h
    subst e
    exact trivial
theorem putH_len (h : List (Str × Pc)) (z : Str) (p : Pc) : (putH h z p).length ≤ h.length + 1 := by
  unfold putH
  split
  · rw [List.length_map]
    exact Nat.le_succ _
  · rw [List.length_append]
    exact Nat.le_refl _
section
variable {w : Wv} {rs : List Wv} {late noth : Bool} {m : Nat}
theorem name_part {z : Str} {p : Pc} {σ : Tst} (hl : σ.held.length < 100000) : takePart (gSem w rs) late noth (m + 1) (.tup [S "name", .leaf (.str z)]) p σ = .ok none { σ with held := putH σ.held z p } := by
  have e : parseP (.tup [S "name", .leaf (.str z)]) = .name z := by
    show (if Str.ofString "name" = Str.ofString "name" then ShP.name z else .bad) = _
    rw [if_pos rfl]
  have t : takePart (gSem w rs) late noth (m + 1) (.tup [S "name", .leaf (.str z)]) p σ = match parseP (.tup [S "name", .leaf (.str z)]) with
    | .any => .ok none σ
    | .name z => (putHeld z p σ).bind fun _ σ1 => .ok none σ1
    | .ent row qs r => takeEntries (gSem w rs) (takePart (gSem w rs) late noth m) (workOut (gSem w rs) 7) late noth row qs r p σ
    | .bad => .bad := rfl
  rw [t, e]
  show (putHeld z p σ).bind _ = _
  unfold putHeld
  rw [if_pos hl]
  rfl
theorem miss_flat {k : Ky} {σ : Tst} (hs : FSound w rs (fx σ.looks)) (hk : okKy w k) (hl : σ.looks.length < 100000) :
    ∃ L, missing (gSem w rs) noth (.at pV0) k false σ = .ok (.bl (!(wIn w k).isSome)) { σ with looks := L } ∧ L.length ≤ σ.looks.length + 1 ∧ FSound w rs (fx L) := by
  obtain ⟨L, e1, e2, e3⟩ := ask_true (l := .has pV0 k) (u := w) hs rfl hk hl
  refine ⟨L, ?_, e2, e3⟩
  unfold missing
  rw [if_pos ⟨rfl, by show 0 ≤ 900; decide⟩]
  rw [if_neg (by cases k <;> exact fun z => nomatch z)]
  have e0 : kyIn (.at pV0) k = k := by cases k <;> rfl
  rw [e0]
  show (askB (gSem w rs) (.has pV0 k) σ).bind _ = _
  unfold askB
  rw [if_pos (by show 0 ≤ 1000; decide), e1]
  show (if ansQ w (.has pV0 k) = .bl true then _ else _) = _
  show (if V.bl (wIn w k).isSome = .bl true then _ else _) = _
  cases (wIn w k).isSome with
  | true =>
    rw [if_pos rfl, if_neg (fun z => nomatch z.2)]
    rfl
  | false =>
    rw [if_neg (fun z => nomatch z)]
    rfl
theorem all_flat {row : Bool} (hw : rowW row w) : ∀ (qs : List (Str × Str)) (i : Nat) (σ : Tst), FSound w rs (fx σ.looks) → σ.looks.length + qs.length ≤ 1000 → σ.held.length + qs.length ≤ 1000 →
    ∃ L h', takeAll (gSem w rs) (takePart (gSem w rs) late noth (m + 1)) (workOut (gSem w rs) 7) late noth (.at pV0) (flE row i qs) [] σ = .ok ((match flGo row w i qs σ.held with | .inl k => some ((Pc.at pV0), Why.miss k) | .inr _ => none), []) { σ with looks := L, held := h' } ∧
      L.length ≤ σ.looks.length + qs.length ∧ FSound w rs (fx L) ∧ h'.length ≤ σ.held.length + qs.length ∧ ∀ h, flGo row w i qs σ.held = .inr h → h' = h
  | [], i, σ, hs, hl, hh => ⟨σ.looks, σ.held, rfl, Nat.le_refl _, hs, Nat.le_refl _, fun h e => Sum.inr.inj e⟩
  | q :: qs, i, σ, hs, hl, hh => by
    rw [List.length_cons] at hl hh
    obtain ⟨L, e1, e2, e3⟩ := miss_flat (noth := noth) hs (hw.ky i q) (by omega)
    have hE : takeEntry (gSem w rs) (takePart (gSem w rs) late noth (m + 1)) (workOut (gSem w rs) 7) late noth (.at pV0) (entK row i q, .tup [S "name", .leaf (.str q.2)], .leaf .non) [] σ =
        if (wIn w (entK row i q)).isSome = true then .ok (none, []) { σ with looks := L, held := putH σ.held q.2 (.at (pV0.push (entK row i q))) } else .ok (some ((Pc.at pV0), Why.miss (entK row i q)), []) { σ with looks := L } := by
      unfold takeEntry
      show (missing (gSem w rs) noth (.at pV0) (entK row i q) false σ).bind _ = _
      rw [e1]
      simp only [Out.bind]
      cases c : (wIn w (entK row i q)).isSome with
      | true =>
        rw [Bool.not_true, if_pos rfl, if_pos rfl, if_pos ⟨rfl, by show 0 ≤ 1000; decide⟩]
        have ek : pcIn (.at pV0) (entK row i q) = pV0.push (entK row i q) := by
          unfold pcIn
          cases entK row i q <;> rfl
        rw [ek, name_part (by show σ.held.length < 100000; omega)]
      | false =>
        rw [Bool.not_false, if_neg (fun z => nomatch z), if_pos (show isDef (.leaf .non) = false from rfl), if_neg (fun z => nomatch z)]
    have hA : takeAll (gSem w rs) (takePart (gSem w rs) late noth (m + 1)) (workOut (gSem w rs) 7) late noth (.at pV0) (flE row i (q :: qs)) [] σ = (takeEntry (gSem w rs) (takePart (gSem w rs) late noth (m + 1)) (workOut (gSem w rs) 7) late noth (.at pV0) (entK row i q, .tup [S "name", .leaf (.str q.2)], .leaf .non) [] σ).bind fun r σ1 => match r.1 with
        | some f => .ok (some f, r.2) σ1
        | none => takeAll (gSem w rs) (takePart (gSem w rs) late noth (m + 1)) (workOut (gSem w rs) 7) late noth (.at pV0) (flE row (i + 1) qs) r.2 σ1 := rfl
    rw [hA, hE]
    have hG : flGo row w i (q :: qs) σ.held = if (wIn w (entK row i q)).isSome = true then flGo row w (i + 1) qs (putH σ.held q.2 (.at (pV0.push (entK row i q)))) else .inl (entK row i q) := rfl
    rw [hG]
    cases c : (wIn w (entK row i q)).isSome with
    | true =>
      rw [if_pos rfl, if_pos rfl]
      have hp := putH_len σ.held q.2 (.at (pV0.push (entK row i q)))
      obtain ⟨L2, h2, g1, g2, g3, g4, g5⟩ := all_flat hw qs (i + 1) { σ with looks := L, held := putH σ.held q.2 (.at (pV0.push (entK row i q))) } e3 (by show L.length + qs.length ≤ 1000; omega) (by show (putH _ _ _).length + qs.length ≤ 1000; omega)
      refine ⟨L2, h2, g1, ?_, g3, ?_, g5⟩
      · have g2 : L2.length ≤ L.length + qs.length := g2
        rw [List.length_cons]
        omega
      · have g4 : h2.length ≤ (putH σ.held q.2 (.at (pV0.push (entK row i q)))).length + qs.length := g4
        rw [List.length_cons]
        omega
    | false =>
      rw [if_neg (fun z => nomatch z), if_neg (fun z => nomatch z)]
      exact ⟨L, σ.held, rfl, by rw [List.length_cons]; omega, e3, Nat.le_add_right _ _, fun h e => nomatch e⟩
end
end K02
set_option Elab.async false
set_option linter.all false
set_option maxRecDepth 100000
set_option maxHeartbeats 4000000
namespace K02
open PySem L2 PyProof.Rows
/-! ### the whole run of a flat part -/
noncomputable def restPc (row : Bool) (qs : List (Str × Str)) : Pc := if row = true then restRow (.at pV0) qs.length else restRec (.at pV0) (qs.map (·.1))
noncomputable def restH (row : Bool) (qs : List (Str × Str)) (r : Option Str) (h : List (Str × Pc)) : List (Str × Pc) := match r with
  | none => h
  | some z => putH h z (restPc row qs)
open Classical in
/-- what a flat part does with a value -/
noncomputable def deedM (row : Bool) (qs : List (Str × Str)) (r : Option Str) (w : Wv) : EndM :=
  if rowW row w then (match flGo row w 0 qs [] with
    | .inl k => .failed (.at pV0) (.miss k)
    | .inr h => .bound (pairsOf (restH row qs r h)))
  else .failed (.at pV0) .kind
theorem flE_len (row : Bool) : ∀ (qs : List (Str × Str)) (i : Nat), (flE row i qs).length = qs.length
  | [], _ => rfl
  | q :: qs, i => by
    show (flE row (i + 1) qs).length + 1 = _
    rw [flE_len row qs (i + 1)]
    rfl
theorem flE_keys : ∀ (qs : List (Str × Str)) (i : Nat), (flE false i qs).map (fun q => kyZ q.1) = qs.map (·.1)
  | [], _ => rfl
  | q :: qs, i => by
    show kyZ (entK false i q) :: (flE false (i + 1) qs).map _ = _
    rw [flE_keys qs (i + 1)]
    rfl
theorem kind_row {row : Bool} {w : Wv} : Str.ofString (kindS w) = Str.ofString (rowS row) ↔ rowW row w := by
  cases w with
  | non => exact ⟨fun h => absurd (show Str.ofString "none" = Str.ofString (rowS row) from h) (by cases row <;> decide +kernel), fun h => h.elim⟩
  | int i => exact ⟨fun h => absurd (show Str.ofString "integer" = Str.ofString (rowS row) from h) (by cases row <;> decide +kernel), fun h => h.elim⟩
  | row ws =>
    cases row with
    | true => exact ⟨fun _ => rfl, fun _ => rfl⟩
    | false => exact ⟨fun h => absurd (show Str.ofString "row" = Str.ofString "record" from h) (by decide +kernel), fun h => nomatch (show false = true from h)⟩
  | rcd ns ws =>
    cases row with
    | true => exact ⟨fun h => absurd (show Str.ofString "record" = Str.ofString "row" from h) (by decide +kernel), fun h => nomatch (show true = false from h)⟩
    | false => exact ⟨fun _ => rfl, fun _ => rfl⟩
section
variable {w : Wv} {rs : List Wv} {late noth : Bool} {m : Nat}
theorem rest_flat {row : Bool} {qs : List (Str × Str)} {r : Option Str} {σ : Tst} (hq : qs.length ≤ 20) (hh : σ.held.length < 1000) : takeRest row (flE row 0 qs) r (.at pV0) σ = .ok () { σ with held := restH row qs r σ.held } := by
  cases r with
  | none => rfl
  | some z =>
    cases row with
    | true =>
      unfold takeRest
      dsimp only
      rw [if_pos rfl, if_pos (show okRowB (.at pV0) = true from rfl), flE_len]
      unfold putHeld
      rw [if_pos (by omega)]
      rfl
    | false =>
      unfold takeRest
      dsimp only
      rw [if_neg (show ¬ (false = true) by decide), if_pos ⟨rfl, by rw [flE_len]; show 0 + qs.length < 60; omega⟩, flE_keys]
      unfold putHeld
      rw [if_pos (by omega)]
      rfl
open Classical in
theorem part_flat {row : Bool} {qs : List (Str × Str)} {r : Option Str} {σ : Tst} (hs : FSound w rs (fx σ.looks)) (hl : σ.looks.length ≤ 100) (hh : σ.held = []) (hq : qs.length ≤ 20) :
    ∃ L h f, takePart (gSem w rs) late noth (m + 2) (flD row qs r) (.at pV0) σ = .ok f { σ with looks := L, held := h } ∧ h.length ≤ 21 ∧ deedM row qs r w = (match f with | none => .bound (pairsOf h) | some f => .failed f.1 f.2) := by
  obtain ⟨held, made, looks, missed, begun, taken, rch, flr⟩ := σ
  have hh : held = [] := hh
  subst hh
  have hs : FSound w rs (fx looks) := hs
  have hl : looks.length ≤ 100 := hl
  generalize hσ : (⟨[], made, looks, missed, begun, taken, rch, flr⟩ : Tst) = σ
  have hs : FSound w rs (fx σ.looks) := by rw [← hσ]; exact hs
  have hl : σ.looks.length ≤ 100 := by rw [← hσ]; exact hl
  have hh : σ.held = [] := by rw [← hσ]
  have t : takePart (gSem w rs) late noth (m + 2) (flD row qs r) (.at pV0) σ = takeEntries (gSem w rs) (takePart (gSem w rs) late noth (m + 1)) (workOut (gSem w rs) 7) late noth row (flE row 0 qs) r (.at pV0) σ := by
    have t0 : takePart (gSem w rs) late noth (m + 2) (flD row qs r) (.at pV0) σ = match parseP (flD row qs r) with
      | .any => .ok none σ
      | .name z => (putHeld z (.at pV0) σ).bind fun _ σ1 => .ok none σ1
      | .ent row qs r => takeEntries (gSem w rs) (takePart (gSem w rs) late noth (m + 1)) (workOut (gSem w rs) 7) late noth row qs r (.at pV0) σ
      | .bad => .bad := rfl
    rw [t0, parse_flat]
  rw [t]
  obtain ⟨L, e1, e2, e3⟩ := ask_true (l := .what pV0) (u := w) hs rfl trivial (by omega)
  have hk : kindAt (gSem w rs) (.at pV0) σ = .ok (.str (Str.ofString (kindS w))) { σ with looks := L } := by
    show askB (gSem w rs) (.what pV0) σ = _
    unfold askB
    rw [if_pos (by show 0 ≤ 1000; decide), e1]
    rfl
  unfold takeEntries
  rw [hk]
  simp only [Out.bind]
  by_cases c : rowW row w
  rotate_left
  · rw [if_neg fun z => c (kind_row.1 (V.str.inj z))]
    refine ⟨L, [], some ((.at pV0), .kind), ?_, Nat.zero_le _, ?_⟩
    · rw [← hh]
    · unfold deedM
      rw [if_neg c]
  rw [if_pos (by rw [kind_row.2 c]), if_pos (by rw [flE_len]; omega)]
  obtain ⟨L2, h2, g1, g2, g3, g4, g5⟩ := all_flat (late := late) (noth := noth) (m := m) c qs 0 { σ with looks := L } e3 (by show L.length + qs.length ≤ 1000; omega) (by show σ.held.length + qs.length ≤ 1000; rw [hh]; show 0 + qs.length ≤ 1000; omega)
  have hD : deedM row qs r w = (match flGo row w 0 qs [] with
    | .inl k => .failed (.at pV0) (.miss k)
    | .inr h => .bound (pairsOf (restH row qs r h))) := by
    unfold deedM
    rw [if_pos c]
  rw [hD]
  have g5 : ∀ h, flGo row w 0 qs σ.held = .inr h → h2 = h := g5
  have g4 : h2.length ≤ σ.held.length + qs.length := g4
  have g1 : takeAll (gSem w rs) (takePart (gSem w rs) late noth (m + 1)) (workOut (gSem w rs) 7) late noth (.at pV0) (flE row 0 qs) [] { σ with looks := L } = .ok ((match flGo row w 0 qs σ.held with | .inl k => some ((Pc.at pV0), Why.miss k) | .inr _ => none), []) { σ with looks := L2, held := h2 } := g1
  rw [g1]
  rw [hh] at g5 g4
  have g4 : h2.length ≤ 0 + qs.length := g4
  have hh2 : flGo row w 0 qs σ.held = flGo row w 0 qs [] := by rw [hh]
  rw [hh2]
  cases q : flGo row w 0 qs [] with
  | inl k => exact ⟨L2, h2, _, rfl, by omega, rfl⟩
  | inr h =>
    obtain rfl := g5 h q
    have hr := rest_flat (row := row) (qs := qs) (r := r) (σ := { σ with looks := L2, held := h2 }) hq (by show h2.length < 1000; omega)
    refine ⟨L2, restH row qs r h2, none, ?_, ?_, rfl⟩
    · dsimp only
      rw [hr]
      rfl
    · cases r with
      | none => show h2.length ≤ 21; omega
      | some z =>
        have := putH_len h2 z (restPc row qs)
        show (putH h2 z (restPc row qs)).length ≤ 21
        omega
end
end K02
set_option Elab.async false
set_option linter.all false
set_option maxRecDepth 100000
set_option maxHeartbeats 4000000
namespace K02
open PySem L2 PyProof.Rows
theorem parse_step (d : D) : parseS (stepD d) = .take none d := by
  unfold stepD parseS S
  dsimp only
  rw [if_neg (by decide +kernel)]
  show (if Str.ofString "take" = Str.ofString "take" then ShS.take none d else _) = _
  rw [if_pos rfl]
/-- take of a flat pattern -/
theorem run_flat {w : Wv} {rs : List Wv} {row : Bool} {qs : List (Str × Str)} {r : Option Str} {o l : Str} {m : Nat} (hq : qs.length ≤ 20) :
    ∃ σ, runG w rs o l (m + 2) (flD row qs r) = .ok () σ ∧ σ.made = [] ∧ σ.held.length < 64 ∧ endOf σ = deedM row qs r w := by
  obtain ⟨L, h, f, e1, e2, e3⟩ := part_flat (w := w) (rs := rs) (late := decide (o = Str.ofString "late")) (noth := decide (l = Str.ofString "nothing")) (m := m) (row := row) (qs := qs) (r := r) (σ := { Tst.nil with rch := some 0 }) FSound.nil (Nat.zero_le _) rfl hq
  have hS : doStep (takePart (gSem w rs) (decide (o = Str.ofString "late")) (decide (l = Str.ofString "nothing")) (m + 2)) (workOut (gSem w rs) 7) (stepD (flD row qs r)) { Tst.nil with rch := some 0 } = .ok f { ({ Tst.nil with rch := some 0 } : Tst) with looks := L, held := h } := by
    unfold doStep
    rw [parse_step]
    show (nameAt none _).bind _ = _
    exact e1
  unfold runG runAll
  rw [hS]
  simp only [Out.bind]
  cases f with
  | none =>
    refine ⟨_, rfl, rfl, by show h.length < 64; omega, ?_⟩
    rw [e3]
    rfl
  | some f =>
    refine ⟨_, rfl, rfl, by show h.length < 64; omega, ?_⟩
    rw [e3]
    rfl
end K02
set_option Elab.async false
set_option linter.all false
set_option maxRecDepth 100000
set_option maxHeartbeats 4000000
namespace K02
open PySem L2 PyProof.Rows
/-! ### what a flat part binds has values -/
theorem flatV_leaf {u : Wv} (h : flatV u) : ∃ v, wX u = .leaf v := by
  cases u with
  | non => exact ⟨_, rfl⟩
  | int i => exact ⟨_, rfl⟩
  | row ws => exact h.elim
  | rcd ns ws => exact h.elim
theorem wXs_leaf : ∀ {ws : List Wv}, (∀ w ∈ ws, flatV w) → ∀ d ∈ wXs ws, ∃ v, d = .leaf v
  | [], _, d, hd => nomatch hd
  | w :: ws, h, d, hd => by
    rcases List.mem_cons.mp (show d ∈ wX w :: wXs ws from hd) with e | hd
    · obtain ⟨v, hv⟩ := flatV_leaf (h w List.mem_cons_self)
      exact ⟨v, e.trans hv⟩
    · exact wXs_leaf (fun u hu => h u (List.mem_cons_of_mem _ hu)) d hd
theorem leafs_noT {ds : List Xd} (h : ∀ d ∈ ds, ∃ v, d = .leaf v) : noTs ds := noTs_of fun d hd => by
  obtain ⟨v, rfl⟩ := h d hd
  trivial
theorem flat_fit {w : Wv} (h : flatW w) : FitX 1000 1 (wX w) := by
  cases w with
  | non => trivial
  | int i => trivial
  | row ws =>
    obtain ⟨h1, h2⟩ := h
    exact ⟨by rw [wXs_len]; omega, fun d hd => wXs_leaf h2 d hd⟩
  | rcd ns ws =>
    obtain ⟨h0, h1, h2, h3⟩ := h
    exact ⟨h0, by rw [wXs_len]; omega, (fun d hd => wXs_leaf h3 d hd), leafs_noT (wXs_leaf h3)⟩
theorem othr_sub (zs : List Str) : ∀ (ns : List Str) (ws : List Wv), (othr zs ns ws).1.Sublist ns ∧ (othr zs ns ws).2.Sublist ws
  | [], ws => ⟨List.Sublist.refl _, List.nil_sublist _⟩
  | n :: ns, [] => ⟨List.nil_sublist _, List.Sublist.refl _⟩
  | n :: ns, w :: ws => by
    obtain ⟨h1, h2⟩ := othr_sub zs ns ws
    by_cases c : n ∈ zs
    · have e : othr zs (n :: ns) (w :: ws) = othr zs ns ws := by
        show (if n ∈ zs then _ else _) = _
        rw [if_pos c]
      rw [e]
      exact ⟨h1.cons _, h2.cons _⟩
    · have e : othr zs (n :: ns) (w :: ws) = (n :: (othr zs ns ws).1, w :: (othr zs ns ws).2) := by
        show (if n ∈ zs then _ else _) = _
        rw [if_neg c]
      rw [e]
      exact ⟨h1.cons₂ _, h2.cons₂ _⟩
theorem wFd_mem : ∀ {ns : List Str} {ws : List Wv} {z : Str} {u : Wv}, wFd ns ws z = some u → u ∈ ws
  | [], ws, z, u, h => by
    unfold wFd at h
    cases h
  | n :: ns, [], z, u, h => by
    unfold wFd at h
    cases h
  | n :: ns, w :: ws, z, u, h => by
    unfold wFd at h
    by_cases e : n = z
    · rw [if_pos e] at h
      cases h
      exact List.mem_cons_self
    · rw [if_neg e] at h
      exact List.mem_cons_of_mem _ (wFd_mem h)
theorem flat_in {w u : Wv} {k : Ky} (h : flatW w) (e : wIn w k = some u) : flatV u := by
  cases w with
  | non => cases k <;> cases e
  | int i => cases k <;> cases e
  | row ws =>
    cases k with
    | ix i => exact h.2 u (List.mem_of_getElem? (show ws[i]? = some u from e))
    | fd z => cases e
  | rcd ns ws =>
    cases k with
    | ix i => cases e
    | fd z => exact h.2.2.2 u (wFd_mem (show wFd ns ws z = some u from e))
section
variable {w : Wv} {rs : List Wv} {n : Nat}
theorem okV_in {k : Ky} (hw : flatW w) (hn : 2 ≤ n) (h : (wIn w k).isSome = true) : okV w rs n (.at (pV0.push k)) := by
  cases e : wIn w k with
  | none =>
    rw [e] at h
    cases h
  | some u =>
    obtain ⟨v, hv⟩ := flatV_leaf (flat_in hw e)
    refine ⟨wX u, 0, ?_, trivial, by omega, by rw [hv]; exact FitX.leaf⟩
    show (wP w rs (pV0.push k)).map wX = _
    have e2 : wP w rs (pV0.push k) = some u := by
      show ((wIn w k).bind fun u => some u) = some u
      rw [e]
      rfl
    rw [e2]
    rfl
theorem okV_all (hw : flatW w) (hn : 2 ≤ n) : okV w rs n (.at pV0) := ⟨wX w, 1, rfl, trivial, hn, flat_fit hw⟩
theorem putH_mem {h : List (Str × Pc)} {z : Str} {p : Pc} {q : Str × Pc} (hq : q ∈ putH h z p) : q ∈ h ∨ q.2 = p := by
  unfold putH at hq
  split at hq
  · obtain ⟨q0, h0, e⟩ := List.mem_map.mp hq
    by_cases c : q0.1 = z
    · rw [if_pos c] at e
      exact .inr (by rw [← e])
    · rw [if_neg c] at e
      exact .inl (e ▸ h0)
  · rcases List.mem_append.mp hq with hq | hq
    · exact .inl hq
    · rw [List.mem_singleton.mp hq]
      exact .inr rfl
theorem flGo_ok {row : Bool} (hw : flatW w) (hn : 2 ≤ n) : ∀ (qs : List (Str × Str)) (i : Nat) (h h' : List (Str × Pc)), (∀ q ∈ h, okV w rs n q.2) → flGo row w i qs h = .inr h' → ∀ q ∈ h', okV w rs n q.2
  | [], i, h, h', hh, e => by
    cases Sum.inr.inj e
    exact hh
  | q :: qs, i, h, h', hh, e => by
    have e : (if (wIn w (entK row i q)).isSome = true then flGo row w (i + 1) qs (putH h q.2 (.at (pV0.push (entK row i q)))) else .inl (entK row i q)) = .inr h' := e
    by_cases c : (wIn w (entK row i q)).isSome = true
    · rw [if_pos c] at e
      refine flGo_ok hw hn qs (i + 1) _ h' (fun q1 h1 => ?_) e
      rcases putH_mem h1 with h1 | h1
      · exact hh q1 h1
      · rw [h1]
        exact okV_in hw hn c
    · rw [if_neg c] at e
      cases e
theorem srtL_perm (L : List Str) : (srtL L).Perm L := by
  unfold srtL
  by_cases h : ∃ ys : List Str, ys.Perm L ∧ sortedS ys = true
  · rw [dif_pos h]
    exact h.choose_spec.1
  · rw [dif_neg h]
theorem getH_in {h : List (Str × Pc)} {z : Str} {p : Pc} (e : getH h z = some p) : ∃ q ∈ h, q.2 = p := by
  unfold getH at e
  cases f : h.find? fun q => decide (q.1 = z) with
  | none =>
    rw [f] at e
    cases e
  | some q =>
    rw [f] at e
    exact ⟨q, List.mem_of_find?_eq_some f, Option.some.inj e⟩
theorem pairs_ok {h : List (Str × Pc)} (hh : ∀ q ∈ h, okV w rs n q.2) (hl : h.length ≤ 1000) : okEnd w rs n (.bound (pairsOf h)) := by
  refine ⟨?_, fun q hq => ?_⟩
  · unfold pairsOf
    rw [List.length_map, (srtL_perm _).length_eq, List.length_map]
    exact hl
  · unfold pairsOf at hq
    obtain ⟨z, hz, rfl⟩ := List.mem_map.mp hq
    obtain ⟨p, hp⟩ := getH_mem ((srtL_perm _).mem_iff.mp hz)
    obtain ⟨q1, h1, h2⟩ := getH_in hp
    show okV w rs n ((getH h z).getD .step)
    rw [hp]
    show okV w rs n p
    rw [← h2]
    exact hh q1 h1
theorem okV_rest {row : Bool} {qs : List (Str × Str)} (hw : flatW w) (hr : rowW row w) (hn : 2 ≤ n) : okV w rs n (restPc row qs) := by
  unfold restPc
  cases w with
  | non => exact hr.elim
  | int i => exact hr.elim
  | row ws =>
    have e : row = true := hr
    subst e
    rw [if_pos rfl]
    unfold restRow
    split
    · exact okV_all hw hn
    · refine ⟨.lst ((wXs ws).drop (itemsFrom (.at pV0) qs.length)), 1, rfl, trivial, hn, ?_⟩
      refine ⟨?_, fun d hd => wXs_leaf hw.2 d (List.mem_of_mem_drop hd)⟩
      rw [List.length_drop, wXs_len]
      have := hw.1
      omega
  | rcd ns ws =>
    have e : row = false := hr
    subst e
    rw [if_neg (by decide)]
    unfold restRec
    split
    · exact okV_all hw hn
    · obtain ⟨h0, h1, h2, h3⟩ := id hw
      generalize srtU (outs (.at pV0) ++ qs.map (·.1)) = zs
      obtain ⟨s1, s2⟩ := othr_sub zs ns ws
      have fl : ∀ u ∈ (othr zs ns ws).2, flatV u := fun u hu => h3 u (s2.subset hu)
      refine ⟨.rcd (othr zs ns ws).1 (wXs (othr zs ns ws).2), 1, ?_, trivial, hn, s1.nodup h0, ?_, (fun d hd => wXs_leaf fl d hd), leafs_noT (wXs_leaf fl)⟩
      · show (if ns.Nodup ∧ ns.length ≤ 1000 then some (Xd.rcd (othr zs ns ws).1 (wXs (othr zs ns ws).2)) else none) = _
        rw [if_pos ⟨h0, by omega⟩]
      · rw [wXs_len]
        have := s2.length_le
        omega
/-- the end of a flat part has values -/
theorem deed_ok {row : Bool} {qs : List (Str × Str)} {r : Option Str} (hw : flatW w) (hn : 2 ≤ n) (hq : qs.length ≤ 20) : okEnd w rs n (deedM row qs r w) := by
  unfold deedM
  split
  · rename_i c
    cases e : flGo row w 0 qs [] with
    | inl k => exact trivial
    | inr h =>
      have ho := flGo_ok (rs := rs) (n := n) hw hn qs 0 [] h (fun _ z => nomatch z) e
      have hlen : ∀ (qs : List (Str × Str)) (i : Nat) (h h' : List (Str × Pc)), flGo row w i qs h = .inr h' → h'.length ≤ h.length + qs.length := fun qs => by
        induction qs with
        | nil =>
          intro i h h' e
          cases Sum.inr.inj e
          exact Nat.le_refl _
        | cons q qs ih =>
          intro i h h' e
          have e : (if (wIn w (entK row i q)).isSome = true then flGo row w (i + 1) qs (putH h q.2 (.at (pV0.push (entK row i q)))) else .inl (entK row i q)) = .inr h' := e
          by_cases c : (wIn w (entK row i q)).isSome = true
          · rw [if_pos c] at e
            have h1 := ih (i + 1) _ h' e
            have h2 := putH_len h q.2 (.at (pV0.push (entK row i q)))
            rw [List.length_cons]
            omega
          · rw [if_neg c] at e
            cases e
      have hl := hlen qs 0 [] h e
      have hl : h.length ≤ 0 + qs.length := hl
      cases r with
      | none => exact pairs_ok ho (show h.length ≤ 1000 by omega)
      | some z =>
        have h2 := putH_len h z (restPc row qs)
        refine pairs_ok (fun q hq2 => ?_) (show (putH h z (restPc row qs)).length ≤ 1000 by omega)
        rcases putH_mem (show q ∈ putH h z (restPc row qs) from hq2) with h1 | h1
        · exact ho q h1
        · rw [h1]
          exact okV_rest hw c hn
  · exact trivial
end
end K02
set_option Elab.async false
set_option linter.all false
set_option maxRecDepth 100000
set_option maxHeartbeats 4000000
namespace K02
open PySem L2 PyProof.Rows
/-! ### how deep an outcome is -/
theorem FitX.succ {c : Nat} : ∀ {n : Nat} {d : Xd}, FitX c n d → FitX c (n + 1) d
  | 0, d, h => by
    obtain ⟨v, rfl⟩ := h
    trivial
  | n + 1, .leaf _, _ => trivial
  | n + 1, .lst ds, h => ⟨h.1, fun e m => FitX.succ (h.2 e m)⟩
  | n + 1, .tup ds, h => ⟨h.1, fun e m => FitX.succ (h.2 e m)⟩
  | n + 1, .rcd ns ds, h => ⟨h.1, h.2.1, (fun e m => FitX.succ (h.2.2.1 e m)), h.2.2.2⟩
theorem FitX.le {c n m : Nat} {d : Xd} (h : FitX c n d) (hm : n ≤ m) : FitX c m d := by
  induction hm with
  | refl => exact h
  | step _ ih => exact ih.succ
theorem fit_tup2 {n : Nat} {d e : Xd} (h1 : FitX 1000 n d) (h2 : FitX 1000 n e) : FitX 1000 (n + 1) (.tup [d, e]) := ⟨(by show 2 ≤ 1000; decide), fun x hx => by
  simp at hx
  rcases hx with rfl | rfl
  · exact h1
  · exact h2⟩
theorem fit_tup3 {n : Nat} {d e f : Xd} (h1 : FitX 1000 n d) (h2 : FitX 1000 n e) (h3 : FitX 1000 n f) : FitX 1000 (n + 1) (.tup [d, e, f]) := ⟨(by show 3 ≤ 1000; decide), fun x hx => by
  simp at hx
  rcases hx with rfl | rfl | rfl
  · exact h1
  · exact h2
  · exact h3⟩
theorem why_fit (y : Why) : FitX 1000 1 (whyX y) := by
  cases y with
  | kind => exact FitX.leaf
  | cases => exact FitX.leaf
  | miss k => exact fit_tup2 (n := 0) FitX.leaf FitX.leaf
  | unb z => exact fit_tup2 (n := 0) FitX.leaf FitX.leaf
theorem bound_fit {w : Wv} {rs : List Wv} {n : Nat} {ps : List (Str × Pc)} (h : okEnd w rs (n + 1) (.bound ps)) : FitX 1000 (n + 4) (ocX w rs [] (.bound ps)) := by
  refine fit_tup2 (n := n + 3) (FitX.le (n := 1) ⟨Nat.zero_le _, fun _ z => nomatch z⟩ (by omega)) (fit_tup2 (n := n + 2) FitX.leaf ⟨by rw [List.length_map]; exact h.1, fun d hd => ?_⟩)
  obtain ⟨q, hq, rfl⟩ := List.mem_map.mp hd
  obtain ⟨m, _, _, h3, h4⟩ := (h.2 q hq).vD
  exact fit_tup2 (n := n) FitX.leaf (h4.le (by omega))
theorem failed_fit {w : Wv} {rs : List Wv} {y : Why} : FitX 1000 3 (ocX w rs [] (.failed (.at pV0) y)) := by
  refine fit_tup2 (n := 2) (FitX.le (n := 1) ⟨Nat.zero_le _, fun _ z => nomatch z⟩ (by omega)) (fit_tup3 (n := 1) FitX.leaf ?_ (why_fit y))
  refine ⟨by show 1 ≤ 1000; decide, fun d hd => ?_⟩
  have hd : d ∈ [dX (S "value")] := hd
  rw [List.mem_singleton.mp hd]
  exact FitX.leaf
theorem deed_fit {w : Wv} {rs : List Wv} {row : Bool} {qs : List (Str × Str)} {r : Option Str} (hw : flatW w) (hq : qs.length ≤ 20) : FitX 1000 5 (ocX w rs [] (deedM row qs r w)) := by
  have h := deed_ok (rs := rs) (n := 2) (row := row) (r := r) hw (Nat.le_refl _) hq
  cases e : deedM row qs r w with
  | bound ps =>
    rw [e] at h
    exact bound_fit (n := 1) h
  | failed p y =>
    have hp : p = .at pV0 := by
      unfold deedM at e
      split at e
      · split at e
        · cases e
          rfl
        · cases e
      · cases e
        rfl
    subst hp
    exact failed_fit.le (by decide)
end K02
set_option Elab.async false
set_option linter.all false
set_option maxRecDepth 100000
set_option maxHeartbeats 4000000
namespace K02
open PySem L2 PyProof.Rows
/-! ### right -/
def spDeed (K : PySem.W.Frag) : Sp := fun vs H Q _ => ∃ (v u : V) (M : Hp) (row : Bool) (qs : List (Str × Str)) (r : Option Str) (w : Wv), vs = [v, u] ∧ Same M H ∧ RW M (flD row qs r) v ∧ FlOk row qs r ∧ RV H w u ∧ flatW w ∧
  ∀ u' H', Same H H' → RX K H' (ocX w [] [] (deedM row qs r w)) u' → Q u' H'
def spRight10 : Sp := fun vs H Q _ => ∃ (p : Addr) (n : Nat), vs = [.ref p] ∧ Purse H p n ∧ n + 800 < 10 ^ 60 ∧ ∀ H', Around1 H p (n + 800) H' → Q (.bl true) H'
def wo (p : Addr) (H : Hp) : Hp := fun b => if b = p then none else H b
theorem wo_p {p : Addr} {H : Hp} : wo p H p = none := if_pos rfl
theorem wo_ne {p b : Addr} {H : Hp} (n : b ≠ p) : wo p H b = H b := if_neg n
theorem wo_but {p : Addr} {H H1 : Hp} (b : But p H H1) : Same (wo p H) H1 := fun c o e => by
  by_cases n : c = p
  · rw [n, wo_p] at e
    cases e
  · rw [wo_ne n] at e
    exact b c o n e
mutual
theorem Rep.wo {p : Addr} {H : Hp} {ys : List V} (hp : H p = some (.lst ys)) : ∀ {d : D} {v : V} {F : List Addr}, Rep H d v F → p ∉ F → RW (K02.wo p H) d v
  | .leaf w, u, F, h, _ => ⟨h.1, h.2.1⟩
  | .lst ds, u, F, h, n => by
    obtain ⟨a, xs, G, e, ha, hr, hn, rfl⟩ := h
    exact ⟨a, xs, e, (wo_ne fun z => n (by rw [← z]; exact List.mem_cons_self)).trans ha, Reps.wo hp hr fun m => n (List.mem_cons_of_mem _ m)⟩
  | .tup ds, u, F, h, n => by
    obtain ⟨a, xs, e, ha, hr⟩ := h
    refine ⟨a, xs, e, (wo_ne fun z => ?_).trans ha, Reps.wo hp hr n⟩
    rw [z, hp] at ha
    cases ha
theorem Reps.wo {p : Addr} {H : Hp} {ys : List V} (hp : H p = some (.lst ys)) : ∀ {ds : List D} {xs : List V} {F : List Addr}, Reps H ds xs F → p ∉ F → RWs (K02.wo p H) ds xs
  | [], xs, F, h, _ => h.1
  | d :: ds, xs, F, h, n => by
    obtain ⟨x, ys', F1, F2, e, h1, h2, hd, rfl⟩ := h
    exact ⟨x, ys', e, Rep.wo hp h1 fun m => n (List.mem_append_left _ m), Reps.wo hp h2 fun m => n (List.mem_append_right _ m)⟩
end
theorem PatAt.but {C p : Addr} {H H1 : Hp} {o : Addr} {d : D} {r s : Str} {G : List Addr} {n : Nat} (h : PatAt C H o d r s G) (b : But p H H1) (q : Purse H p n) (ng : p ∉ G) : PatAt C H1 o d r s G := by
  obtain ⟨dx, v, ho, hR⟩ := h
  refine ⟨dx, v, b _ _ (fun z => ?_) ho, hR.kp (b.kp q) fun a ha z => ng (z ▸ ha)⟩
  obtain ⟨a1, a2, a3, e2, _⟩ := q
  rw [z, e2] at ho
  cases ho
def revKw {α : Type} : List α → List α → List α
  | [], [a, b, c] => [c, b, a]
  | _, _ => []
section
variable {P : Program} {w : World} {K : PySem.W.Frag} {mg : Str → Option Value} {base : Heap} {CE CP : Addr}
theorem kb_take {f : Addr} {fd : FuncData} (F : Fun K "take" "take" sTake f fd) : KBinds K fd ["pattern", "value", "results"] ["results", "value", "pattern"] revKw revKw := by
  obtain ⟨oc, od, kV, doc, pm, an, cdv, ct, osl, rfl, lk, hcd⟩ := F.ex
  refine ⟨fun s us ws _ hl => ?_, fun r1 r2 => ?_⟩
  · match us, ws, hl with
    | [], [_, _, _], _ => exact .of_eq rfl
    | [], [], hl => cases hl
    | [], [_], hl => cases hl
    | [], [_, _], hl => cases hl
    | [], _ :: _ :: _ :: _ :: _, hl => cases hl
    | _ :: _, _, hl => cases hl
  · cases r1 with
    | cons a t => exact .nil
    | nil =>
      cases r2 with
      | nil => exact .nil
      | cons a t =>
        cases t with
        | nil => exact .nil
        | cons b t =>
          cases t with
          | nil => exact .nil
          | cons c t =>
            cases t with
            | nil => exact .cons c (.cons b (.cons a .nil))
            | cons d t => exact .nil
theorem sqRt : FnScope ["purse", "plan", "made", "turn", "worth", "owed"] ["purse"] (defScope sRight) := ⟨rfl, rfl, rfl, by decide +kernel, rfl, by decide +kernel, by decide +kernel⟩
theorem ok_right10 {f fP fM fV fD fT fS : Addr} {fd fdP fdM fdV fdD fdT fdS : FuncData} {N R nv m : Nat} (hR44 : 44 ≤ R) (hNR : N ≤ R) (hnv : 2 ≤ nv) (F : Fun K "_law_right" "_law_right" sRight f fd) (T : Txt K mg)
    (FP : Fun K "_law_ta_flat" "_law_ta_flat" sFlat fP fdP) (GP : FnOk P w K mg base CX0 3 fP fdP ["purse"] spFlat) (bP : L2.Binds K fdP ["purse"] []) (mP : mg "_law_ta_flat" = some (.ref fP))
    (FM : Fun K "_law_tk_made" "_law_tk_made" sMade fM fdM) (GM : FnOk P w K mg base CX0 44 fM fdM ["purse", "plan"] (spMade CP)) (bM : L2.Binds K fdM ["purse", "plan"] []) (mM : mg "_law_tk_made" = some (.ref fM))
    (FV : Fun K "_law_ta_flat_value" "_law_ta_flat_value" sFlatV fV fdV) (GV : FnOk P w K mg base CX0 2 fV fdV ["purse", "piece"] spFlatV) (bV : L2.Binds K fdV ["purse", "piece"] []) (mV : mg "_law_ta_flat_value" = some (.ref fV))
    (FD : Fun K "_law_ta_flat_deed" "_law_ta_flat_deed" sDeed fD fdD) (GD : FnOk P w K mg base CX0 2 fD fdD ["piece", "worth"] (spDeed K)) (bD : L2.Binds K fdD ["piece", "worth"] []) (mD : mg "_law_ta_flat_deed" = some (.ref fD))
    (FT : Fun K "take" "take" sTake fT fdT) (GT : FnOk P w K mg base (L2.CX P w) N fT fdT ["pattern", "value", "results"] (spTake K CE CP nv (m + 2))) (bT : L2.Binds K fdT ["pattern", "value", "results"] []) (mT : mg "take" = some (.ref fT))
    (FS : Fun K "_law_ta_same" "_law_ta_same" sSame fS fdS) (GS : FnOk P w K mg base CX0 6 fS fdS ["told", "owed"] (spSameX K 6)) (bS : L2.Binds K fdS ["told", "owed"] []) (mS : mg "_law_ta_same" = some (.ref fS)) :
    FnOk P w K mg base CX0 (R + 1) f fd ["purse"] spRight10 := by
  refine F.ok sqRt (fun vs H Q E h => ?_) (fun cdv A outer s H vs Q E hr h => ?_)
  · obtain ⟨p, n, rfl, _⟩ := h
    rfl
  obtain ⟨p, n, rfl, hp, hn, kk⟩ := h
  have hr3 := hr.mono (show 3 ≤ R by omega)
  have hr2 := hr.mono (show 2 ≤ R by omega)
  have hr6 := hr.mono (show 6 ≤ R by omega)
  have hr44 := hr.mono hR44
  have hrN := hr.mono hNR
  refine ⟨_, Evl.pss_cut (ps_set (i := 1) sqRt.nd rfl (Or.inl rfl) (pe_call GP hr3 rfl mP FP.kp bP .nil pass0 (pa_cons (pv 0) pa_nil)))
    (Evl.pss_cut (ps_set (i := 2) sqRt.nd rfl (Or.inl rfl) (pe_call GM hr44 rfl mM FM.kp bM .nil pass0 (pa_cons (pv 0) (pa_cons (pv 1) pa_nil))))
    (Evl.pss_cut (ps_for PassesOwn.never rfl (pi_range1 rfl T.range (pa_cons pe_int pa_nil)) (pg_name (i := 3) sqRt.nd rfl (Or.inl rfl))
      (pss_cons (ps_set (i := 4) sqRt.nd rfl (Or.inl rfl) (pe_call GV hr2 rfl mV FV.kp bV .nil pass0 (pa_cons (pv 0) (pa_cons (pe_ix ix_tup (pv 1) pe_int (fun _ _ => rfl)) pa_nil))))
      (pss_cons (ps_set (i := 5) sqRt.nd rfl (Or.inl rfl) (pe_call GD hr2 rfl mD FD.kp bD .nil pass0 (pa_cons (pe_ix ix_tup (pv 1) pe_int (fun _ _ => rfl)) (pa_cons (pv 4) pa_nil))))
      (pss_cons (ps_if (pt_not (pt_val (pe_call GS hr6 rfl mS FS.kp bS .nil pass0 (pa_cons (pe_call GT hrN rfl mT FT.kp bT .nil passL (pa_cons (pv 2) (pa_cons (pv 4) (pa_cons (pe_lst pa_nil) pa_nil)))) (pa_cons (pv 5) pa_nil))))) pss_never pss_nil)
      (pss_one (ps_if (pt_not (pt_val (pe_call GS hr6 rfl mS FS.kp bS .nil pass0 (pa_cons (pe_callK0 GT hrN rfl mT FT.kp (kb_take FT) passL (pk_cons (pe_lst pa_nil) (pk_cons (pv 4) (pk_cons (pv 2) pk_nil)))) (pa_cons (pv 5) pa_nil))))) pss_never pss_nil))))))
    (pss_one (ps_ret pe_bl)))), ?_⟩
  -- plan
  refine ⟨fun σ' H' => ∃ (t : Addr) (row : Bool) (qs : List (Str × Str)) (r : Option Str) (o l : Str) (v : V) (G : List Addr), Around1 H p (n + 100) H' ∧ H' t = some (.tup [v, .str o, .str l]) ∧ Rep H' (flD row qs r) v G ∧ p ∉ G ∧ FlOk row qs r ∧ okOrd o ∧ okLck l ∧ σ' = [some (.ref p), some (.ref t), none, none, none, none], ?_, ?_⟩
  · exact ⟨_, rfl, p, n, rfl, hp, by omega, fun t row qs r o l v G H1 hA1 ht0 ht hR hG hF ho hl => ⟨t, row, qs, r, o, l, v, G, hA1, ht, hR, (fun z => hp.ne (hG p z) rfl), hF, ho, hl, rfl⟩⟩
  rintro _ H1 ⟨t, row, qs, r, o, l, v, G, hA1, ht, hR, hpG, hF, ho, hl, rfl⟩
  have ntp : t ≠ p := fun z => by
    obtain ⟨x, y, z', e, _⟩ := hA1.2
    rw [z, e] at ht
    cases ht
  -- made
  refine ⟨fun σ' H' => ∃ (ob : Addr) (Go : List Addr), Around1 H p (n + 101) H' ∧ H' t = some (.tup [v, .str o, .str l]) ∧ Rep H' (flD row qs r) v G ∧ PatAt CP H' ob (flD row qs r) o l Go ∧ p ∉ Go ∧ σ' = [some (.ref p), some (.ref t), some (.ref ob), none, none, none], ?_, ?_⟩
  · refine ⟨_, rfl, _, rfl, p, t, n + 100, v, flD row qs r, o, l, rfl, hA1.2, by omega, ht, hR.rw, hF.pt, ho, hl, fun ob H2 Go hb hp2 hob hpa hGo => ?_⟩
    exact ⟨ob, Go, ⟨hA1.1.trans hb, hp2⟩, hb _ _ ntp ht, hR.kp (hb.kp hA1.2) fun a ha z => hpG (z ▸ ha), hpa, (fun z => hA1.2.ne (hGo p z) rfl), rfl⟩
  rintro _ H2 ⟨ob, Go, hA2, ht2, hR2, hpa2, hpGo, rfl⟩
  obtain ⟨c1, c2, c3, hpl, hc⟩ := id hA2.2
  have hRM : RW (wo p H2) (flD row qs r) v := hR2.wo hpl hpG
  have tv : atI [v, V.str o, V.str l] 0 = some v := atI_nat (j := 0) rfl
  -- the turns
  refine ⟨fun σ' H' => ∃ (v3 v4 v5 : Option V), Around1 H2 p (n + 701) H' ∧ σ' = [some (.ref p), some (.ref t), some (.ref ob), v3, v4, v5], ?_, ?_⟩
  · refine ⟨3, rfl, by decide, by decide, ?_⟩
    refine for_range (lo := 0) (fun i σ' H' => ∃ (v3 v4 v5 : Option V), Around1 H2 p (n + 101 + 200 * i) H' ∧ σ' = [some (.ref p), some (.ref t), some (.ref ob), v3, v4, v5]) ⟨none, none, none, ⟨But.refl p H2, hA2.2⟩, rfl⟩ ?_ ?_
    · rintro i σ' H3 hi ⟨v3, v4, v5, hA3, rfl⟩
      have hi3 : i < 3 := hi
      have ht3 := SqT.of (K := K) (hA3.1 _ _ ntp ht2)
      refine ⟨_, rfl, _, rfl, t, _, 0, _, rfl, rfl, ht3, tv, p, n + 101 + 200 * i, v, wo p H2, row, qs, r, rfl, hA3.2, by omega, wo_but hA3.1, wo_p, hRM, hF, fun w u H4 hA4 hw hfw => ?_⟩
      have hA24 : Around1 H2 p (n + 101 + 200 * i + 200) H4 := hA3.trans hA4
      have ht4 := SqT.of (K := K) (hA24.1 _ _ ntp ht2)
      refine ⟨_, rfl, t, _, 0, _, rfl, rfl, ht4, tv, _, rfl, v, u, wo p H2, row, qs, r, w, rfl, wo_but hA24.1, hRM, hF, hw, hfw, fun ow H5 hs5 how => ?_⟩
      have hpa5 : PatAt CP H5 ob (flD row qs r) o l Go := by
        obtain ⟨dx, v', h1, h2⟩ := hpa2.but hA24.1 hA2.2 hpGo
        exact ⟨dx, v', hs5 _ _ h1, h2.same hs5⟩
      obtain ⟨σr, er, em, eh, ee⟩ := run_flat (w := w) (rs := []) (row := row) (qs := qs) (r := r) (o := o) (l := l) (m := m) hF.len
      have hfit := deed_fit (w := w) (rs := []) (row := row) (r := r) hfw hF.len
      have hok := deed_ok (w := w) (rs := []) (n := nv) (row := row) (r := r) hfw hnv hF.len
      have go : ∀ (Hx : Hp) (ra : Addr) (Qx : V → Hp → Prop), Same H5 Hx → Hx ra = some (.lst []) → (∀ u' H', Same Hx H' → RX K H' (ocX w [] [] (deedM row qs r w)) u' → Qx u' H') → spTake K CE CP nv (m + 2) [.ref ob, u, .ref ra] Hx Qx E0 := fun Hx ra Qx hsx hra q => by
        have hpx : PatAt CP Hx ob (flD row qs r) o l Go := by
          obtain ⟨dx, v', h1, h2⟩ := hpa5
          exact ⟨dx, v', hsx _ _ h1, h2.same hsx⟩
        refine ⟨ob, ra, u, flD row qs r, o, l, Go, w, [], [], rfl, hpx, hF.pt, (hw.same hs5).same hsx, hra, rfl, ?_⟩
        rw [er]
        show _ ∧ _
        rw [em, ee]
        exact ⟨eh, Nat.zero_le _, (fun _ z => nomatch z), hok, fun u' H' hs hrx _ => q u' H' hs hrx⟩
      refine ⟨_, rfl, _, rfl, by show 0 ≤ sizeLine; decide, fun ra hra => ?_⟩
      have s6 := same_new hra (.lst [])
      refine go _ ra _ s6 upd_same fun u7 H7 hs7 hx7 => ?_
      have s57 := s6.trans hs7
      refine ⟨_, rfl, u7, ow, _, 5, rfl, by decide, hx7, how.same s57, hfit, fun H8 hs8 => ⟨_, rfl, iteF ?_⟩⟩
      have s58 := s57.trans hs8
      refine ⟨by show 0 ≤ sizeLine; decide, fun rb hrb => ?_⟩
      have s9 := same_new hrb (.lst [])
      refine ⟨_, rfl, _, rfl, ?_⟩
      refine go _ rb _ (s58.trans s9) upd_same fun u10 H10 hs10 hx10 => ?_
      have s510 := (s58.trans s9).trans hs10
      refine ⟨_, rfl, u10, ow, _, 5, rfl, by decide, hx10, how.same s510, hfit, fun H11 hs11 => ⟨_, rfl, iteF ?_⟩⟩
      exact ⟨_, _, _, (hA24.same (hs5.trans (s510.trans hs11))).mono (by omega), rfl⟩
    · rintro σ' H3 ⟨v3, v4, v5, hA3, rfl⟩
      exact ⟨v3, v4, v5, hA3.mono (by show n + 101 + 200 * 3 ≤ n + 701; omega), rfl⟩
  rintro _ H3 ⟨v3, v4, v5, hA3, rfl⟩
  exact kk H3 ((hA2.trans hA3).mono (by omega))
end
end K02
set_option Elab.async false
set_option linter.all false
set_option maxRecDepth 100000
set_option maxHeartbeats 4000000
namespace K02
open PySem L2 PyProof.Rows
/-! ### the law -/
def spLaw (K : PySem.W.Frag) : Sp := fun vs H Q _ => ∃ (a : Addr) (ns : List Int), vs = [.ref a] ∧ SqL K H a (ns.map V.int) ∧ ns.length ≤ 63 ∧ ∀ H', Q (.bl true) H'
section
variable {P : Program} {w : World} {K : PySem.W.Frag} {mg : Str → Option Value} {base : Heap}
theorem sqLaw : FnScope ["script", "spot", "purse", "turn"] ["script"] (defScope sLaw) := ⟨rfl, rfl, rfl, by decide +kernel, rfl, by decide +kernel, by decide +kernel⟩
theorem ok_law10 {f fP fR : Addr} {fd fdP fdR : FuncData} {R : Nat} (hR1 : 1 ≤ R) (F : Fun K "law" "law" sLaw f fd) (T : Txt K mg) (GP : FnOk P w K mg base CX0 1 fP fdP ["script", "place"] (spPurse K)) (bP : L2.Binds K fdP ["script", "place"] []) (mP : mg "_law_purse" = some (.ref fP)) (kP : PySem.W.keepIn K (.ref fP) = true)
    (GR : FnOk P w K mg base CX0 R fR fdR ["purse"] spRight10) (bR : L2.Binds K fdR ["purse"] []) (mR : mg "_law_right" = some (.ref fR)) (kR : PySem.W.keepIn K (.ref fR) = true) : FnOk P w K mg base CX0 (R + 1) f fd ["script"] (spLaw K) := by
  refine F.ok sqLaw (fun vs H Q E h => ?_) (fun cdv A outer s H vs Q E hr h => ?_)
  · obtain ⟨a, ns, rfl, _⟩ := h
    rfl
  obtain ⟨a, ns, rfl, hS, hl, kk⟩ := h
  have hr1 : Room 1 (A.deeper (envOfC "law" (defScope sLaw) s.heap.objs.size f cdv)) := hr.mono hR1
  refine ⟨_, pss_cons (ps_for PassesOwn.never rfl (pi_range1 rfl T.range (pa_cons (pe_callB (call_max2 rfl) (by rfl) T.max boot_max (pa_cons pe_int (pa_cons (pe_callB (call_min2 rfl) (by rfl) T.min boot_min (pa_cons pe_int (pa_cons (pe_callB call_len_seq (by rfl) T.len PySem.boot_len (pa_cons (pv 0) pa_nil)) pa_nil))) pa_nil))) pa_nil)) (pg_name (i := 1) sqLaw.nd rfl (Or.inl rfl))
      (pss_cons (ps_set (i := 2) sqLaw.nd rfl (Or.inl rfl) (pe_call GP hr1 rfl mP kP bP .nil pass0 (pa_cons (pv 0) (pa_cons (pv 1) pa_nil))))
      (pss_one (ps_for PassesOwn.never rfl (pi_range1 rfl T.range (pa_cons pe_int pa_nil)) (pg_name (i := 3) sqLaw.nd rfl (Or.inl rfl))
        (pss_one (ps_if (pt_not (pt_val (pe_call GR hr rfl mR kR bR .nil pass0 (pa_cons (pv 2) pa_nil)))) pss_never pss_nil))))))
    (pss_one (ps_ret pe_bl)), ?_⟩
  refine ⟨_, rfl, a, _, rfl, .inl hS, _, _, rfl, _, _, rfl, _, rfl, ?_, ?_, ?_⟩
  · split <;> split <;> omega
  · split <;> split <;> omega
  refine for_range (lo := 0) (fun i σ' H' => Same H H' ∧ ∃ v1 v2 v3 : Option V, σ' = [some (.ref a), v1, v2, v3]) ⟨Same.refl _, _, _, _, rfl⟩ ?_ ?_
  · rintro i σ' H1 hi ⟨hs1, v1, v2, v3, rfl⟩
    have hi6 : i ≤ 100 := by
      revert hi
      split <;> split <;> omega
    refine ⟨_, rfl, _, rfl, a, ns, i, by rw [Int.zero_add]; rfl, hs1.seq hS, hl, hi6, fun p H2 hp hs2 hpu => ?_⟩
    refine ⟨3, rfl, by decide, by decide, ?_⟩
    refine for_range (lo := 0) (n := 3) (fun j σ' H' => Around1 H1 p (j * 800) H' ∧ ∃ v1 v3 : Option V, σ' = [some (.ref a), v1, some (.ref p), v3]) ⟨⟨.of hs2, by rw [Nat.zero_mul]; exact hpu⟩, _, _, rfl⟩ ?_ ?_
    · rintro j σ' H3 hj ⟨hA3, w1, w3, rfl⟩
      have hj3 : j < 3 := hj
      refine ⟨_, rfl, p, j * 800, rfl, hA3.2, by omega, fun H4 hA4 => ⟨true, rfl, ?_⟩⟩
      have hA := hA3.trans hA4
      refine ⟨?_, _, _, rfl⟩
      rw [Nat.succ_mul]
      exact hA
    · rintro σ' H3 ⟨hA3, w1, w3, rfl⟩
      refine ⟨fun b o e => ?_, _, _, _, rfl⟩
      have e1 := hs1 b o e
      exact hA3.1 b o (ne_of_none e1 hp) e1
  · rintro σ' H1 _
    exact kk H1
end
end K02
set_option Elab.async false
set_option linter.all false
set_option maxRecDepth 100000
set_option maxHeartbeats 4000000
namespace K02
open PySem L2 PyProof.Rows
section
variable {P : Program} {w : World} {K : PySem.W.Frag} {mg : Str → Option Value} {base : Heap}
theorem scOw : FnScope ["place", "fields", "left_out"] ["place", "fields"] (defScope sOthersW) := ⟨rfl, rfl, rfl, by decide +kernel, rfl, by decide +kernel, by decide +kernel⟩
theorem ok_othersw {f : Addr} {fd : FuncData} (F : Fun K "others_without" "others_without" sOthersW f fd) (Tx : Txt K mg) (so : mg "sorted" = none) : FnOk P w K mg base CX0 2 f fd ["place", "fields"] (spOthersW K) := by
  refine F.ok scOw (fun vs H Q E h => ?_) (fun cdv A outer s H vs Q E hr h => ?_)
  · obtain ⟨v, p, l, fs, rfl, _⟩ := h
    rfl
  obtain ⟨v, p, l, fs, rfl, hp, hok, hl, hn, kk⟩ := h
  refine ⟨_, Evl.pss_cut (ps_set (i := 2) scOw.nd rfl (Or.inl rfl) (pe_ifExp (pt_cmpR op_eq (pe_ix ix_tup (pv 0) pe_int (fun _ _ => rfl)) pe_str (nomark _)) (pe_ix ix_tup (pv 0) pe_int (fun _ _ => rfl)) (pe_tup pa_nil)))
    (pss_one (ps_ret (pe_tup (pa_cons pe_str (pa_cons (pe_ix ix_tup (pv 0) pe_int (fun _ _ => rfl)) (pa_cons (pe_callTy call_tuple_of (by rfl) Tx.tuple boot_tuple (pa_cons (pe_callB (cr_sortedTx (by rfl)) (by rfl) so boot_sorted
      (pa_cons (pe_op op_orS (pe_callTy (cr_setS (by rfl)) (by rfl) Tx.set boot_set (pa_cons (pv 2) pa_nil)) (pe_callTy (cr_setS (by rfl)) (by rfl) Tx.set boot_set (pa_cons (pv 1) pa_nil))) pa_nil)) pa_nil)) pa_nil)))))), ?_⟩
  refine ⟨fun σ' H' => ∃ (x a b : Addr) (e : V) (rest : List V), σ' = [some v, some (.ref l), some (.ref x)] ∧ Same H H' ∧ v = .ref a ∧ SqT K H' a (e :: .ref b :: rest) ∧ PthAt K H' b (pcB p) ∧ SqT K H' x ((outs p).map V.str), ?_, ?_⟩
  · cases p with
    | «at» p =>
      obtain ⟨a, b, rfl, ha, hb⟩ := hp
      refine ⟨_, rfl, a, _, 0, _, rfl, rfl, ha, atI_nat (j := 0) rfl, rfl, _, rfl, ifF (so_ne (s := "at") (t := "others") (by decide)) ⟨by show 0 ≤ sizeLine; decide, fun t ht => ?_⟩⟩
      have s1 := same_new ht (.tup [])
      exact ⟨t, a, b, _, [], rfl, s1, rfl, SqT.same ha s1, hb.same s1, SqT.of upd_same⟩
    | others p zs =>
      obtain ⟨a, b, c, rfl, ha, hb, hc⟩ := hp
      refine ⟨_, rfl, a, _, 0, _, rfl, rfl, ha, atI_nat (j := 0) rfl, rfl, _, rfl, ifT (decide_eq_true rfl) ⟨_, rfl, a, _, 2, _, rfl, rfl, ha, atI_nat (j := 2) rfl, ?_⟩⟩
      exact ⟨c, a, b, _, _, rfl, (fun _ _ e => e), rfl, ha, hb, hc⟩
    | items p m => exact hok.elim
    | known x => exact hok.elim
    | step => exact hok.elim
  · rintro σ' H1 ⟨x, a, b, e, rest, rfl, s1, rfl, ha, hb, hx⟩
    have hl1 := s1 _ _ hl
    refine ⟨_, rfl, a, _, 1, _, rfl, rfl, ha, atI_nat (j := 1) rfl, ?_⟩
    refine ⟨_, rfl, x, outs p, rfl, .inr hx, by omega, fun p1 hp1 => ?_⟩
    have s2 := same_new hp1 (SetS w p1 (TxSet.dd (outs p)))
    refine ⟨_, rfl, l, fs, rfl, .inl (SqL.of (s2 _ _ hl1)), by omega, fun p2 hp2 => ?_⟩
    have s3 := same_new hp2 (SetS w p2 (TxSet.dd fs))
    have l1 := TxSet.dd_len (outs p)
    have l2 := TxSet.dd_len fs
    have hp1' : upd H1 p1 (SetS w p1 (TxSet.dd (outs p))) p1 = some (SetS w p1 (TxSet.dd (outs p))) := upd_same
    refine ⟨p1, p2, TxSet.dd (outs p), TxSet.dd fs, rfl, rfl, s3 _ _ hp1', upd_same, fun z => ?_, by omega, fun q L' hq nd hm hlen => ?_⟩
    · have hp2' : upd H1 p1 (SetS w p1 (TxSet.dd (outs p))) p2 = none := hp2
      rw [← z, upd_same] at hp2'
      cases hp2'
    have s4 := same_new hq (SetS w q L')
    refine ⟨q, L', rfl, upd_same, by omega, fun ys r hperm hsort hr => ?_⟩
    have s5 := same_new hr (.lst (ys.map V.str))
    refine ⟨r, _, rfl, .inl ⟨SqL.of upd_same, fun t ht => ?_⟩⟩
    have s6 := same_new ht (.tup (ys.map V.str))
    refine ⟨by show 3 ≤ sizeLine; decide, fun g hg => ?_⟩
    have ey : ys = srtU (outs p ++ fs) := by
      refine (srtU_is (hperm.trans ((List.perm_ext_iff_of_nodup nd (TxSet.dd_nodup _)).2 fun y => ?_)) hsort).symm
      rw [hm y, TxSet.dd_mem, TxSet.dd_mem, TxSet.dd_mem, List.mem_append]
    have s7 := same_new hg (.tup [V.str (Str.ofString "others"), V.ref b, V.ref t])
    have sa := ((((s2.trans s3).trans s4).trans s5).trans s6)
    refine kk _ _ (s1.trans (sa.trans s7)) ⟨g, b, t, rfl, SqT.of upd_same, hb.same (sa.trans s7), ?_⟩
    rw [← ey]
    exact SqT.same (SqT.of upd_same) s7
end
end K02
set_option Elab.async false
set_option linter.all false
set_option maxRecDepth 100000
set_option maxHeartbeats 4000000
namespace K02
open PySem L2 PyProof.Rows
/-! ### a flat part, told by the law -/
abbrev PH (R : V → Pc → Prop) : List (Key × V) → List (Str × Pc) → Prop := Paired fun (p : Key × V) (q : Str × Pc) => p.1 = Sum.inr q.1 ∧ R p.2 q.2
section
variable {R : V → Pc → Prop}
theorem PH.get {kvs : List (Key × V)} {hs : List (Str × Pc)} (h : PH R kvs hs) (z : Str) : ∀ p, getH hs z = some p → ∃ v, valV kvs (.inr z) = some v ∧ R v p := by
  induction h with
  | nil => exact fun p e => by cases e
  | @cons q r qs rs h t ih =>
    obtain ⟨h1, h2⟩ := h
    by_cases e : r.1 = z
    · have g : getH (r :: rs) z = some r.2 := by simp [getH, List.find?_cons, e]
      rw [g, valV_pos (by rw [h1, e])]
      exact fun p ep => ⟨_, rfl, (Option.some.inj ep) ▸ h2⟩
    · have g : getH (r :: rs) z = getH rs z := by simp [getH, List.find?_cons, e]
      rw [g, valV_neg (by rw [h1]; exact fun y => e (Sum.inr.inj y))]
      exact ih
theorem PH.any {kvs : List (Key × V)} {hs : List (Str × Pc)} (h : PH R kvs hs) (z : Str) : (kvs.any fun kv => decide (kv.1 = Sum.inr z)) = hs.any fun q => decide (q.1 = z) := by
  induction h with
  | nil => rfl
  | @cons q r qs rs h t ih =>
    rw [List.any_cons, List.any_cons, ih, h.1]
    congr 1
    exact decide_eq_decide.mpr ⟨fun y => Sum.inr.inj y, fun y => by rw [y]⟩
theorem PH.repl {kvs : List (Key × V)} {hs : List (Str × Pc)} (h : PH R kvs hs) (z : Str) {v : V} {p : Pc} (hv : R v p) : PH R (kvs.map fun kv => if kv.1 = Sum.inr z then (kv.1, v) else kv) (hs.map fun q => if q.1 = z then (q.1, p) else q) := by
  induction h with
  | nil => exact .nil
  | @cons q r qs rs h t ih =>
    rw [List.map_cons, List.map_cons]
    refine .cons ?_ ih
    by_cases e : r.1 = z
    · rw [if_pos e, if_pos (by rw [h.1, e])]
      exact ⟨h.1, hv⟩
    · rw [if_neg e, if_neg (by rw [h.1]; exact fun y => e (Sum.inr.inj y))]
      exact h
theorem PH.put {kvs : List (Key × V)} {hs : List (Str × Pc)} (h : PH R kvs hs) (z : Str) {v : V} {p : Pc} (hv : R v p) : PH R (putK kvs (.inr z) v) (putH hs z p) := by
  unfold putK putH
  rw [h.any z]
  split
  · exact h.repl z hv
  · exact Paired.snoc h ⟨rfl, hv⟩
theorem PH.keys {kvs : List (Key × V)} {hs : List (Str × Pc)} (h : PH R kvs hs) : (kvs.map fun kv => kV kv.1) = (hs.map (·.1)).map V.str := by
  induction h with
  | nil => rfl
  | cons h t ih =>
    rw [List.map_cons, List.map_cons, List.map_cons, ih, h.1]
    rfl
theorem PH.mono {R' : V → Pc → Prop} {kvs : List (Key × V)} {hs : List (Str × Pc)} (h : PH R kvs hs) (k : ∀ v p, R v p → R' v p) : PH R' kvs hs := Paired.mapP h fun _ _ q => ⟨q.1, k _ _ q.2⟩
end
/-- a value for a place -/
def RPl (K : PySem.W.Frag) (H : Hp) (w : Wv) (v : V) (p : Pc) : Prop := RX K H (vD w [] p) v
theorem RPl.same {K : PySem.W.Frag} {H H1 : Hp} {w : Wv} {v : V} {p : Pc} (h : RPl K H w v p) (s : Same H H1) : RPl K H1 w v p := RX.same s h
theorem rx_fail {K : PySem.W.Frag} {H : Hp} {w : Wv} {a l b t : Addr} {x : V} {y : Why} (ha : SqT K H a [.ref l, .ref b]) (hl : H l = some (.lst [])) (hb : SqT K H b [.str (Str.ofString "failed"), .ref t, x]) (ht : SqT K H t [.str (Str.ofString "value")])
    (hx : RX K H (whyX y) x) : RX K H (ocX w [] [] (.failed (.at pV0) y)) (.ref a) :=
  rx_tup2 ha ⟨l, [], rfl, hl, rfl⟩ (rx_tup3 hb rx_str ⟨t, _, rfl, ht, _, _, rfl, rx_str, rfl⟩ hx)
theorem srtU_mem (L : List Str) (x : Str) : x ∈ srtU L ↔ x ∈ L := by
  unfold srtU
  by_cases h : ∃ ys : List Str, ys.Perm (TxSet.dd L) ∧ sortedS ys = true
  · rw [dif_pos h, h.choose_spec.1.mem_iff, TxSet.dd_mem]
  · rw [dif_neg h, TxSet.dd_mem]
theorem othr_by {zs us : List Str} (h : ∀ x, x ∈ zs ↔ x ∈ us) : ∀ (ns : List Str) (ws : List Wv), othr zs ns ws = othr us ns ws
  | [], ws => rfl
  | n :: ns, [] => rfl
  | n :: ns, w :: ws => by
    show (if n ∈ zs then othr zs ns ws else _) = (if n ∈ us then othr us ns ws else _)
    rw [othr_by h ns ws]
    by_cases c : n ∈ us
    · rw [if_pos c, if_pos ((h n).2 c)]
    · rw [if_neg c, if_neg fun z => c ((h n).1 z)]
theorem othr_no : ∀ {ns : List Str} {ws : List Wv}, ns.length = ws.length → othr [] ns ws = (ns, ws)
  | [], [], _ => rfl
  | n :: ns, [], h => nomatch h
  | [], w :: ws, h => nomatch h
  | n :: ns, w :: ws, h => by
    show (if n ∈ ([] : List Str) then othr [] ns ws else (n :: (othr [] ns ws).1, w :: (othr [] ns ws).2)) = _
    rw [if_neg (fun z => nomatch z), othr_no (Nat.succ.inj h)]
/-- the rest of a record, as a value -/
theorem vD_rest {ns : List Str} {ws : List Wv} {qs : List (Str × Str)} (nd : ns.Nodup) (hl : ns.length = ws.length) (hn : ns.length ≤ 1000) :
    vD (.rcd ns ws) [] (restPc false qs) = .rcd (othr (qs.map (·.1)) ns ws).1 (wXs (othr (qs.map (·.1)) ns ws).2) := by
  show vD _ [] (if false = true then restRow (.at pV0) qs.length else restRec (.at pV0) (qs.map (·.1))) = _
  rw [if_neg Bool.false_ne_true]
  unfold restRec
  by_cases c : srtU (outs (.at pV0) ++ qs.map (·.1)) = []
  · rw [if_pos c]
    have e : qs.map (·.1) = [] := by
      refine List.eq_nil_iff_forall_not_mem.mpr fun x hx => ?_
      have := (srtU_mem (outs (.at pV0) ++ qs.map (·.1)) x).2 (List.mem_append_right _ hx)
      rw [c] at this
      cases this
    rw [e, othr_no hl]
    rfl
  · rw [if_neg c]
    have m : ∀ x, x ∈ srtU (outs (.at pV0) ++ qs.map (·.1)) ↔ x ∈ qs.map (·.1) := fun x => srtU_mem _ x
    show (if ns.Nodup ∧ ns.length ≤ 1000 then some (Xd.rcd (othr _ ns ws).1 (wXs (othr _ ns ws).2)) else none).getD _ = _
    rw [if_pos ⟨nd, hn⟩, othr_by m]
    rfl
theorem merge_new : ∀ (more acc : List (Key × V)), (more.map (·.1)).Nodup → (∀ p ∈ more, ∀ q ∈ acc, q.1 ≠ p.1) → mergeK acc more = acc ++ more
  | [], acc, _, _ => (List.append_nil acc).symm
  | p :: ps, acc, nd, h => by
    rw [List.map_cons] at nd
    obtain ⟨n1, n2⟩ := List.nodup_cons.mp nd
    show mergeK (putK acc p.1 p.2) ps = _
    rw [putK_new _ (valV_no fun q hq => h p List.mem_cons_self q hq), merge_new ps _ n2 fun x hx q hq => ?_, List.append_assoc]
    · rfl
    · rcases List.mem_append.mp hq with hq | hq
      · exact h x (List.mem_cons_of_mem _ hx) q hq
      · rw [List.mem_singleton.mp hq]
        exact fun e => n1 (e ▸ List.mem_map.mpr ⟨x, hx, rfl⟩)
theorem merge_kz {ns : List Str} {ys : List V} (nd : ns.Nodup) (hl : ns.length = ys.length) : mergeK [] (kz ns ys) = kz ns ys := by
  refine merge_new _ [] ?_ fun _ _ q hq => nomatch hq
  rw [kz_keys hl]
  exact List.Pairwise.map Sum.inr (fun a b h e => h (Sum.inr.inj e)) nd
theorem rxs_pairs {K : PySem.W.Frag} {H : Hp} {w : Wv} {ts : List V} {ps : List (Str × Pc)} (h : Paired (fun t q => RX K H (prX w [] q) t) ts ps) : RXs K H (ps.map (prX w [])) ts := by
  induction h with
  | nil => rfl
  | cons h t ih => exact ⟨_, _, rfl, h, ih⟩
/-- a name with what it is bound to; that stands in an earlier heap -/
def PrB (K : PySem.W.Frag) (H0 H : Hp) (w : Wv) (t : V) (q : Str × Pc) : Prop := ∃ a x, t = .ref a ∧ SqT K H a [.str q.1, x] ∧ RPl K H0 w x q.2
section
variable {P : Program} {w : World} {K : PySem.W.Frag} {mg : Str → Option Value} {base : Heap}
abbrev nFD : List Str := ["piece", "worth", "held", "at", "one", "keys", "pair", "name"]
theorem sqFd : FnScope nFD ["piece", "worth"] (defScope sDeed) := ⟨rfl, rfl, rfl, by decide +kernel, rfl, by decide +kernel, by decide +kernel⟩
theorem ok_deed {f : Addr} {fd : FuncData} (F : Fun K "_law_ta_flat_deed" "_law_ta_flat_deed" sDeed f fd) (T : Txt K mg) (zE : mg "enumerate" = none) (zS : mg "sorted" = none) (zD : mg "dict" = none) :
    FnOk P w K mg base CX0 2 f fd ["piece", "worth"] (spDeed K) := by
  refine F.ok sqFd (fun vs H Q E h => ?_) (fun cdv A outer s H vs Q E hr h => ?_)
  · obtain ⟨v, u, M, row, qs, r, w, rfl, _⟩ := h
    rfl
  obtain ⟨v, u, M, row, qs, r, wv, rfl, hMH, hR, hF, hu, hw, kk⟩ := h
  have hu1 : (A.deeper (envOfC "_law_ta_flat_deed" (defScope sDeed) s.heap.objs.size f cdv)).units + 1 < cLine := by
    have := hr.units
    omega
  refine ⟨_, Evl.pss_cut (ps_if (PW.pt (pw_or (PW.pt (pw_and (pt_cmpR op_eq (pe_ix ix_tup (pv 0) pe_int (fun _ _ => rfl)) pe_str (nomark _)) (pw_and1 (pt_not (pt_val (pe_callB call_isi (by rfl) T.isi boot_isinstance (pa_cons (pv 1) (pa_cons (pe_bltn (v := .ty "list") (by rfl) T.list boot_list rfl) pa_nil))))))))
      (pw_or1 (PW.pt (pw_and (pt_cmpR op_eq (pe_ix ix_tup (pv 0) pe_int (fun _ _ => rfl)) pe_str (nomark _)) (pw_and1 (pt_not (pt_val (pe_callB call_isi (by rfl) T.isi boot_isinstance (pa_cons (pv 1) (pa_cons (pe_bltn (v := .ty "dict") (by rfl) zD boot_dict rfl) pa_nil)))))))))))
      (pss_one (ps_ret (pe_tup (pa_cons (pe_lst pa_nil) (pa_cons (pe_tup (pa_cons pe_str (pa_cons (pe_tup (pa_cons pe_str pa_nil)) (pa_cons pe_str pa_nil)))) pa_nil))))) pss_nil)
    (pss_cons (ps_set (i := 2) sqFd.nd rfl (Or.inr rfl) pe_dnewK)
    (Evl.pss_cut (ps_for PassesOwn.never rfl (pi_enum rfl zE (pa_cons (pe_ix ix_tup (pv 0) pe_int (fun _ _ => rfl)) pa_nil)) (pg_tup rfl (pgs_cons (pg_name (i := 3) sqFd.nd rfl (Or.inl rfl)) (pgs_cons (pg_name (i := 4) sqFd.nd rfl (Or.inl rfl)) pgs_nil)))
      (pss_cons (ps_if (PW.pt (pw_and (pt_cmpR op_eq (pe_ix ix_tup (pv 0) pe_int (fun _ _ => rfl)) pe_str (nomark _)) (pw_and1 (pt_cmpR op_ge (pv 3) (pe_callB call_len_seq (by rfl) T.len PySem.boot_len (pa_cons (pv 1) pa_nil)) (nomark _)))))
        (pss_one (ps_ret (pe_tup (pa_cons (pe_lst pa_nil) (pa_cons (pe_tup (pa_cons pe_str (pa_cons (pe_tup (pa_cons pe_str pa_nil)) (pa_cons (pe_tup (pa_cons pe_str (pa_cons (pv 3) pa_nil))) pa_nil)))) pa_nil))))) pss_nil)
      (pss_cons (ps_if (PW.pt (pw_and (pt_cmpR op_eq (pe_ix ix_tup (pv 0) pe_int (fun _ _ => rfl)) pe_str (nomark _)) (pw_and1 (pt_cmp (pc_dnotin hu1 (pe_ix ix_tup (pv 4) pe_int (fun _ _ => rfl)) (pv 1)) rfl))))
        (pss_one (ps_ret (pe_tup (pa_cons (pe_lst pa_nil) (pa_cons (pe_tup (pa_cons pe_str (pa_cons (pe_tup (pa_cons pe_str pa_nil)) (pa_cons (pe_tup (pa_cons pe_str (pa_cons (pe_ix ix_tup (pv 4) pe_int (fun _ _ => rfl)) pa_nil))) pa_nil)))) pa_nil))))) pss_nil)
      (pss_one (ps_dput hu1 (pv 2) (pe_ix ix_tup (pe_ix ix_tup (pv 4) (pe_un un_neg pe_int) (fun _ _ => rfl)) pe_int (fun _ _ => rfl))
        (pe_ifExp (pt_cmpR op_eq (pe_ix ix_tup (pv 0) pe_int (fun _ _ => rfl)) pe_str (nomark _)) (pe_ix ix_list (pv 1) (pv 3) (fun _ _ => rfl)) (pe_dget hu1 (pv 1) (pe_ix ix_tup (pv 4) pe_int (fun _ _ => rfl)) (fun _ _ => rfl))) rfl)))))
    (Evl.pss_cut (ps_if (PW.pt (pw_and (pt_cmpR op_notN (pe_ix ix_tup (pv 0) pe_int (fun _ _ => rfl)) pe_non (nomark _)) (pw_and1 (pt_cmpR op_eq (pe_ix ix_tup (pv 0) pe_int (fun _ _ => rfl)) pe_str (nomark _)))))
      (pss_one (ps_dput hu1 (pv 2) (pe_ix ix_tup (pv 0) pe_int (fun _ _ => rfl)) (pe_slice sl_list (pv 1) (po_some (pe_callB call_len_seq (by rfl) T.len PySem.boot_len (pa_cons (pe_ix ix_tup (pv 0) pe_int (fun _ _ => rfl)) pa_nil))) po_none) rfl)) pss_nil)
    (Evl.pss_cut (ps_if (PW.pt (pw_and (pt_cmpR op_notN (pe_ix ix_tup (pv 0) pe_int (fun _ _ => rfl)) pe_non (nomark _)) (pw_and1 (pt_cmpR op_eq (pe_ix ix_tup (pv 0) pe_int (fun _ _ => rfl)) pe_str (nomark _)))))
      (Evl.pss_cut (ps_set (i := 5) sqFd.nd rfl (Or.inr rfl) (pe_lc (own := [("one", 4)]) (g := gName 4) (tt := tYes) rfl sqFd.nd (pi_list (pe_ix ix_tup (pv 0) pe_int (fun _ _ => rfl))) (blkOk_by (N := nFD) (sc := defScope sDeed) (by decide +kernel)) (fun _ _ _ _ _ => pg_name (i := 4) sqFd.nd rfl (Or.inl rfl)) (fun _ _ _ _ _ => pts_nil)
          (fun _ _ _ _ _ => pe_ix (show IxR _ (rIxT K) from ix_tup) (pv 4) pe_int (fun _ _ => rfl))))
        (pss_one (ps_dput hu1 (pv 2) (pe_ix ix_tup (pv 0) pe_int (fun _ _ => rfl)) (pe_callTy (call_dictP rfl) (by rfl) zD boot_dict (pa_cons (pe_lock (pe_lc (own := [("pair", 6)]) (g := gName 6) (tt := tTest (tOp (rIn K true) (tOp (rIxT K) (tVar 6) (tC (.int 0))) (tVar 5))) rfl sqFd.nd (pi_itemsN (pv 1)) (blkOk_by (N := nFD) (sc := defScope sDeed) (by decide +kernel))
          (fun _ _ _ _ _ => pg_name (i := 6) sqFd.nd rfl (Or.inl rfl)) (fun _ _ _ _ _ => pts_one (pt_cmpR op_notIn_seq (pe_ix (show IxR _ (rIxT K) from ix_tup) (pv 6) pe_int (fun _ _ => rfl)) (pv 5) (by rfl))) (fun _ _ _ _ _ => pv 6))) pa_nil)) rfl))) pss_nil)
    (pss_one (ps_ret (pe_tup (pa_cons (pe_lst pa_nil) (pa_cons (pe_tup (pa_cons pe_str (pa_cons (pe_lc (own := [("name", 7)]) (g := gName 7) (tt := tYes) (te := tTup (tCons (tVar 7) (tCons (tDGet (tVar 2) (tVar 7)) tNil))) rfl sqFd.nd (pi_list (pe_callB cr_sortedS (by rfl) zS boot_sorted (pa_cons (pe_callTy (call_listD rfl) (by rfl) T.list boot_list (pa_cons (pv 2) pa_nil)) pa_nil))) (blkOk_by (N := nFD) (sc := defScope sDeed) (by decide +kernel))
        (fun _ _ _ _ _ => pg_name (i := 7) sqFd.nd rfl (Or.inl rfl)) (fun _ _ _ _ _ => pts_nil) (fun _ _ _ _ _ => pe_tup (pa_cons (pv 7) (pa_cons (pe_dget hu1 (pv 2) (pv 7) (fun _ _ => rfl)) pa_nil)))) pa_nil))) pa_nil))))))))), ?_⟩
  obtain ⟨pa, la, es, rfl, hpa0, hla0, hes⟩ := flD_at hR
  have hpa := hMH _ _ hpa0
  have hla := hMH _ _ hla0
  have hel : es.length = qs.length := by rw [hes.len, List.length_map, List.length_map]
  have hql := hF.len
  obtain ⟨sT, hty, k1, k2, k3⟩ := (RV.rx (K := K) hu).ty
  have fail : ∀ {H1 : Hp} {l1 t1 b1 a1 : Addr} {x : V} {y : Why}, deedM row qs r wv = .failed (.at pV0) y → Same H H1 → SqT K H1 a1 [.ref l1, .ref b1] → H1 l1 = some (.lst []) → SqT K H1 b1 [.str (Str.ofString "failed"), .ref t1, x] → SqT K H1 t1 [.str (Str.ofString "value")] → RX K H1 (whyX y) x → Q (.ref a1) H1 :=
    fun e s1 h1 h2 h3 h4 h5 => kk _ _ s1 (e ▸ rx_fail h1 h2 h3 h4 h5)
  refine ⟨fun σ' H' => H' = H ∧ rowW row wv ∧ σ' = [some (.ref pa), some u, none, none, none, none, none, none], ?_, ?_⟩
  · have bad : ¬ rowW row wv → ∀ l1, H l1 = none → ∀ t1, upd H l1 (.lst []) t1 = none → ∀ b1, upd (upd H l1 (.lst [])) t1 (.tup [V.str (Str.ofString "value")]) b1 = none → ∀ a1, upd (upd (upd H l1 (.lst [])) t1 (.tup [V.str (Str.ofString "value")])) b1 (.tup [V.str (Str.ofString "failed"), V.ref t1, V.str (Str.ofString "kind")]) a1 = none →
        Q (.ref a1) (upd (upd (upd (upd H l1 (.lst [])) t1 (.tup [V.str (Str.ofString "value")])) b1 (.tup [V.str (Str.ofString "failed"), V.ref t1, V.str (Str.ofString "kind")])) a1 (.tup [V.ref l1, V.ref b1])) := fun hn l1 f1 t1 f2 b1 f3 a1 f4 => by
      have s1 := same_new f1 (.lst [])
      have s2 := same_new f2 (.tup [V.str (Str.ofString "value")])
      have s3 := same_new f3 (.tup [V.str (Str.ofString "failed"), V.ref t1, V.str (Str.ofString "kind")])
      have s4 := same_new f4 (.tup [V.ref l1, V.ref b1])
      refine fail (y := .kind) (by unfold deedM; rw [if_neg hn]) (s1.trans (s2.trans (s3.trans s4))) (SqT.of upd_same) (s4 _ _ (s3 _ _ (s2 _ _ upd_same))) (SqT.of (s4 _ _ upd_same)) (SqT.of (s4 _ _ (s3 _ _ upd_same))) rx_str
    refine ⟨_, rfl, pa, _, 0, _, rfl, rfl, SqT.of hpa, atI_nat (j := 0) rfl, rfl, _, rfl, ?_⟩
    cases row with
    | true =>
      refine ifT (decide_eq_true rfl) ⟨_, rfl, u, _, _, _, _, rfl, .ty _, hty, kit_ty k1, _, rfl, ?_⟩
      cases wv with
      | row ws => exact iteF ⟨_, rfl, pa, _, 0, _, rfl, rfl, SqT.of hpa, atI_nat (j := 0) rfl, rfl, _, rfl, ifF (so_ne (s := "row") (t := "record") (by decide)) (iteF ⟨rfl, rfl, rfl⟩)⟩
      | non => exact iteT (iteT ⟨by show 0 ≤ sizeLine; decide, fun l1 f1 => ⟨by show 1 ≤ sizeLine; decide, fun t1 f2 => ⟨by show 3 ≤ sizeLine; decide, fun b1 f3 => ⟨by show 2 ≤ sizeLine; decide, fun a1 f4 => bad (fun z => z.elim) l1 f1 t1 f2 b1 f3 a1 f4⟩⟩⟩⟩)
      | int j => exact iteT (iteT ⟨by show 0 ≤ sizeLine; decide, fun l1 f1 => ⟨by show 1 ≤ sizeLine; decide, fun t1 f2 => ⟨by show 3 ≤ sizeLine; decide, fun b1 f3 => ⟨by show 2 ≤ sizeLine; decide, fun a1 f4 => bad (fun z => z.elim) l1 f1 t1 f2 b1 f3 a1 f4⟩⟩⟩⟩)
      | rcd ns ws => exact iteT (iteT ⟨by show 0 ≤ sizeLine; decide, fun l1 f1 => ⟨by show 1 ≤ sizeLine; decide, fun t1 f2 => ⟨by show 3 ≤ sizeLine; decide, fun b1 f3 => ⟨by show 2 ≤ sizeLine; decide, fun a1 f4 => bad (fun z => nomatch (show true = false from z)) l1 f1 t1 f2 b1 f3 a1 f4⟩⟩⟩⟩)
    | false =>
      refine ifF (so_ne (s := "record") (t := "row") (by decide)) ⟨_, rfl, pa, _, 0, _, rfl, rfl, SqT.of hpa, atI_nat (j := 0) rfl, rfl, _, rfl, ifT (decide_eq_true rfl) ⟨_, rfl, u, _, _, _, _, rfl, .ty _, hty, kit_ty k3, _, rfl, ?_⟩⟩
      cases wv with
      | rcd ns ws => exact iteF ⟨rfl, rfl, rfl⟩
      | non => exact iteT ⟨by show 0 ≤ sizeLine; decide, fun l1 f1 => ⟨by show 1 ≤ sizeLine; decide, fun t1 f2 => ⟨by show 3 ≤ sizeLine; decide, fun b1 f3 => ⟨by show 2 ≤ sizeLine; decide, fun a1 f4 => bad (fun z => z.elim) l1 f1 t1 f2 b1 f3 a1 f4⟩⟩⟩⟩
      | int j => exact iteT ⟨by show 0 ≤ sizeLine; decide, fun l1 f1 => ⟨by show 1 ≤ sizeLine; decide, fun t1 f2 => ⟨by show 3 ≤ sizeLine; decide, fun b1 f3 => ⟨by show 2 ≤ sizeLine; decide, fun a1 f4 => bad (fun z => z.elim) l1 f1 t1 f2 b1 f3 a1 f4⟩⟩⟩⟩
      | row ws => exact iteT ⟨by show 0 ≤ sizeLine; decide, fun l1 f1 => ⟨by show 1 ≤ sizeLine; decide, fun t1 f2 => ⟨by show 3 ≤ sizeLine; decide, fun b1 f3 => ⟨by show 2 ≤ sizeLine; decide, fun a1 f4 => bad (fun z => nomatch (show false = true from z)) l1 f1 t1 f2 b1 f3 a1 f4⟩⟩⟩⟩
  rintro _ H0 ⟨e0, hrw, rfl⟩
  have e1 := e0.symm
  subst e1
  intro D hD
  -- the entries
  have kp : ∀ {b : Addr} {o : HO} {H' : Hp}, Same H H' → M b = some o → H' b = some o := fun s1 e => s1 _ _ (hMH _ _ e)
  refine ⟨fun σ' H' => ∃ (kvs : List (Key × V)) (h : List (Str × Pc)) (v3 v4 : Option V), Same H H' ∧ H' D = some (.dK kvs) ∧ PH (RPl K H wv) kvs h ∧ flGo row wv 0 qs [] = .inr h ∧ h.length ≤ 20 ∧ σ' = [some (.ref pa), some u, some (.ref D), v3, v4, none, none, none], ?_, ?_⟩
  · refine ⟨_, rfl, pa, _, 1, _, rfl, rfl, SqT.of (same_new hD _ _ _ hpa), atI_nat (j := 1) rfl, la, es, rfl, SqL.of (same_new hD _ _ _ hla), ?_⟩
    refine for_it walk_enum (fun i σ' H' => ∃ (kvs : List (Key × V)) (h : List (Str × Pc)) (v3 v4 : Option V), Same H H' ∧ H' D = some (.dK kvs) ∧ PH (RPl K H wv) kvs h ∧ flGo row wv 0 qs [] = flGo row wv i (qs.drop i) h ∧ h.length ≤ i ∧ σ' = [some (.ref pa), some u, some (.ref D), v3, v4, none, none, none])
      ⟨[], [], none, none, same_new hD _, upd_same, .nil, rfl, Nat.le_refl _, rfl⟩ (fun i σ' H' _ ⟨_, _, _, _, h, _⟩ => SqL.of (h _ _ hla)) ?_ ?_
    · rintro i x σ' H6 H7 hi ⟨kvs, h, v3, v4, s6, hD6, hP, hgo, hhl, rfl⟩ ⟨tA, x1, y1, rfl, htA, rfl, ex, ey⟩
      obtain rfl : V.int ((i : Nat) : Int) = x1 := Option.some.inj ex
      obtain ⟨d, hd, hrd⟩ := hes.item ey
      rw [List.getElem?_map, List.getElem?_map] at hd
      obtain ⟨q0, hq0, rfl⟩ : ∃ q0, qs[i]? = some q0 ∧ ent row (flQ q0) = d := by
        cases e : qs[i]? with
        | none =>
          rw [e] at hd
          cases hd
        | some q0 =>
          rw [e] at hd
          exact ⟨q0, rfl, Option.some.inj hd⟩
      have hiq : i < qs.length := (List.getElem?_eq_some_iff.mp hq0).1
      have edr : qs.drop i = q0 :: qs.drop (i + 1) := by
        rw [List.drop_eq_getElem_cons hiq]
        congr 1
        exact Option.some.inj ((List.getElem?_eq_getElem hiq).symm.trans hq0)
      have hgo2 : flGo row wv i (qs.drop i) h = if (wIn wv (entK row i q0)).isSome = true then flGo row wv (i + 1) (qs.drop (i + 1)) (putH h q0.2 (.at (pV0.push (entK row i q0)))) else .inl (entK row i q0) := by
        rw [edr]
        rfl
      have s3 := same_new htA (.tup [V.int ((i : Nat) : Int), y1])
      have s7 := s6.trans s3
      have hD7 := s3 _ _ hD6
      have a7 : (upd H6 tA (.tup [V.int ((i : Nat) : Int), y1])) tA = some (.tup [V.int ((i : Nat) : Int), y1]) := upd_same
      generalize upd H6 tA (.tup [V.int ((i : Nat) : Int), y1]) = H7 at s3 s7 hD7 a7 ⊢
      have hpa7 := s7 _ _ hpa
      have fail7 : ∀ {l1 t1 m1 b1 a1 : Addr} {k : Ky}, (wIn wv (entK row i q0)).isSome = false → entK row i q0 = k → H7 l1 = none → upd H7 l1 (.lst []) t1 = none → upd (upd H7 l1 (.lst [])) t1 (.tup [V.str (Str.ofString "value")]) m1 = none →
          upd (upd (upd H7 l1 (.lst [])) t1 (.tup [V.str (Str.ofString "value")])) m1 (.tup [V.str (Str.ofString (missS k)), k.v]) b1 = none →
          upd (upd (upd (upd H7 l1 (.lst [])) t1 (.tup [V.str (Str.ofString "value")])) m1 (.tup [V.str (Str.ofString (missS k)), k.v])) b1 (.tup [V.str (Str.ofString "failed"), V.ref t1, V.ref m1]) a1 = none →
          Q (.ref a1) (upd (upd (upd (upd (upd H7 l1 (.lst [])) t1 (.tup [V.str (Str.ofString "value")])) m1 (.tup [V.str (Str.ofString (missS k)), k.v])) b1 (.tup [V.str (Str.ofString "failed"), V.ref t1, V.ref m1])) a1 (.tup [V.ref l1, V.ref b1])) := by
        intro l1 t1 m1 b1 a1 k hno ek f1 f2 f3 f4 f5
        have z1 := same_new f1 (.lst [])
        have z2 := same_new f2 (.tup [V.str (Str.ofString "value")])
        have z3 := same_new f3 (.tup [V.str (Str.ofString (missS k)), k.v])
        have z4 := same_new f4 (.tup [V.str (Str.ofString "failed"), V.ref t1, V.ref m1])
        have z5 := same_new f5 (.tup [V.ref l1, V.ref b1])
        refine fail (y := .miss k) ?_ (s7.trans (z1.trans (z2.trans (z3.trans (z4.trans z5))))) (SqT.of upd_same) (z5 _ _ (z4 _ _ (z3 _ _ (z2 _ _ upd_same)))) (SqT.of (z5 _ _ upd_same)) (SqT.of (z5 _ _ (z4 _ _ (z3 _ _ upd_same)))) (rx_tup2 (SqT.of (z5 _ _ (z4 _ _ upd_same))) rx_str (rx_leaf (ky_lf k)))
        unfold deedM
        rw [if_pos hrw, hgo, hgo2, if_neg (by rw [hno]; exact Bool.false_ne_true), ek]
      refine ⟨tA, _, rfl, SqT.of a7, rfl, _, _, rfl, _, _, rfl, rfl, ?_⟩
      refine ⟨_, rfl, pa, _, 0, _, rfl, rfl, SqT.of hpa7, atI_nat (j := 0) rfl, rfl, _, rfl, ?_⟩
      cases row with
      | true =>
        obtain ⟨ea, et, rfl, hea, het⟩ := ent_t hrd
        cases wv with
        | non => exact hrw.elim
        | int j => exact hrw.elim
        | rcd ns ws => exact nomatch (show true = false from hrw)
        | row ws =>
          obtain ⟨ul, xs, rfl, hul, hxs⟩ := id hu
          refine ifT (decide_eq_true rfl) ⟨_, rfl, _, rfl, ul, xs, rfl, .inl (SqL.of (s7 _ _ hul)), _, _, rfl, rfl, _, rfl, ?_⟩
          refine ite2 (fun c => ?_) (fun c => ?_)
          · have hno : (wIn (.row ws) (entK true i q0)).isSome = false := by
              have c' := of_decide_eq_true c
              show (ws[i]?).isSome = false
              rw [List.getElem?_eq_none (by rw [← hxs.len]; omega)]
              rfl
            exact ⟨by show 0 ≤ sizeLine; decide, fun l1 f1 => ⟨by show 1 ≤ sizeLine; decide, fun t1 f2 => ⟨_, rfl, by show 2 ≤ sizeLine; decide, fun m1 f3 => ⟨by show 3 ≤ sizeLine; decide, fun b1 f4 => ⟨by show 2 ≤ sizeLine; decide, fun a1 f5 => fail7 (k := .ix i) hno rfl f1 f2 f3 f4 f5⟩⟩⟩⟩⟩
          · have c' : ¬ (((xs.length : Nat) : Int) ≤ ((i : Nat) : Int)) := fun z => c (decide_eq_true z)
            have hix : i < xs.length := by omega
            have hxi := List.getElem?_eq_getElem hix
            generalize xs[i] = x at hxi
            obtain ⟨u1, hu1', hru⟩ := hxs.item hxi
            have hsome : (wIn (.row ws) (entK true i q0)).isSome = true := by
              show (ws[i]?).isSome = true
              rw [hu1']
              rfl
            have hvD : vD (.row ws) [] (.at (pV0.push (entK true i q0))) = wX u1 := by
              show (((((Wv.row ws) |> fun u => wKs u [Ky.ix i]))).map wX).getD _ = _
              show ((((wIn (.row ws) (.ix i)).bind fun u => some u)).map wX).getD _ = _
              show ((((ws[i]?).bind fun u => some u)).map wX).getD _ = _
              rw [hu1']
              rfl
            refine ⟨_, rfl, pa, _, 0, _, rfl, rfl, SqT.of hpa7, atI_nat (j := 0) rfl, rfl, _, rfl, ifF (so_ne (s := "row") (t := "record") (by decide)) ?_⟩
            refine ⟨_, rfl, pa, _, 0, _, rfl, rfl, SqT.of hpa7, atI_nat (j := 0) rfl, rfl, _, rfl, ifT (decide_eq_true rfl) ⟨_, rfl, _, rfl, ul, xs, _, x, rfl, rfl, SqL.of (s7 _ _ hul), atI_nat hxi, ?_⟩⟩
            refine ⟨_, rfl, _, rfl, _, rfl, ea, _, _, .ref et, rfl, rfl, SqT.of (kp s7 hea), rfl, et, _, 1, _, rfl, rfl, SqT.of (kp s7 het), atI_nat (j := 1) rfl, D, _, rfl, DPut.k (k := Sum.inr q0.2) hD7 (by rw [show kvs.length = h.length from Paired.length hP]; exact Nat.lt_of_le_of_lt (show h.length ≤ 1000 by omega) (by decide)), ?_⟩
            refine ⟨_, putH h q0.2 (.at (pV0.push (entK true i q0))), _, _, same_put s7 hD, upd_same, hP.put q0.2 ?_, ?_, ?_, rfl⟩
            · show RX K H (vD _ _ _) x
              rw [hvD]
              exact RV.rx hru
            · rw [hgo, hgo2, if_pos hsome]
            · have := putH_len h q0.2 (.at (pV0.push (entK true i q0)))
              omega
      | false =>
        obtain ⟨ea, et, rfl, hea, het⟩ := ent_f hrd
        cases wv with
        | non => exact hrw.elim
        | int j => exact hrw.elim
        | row ws => exact nomatch (show false = true from hrw)
        | rcd ns ws =>
          obtain ⟨ul, xs, rfl, hul, hnl, hxs⟩ := id hu
          have kv := kz_val (ns := ns) (z := q0.1) hxs
          refine ifF (so_ne (s := "record") (t := "row") (by decide)) ⟨_, rfl, pa, _, 0, _, rfl, rfl, SqT.of hpa7, atI_nat (j := 0) rfl, rfl, _, rfl, ifT (decide_eq_true rfl) ?_⟩
          refine ⟨_, rfl, ea, _, 0, _, rfl, rfl, SqT.of (kp s7 hea), atI_nat (j := 0) rfl, _, rfl, ul, _, rfl, DGet.k (k := Sum.inr q0.1) (s7 _ _ hul), _, rfl, ?_⟩
          cases e : wFd ns ws q0.1 with
          | none =>
            have hno : (wIn (.rcd ns ws) (entK false i q0)).isSome = false := by
              show (wFd ns ws q0.1).isSome = false
              rw [e]
              rfl
            rw [kv.2 e hnl]
            refine iteT ?_
            exact ⟨by show 0 ≤ sizeLine; decide, fun l1 f1 => ⟨by show 1 ≤ sizeLine; decide, fun t1 f2 => ⟨_, rfl, ea, _, 0, _, rfl, rfl, SqT.of ((same_new f1 (.lst [])).trans (same_new f2 (.tup [V.str (Str.ofString "value")])) _ _ (kp s7 hea)), atI_nat (j := 0) rfl, by show 2 ≤ sizeLine; decide, fun m1 f3 => ⟨by show 3 ≤ sizeLine; decide, fun b1 f4 => ⟨by show 2 ≤ sizeLine; decide, fun a1 f5 => fail7 (k := .fd q0.1) hno rfl f1 f2 f3 f4 f5⟩⟩⟩⟩⟩
          | some u1 =>
            obtain ⟨x, hx, hru⟩ := kv.1 u1 e
            have hsome : (wIn (.rcd ns ws) (entK false i q0)).isSome = true := by
              show (wFd ns ws q0.1).isSome = true
              rw [e]
              rfl
            have hvD : vD (.rcd ns ws) [] (.at (pV0.push (entK false i q0))) = wX u1 := by
              show ((((wFd ns ws q0.1).bind fun u => some u)).map wX).getD _ = _
              rw [e]
              rfl
            rw [hx]
            refine iteF ⟨_, rfl, pa, _, 0, _, rfl, rfl, SqT.of hpa7, atI_nat (j := 0) rfl, rfl, _, rfl, ifF (so_ne (s := "record") (t := "row") (by decide)) ?_⟩
            refine ⟨_, rfl, _, rfl, ea, _, 0, _, rfl, rfl, SqT.of (kp s7 hea), atI_nat (j := 0) rfl, ul, x, rfl, by rw [← hx]; exact DGet.k (k := Sum.inr q0.1) (s7 _ _ hul), ?_⟩
            refine ⟨_, rfl, _, rfl, _, rfl, ea, _, _, .ref et, rfl, rfl, SqT.of (kp s7 hea), rfl, et, _, 1, _, rfl, rfl, SqT.of (kp s7 het), atI_nat (j := 1) rfl, D, _, rfl, DPut.k (k := Sum.inr q0.2) hD7 (by rw [show kvs.length = h.length from Paired.length hP]; exact Nat.lt_of_le_of_lt (show h.length ≤ 1000 by omega) (by decide)), ?_⟩
            refine ⟨_, putH h q0.2 (.at (pV0.push (entK false i q0))), _, _, same_put s7 hD, upd_same, hP.put q0.2 ?_, ?_, ?_, rfl⟩
            · show RX K H (vD _ _ _) x
              rw [hvD]
              exact RV.rx hru
            · rw [hgo, hgo2, if_pos hsome]
            · have := putH_len h q0.2 (.at (pV0.push (entK false i q0)))
              omega
    · rintro σ' H6 ⟨kvs, h, v3, v4, s6, hD6, hP, hgo, hhl, rfl⟩
      refine ⟨kvs, h, v3, v4, s6, hD6, hP, ?_, by omega, rfl⟩
      rw [hgo, List.drop_of_length_le (by omega)]
      rfl
  rintro _ H4 ⟨kvs, h, v3, v4, s4, hD4, hP, hgo, hhl, rfl⟩
  have hdeed : deedM row qs r wv = .bound (pairsOf (restH row qs r h)) := by
    unfold deedM
    rw [if_pos hrw, hgo]
  -- the rest of a row
  refine ⟨fun σ' H' => ∃ (kvs : List (Key × V)) (h' : List (Str × Pc)), Same H H' ∧ H' D = some (.dK kvs) ∧ (row = true → PH (RPl K H' wv) kvs h') ∧ (row = false → PH (RPl K H wv) kvs h') ∧ h' = (if row = true then restH row qs r h else h) ∧ h'.length ≤ 21 ∧ σ' = [some (.ref pa), some u, some (.ref D), v3, v4, none, none, none], ?_, ?_⟩
  · have hpa4 := s4 _ _ hpa
    have skip : (if row = true then restH row qs r h else h) = h → ∃ (kvs : List (Key × V)) (h' : List (Str × Pc)), Same H H4 ∧ H4 D = some (.dK kvs) ∧ (row = true → PH (RPl K H4 wv) kvs h') ∧ (row = false → PH (RPl K H wv) kvs h') ∧ h' = (if row = true then restH row qs r h else h) ∧ h'.length ≤ 21 ∧ [some (V.ref pa), some u, some (.ref D), v3, v4, none, none, none] = [some (.ref pa), some u, some (.ref D), v3, v4, none, none, none] :=
      fun e => ⟨kvs, h, s4, hD4, fun _ => hP.mono fun _ _ q => q.same s4, fun _ => hP, e.symm, by omega, rfl⟩
    refine ⟨_, rfl, pa, _, 2, _, rfl, rfl, SqT.of hpa4, atI_nat (j := 2) rfl, rfl, _, rfl, ?_⟩
    cases r with
    | none => exact ifF (by show (!decide (V.non = V.non)) = false; rw [decide_eq_true rfl]; rfl) (skip (by cases row <;> rfl))
    | some z =>
      refine ifT (by show (!decide (V.str z = V.non)) = true; rw [decide_eq_false (fun e => nomatch e)]; rfl) ⟨_, rfl, pa, _, 0, _, rfl, rfl, SqT.of hpa4, atI_nat (j := 0) rfl, rfl, _, rfl, ?_⟩
      cases row with
      | false => exact ifF (so_ne (s := "record") (t := "row") (by decide)) (skip rfl)
      | true =>
        cases wv with
        | non => exact hrw.elim
        | int j => exact hrw.elim
        | rcd ns ws => exact nomatch (show true = false from hrw)
        | row ws =>
          obtain ⟨ul, xs, rfl, hul, hxs⟩ := id hu
          refine ifT (decide_eq_true rfl) ⟨_, rfl, _, rfl, pa, _, 1, _, rfl, rfl, SqT.of hpa4, atI_nat (j := 1) rfl, la, es, rfl, .inl (SqL.of (s4 _ _ hla)), _, rfl, ul, xs, rfl, SqL.of (s4 _ _ hul), fun t ht => ?_⟩
          rw [cut_drop, hel]
          have s5 := same_new ht (.lst (xs.drop qs.length))
          have hD5 := s5 _ _ hD4
          refine ⟨_, rfl, _, rfl, pa, _, 2, _, rfl, rfl, SqT.of (s5 _ _ hpa4), atI_nat (j := 2) rfl, D, _, rfl, DPut.k (k := Sum.inr z) hD5 (by rw [show kvs.length = h.length from Paired.length hP]; exact Nat.lt_of_le_of_lt (show h.length ≤ 1000 by omega) (by decide)), ?_⟩
          have s6 := s4.trans s5
          have ntD : t ≠ D := (ne_of_none hD4 ht).symm
          have s7 := same_put (o := .dK (putK kvs (Sum.inr z) (.ref t))) s6 hD
          have ht7 : (upd (upd H4 t (.lst (xs.drop qs.length))) D (.dK (putK kvs (Sum.inr z) (.ref t)))) t = some (.lst (xs.drop qs.length)) := by
            rw [upd_ne ntD]
            exact upd_same
          refine ⟨_, restH true qs (some z) h, s7, upd_same, fun _ => ?_, (fun e => nomatch e), rfl, ?_, rfl⟩
          · refine (hP.mono fun _ _ q => q.same s7).put z ?_
            have hrx := RXs.same s7 (RXs.drop qs.length (RVs.rx (K := K) hxs))
            show RX K _ (vD (.row ws) [] (if true = true then restRow (.at pV0) qs.length else _)) (.ref t)
            rw [if_pos rfl]
            unfold restRow
            by_cases c : itemsFrom (.at pV0) qs.length = 0
            · rw [if_pos c]
              have c' : qs.length = 0 := c
              have e0 : (wXs ws).drop qs.length = wXs ws := by rw [c']; rfl
              rw [e0] at hrx
              exact ⟨t, _, rfl, ht7, hrx⟩
            · rw [if_neg c]
              exact ⟨t, _, rfl, ht7, hrx⟩
          · have := putH_len h z (restPc true qs)
            show (putH h z (restPc true qs)).length ≤ 21
            omega
  rintro _ H5 ⟨kvs2, h2, s5, hD5, hP2t, hP2, eh2, hhl2, rfl⟩
  -- the rest of a record
  refine ⟨fun σ' H' => ∃ (kvs : List (Key × V)) (h' : List (Str × Pc)) (v5 : Option V), Same H H' ∧ H' D = some (.dK kvs) ∧ PH (RPl K H' wv) kvs h' ∧ h' = restH row qs r h ∧ h'.length ≤ 21 ∧ σ' = [some (.ref pa), some u, some (.ref D), v3, v4, v5, none, none], ?_, ?_⟩
  · have hpa5 := s5 _ _ hpa
    have skip : (if row = true then restH row qs r h else h) = restH row qs r h → ∃ (kvs : List (Key × V)) (h' : List (Str × Pc)) (v5 : Option V), Same H H5 ∧ H5 D = some (.dK kvs) ∧ PH (RPl K H5 wv) kvs h' ∧ h' = restH row qs r h ∧ h'.length ≤ 21 ∧ [some (V.ref pa), some u, some (.ref D), v3, v4, none, none, none] = [some (.ref pa), some u, some (.ref D), v3, v4, v5, none, none] :=
      fun e => ⟨kvs2, h2, none, s5, hD5, by cases row with | true => exact hP2t rfl | false => exact (hP2 rfl).mono fun _ _ q => q.same s5, eh2.trans e, hhl2, rfl⟩
    refine ⟨_, rfl, pa, _, 2, _, rfl, rfl, SqT.of hpa5, atI_nat (j := 2) rfl, rfl, _, rfl, ?_⟩
    cases r with
    | none => exact ifF (by show (!decide (V.non = V.non)) = false; rw [decide_eq_true rfl]; rfl) (skip (by cases row <;> rfl))
    | some z =>
      refine ifT (by show (!decide (V.str z = V.non)) = true; rw [decide_eq_false (fun e => nomatch e)]; rfl) ⟨_, rfl, pa, _, 0, _, rfl, rfl, SqT.of hpa5, atI_nat (j := 0) rfl, rfl, _, rfl, ?_⟩
      cases row with
      | true => exact ifF (so_ne (s := "row") (t := "record") (by decide)) (skip rfl)
      | false =>
        cases wv with
        | non => exact hrw.elim
        | int j => exact hrw.elim
        | row ws => exact nomatch (show false = true from hrw)
        | rcd ns ws =>
          obtain ⟨ul, xs, rfl, hul, hnl, hxs⟩ := id hu
          obtain ⟨nd, _, hn40, _⟩ := id hw
          have eh2' : h2 = h := eh2
          subst eh2'
          refine ifT (decide_eq_true rfl) ?_
          -- its fields
          refine ⟨fun σ' H' => ∃ kl : Addr, Same H5 H' ∧ H' kl = some (.lst ((qs.map (·.1)).map V.str)) ∧ kl ≠ D ∧ σ' = [some (.ref pa), some (.ref ul), some (.ref D), v3, v4, some (.ref kl), none, none], ?_, ?_⟩
          · refine ⟨_, rfl, pa, _, 1, _, rfl, rfl, SqT.of hpa5, atI_nat (j := 1) rfl, la, rfl, ⟨_, SqL.of (s5 _ _ hla)⟩, fun D0 hD0 => ?_⟩
            refine lc_list (K := K) (a := la) (xs := es) (fun i H6 => Same H5 H6 ∧ H6 D0 = some (.lst (((qs.take i).map (·.1)).map V.str))) ⟨same_new hD0 _, upd_same⟩ (fun i H6 _ ⟨z1, _⟩ => SqL.of (z1 _ _ (s5 _ _ hla))) ?_ ?_
            · rintro i x H6 hx ⟨s6, hD6⟩
              obtain ⟨d, hd, hrd⟩ := hes.item hx
              rw [List.getElem?_map, List.getElem?_map] at hd
              obtain ⟨q0, hq0, rfl⟩ : ∃ q0, qs[i]? = some q0 ∧ ent false (flQ q0) = d := by
                cases e : qs[i]? with
                | none =>
                  rw [e] at hd
                  cases hd
                | some q0 =>
                  rw [e] at hd
                  exact ⟨q0, rfl, Option.some.inj hd⟩
              obtain ⟨ea, et, rfl, hea, het⟩ := ent_f hrd
              have et2 : qs.take (i + 1) = qs.take i ++ [q0] := by
                rw [List.take_add_one, hq0]
                rfl
              refine ⟨rfl, ?_⟩
              unfold tYes
              refine iteT ⟨_, rfl, ea, _, 0, _, rfl, rfl, SqT.of (kp (s5.trans s6) hea), atI_nat (j := 0) rfl, _, hD6, ?_, same_put s6 hD0, ?_⟩
              · rw [List.length_map, List.length_map, List.length_take]
                exact Nat.lt_of_le_of_lt (show min i qs.length ≤ 1000 by omega) (by decide)
              · rw [upd_same, et2, List.map_append, List.map_append]
                rfl
            · rintro H6 ⟨s6, hD6⟩
              rw [hel, List.take_length] at hD6
              exact ⟨D0, s6, hD6, fun z1 => (ne_of_none hD5 hD0) z1.symm, rfl⟩
          rintro _ H6 ⟨kl, s6, hkl, nkD, rfl⟩
          have hul6 := s6 _ _ (s5 _ _ hul)
          obtain ⟨us, eu, hus, hul2⟩ := othr_at (zs := qs.map (·.1)) hnl hxs
          refine ⟨ul, _, hul6, trivial, fun od => ⟨_, rfl, ul, od, _, rfl, upd_same, fun D0 hD0 => ?_⟩⟩
          have b7 : ∀ b o, b ≠ ul → H6 b = some o → (upd H6 ul (.frz od (.dK (kz ns xs)))) b = some o := fun b o ne e => by
            rw [upd_ne ne]
            exact e
          have l7 : (upd H6 ul (.frz od (.dK (kz ns xs)))) ul = some (.frz od (.dK (kz ns xs))) := upd_same
          have nku : kl ≠ ul := fun z1 => by
            rw [z1, hul6] at hkl
            cases hkl
          have hkl7 := b7 _ _ nku hkl
          generalize upd H6 ul (.frz od (.dK (kz ns xs))) = H7 at b7 l7 hD0 hkl7 ⊢
          have hxl : ns.length = xs.length := by rw [hxs.len]; exact hnl
          refine lc_it walk_items (fun i H8 => Same H7 H8 ∧ ∃ ps : List Addr, H8 D0 = some (.lst (ps.map V.ref)) ∧ ps.length ≤ i ∧ Paired (fun p kv => SqT K H8 p [kV kv.1, kv.2]) ps (((kz ns xs).take i).filter (keepK (qs.map (·.1)))))
            ⟨same_new hD0 _, [], upd_same, Nat.le_refl _, .nil⟩ (fun i H8 _ ⟨z1, _⟩ => z1 _ _ l7) ?_ ?_
          · rintro i x H8 H9 hi ⟨s8, ps, hD8, hpl, hps⟩ ⟨tA, x1, y1, rfl, htA, rfl, ex, ey⟩
            obtain ⟨⟨k, v9⟩, hk9⟩ : ∃ y, (kz ns xs)[i]? = some y := ⟨_, List.getElem?_eq_getElem hi⟩
            have ex : ((kz ns xs)[i]?).map (fun kv => kV kv.1) = some x1 := ex
            have ey : ((kz ns xs)[i]?).map Prod.snd = some y1 := ey
            rw [hk9] at ex ey
            obtain rfl : kV k = x1 := Option.some.inj ex
            obtain rfl : v9 = y1 := Option.some.inj ey
            obtain ⟨nm, hnm, hxi, rfl⟩ := kz_at hk9
            have hin : i < ns.length := (List.getElem?_eq_some_iff.mp hnm).1
            have et3 : (kz ns xs).take (i + 1) = (kz ns xs).take i ++ [(Sum.inr nm, v9)] := by
              rw [List.take_add_one, hk9]
              rfl
            have s9 := same_new htA (.tup [kV (Sum.inr nm), v9])
            have s79 := s8.trans s9
            have hD9 := s9 _ _ hD8
            have a9 : (upd H8 tA (.tup [kV (Sum.inr nm), v9])) tA = some (.tup [kV (Sum.inr nm), v9]) := upd_same
            have hps9 := Paired.mapP hps fun p kv q => SqT.same q s9
            generalize upd H8 tA (.tup [kV (Sum.inr nm), v9]) = H9 at s9 s79 hD9 a9 hps9 ⊢
            refine ⟨rfl, _, rfl, tA, _, 0, _, rfl, rfl, SqT.of a9, atI_nat (j := 0) rfl, _, rfl, kl, _, rfl, .inl (SqL.of (s79 _ _ hkl7)), rfl, ?_, _, rfl, ?_⟩
            · rw [List.all_map]
              exact List.all_eq_true.mpr fun _ _ => rfl
            by_cases ck : keepK (qs.map (·.1)) (Sum.inr nm, v9) = true
            · refine ifT ck ?_
              have ts : TupSt H9 (upd H9 D0 (.lst (ps.map V.ref ++ [V.ref tA]))) := TupSt.upd hD9 (fun _ z => nomatch z) (fun _ _ z => nomatch z)
              refine ⟨_, rfl, _, hD9, ?_, same_put s79 hD0, ps ++ [tA], ?_, ?_, ?_⟩
              · rw [List.length_map]
                exact Nat.lt_of_le_of_lt (show ps.length ≤ 1000 by omega) (by decide)
              · rw [upd_same, List.map_append]
                rfl
              · rw [List.length_append, List.length_singleton]
                omega
              · rw [et3, List.filter_append, show [((Sum.inr nm : Key), v9)].filter (keepK (qs.map (·.1))) = [(Sum.inr nm, v9)] by simp [ck]]
                exact Paired.snoc (Paired.mapP hps9 fun p kv q => q.st ts) ((SqT.of a9).st ts)
            · refine ifF (Bool.eq_false_iff.mpr ck) ⟨s79, ps, hD9, by omega, ?_⟩
              rw [et3, List.filter_append, show [((Sum.inr nm : Key), v9)].filter (keepK (qs.map (·.1))) = [] by simp [ck], List.append_nil]
              exact hps9
          · rintro H8 ⟨s8, ps, hD8, hpl, hps⟩
            rw [List.take_length, eu] at hps
            refine ⟨s8 _ _ l7, ?_⟩
            have s68 : Same H6 (upd H8 ul (.dK (kz ns xs))) := fun b o e => by
              by_cases c : b = ul
              · subst c
                rw [upd_same]
                exact hul6.symm.trans e
              · rw [upd_ne c]
                exact s8 _ _ (b7 _ _ c e)
            have nDl : D0 ≠ ul := fun z1 => by
              rw [z1, l7] at hD0
              cases hD0
            have l8 := s8 _ _ l7
            have kq8 : Kq (fun b => b = ul) H8 (upd H8 ul (.dK (kz ns xs))) := fun b o e hb => by
              by_cases c : b = ul
              · rw [c, l8] at e
                cases e
                rcases hb with hb | ⟨_, hb⟩ | ⟨_, _, hb⟩
                · exact absurd c hb
                · cases hb
                · injection hb with _ z2
                  cases z2
              · rw [upd_ne c]
                exact e
            have hps2 := Paired.mapP hps fun p kv q => SqT.kq kq8 q
            have hD8' : (upd H8 ul (.dK (kz ns xs))) D0 = some (.lst (ps.map V.ref)) := by
              rw [upd_ne nDl]
              exact hD8
            generalize upd H8 ul (.dK (kz ns xs)) = H9 at s68 hps2 hD8'
            have s9 := s5.trans (s6.trans s68)
            refine ⟨D0, ps, _, rfl, SqL.of hD8', hps2, fun p hp => ?_⟩
            obtain ⟨sb1, sb2⟩ := othr_sub (qs.map (·.1)) ns ws
            rw [merge_kz (sb1.nodup nd) (by rw [hus.len]; exact hul2)]
            have s10 := same_new hp (.dK (kz (othr (qs.map (·.1)) ns ws).1 us))
            have hD10 := s10 _ _ (s68 _ _ (s6 _ _ hD5))
            have hpD : p ≠ D := (ne_of_none (s68 _ _ (s6 _ _ hD5)) hp).symm
            refine ⟨_, rfl, _, rfl, pa, _, 2, _, rfl, rfl, SqT.of ((s9.trans s10) _ _ hpa), atI_nat (j := 2) rfl, D, _, rfl, DPut.k (k := Sum.inr z) hD10 (by rw [show kvs2.length = h2.length from Paired.length (hP2 rfl)]; exact Nat.lt_of_le_of_lt (show h2.length ≤ 1000 by omega) (by decide)), ?_⟩
            have s11 := same_put (o := .dK (putK kvs2 (Sum.inr z) (.ref p))) (s9.trans s10) hD
            have hp11 : (upd (upd H9 p (.dK (kz (othr (qs.map (·.1)) ns ws).1 us))) D (.dK (putK kvs2 (Sum.inr z) (.ref p)))) p = some (.dK (kz (othr (qs.map (·.1)) ns ws).1 us)) := by
              rw [upd_ne hpD]
              exact upd_same
            refine ⟨_, restH false qs (some z) h2, _, s11, upd_same, ?_, rfl, ?_, rfl⟩
            · refine ((hP2 rfl).mono fun _ _ q => q.same s11).put z ?_
              show RX K _ (vD (.rcd ns ws) [] (restPc false qs)) (.ref p)
              rw [vD_rest nd hnl (by omega)]
              exact ⟨p, us, rfl, hp11, by rw [wXs_len]; exact hul2, RXs.same s11 (RVs.rx hus)⟩
            · have := putH_len h2 z (restPc false qs)
              show (putH h2 z (restPc false qs)).length ≤ 21
              omega
  rintro _ H6 ⟨kvs3, h3, v5, s6, hD6, hP3, rfl, hhl3, rfl⟩
  have hkeys := hP3.keys
  generalize hh : restH row qs r h = h3 at hP3 hdeed hhl3 hkeys
  refine ⟨by show 0 ≤ sizeLine; decide, fun l1 f1 => ?_⟩
  have t1 := same_new f1 (.lst [])
  refine ⟨_, rfl, D, kvs3, rfl, .inl (t1 _ _ hD6), fun p1 hp1 => ?_⟩
  rw [hkeys]
  have t2 := same_new hp1 (.lst ((h3.map (·.1)).map V.str))
  refine ⟨p1, h3.map (·.1), rfl, SqL.of upd_same, by rw [List.length_map]; omega, fun ys q hperm hsrt hq => ?_⟩
  have t3 := same_new hq (.lst (ys.map V.str))
  have hys : srtL (h3.map (·.1)) = ys := srtL_is hperm hsrt
  have hyl : ys.length ≤ 21 := by
    rw [hperm.length_eq, List.length_map]
    exact hhl3
  refine ⟨q, rfl, ⟨_, SqL.of upd_same⟩, fun D0 hD0 => ?_⟩
  have t13 := t1.trans (t2.trans t3)
  have hl1 := (t2.trans t3) _ _ (upd_same (H := H6) (a := l1) (o := .lst []))
  have hq7 : (upd (upd (upd H6 l1 (.lst [])) p1 (.lst ((h3.map (·.1)).map V.str))) q (.lst (ys.map V.str))) q = some (.lst (ys.map V.str)) := upd_same
  generalize upd (upd (upd H6 l1 (.lst [])) p1 (.lst ((h3.map (·.1)).map V.str))) q (.lst (ys.map V.str)) = H7 at hq7 t13 hl1 hD0 ⊢
  refine lc_list (K := K) (a := q) (xs := ys.map V.str) (fun i H8 => Same H7 H8 ∧ ∃ ts, H8 D0 = some (.lst ts) ∧ Paired (PrB K H6 H8 wv) ts ((ys.take i).map fun z => (z, (getH h3 z).getD .step))) ⟨same_new hD0 _, [], upd_same, .nil⟩ (fun i H8 _ ⟨h, _⟩ => SqL.of (h _ _ hq7)) ?_ ?_
  · rintro i x H8 hx ⟨s8, ts, hD8, hts⟩
    rw [List.getElem?_map] at hx
    obtain ⟨z, hz, rfl⟩ : ∃ z, ys[i]? = some z ∧ V.str z = x := by
      cases e : ys[i]? with
      | none =>
        rw [e] at hx
        cases hx
      | some z =>
        rw [e] at hx
        exact ⟨z, rfl, Option.some.inj hx⟩
    obtain ⟨pc, hpc⟩ := getH_mem (hperm.mem_iff.mp (List.mem_of_getElem? hz))
    obtain ⟨y, hy, hpy⟩ := hP3.get z pc hpc
    have s68 := t13.trans s8
    have et : ys.take (i + 1) = ys.take i ++ [z] := by
      rw [List.take_add_one, hz]
      rfl
    have hi9 : i < ys.length := (List.getElem?_eq_some_iff.mp hz).1
    have htl : ts.length = i := by
      rw [hts.length, List.length_map, List.length_take]
      omega
    refine ⟨rfl, ?_⟩
    unfold tYes
    refine iteT ⟨_, rfl, _, rfl, _, rfl, D, y, rfl, by rw [← hy]; exact DGet.k (k := Sum.inr z) (s68 _ _ hD6), by show 2 ≤ sizeLine; decide, fun t ht => ?_⟩
    have s9 := same_new ht (.tup [V.str z, y])
    have ntD : t ≠ D0 := (ne_of_none hD8 ht).symm
    have hD9 := s9 _ _ hD8
    have ts9 : TupSt (upd H8 t (.tup [V.str z, y])) (upd (upd H8 t (.tup [V.str z, y])) D0 (.lst (ts ++ [.ref t]))) := TupSt.upd hD9 (fun _ z => nomatch z) (fun _ _ z => nomatch z)
    refine ⟨ts, hD9, Nat.lt_of_le_of_lt (show ts.length ≤ 1000 by omega) (by decide), same_put (s8.trans s9) hD0, _, upd_same, ?_⟩
    rw [et, List.map_append]
    refine Paired.snoc (Paired.mapP hts fun a b ⟨t1, x1, e1, e2, e3⟩ => ⟨t1, x1, e1, (e2.st (TupSt.of s9)).st ts9, e3⟩) ⟨t, y, rfl, SqT.of (by rw [upd_ne ntD]; exact upd_same), ?_⟩
    show RPl K H6 wv y ((getH h3 z).getD .step)
    rw [hpc]
    exact hpy
  · rintro H8 ⟨s8, ts, hD8, hts⟩
    rw [List.length_map, List.take_length] at hts
    refine ⟨by show 2 ≤ sizeLine; decide, fun b hb => ⟨by show 2 ≤ sizeLine; decide, fun a ha => ?_⟩⟩
    have s9 := same_new hb (.tup [V.str (Str.ofString "bound"), V.ref D0])
    have s10 := same_new ha (.tup [V.ref l1, V.ref b])
    have sA := t13.trans (s8.trans (s9.trans s10))
    refine kk _ _ (s6.trans sA) ?_
    rw [hdeed]
    unfold pairsOf
    rw [hys]
    exact rx_tup2 (SqT.of upd_same) ⟨l1, [], rfl, s10 _ _ (s9 _ _ (s8 _ _ hl1)), rfl⟩ (rx_tup2 (SqT.of (s10 _ _ upd_same)) rx_str ⟨D0, ts, rfl, s10 _ _ (s9 _ _ hD8), rxs_pairs (Paired.mapP hts fun t q ⟨t1, x1, e1, e2, e3⟩ => e1 ▸ rx_tup2 (SqT.same e2 (s9.trans s10)) rx_str (e3.same sA))⟩)
end
end K02
set_option Elab.async false
set_option linter.all false
set_option maxRecDepth 100000
set_option maxHeartbeats 4000000
namespace K02
open PySem L2 PyProof.Rows
/-! ### what the classes say, as one word -/
def cdAll (K : PySem.W.Frag) (l : List (Value × Str)) : Bool := l.all fun p => PySem.W.codeIn K p.1 p.2
def kpAll (K : PySem.W.Frag) (l : List Addr) : Bool := l.all fun f => PySem.W.keepIn K (.ref f)
def frAll (K : PySem.W.Frag) (l : List Str) : Bool := l.all fun x => decide (PySem.W.nsIn K mainGlobals x = some none)
theorem cd_of {K : PySem.W.Frag} {l : List (Value × Str)} (h : cdAll K l = true) {i : Nat} {v : Value} {q : Str} (e : l[i]? = some (v, q)) : PySem.W.codeIn K v q = true := List.all_eq_true.mp h _ (List.mem_of_getElem? e)
theorem kp_of {K : PySem.W.Frag} {l : List Addr} (h : kpAll K l = true) {i : Nat} {f : Addr} (e : l[i]? = some f) : PySem.W.keepIn K (.ref f) = true := List.all_eq_true.mp h _ (List.mem_of_getElem? e)
theorem fr_of {K : PySem.W.Frag} {l : List Str} (h : frAll K l = true) {i : Nat} {x : Str} (e : l[i]? = some x) : PySem.W.nsIn K mainGlobals x = some none := of_decide_eq_true (List.all_eq_true.mp h _ (List.mem_of_getElem? e))
def fnAll (K : PySem.W.Frag) (fs : List Addr) : Bool := fs.all fun f => PySem.W.isFn K (.ref f)
def clAll (K : PySem.W.Frag) (Cs : List Addr) : Bool := Cs.all fun C => PySem.W.plainGet K C Str.empty && (PySem.W.hasDictIn K C && (PySem.W.plainOver K C && (decide (PySem.W.findIn K (.ref C) "__setattr__" = some (some (.builtin "object.__setattr__"))) && (PySem.W.makesIn K C && PySem.W.keepIn K (.ref C)))))
def noAll (K : PySem.W.Frag) (C : Addr) (N : List Str) : Bool := N.all fun x => decide (PySem.W.findIn K (.ref C) x = some none)
def prAll (K : PySem.W.Frag) (p : Addr) : Bool := decide (PySem.W.specialIn K (.ref p) "__get__" = some (some (.builtin "property.__get__"))) && decide (PySem.W.takesIn K (.ref p) = some true)
def erOne (K : PySem.W.Frag) (C : Addr) : Bool := decide (PySem.W.findIn K (.ref C) "__setattr__" = some (some (.builtin "object.__setattr__"))) && (decide (PySem.W.subIn K (.ref C) (.type "BaseException") = some true) && (decide (PySem.W.typeIn K (.ref C) = some (.type "type")) &&
  (PySem.W.keepIn K (.ref C) && decide (PySem.W.findIn K (.ref C) "value" = some none))))
def isOne (K : PySem.W.Frag) (C D : Addr) : Bool := decide (PySem.W.findIn K (.ref C) "__class__" = some (some (.builtin "object.__class__"))) && (decide (PySem.W.specialIn K (.builtin "object.__class__") "__get__" = some (some (.builtin "getset_descriptor.__get__"))) &&
  (decide (PySem.W.takesIn K (.builtin "object.__class__") = some true) && (decide (PySem.W.mroIn K C (.type "object") = some true) && decide (PySem.W.kitOne K (.ref C) (.ref D) = some false))))
def bvOne (K : PySem.W.Frag) (g : Addr) : Bool := decide (PySem.W.specialIn K (.ref g) "__get__" = some (some (.builtin "function.__get__"))) && (decide (PySem.W.takesIn K (.ref g) = some false) && PySem.W.fnIn K g)
theorem cl_of {K : PySem.W.Frag} {Cs : List Addr} (h : clAll K Cs = true) {C : Addr} (hC : C ∈ Cs) : Cls K C ∧ PySem.W.makesIn K C = true ∧ PySem.W.keepIn K (.ref C) = true := by
  have z := List.all_eq_true.mp h C hC
  obtain ⟨h1, z⟩ := Bool.and_eq_true_iff.mp z
  obtain ⟨h2, z⟩ := Bool.and_eq_true_iff.mp z
  obtain ⟨h3, z⟩ := Bool.and_eq_true_iff.mp z
  obtain ⟨h4, z⟩ := Bool.and_eq_true_iff.mp z
  obtain ⟨h5, h6⟩ := Bool.and_eq_true_iff.mp z
  exact ⟨⟨h1, h2, h3, of_decide_eq_true h4⟩, h5, h6⟩
theorem no_of {K : PySem.W.Frag} {C : Addr} {N : List Str} (h : noAll K C N = true) : ∀ x ∈ N, NoAttr K C x := fun x hx => show PySem.W.findIn K (.ref C) x = some none from of_decide_eq_true (List.all_eq_true.mp h x hx)
theorem pr_of {K : PySem.W.Frag} {C p g : Addr} {f : Str} {r : List Value} (h : prAll K p = true) (h1 : PySem.W.findIn K (.ref C) f = some (some (.ref p))) (h4 : PySem.W.recIn K p "property" = some (.ref g :: r)) : PropOf K C f p g := by
  obtain ⟨a, b⟩ := Bool.and_eq_true_iff.mp h
  exact ⟨h1, of_decide_eq_true a, of_decide_eq_true b, _, h4⟩
theorem is_of {K : PySem.W.Frag} {C D : Addr} (h : isOne K C D = true) : IsC K C D false := by
  obtain ⟨h1, h⟩ := Bool.and_eq_true_iff.mp h
  obtain ⟨h2, h⟩ := Bool.and_eq_true_iff.mp h
  obtain ⟨h3, h⟩ := Bool.and_eq_true_iff.mp h
  obtain ⟨h4, h5⟩ := Bool.and_eq_true_iff.mp h
  exact ⟨of_decide_eq_true h1, of_decide_eq_true h2, of_decide_eq_true h3, of_decide_eq_true h4, of_decide_eq_true h5⟩
theorem all_mk {l : PySem.W.OpenLaw} {w : World} {K : PySem.W.Frag} {h : Heap} {mg : Str → Option Value} {fa : Addr} (X : K.In h) (G : h.Ns mainGlobals mg) (hfa : mg "law" = some (.ref fa))
    {CP CF CT CG CR CE C0 NE pP pO pL dT dP aK aV bV' aS : Addr} {rP rO rL : List Value} {t8 t9 u0 u1 u2 v0 v1 v2 v3 k0 k1 k2 k3 tV tW tS : Tok} {odK odV odW odS : Option Addr} {slK slV slW slS : Array (Option Value)} {nK nV nW nS : Nat}
    {nmE qE : Str} {bsE subE : List Value} {snE : List Str} {abE : Bool} {colE : Option Bool} {ddE : Option Addr}
    {x0 x1 x2 x3 x5 : Option Value} {f_fresh : Addr} {od_fresh an_fresh : Option Addr} {sl_fresh : Array (Option Value)} {oc_fresh kV_fresh dc_fresh pm_fresh cd_fresh ct_fresh : Value} {f_resp : Addr}
    {od_resp an_resp : Option Addr} {sl_resp : Array (Option Value)} {oc_resp kV_resp dc_resp pm_resp cd_resp ct_resp : Value} {f_knownp : Addr} {od_knownp an_knownp : Option Addr} {sl_knownp : Array (Option Value)}
    {oc_knownp kV_knownp dc_knownp pm_knownp cd_knownp ct_knownp : Value} {f_inpath : Addr} {od_inpath an_inpath : Option Addr} {sl_inpath : Array (Option Value)} {oc_inpath kV_inpath dc_inpath pm_inpath cd_inpath ct_inpath : Value} {f_inplace : Addr}
    {od_inplace an_inplace : Option Addr} {sl_inplace : Array (Option Value)} {oc_inplace kV_inplace dc_inplace pm_inplace cd_inplace ct_inplace : Value} {f_itemsf : Addr} {od_itemsf an_itemsf : Option Addr} {sl_itemsf : Array (Option Value)}
    {oc_itemsf kV_itemsf dc_itemsf pm_itemsf cd_itemsf ct_itemsf : Value} {f_othersw : Addr} {od_othersw an_othersw : Option Addr} {sl_othersw : Array (Option Value)} {oc_othersw kV_othersw dc_othersw pm_othersw cd_othersw ct_othersw : Value} {f_restrow : Addr}
    {od_restrow an_restrow : Option Addr} {sl_restrow : Array (Option Value)} {oc_restrow kV_restrow dc_restrow pm_restrow cd_restrow ct_restrow : Value} {f_restrec : Addr} {od_restrec an_restrec : Option Addr} {sl_restrec : Array (Option Value)}
    {oc_restrec kV_restrec dc_restrec pm_restrec cd_restrec ct_restrec : Value} {f_toldpath : Addr} {od_toldpath an_toldpath : Option Addr} {sl_toldpath : Array (Option Value)} {oc_toldpath kV_toldpath dc_toldpath pm_toldpath cd_toldpath ct_toldpath : Value} {f_toldplace : Addr}
    {od_toldplace an_toldplace : Option Addr} {sl_toldplace : Array (Option Value)} {oc_toldplace kV_toldplace dc_toldplace pm_toldplace cd_toldplace ct_toldplace : Value} {f_with : Addr} {od_with an_with : Option Addr} {sl_with : Array (Option Value)}
    {oc_with kV_with dc_with pm_with cd_with ct_with : Value} {f_ent : Addr} {od_ent an_ent : Option Addr} {sl_ent : Array (Option Value)} {oc_ent kV_ent dc_ent pm_ent cd_ent ct_ent : Value} {f_fil : Addr}
    {od_fil an_fil : Option Addr} {sl_fil : Array (Option Value)} {oc_fil kV_fil dc_fil pm_fil cd_fil ct_fil : Value} {f_ckn : Addr} {od_ckn an_ckn : Option Addr} {sl_ckn : Array (Option Value)}
    {oc_ckn kV_ckn dc_ckn pm_ckn cd_ckn ct_ckn : Value} {f_cko : Addr} {od_cko an_cko : Option Addr} {sl_cko : Array (Option Value)} {oc_cko kV_cko dc_cko pm_cko cd_cko ct_cko : Value} {f_ckt : Addr}
    {od_ckt an_ckt : Option Addr} {sl_ckt : Array (Option Value)} {oc_ckt kV_ckt dc_ckt pm_ckt cd_ckt ct_ckt : Value} {f_ckd : Addr} {od_ckd an_ckd : Option Addr} {sl_ckd : Array (Option Value)}
    {oc_ckd kV_ckd dc_ckd pm_ckd cd_ckd ct_ckd : Value} {f_ckp : Addr} {od_ckp an_ckp : Option Addr} {sl_ckp : Array (Option Value)} {oc_ckp kV_ckp dc_ckp pm_ckp cd_ckp ct_ckp : Value} {f_ckr : Addr}
    {od_ckr an_ckr : Option Addr} {sl_ckr : Array (Option Value)} {oc_ckr kV_ckr dc_ckr pm_ckr cd_ckr ct_ckr : Value} {f_cke : Addr} {od_cke an_cke : Option Addr} {sl_cke : Array (Option Value)}
    {oc_cke kV_cke dc_cke pm_cke cd_cke ct_cke : Value} {f_cku : Addr} {od_cku an_cku : Option Addr} {sl_cku : Array (Option Value)} {oc_cku kV_cku dc_cku pm_cku cd_cku ct_cku : Value} {f_stepsof : Addr}
    {od_stepsof an_stepsof : Option Addr} {sl_stepsof : Array (Option Value)} {oc_stepsof kV_stepsof dc_stepsof pm_stepsof cd_stepsof ct_stepsof : Value} {f_kind : Addr} {od_kind an_kind : Option Addr} {sl_kind : Array (Option Value)}
    {oc_kind kV_kind dc_kind pm_kind cd_kind ct_kind : Value} {f_take : Addr} {od_take an_take : Option Addr} {sl_take : Array (Option Value)} {oc_take kV_take dc_take pm_take cd_take ct_take : Value} {f_purse : Addr}
    {od_purse an_purse : Option Addr} {sl_purse : Array (Option Value)} {oc_purse kV_purse dc_purse pm_purse cd_purse ct_purse : Value} {f_coin : Addr} {od_coin an_coin : Option Addr} {sl_coin : Array (Option Value)}
    {oc_coin kV_coin dc_coin pm_coin cd_coin ct_coin : Value} {f_mark : Addr} {od_mark an_mark : Option Addr} {sl_mark : Array (Option Value)} {oc_mark kV_mark dc_mark pm_mark cd_mark ct_mark : Value} {f_copied : Addr}
    {od_copied an_copied : Option Addr} {sl_copied : Array (Option Value)} {oc_copied kV_copied dc_copied pm_copied cd_copied ct_copied : Value} {f_same : Addr} {od_same an_same : Option Addr} {sl_same : Array (Option Value)}
    {oc_same kV_same dc_same pm_same cd_same ct_same : Value} {f_words : Addr} {od_words an_words : Option Addr} {sl_words : Array (Option Value)} {oc_words kV_words dc_words pm_words cd_words ct_words : Value} {f_made : Addr}
    {od_made an_made : Option Addr} {sl_made : Array (Option Value)} {oc_made kV_made dc_made pm_made cd_made ct_made : Value} {f_flat : Addr} {od_flat an_flat : Option Addr} {sl_flat : Array (Option Value)}
    {oc_flat kV_flat dc_flat pm_flat cd_flat ct_flat : Value} {f_flatv : Addr} {od_flatv an_flatv : Option Addr} {sl_flatv : Array (Option Value)} {oc_flatv kV_flatv dc_flatv pm_flatv cd_flatv ct_flatv : Value} {f_deed : Addr}
    {od_deed an_deed : Option Addr} {sl_deed : Array (Option Value)} {oc_deed kV_deed dc_deed pm_deed cd_deed ct_deed : Value} {f_right : Addr} {od_right an_right : Option Addr} {sl_right : Array (Option Value)}
    {oc_right kV_right dc_right pm_right cd_right ct_right : Value} {f_law : Addr} {od_law an_law : Option Addr} {sl_law : Array (Option Value)} {oc_law kV_law dc_law pm_law cd_law ct_law : Value} {f_init : Addr}
    {od_init an_init : Option Addr} {sl_init : Array (Option Value)} {oc_init kV_init dc_init pm_init cd_init ct_init : Value} {f_gpart : Addr} {od_gpart an_gpart : Option Addr} {sl_gpart : Array (Option Value)}
    {oc_gpart kV_gpart dc_gpart pm_gpart cd_gpart ct_gpart : Value} {f_gord : Addr} {od_gord an_gord : Option Addr} {sl_gord : Array (Option Value)} {oc_gord kV_gord dc_gord pm_gord cd_gord ct_gord : Value} {f_glck : Addr}
    {od_glck an_glck : Option Addr} {sl_glck : Array (Option Value)} {oc_glck kV_glck dc_glck pm_glck cd_glck ct_glck : Value} {f_mwith : Addr} {od_mwith an_mwith : Option Addr} {sl_mwith : Array (Option Value)}
    {oc_mwith kV_mwith dc_mwith pm_mwith cd_mwith ct_mwith : Value} {f_finit : Addr} {od_finit an_finit : Option Addr} {sl_finit : Array (Option Value)} {oc_finit kV_finit dc_finit pm_finit cd_finit ct_finit : Value} {f_isnone : Addr}
    {od_isnone an_isnone : Option Addr} {sl_isnone : Array (Option Value)} {oc_isnone kV_isnone dc_isnone pm_isnone cd_isnone ct_isnone : Value} {f_has : Addr} {od_has an_has : Option Addr} {sl_has : Array (Option Value)}
    {oc_has kV_has dc_has pm_has cd_has ct_has : Value} {f_follows : Addr} {od_follows an_follows : Option Addr} {sl_follows : Array (Option Value)} {oc_follows kV_follows dc_follows pm_follows cd_follows ct_follows : Value} {f_learnhas : Addr}
    {od_learnhas an_learnhas : Option Addr} {sl_learnhas : Array (Option Value)} {oc_learnhas kV_learnhas dc_learnhas pm_learnhas cd_learnhas ct_learnhas : Value} {f_learn : Addr} {od_learn an_learn : Option Addr} {sl_learn : Array (Option Value)}
    {oc_learn kV_learn dc_learn pm_learn cd_learn ct_learn : Value} {f_answers : Addr} {od_answers an_answers : Option Addr} {sl_answers : Array (Option Value)} {oc_answers kV_answers dc_answers pm_answers cd_answers ct_answers : Value} {f_tkinit : Addr}
    {od_tkinit an_tkinit : Option Addr} {sl_tkinit : Array (Option Value)} {oc_tkinit kV_tkinit dc_tkinit pm_tkinit cd_tkinit ct_tkinit : Value} {f_ask : Addr} {od_ask an_ask : Option Addr} {sl_ask : Array (Option Value)}
    {oc_ask kV_ask dc_ask pm_ask cd_ask ct_ask : Value} {f_kindat : Addr} {od_kindat an_kindat : Option Addr} {sl_kindat : Array (Option Value)} {oc_kindat kV_kindat dc_kindat pm_kindat cd_kindat ct_kindat : Value} {f_missing : Addr}
    {od_missing an_missing : Option Addr} {sl_missing : Array (Option Value)} {oc_missing kV_missing dc_missing pm_missing cd_missing ct_missing : Value} {f_pon : Addr} {od_pon an_pon : Option Addr} {sl_pon : Array (Option Value)}
    {oc_pon kV_pon dc_pon pm_pon cd_pon ct_pon : Value} {f_workout : Addr} {od_workout an_workout : Option Addr} {sl_workout : Array (Option Value)} {oc_workout kV_workout dc_workout pm_workout cd_workout ct_workout : Value} {f_takerest : Addr}
    {od_takerest an_takerest : Option Addr} {sl_takerest : Array (Option Value)} {oc_takerest kV_takerest dc_takerest pm_takerest cd_takerest ct_takerest : Value} {f_wanted : Addr} {od_wanted an_wanted : Option Addr} {sl_wanted : Array (Option Value)}
    {oc_wanted kV_wanted dc_wanted pm_wanted cd_wanted ct_wanted : Value} {f_entry : Addr} {od_entry an_entry : Option Addr} {sl_entry : Array (Option Value)} {oc_entry kV_entry dc_entry pm_entry cd_entry ct_entry : Value} {f_entries : Addr}
    {od_entries an_entries : Option Addr} {sl_entries : Array (Option Value)} {oc_entries kV_entries dc_entries pm_entries cd_entries ct_entries : Value} {f_takepart : Addr} {od_takepart an_takepart : Option Addr} {sl_takepart : Array (Option Value)}
    {oc_takepart kV_takepart dc_takepart pm_takepart cd_takepart ct_takepart : Value} {f_setname : Addr} {od_setname an_setname : Option Addr} {sl_setname : Array (Option Value)} {oc_setname kV_setname dc_setname pm_setname cd_setname ct_setname : Value} {f_trycases : Addr}
    {od_trycases an_trycases : Option Addr} {sl_trycases : Array (Option Value)} {oc_trycases kV_trycases dc_trycases pm_trycases cd_trycases ct_trycases : Value} {f_dostep : Addr} {od_dostep an_dostep : Option Addr} {sl_dostep : Array (Option Value)}
    {oc_dostep kV_dostep dc_dostep pm_dostep cd_dostep ct_dostep : Value} {f_run : Addr} {od_run an_run : Option Addr} {sl_run : Array (Option Value)} {oc_run kV_run dc_run pm_run cd_run ct_run : Value} {f_sofar : Addr}
    {od_sofar an_sofar : Option Addr} {sl_sofar : Array (Option Value)} {oc_sofar kV_sofar dc_sofar pm_sofar cd_sofar ct_sofar : Value} {f_outcome : Addr} {od_outcome an_outcome : Option Addr} {sl_outcome : Array (Option Value)}
    {oc_outcome kV_outcome dc_outcome pm_outcome cd_outcome ct_outcome : Value} {f_ginit : Addr} {od_ginit an_ginit : Option Addr} {sl_ginit : Array (Option Value)} {oc_ginit kV_ginit dc_ginit pm_ginit cd_ginit ct_ginit : Value} {f_gfound : Addr}
    {od_gfound an_gfound : Option Addr} {sl_gfound : Array (Option Value)} {oc_gfound kV_gfound dc_gfound pm_gfound cd_gfound ct_gfound : Value} {f_ganswer : Addr} {od_ganswer an_ganswer : Option Addr} {sl_ganswer : Array (Option Value)}
    {oc_ganswer kV_ganswer dc_ganswer pm_ganswer cd_ganswer ct_ganswer : Value} {f_gnote : Addr} {od_gnote an_gnote : Option Addr} {sl_gnote : Array (Option Value)} {oc_gnote kV_gnote dc_gnote pm_gnote cd_gnote ct_gnote : Value} {f_gvalue : Addr}
    {od_gvalue an_gvalue : Option Addr} {sl_gvalue : Array (Option Value)} {oc_gvalue kV_gvalue dc_gvalue pm_gvalue cd_gvalue ct_gvalue : Value} {f_tinit : Addr} {od_tinit an_tinit : Option Addr} {sl_tinit : Array (Option Value)}
    {oc_tinit kV_tinit dc_tinit pm_tinit cd_tinit ct_tinit : Value}
    (a_fresh : PySem.W.nsIn K mainGlobals "fresh" = some (some (.ref f_fresh)))
    (l_fresh : K.lookup f_fresh = some ⟨oc_fresh, od_fresh, .func (PySem.W.fnOf "fresh" "fresh" (defArgs sFresh) (defBody sFresh) (defScope sFresh) .none kV_fresh dc_fresh pm_fresh an_fresh cd_fresh ct_fresh), sl_fresh⟩)
    (a_resp : PySem.W.nsIn K mainGlobals "result_place" = some (some (.ref f_resp)))
    (l_resp : K.lookup f_resp = some ⟨oc_resp, od_resp, .func (PySem.W.fnOf "result_place" "result_place" (defArgs sResP) (defBody sResP) (defScope sResP) .none kV_resp dc_resp pm_resp an_resp cd_resp ct_resp), sl_resp⟩)
    (a_knownp : PySem.W.nsIn K mainGlobals "known_place" = some (some (.ref f_knownp)))
    (l_knownp : K.lookup f_knownp = some ⟨oc_knownp, od_knownp, .func (PySem.W.fnOf "known_place" "known_place" (defArgs sKnownP) (defBody sKnownP) (defScope sKnownP) .none kV_knownp dc_knownp pm_knownp an_knownp cd_knownp ct_knownp), sl_knownp⟩)
    (a_inpath : PySem.W.nsIn K mainGlobals "inner_path" = some (some (.ref f_inpath)))
    (l_inpath : K.lookup f_inpath = some ⟨oc_inpath, od_inpath, .func (PySem.W.fnOf "inner_path" "inner_path" (defArgs sInPath) (defBody sInPath) (defScope sInPath) .none kV_inpath dc_inpath pm_inpath an_inpath cd_inpath ct_inpath), sl_inpath⟩)
    (a_inplace : PySem.W.nsIn K mainGlobals "inner_place" = some (some (.ref f_inplace)))
    (l_inplace : K.lookup f_inplace = some ⟨oc_inplace, od_inplace, .func (PySem.W.fnOf "inner_place" "inner_place" (defArgs sInPlace) (defBody sInPlace) (defScope sInPlace) .none kV_inplace dc_inplace pm_inplace an_inplace cd_inplace ct_inplace), sl_inplace⟩)
    (a_itemsf : PySem.W.nsIn K mainGlobals "items_from" = some (some (.ref f_itemsf)))
    (l_itemsf : K.lookup f_itemsf = some ⟨oc_itemsf, od_itemsf, .func (PySem.W.fnOf "items_from" "items_from" (defArgs sItemsF) (defBody sItemsF) (defScope sItemsF) .none kV_itemsf dc_itemsf pm_itemsf an_itemsf cd_itemsf ct_itemsf), sl_itemsf⟩)
    (a_othersw : PySem.W.nsIn K mainGlobals "others_without" = some (some (.ref f_othersw)))
    (l_othersw : K.lookup f_othersw = some ⟨oc_othersw, od_othersw, .func (PySem.W.fnOf "others_without" "others_without" (defArgs sOthersW) (defBody sOthersW) (defScope sOthersW) .none kV_othersw dc_othersw pm_othersw an_othersw cd_othersw ct_othersw), sl_othersw⟩)
    (a_restrow : PySem.W.nsIn K mainGlobals "rest_of_row" = some (some (.ref f_restrow)))
    (l_restrow : K.lookup f_restrow = some ⟨oc_restrow, od_restrow, .func (PySem.W.fnOf "rest_of_row" "rest_of_row" (defArgs sRestRow) (defBody sRestRow) (defScope sRestRow) .none kV_restrow dc_restrow pm_restrow an_restrow cd_restrow ct_restrow), sl_restrow⟩)
    (a_restrec : PySem.W.nsIn K mainGlobals "rest_of_record" = some (some (.ref f_restrec)))
    (l_restrec : K.lookup f_restrec = some ⟨oc_restrec, od_restrec, .func (PySem.W.fnOf "rest_of_record" "rest_of_record" (defArgs sRestRec) (defBody sRestRec) (defScope sRestRec) .none kV_restrec dc_restrec pm_restrec an_restrec cd_restrec ct_restrec), sl_restrec⟩)
    (a_toldpath : PySem.W.nsIn K mainGlobals "told_path" = some (some (.ref f_toldpath)))
    (l_toldpath : K.lookup f_toldpath = some ⟨oc_toldpath, od_toldpath, .func (PySem.W.fnOf "told_path" "told_path" (defArgs sToldPath) (defBody sToldPath) (defScope sToldPath) .none kV_toldpath dc_toldpath pm_toldpath an_toldpath cd_toldpath ct_toldpath), sl_toldpath⟩)
    (a_toldplace : PySem.W.nsIn K mainGlobals "told_place" = some (some (.ref f_toldplace)))
    (l_toldplace : K.lookup f_toldplace = some ⟨oc_toldplace, od_toldplace, .func (PySem.W.fnOf "told_place" "told_place" (defArgs sToldPlace) (defBody sToldPlace) (defScope sToldPlace) .none kV_toldplace dc_toldplace pm_toldplace an_toldplace cd_toldplace ct_toldplace), sl_toldplace⟩)
    (a_with : PySem.W.nsIn K mainGlobals "with_each_place" = some (some (.ref f_with)))
    (l_with : K.lookup f_with = some ⟨oc_with, od_with, .func (PySem.W.fnOf "with_each_place" "with_each_place" (defArgs sWithEach) (defBody sWithEach) (defScope sWithEach) .none kV_with dc_with pm_with an_with cd_with ct_with), sl_with⟩)
    (a_ent : PySem.W.nsIn K mainGlobals "entries_of" = some (some (.ref f_ent)))
    (l_ent : K.lookup f_ent = some ⟨oc_ent, od_ent, .func (PySem.W.fnOf "entries_of" "entries_of" (defArgs sEntries) (defBody sEntries) (defScope sEntries) .none kV_ent dc_ent pm_ent an_ent cd_ent ct_ent), sl_ent⟩)
    (a_fil : PySem.W.nsIn K mainGlobals "is_filled" = some (some (.ref f_fil)))
    (l_fil : K.lookup f_fil = some ⟨oc_fil, od_fil, .func (PySem.W.fnOf "is_filled" "is_filled" (defArgs sFilled) (defBody sFilled) (defScope sFilled) .none kV_fil dc_fil pm_fil an_fil cd_fil ct_fil), sl_fil⟩)
    (a_ckn : PySem.W.nsIn K mainGlobals "check_name" = some (some (.ref f_ckn)))
    (l_ckn : K.lookup f_ckn = some ⟨oc_ckn, od_ckn, .func (PySem.W.fnOf "check_name" "check_name" (defArgs sCkName) (defBody sCkName) (defScope sCkName) .none kV_ckn dc_ckn pm_ckn an_ckn cd_ckn ct_ckn), sl_ckn⟩)
    (a_cko : PySem.W.nsIn K mainGlobals "check_optional_name" = some (some (.ref f_cko)))
    (l_cko : K.lookup f_cko = some ⟨oc_cko, od_cko, .func (PySem.W.fnOf "check_optional_name" "check_optional_name" (defArgs sCkOpt) (defBody sCkOpt) (defScope sCkOpt) .none kV_cko dc_cko pm_cko an_cko cd_cko ct_cko), sl_cko⟩)
    (a_ckt : PySem.W.nsIn K mainGlobals "check_term" = some (some (.ref f_ckt)))
    (l_ckt : K.lookup f_ckt = some ⟨oc_ckt, od_ckt, .func (PySem.W.fnOf "check_term" "check_term" (defArgs sCkTerm) (defBody sCkTerm) (defScope sCkTerm) .none kV_ckt dc_ckt pm_ckt an_ckt cd_ckt ct_ckt), sl_ckt⟩)
    (a_ckd : PySem.W.nsIn K mainGlobals "check_default" = some (some (.ref f_ckd)))
    (l_ckd : K.lookup f_ckd = some ⟨oc_ckd, od_ckd, .func (PySem.W.fnOf "check_default" "check_default" (defArgs sCkDef) (defBody sCkDef) (defScope sCkDef) .none kV_ckd dc_ckd pm_ckd an_ckd cd_ckd ct_ckd), sl_ckd⟩)
    (a_ckp : PySem.W.nsIn K mainGlobals "check_part" = some (some (.ref f_ckp)))
    (l_ckp : K.lookup f_ckp = some ⟨oc_ckp, od_ckp, .func (PySem.W.fnOf "check_part" "check_part" (defArgs sCkPart) (defBody sCkPart) (defScope sCkPart) .none kV_ckp dc_ckp pm_ckp an_ckp cd_ckp ct_ckp), sl_ckp⟩)
    (a_ckr : PySem.W.nsIn K mainGlobals "check_row" = some (some (.ref f_ckr)))
    (l_ckr : K.lookup f_ckr = some ⟨oc_ckr, od_ckr, .func (PySem.W.fnOf "check_row" "check_row" (defArgs sCkRow) (defBody sCkRow) (defScope sCkRow) .none kV_ckr dc_ckr pm_ckr an_ckr cd_ckr ct_ckr), sl_ckr⟩)
    (a_cke : PySem.W.nsIn K mainGlobals "check_record" = some (some (.ref f_cke)))
    (l_cke : K.lookup f_cke = some ⟨oc_cke, od_cke, .func (PySem.W.fnOf "check_record" "check_record" (defArgs sCkRec) (defBody sCkRec) (defScope sCkRec) .none kV_cke dc_cke pm_cke an_cke cd_cke ct_cke), sl_cke⟩)
    (a_cku : PySem.W.nsIn K mainGlobals "check_rules" = some (some (.ref f_cku)))
    (l_cku : K.lookup f_cku = some ⟨oc_cku, od_cku, .func (PySem.W.fnOf "check_rules" "check_rules" (defArgs sCkRules) (defBody sCkRules) (defScope sCkRules) .none kV_cku dc_cku pm_cku an_cku cd_cku ct_cku), sl_cku⟩)
    (a_stepsof : PySem.W.nsIn K mainGlobals "steps_of" = some (some (.ref f_stepsof)))
    (l_stepsof : K.lookup f_stepsof = some ⟨oc_stepsof, od_stepsof, .func (PySem.W.fnOf "steps_of" "steps_of" (defArgs sStepsOf) (defBody sStepsOf) (defScope sStepsOf) .none kV_stepsof dc_stepsof pm_stepsof an_stepsof cd_stepsof ct_stepsof), sl_stepsof⟩)
    (a_kind : PySem.W.nsIn K mainGlobals "kind_of" = some (some (.ref f_kind)))
    (l_kind : K.lookup f_kind = some ⟨oc_kind, od_kind, .func (PySem.W.fnOf "kind_of" "kind_of" (defArgs sKindOf) (defBody sKindOf) (defScope sKindOf) .none kV_kind dc_kind pm_kind an_kind cd_kind ct_kind), sl_kind⟩)
    (a_take : PySem.W.nsIn K mainGlobals "take" = some (some (.ref f_take)))
    (l_take : K.lookup f_take = some ⟨oc_take, od_take, .func (PySem.W.fnOf "take" "take" (defArgs sTake) (defBody sTake) (defScope sTake) .none kV_take dc_take pm_take an_take cd_take ct_take), sl_take⟩)
    (a_purse : PySem.W.nsIn K mainGlobals "_law_purse" = some (some (.ref f_purse)))
    (l_purse : K.lookup f_purse = some ⟨oc_purse, od_purse, .func (PySem.W.fnOf "_law_purse" "_law_purse" (defArgs sPurse) (defBody sPurse) (defScope sPurse) .none kV_purse dc_purse pm_purse an_purse cd_purse ct_purse), sl_purse⟩)
    (a_coin : PySem.W.nsIn K mainGlobals "_law_coin" = some (some (.ref f_coin)))
    (l_coin : K.lookup f_coin = some ⟨oc_coin, od_coin, .func (PySem.W.fnOf "_law_coin" "_law_coin" (defArgs sCoin) (defBody sCoin) (defScope sCoin) .none kV_coin dc_coin pm_coin an_coin cd_coin ct_coin), sl_coin⟩)
    (a_mark : PySem.W.nsIn K mainGlobals "_law_ta_mark" = some (some (.ref f_mark)))
    (l_mark : K.lookup f_mark = some ⟨oc_mark, od_mark, .func (PySem.W.fnOf "_law_ta_mark" "_law_ta_mark" (defArgs sMark) (defBody sMark) (defScope sMark) .none kV_mark dc_mark pm_mark an_mark cd_mark ct_mark), sl_mark⟩)
    (a_copied : PySem.W.nsIn K mainGlobals "_law_ta_copy" = some (some (.ref f_copied)))
    (l_copied : K.lookup f_copied = some ⟨oc_copied, od_copied, .func (PySem.W.fnOf "_law_ta_copy" "_law_ta_copy" (defArgs sCopied) (defBody sCopied) (defScope sCopied) .none kV_copied dc_copied pm_copied an_copied cd_copied ct_copied), sl_copied⟩)
    (a_same : PySem.W.nsIn K mainGlobals "_law_ta_same" = some (some (.ref f_same)))
    (l_same : K.lookup f_same = some ⟨oc_same, od_same, .func (PySem.W.fnOf "_law_ta_same" "_law_ta_same" (defArgs sSame) (defBody sSame) (defScope sSame) .none kV_same dc_same pm_same an_same cd_same ct_same), sl_same⟩)
    (a_words : PySem.W.nsIn K mainGlobals "_law_tk_words" = some (some (.ref f_words)))
    (l_words : K.lookup f_words = some ⟨oc_words, od_words, .func (PySem.W.fnOf "_law_tk_words" "_law_tk_words" (defArgs sWords) (defBody sWords) (defScope sWords) .none kV_words dc_words pm_words an_words cd_words ct_words), sl_words⟩)
    (a_made : PySem.W.nsIn K mainGlobals "_law_tk_made" = some (some (.ref f_made)))
    (l_made : K.lookup f_made = some ⟨oc_made, od_made, .func (PySem.W.fnOf "_law_tk_made" "_law_tk_made" (defArgs sMade) (defBody sMade) (defScope sMade) .none kV_made dc_made pm_made an_made cd_made ct_made), sl_made⟩)
    (a_flat : PySem.W.nsIn K mainGlobals "_law_ta_flat" = some (some (.ref f_flat)))
    (l_flat : K.lookup f_flat = some ⟨oc_flat, od_flat, .func (PySem.W.fnOf "_law_ta_flat" "_law_ta_flat" (defArgs sFlat) (defBody sFlat) (defScope sFlat) .none kV_flat dc_flat pm_flat an_flat cd_flat ct_flat), sl_flat⟩)
    (a_flatv : PySem.W.nsIn K mainGlobals "_law_ta_flat_value" = some (some (.ref f_flatv)))
    (l_flatv : K.lookup f_flatv = some ⟨oc_flatv, od_flatv, .func (PySem.W.fnOf "_law_ta_flat_value" "_law_ta_flat_value" (defArgs sFlatV) (defBody sFlatV) (defScope sFlatV) .none kV_flatv dc_flatv pm_flatv an_flatv cd_flatv ct_flatv), sl_flatv⟩)
    (a_deed : PySem.W.nsIn K mainGlobals "_law_ta_flat_deed" = some (some (.ref f_deed)))
    (l_deed : K.lookup f_deed = some ⟨oc_deed, od_deed, .func (PySem.W.fnOf "_law_ta_flat_deed" "_law_ta_flat_deed" (defArgs sDeed) (defBody sDeed) (defScope sDeed) .none kV_deed dc_deed pm_deed an_deed cd_deed ct_deed), sl_deed⟩)
    (a_right : PySem.W.nsIn K mainGlobals "_law_right" = some (some (.ref f_right)))
    (l_right : K.lookup f_right = some ⟨oc_right, od_right, .func (PySem.W.fnOf "_law_right" "_law_right" (defArgs sRight) (defBody sRight) (defScope sRight) .none kV_right dc_right pm_right an_right cd_right ct_right), sl_right⟩)
    (a_law : PySem.W.nsIn K mainGlobals "law" = some (some (.ref f_law)))
    (l_law : K.lookup f_law = some ⟨oc_law, od_law, .func (PySem.W.fnOf "law" "law" (defArgs sLaw) (defBody sLaw) (defScope sLaw) .none kV_law dc_law pm_law an_law cd_law ct_law), sl_law⟩)
    (aCP : PySem.W.nsIn K mainGlobals "Pattern" = some (some (.ref CP)))
    (aCF : PySem.W.nsIn K mainGlobals "Facts" = some (some (.ref CF)))
    (aCT : PySem.W.nsIn K mainGlobals "Taking" = some (some (.ref CT)))
    (aCG : PySem.W.nsIn K mainGlobals "Given" = some (some (.ref CG)))
    (aCR : PySem.W.nsIn K mainGlobals "Program" = some (some (.ref CR)))
    (aCE : PySem.W.nsIn K mainGlobals "TakeEnded" = some (some (.ref CE)))
    (xCE : K.lookup CE = some (excClassObj nmE qE CE NE bsE [.ref C0, .type "ValueError", .type "Exception", .type "BaseException", .type "object"] true snE subE abE colE ddE x0 x1 x2 x3 x5 "ValueError.__new__"))
    (iCE : PySem.W.findIn K (.ref CE) "__init__" = some (some (.ref f_tinit)))
    (tI : PySem.W.typeIn K (.ref f_tinit) = some (.type "function"))
    (mkCP : PySem.W.findIn K (.ref CP) "__init__" = some (some (.ref f_init)))
    (mkCF : PySem.W.findIn K (.ref CF) "__init__" = some (some (.ref f_finit)))
    (mkCT : PySem.W.findIn K (.ref CT) "__init__" = some (some (.ref f_tkinit)))
    (mkCG : PySem.W.findIn K (.ref CG) "__init__" = some (some (.ref f_ginit)))
    (w_mwith : PySem.W.findIn K (.ref CP) "with_order" = some (some (.ref f_mwith)))
    (w_isnone : PySem.W.findIn K (.ref CF) "_is_none" = some (some (.ref f_isnone)))
    (w_has : PySem.W.findIn K (.ref CF) "_has" = some (some (.ref f_has)))
    (w_follows : PySem.W.findIn K (.ref CF) "follows" = some (some (.ref f_follows)))
    (w_learnhas : PySem.W.findIn K (.ref CF) "_learn_has" = some (some (.ref f_learnhas)))
    (w_learn : PySem.W.findIn K (.ref CF) "learn" = some (some (.ref f_learn)))
    (w_answers : PySem.W.findIn K (.ref CF) "answers" = some (some (.ref f_answers)))
    (w_ask : PySem.W.findIn K (.ref CT) "ask" = some (some (.ref f_ask)))
    (w_kindat : PySem.W.findIn K (.ref CT) "kind_at" = some (some (.ref f_kindat)))
    (w_missing : PySem.W.findIn K (.ref CT) "is_missing" = some (some (.ref f_missing)))
    (w_pon : PySem.W.findIn K (.ref CT) "place_of_name" = some (some (.ref f_pon)))
    (w_workout : PySem.W.findIn K (.ref CT) "work_out" = some (some (.ref f_workout)))
    (w_takerest : PySem.W.findIn K (.ref CT) "take_rest" = some (some (.ref f_takerest)))
    (w_wanted : PySem.W.findIn K (.ref CT) "take_wanted" = some (some (.ref f_wanted)))
    (w_entry : PySem.W.findIn K (.ref CT) "take_entry" = some (some (.ref f_entry)))
    (w_entries : PySem.W.findIn K (.ref CT) "take_entries" = some (some (.ref f_entries)))
    (w_takepart : PySem.W.findIn K (.ref CT) "take_part" = some (some (.ref f_takepart)))
    (w_setname : PySem.W.findIn K (.ref CT) "set_name" = some (some (.ref f_setname)))
    (w_trycases : PySem.W.findIn K (.ref CT) "try_cases" = some (some (.ref f_trycases)))
    (w_dostep : PySem.W.findIn K (.ref CT) "do_step" = some (some (.ref f_dostep)))
    (w_run : PySem.W.findIn K (.ref CT) "run" = some (some (.ref f_run)))
    (w_sofar : PySem.W.findIn K (.ref CT) "so_far" = some (some (.ref f_sofar)))
    (w_outcome : PySem.W.findIn K (.ref CT) "outcome" = some (some (.ref f_outcome)))
    (w_gfound : PySem.W.findIn K (.ref CG) "found_at" = some (some (.ref f_gfound)))
    (w_ganswer : PySem.W.findIn K (.ref CG) "answer" = some (some (.ref f_ganswer)))
    (w_gnote : PySem.W.findIn K (.ref CG) "note_call" = some (some (.ref f_gnote)))
    (w_gvalue : PySem.W.findIn K (.ref CG) "value_at" = some (some (.ref f_gvalue)))
    (p1_gpart : PySem.W.findIn K (.ref CP) "part" = some (some (.ref pP)))
    (p4_gpart : PySem.W.recIn K pP "property" = some (.ref f_gpart :: rP))
    (p1_gord : PySem.W.findIn K (.ref CP) "order" = some (some (.ref pO)))
    (p4_gord : PySem.W.recIn K pO "property" = some (.ref f_gord :: rO))
    (p1_glck : PySem.W.findIn K (.ref CP) "lacks" = some (some (.ref pL)))
    (p4_glck : PySem.W.recIn K pL "property" = some (.ref f_glck :: rL))
    (l_init : K.lookup f_init = some ⟨oc_init, od_init, .func (PySem.W.fnOf "__init__" "Pattern.__init__" (defArgs sInit) (defBody sInit) (defScope sInit) .none kV_init dc_init pm_init an_init cd_init ct_init), sl_init⟩)
    (l_gpart : K.lookup f_gpart = some ⟨oc_gpart, od_gpart, .func (PySem.W.fnOf "part" "Pattern.part" (defArgs sGPart) (defBody sGPart) (defScope sGPart) .none kV_gpart dc_gpart pm_gpart an_gpart cd_gpart ct_gpart), sl_gpart⟩)
    (l_gord : K.lookup f_gord = some ⟨oc_gord, od_gord, .func (PySem.W.fnOf "order" "Pattern.order" (defArgs sGOrd) (defBody sGOrd) (defScope sGOrd) .none kV_gord dc_gord pm_gord an_gord cd_gord ct_gord), sl_gord⟩)
    (l_glck : K.lookup f_glck = some ⟨oc_glck, od_glck, .func (PySem.W.fnOf "lacks" "Pattern.lacks" (defArgs sGLck) (defBody sGLck) (defScope sGLck) .none kV_glck dc_glck pm_glck an_glck cd_glck ct_glck), sl_glck⟩)
    (l_mwith : K.lookup f_mwith = some ⟨oc_mwith, od_mwith, .func (PySem.W.fnOf "with_order" "Pattern.with_order" (defArgs sMWith) (defBody sMWith) (defScope sMWith) .none kV_mwith dc_mwith pm_mwith an_mwith cd_mwith ct_mwith), sl_mwith⟩)
    (l_finit : K.lookup f_finit = some ⟨oc_finit, od_finit, .func (PySem.W.fnOf "__init__" "Facts.__init__" (defArgs sFInit) (defBody sFInit) (defScope sFInit) .none kV_finit dc_finit pm_finit an_finit cd_finit ct_finit), sl_finit⟩)
    (l_isnone : K.lookup f_isnone = some ⟨oc_isnone, od_isnone, .func (PySem.W.fnOf "_is_none" "Facts._is_none" (defArgs sIsNone) (defBody sIsNone) (defScope sIsNone) .none kV_isnone dc_isnone pm_isnone an_isnone cd_isnone ct_isnone), sl_isnone⟩)
    (l_has : K.lookup f_has = some ⟨oc_has, od_has, .func (PySem.W.fnOf "_has" "Facts._has" (defArgs sHas) (defBody sHas) (defScope sHas) .none kV_has dc_has pm_has an_has cd_has ct_has), sl_has⟩)
    (l_follows : K.lookup f_follows = some ⟨oc_follows, od_follows, .func (PySem.W.fnOf "follows" "Facts.follows" (defArgs sFollows) (defBody sFollows) (defScope sFollows) .none kV_follows dc_follows pm_follows an_follows cd_follows ct_follows), sl_follows⟩)
    (l_learnhas : K.lookup f_learnhas = some ⟨oc_learnhas, od_learnhas, .func (PySem.W.fnOf "_learn_has" "Facts._learn_has" (defArgs sLearnHas) (defBody sLearnHas) (defScope sLearnHas) .none kV_learnhas dc_learnhas pm_learnhas an_learnhas cd_learnhas ct_learnhas), sl_learnhas⟩)
    (l_learn : K.lookup f_learn = some ⟨oc_learn, od_learn, .func (PySem.W.fnOf "learn" "Facts.learn" (defArgs sLearn) (defBody sLearn) (defScope sLearn) .none kV_learn dc_learn pm_learn an_learn cd_learn ct_learn), sl_learn⟩)
    (l_answers : K.lookup f_answers = some ⟨oc_answers, od_answers, .func (PySem.W.fnOf "answers" "Facts.answers" (defArgs sAnswers) (defBody sAnswers) (defScope sAnswers) .none kV_answers dc_answers pm_answers an_answers cd_answers ct_answers), sl_answers⟩)
    (l_tkinit : K.lookup f_tkinit = some ⟨oc_tkinit, od_tkinit, .func (PySem.W.fnOf "__init__" "Taking.__init__" (defArgs sTkInit) (defBody sTkInit) (defScope sTkInit) .none kV_tkinit dc_tkinit pm_tkinit an_tkinit cd_tkinit ct_tkinit), sl_tkinit⟩)
    (l_ask : K.lookup f_ask = some ⟨oc_ask, od_ask, .func (PySem.W.fnOf "ask" "Taking.ask" (defArgs sAsk) (defBody sAsk) (defScope sAsk) .none kV_ask dc_ask pm_ask an_ask cd_ask ct_ask), sl_ask⟩)
    (l_kindat : K.lookup f_kindat = some ⟨oc_kindat, od_kindat, .func (PySem.W.fnOf "kind_at" "Taking.kind_at" (defArgs sKindAt) (defBody sKindAt) (defScope sKindAt) .none kV_kindat dc_kindat pm_kindat an_kindat cd_kindat ct_kindat), sl_kindat⟩)
    (l_missing : K.lookup f_missing = some ⟨oc_missing, od_missing, .func (PySem.W.fnOf "is_missing" "Taking.is_missing" (defArgs sIsMissing) (defBody sIsMissing) (defScope sIsMissing) .none kV_missing dc_missing pm_missing an_missing cd_missing ct_missing), sl_missing⟩)
    (l_pon : K.lookup f_pon = some ⟨oc_pon, od_pon, .func (PySem.W.fnOf "place_of_name" "Taking.place_of_name" (defArgs sPlaceOfName) (defBody sPlaceOfName) (defScope sPlaceOfName) .none kV_pon dc_pon pm_pon an_pon cd_pon ct_pon), sl_pon⟩)
    (l_workout : K.lookup f_workout = some ⟨oc_workout, od_workout, .func (PySem.W.fnOf "work_out" "Taking.work_out" (defArgs sWorkOut) (defBody sWorkOut) (defScope sWorkOut) .none kV_workout dc_workout pm_workout an_workout cd_workout ct_workout), sl_workout⟩)
    (l_takerest : K.lookup f_takerest = some ⟨oc_takerest, od_takerest, .func (PySem.W.fnOf "take_rest" "Taking.take_rest" (defArgs sTakeRest) (defBody sTakeRest) (defScope sTakeRest) .none kV_takerest dc_takerest pm_takerest an_takerest cd_takerest ct_takerest), sl_takerest⟩)
    (l_wanted : K.lookup f_wanted = some ⟨oc_wanted, od_wanted, .func (PySem.W.fnOf "take_wanted" "Taking.take_wanted" (defArgs sTakeWanted) (defBody sTakeWanted) (defScope sTakeWanted) .none kV_wanted dc_wanted pm_wanted an_wanted cd_wanted ct_wanted), sl_wanted⟩)
    (l_entry : K.lookup f_entry = some ⟨oc_entry, od_entry, .func (PySem.W.fnOf "take_entry" "Taking.take_entry" (defArgs sTakeEntry) (defBody sTakeEntry) (defScope sTakeEntry) .none kV_entry dc_entry pm_entry an_entry cd_entry ct_entry), sl_entry⟩)
    (l_entries : K.lookup f_entries = some ⟨oc_entries, od_entries, .func (PySem.W.fnOf "take_entries" "Taking.take_entries" (defArgs sTakeEntries) (defBody sTakeEntries) (defScope sTakeEntries) .none kV_entries dc_entries pm_entries an_entries cd_entries ct_entries), sl_entries⟩)
    (l_takepart : K.lookup f_takepart = some ⟨oc_takepart, od_takepart, .func (PySem.W.fnOf "take_part" "Taking.take_part" (defArgs sTakePart) (defBody sTakePart) (defScope sTakePart) .none kV_takepart dc_takepart pm_takepart an_takepart cd_takepart ct_takepart), sl_takepart⟩)
    (l_setname : K.lookup f_setname = some ⟨oc_setname, od_setname, .func (PySem.W.fnOf "set_name" "Taking.set_name" (defArgs sSetName) (defBody sSetName) (defScope sSetName) .none kV_setname dc_setname pm_setname an_setname cd_setname ct_setname), sl_setname⟩)
    (l_trycases : K.lookup f_trycases = some ⟨oc_trycases, od_trycases, .func (PySem.W.fnOf "try_cases" "Taking.try_cases" (defArgs sTryCases) (defBody sTryCases) (defScope sTryCases) .none kV_trycases dc_trycases pm_trycases an_trycases cd_trycases ct_trycases), sl_trycases⟩)
    (l_dostep : K.lookup f_dostep = some ⟨oc_dostep, od_dostep, .func (PySem.W.fnOf "do_step" "Taking.do_step" (defArgs sDoStep) (defBody sDoStep) (defScope sDoStep) .none kV_dostep dc_dostep pm_dostep an_dostep cd_dostep ct_dostep), sl_dostep⟩)
    (l_run : K.lookup f_run = some ⟨oc_run, od_run, .func (PySem.W.fnOf "run" "Taking.run" (defArgs sRun) (defBody sRun) (defScope sRun) .none kV_run dc_run pm_run an_run cd_run ct_run), sl_run⟩)
    (l_sofar : K.lookup f_sofar = some ⟨oc_sofar, od_sofar, .func (PySem.W.fnOf "so_far" "Taking.so_far" (defArgs sSoFar) (defBody sSoFar) (defScope sSoFar) .none kV_sofar dc_sofar pm_sofar an_sofar cd_sofar ct_sofar), sl_sofar⟩)
    (l_outcome : K.lookup f_outcome = some ⟨oc_outcome, od_outcome, .func (PySem.W.fnOf "outcome" "Taking.outcome" (defArgs sOutcome) (defBody sOutcome) (defScope sOutcome) .none kV_outcome dc_outcome pm_outcome an_outcome cd_outcome ct_outcome), sl_outcome⟩)
    (l_ginit : K.lookup f_ginit = some ⟨oc_ginit, od_ginit, .func (PySem.W.fnOf "__init__" "Given.__init__" (defArgs sGInit) (defBody sGInit) (defScope sGInit) .none kV_ginit dc_ginit pm_ginit an_ginit cd_ginit ct_ginit), sl_ginit⟩)
    (l_gfound : K.lookup f_gfound = some ⟨oc_gfound, od_gfound, .func (PySem.W.fnOf "found_at" "Given.found_at" (defArgs sGFound) (defBody sGFound) (defScope sGFound) .none kV_gfound dc_gfound pm_gfound an_gfound cd_gfound ct_gfound), sl_gfound⟩)
    (l_ganswer : K.lookup f_ganswer = some ⟨oc_ganswer, od_ganswer, .func (PySem.W.fnOf "answer" "Given.answer" (defArgs sGAnswer) (defBody sGAnswer) (defScope sGAnswer) .none kV_ganswer dc_ganswer pm_ganswer an_ganswer cd_ganswer ct_ganswer), sl_ganswer⟩)
    (l_gnote : K.lookup f_gnote = some ⟨oc_gnote, od_gnote, .func (PySem.W.fnOf "note_call" "Given.note_call" (defArgs sGNote) (defBody sGNote) (defScope sGNote) .none kV_gnote dc_gnote pm_gnote an_gnote cd_gnote ct_gnote), sl_gnote⟩)
    (l_gvalue : K.lookup f_gvalue = some ⟨oc_gvalue, od_gvalue, .func (PySem.W.fnOf "value_at" "Given.value_at" (defArgs sGValue) (defBody sGValue) (defScope sGValue) .none kV_gvalue dc_gvalue pm_gvalue an_gvalue cd_gvalue ct_gvalue), sl_gvalue⟩)
    (l_tinit : K.lookup f_tinit = some ⟨oc_tinit, od_tinit, .func (PySem.W.fnOf "__init__" "TakeError.__init__" (defArgs sTInit) (defBody sTInit) (defScope sTInit) .none kV_tinit dc_tinit pm_tinit an_tinit cd_tinit ct_tinit), sl_tinit⟩)
    (aT : PySem.W.nsIn K mainGlobals "TERM_SIZES" = some (some (.ref dT)))
    (aP : PySem.W.nsIn K mainGlobals "PART_SIZES" = some (some (.ref dP)))
    (aN : PySem.W.nsIn K mainGlobals "LONGEST_NAME" = some (some (.int 8 t8)))
    (aL : PySem.W.nsIn K mainGlobals "LETTERS" = some (some (.str LT t9)))
    (aKi : PySem.W.nsIn K mainGlobals "KINDS" = some (some (.ref aK)))
    (aVa : PySem.W.nsIn K mainGlobals "VALUE" = some (some (.ref aV)))
    (aSt : PySem.W.nsIn K mainGlobals "STEP" = some (some (.ref aS)))
    (lK : K.lookup aK = some ⟨.type "tuple", odK, .seq #[.str (Str.ofString "integer") k0, .str (Str.ofString "none") k1, .str (Str.ofString "record") k2, .str (Str.ofString "row") k3] nK, slK⟩)
    (lV : K.lookup aV = some ⟨.type "tuple", odV, .seq #[.str (Str.ofString "at") tV, .ref bV'] nV, slV⟩)
    (lW : K.lookup bV' = some ⟨.type "tuple", odW, .seq #[.str (Str.ofString "value") tW] nW, slW⟩)
    (lS : K.lookup aS = some ⟨.type "tuple", odS, .seq #[.str (Str.ofString "step") tS] nS, slS⟩)
    (kT : He.dicW K dT = some (He.keysIn w.params ["read", "number", "call"]))
    (kP : He.dicW K dP = some (He.keysIn w.params ["name", "any", "row", "record"]))
    (eT0 : PySem.W.nsIn K dT "read" = some (some (.int 2 u0)))
    (eT1 : PySem.W.nsIn K dT "number" = some (some (.int 2 u1)))
    (eT2 : PySem.W.nsIn K dT "call" = some (some (.int 3 u2)))
    (eP0 : PySem.W.nsIn K dP "name" = some (some (.int 2 v0)))
    (eP1 : PySem.W.nsIn K dP "any" = some (some (.int 1 v1)))
    (eP2 : PySem.W.nsIn K dP "row" = some (some (.int 3 v2)))
    (eP3 : PySem.W.nsIn K dP "record" = some (some (.int 3 v3)))
    (pkQ : cdAll K [(cd_fresh, ("fresh" : Str)), (cd_resp, ("result_place" : Str)), (cd_knownp, ("known_place" : Str)), (cd_inpath, ("inner_path" : Str)), (cd_inplace, ("inner_place" : Str)), (cd_itemsf, ("items_from" : Str)), (cd_othersw, ("others_without" : Str)), (cd_restrow, ("rest_of_row" : Str)), (cd_restrec, ("rest_of_record" : Str)), (cd_toldpath, ("told_path" : Str)), (cd_toldplace, ("told_place" : Str)), (cd_with, ("with_each_place" : Str)), (cd_ent, ("entries_of" : Str)), (cd_fil, ("is_filled" : Str)), (cd_ckn, ("check_name" : Str)), (cd_cko, ("check_optional_name" : Str)), (cd_ckt, ("check_term" : Str)), (cd_ckd, ("check_default" : Str)), (cd_ckp, ("check_part" : Str)), (cd_ckr, ("check_row" : Str)), (cd_cke, ("check_record" : Str)), (cd_cku, ("check_rules" : Str)), (cd_stepsof, ("steps_of" : Str)), (cd_kind, ("kind_of" : Str)), (cd_take, ("take" : Str)), (cd_purse, ("_law_purse" : Str)), (cd_coin, ("_law_coin" : Str)), (cd_mark, ("_law_ta_mark" : Str)), (cd_copied, ("_law_ta_copy" : Str)), (cd_same, ("_law_ta_same" : Str)), (cd_words, ("_law_tk_words" : Str)), (cd_made, ("_law_tk_made" : Str)), (cd_flat, ("_law_ta_flat" : Str)), (cd_flatv, ("_law_ta_flat_value" : Str)), (cd_deed, ("_law_ta_flat_deed" : Str)), (cd_right, ("_law_right" : Str)), (cd_law, ("law" : Str)), (cd_init, ("Pattern.__init__" : Str)), (cd_gpart, ("Pattern.part" : Str)), (cd_gord, ("Pattern.order" : Str)), (cd_glck, ("Pattern.lacks" : Str)), (cd_mwith, ("Pattern.with_order" : Str)), (cd_finit, ("Facts.__init__" : Str)), (cd_isnone, ("Facts._is_none" : Str)), (cd_has, ("Facts._has" : Str)), (cd_follows, ("Facts.follows" : Str)), (cd_learnhas, ("Facts._learn_has" : Str)), (cd_learn, ("Facts.learn" : Str)), (cd_answers, ("Facts.answers" : Str)), (cd_tkinit, ("Taking.__init__" : Str)), (cd_ask, ("Taking.ask" : Str)), (cd_kindat, ("Taking.kind_at" : Str)), (cd_missing, ("Taking.is_missing" : Str)), (cd_pon, ("Taking.place_of_name" : Str)), (cd_workout, ("Taking.work_out" : Str)), (cd_takerest, ("Taking.take_rest" : Str)), (cd_wanted, ("Taking.take_wanted" : Str)), (cd_entry, ("Taking.take_entry" : Str)), (cd_entries, ("Taking.take_entries" : Str)), (cd_takepart, ("Taking.take_part" : Str)), (cd_setname, ("Taking.set_name" : Str)), (cd_trycases, ("Taking.try_cases" : Str)), (cd_dostep, ("Taking.do_step" : Str)), (cd_run, ("Taking.run" : Str)), (cd_sofar, ("Taking.so_far" : Str)), (cd_outcome, ("Taking.outcome" : Str)), (cd_ginit, ("Given.__init__" : Str)), (cd_gfound, ("Given.found_at" : Str)), (cd_ganswer, ("Given.answer" : Str)), (cd_gnote, ("Given.note_call" : Str)), (cd_gvalue, ("Given.value_at" : Str)), (cd_tinit, ("TakeError.__init__" : Str))] = true)
    (pkK : kpAll K [f_fresh, f_resp, f_knownp, f_inpath, f_inplace, f_itemsf, f_othersw, f_restrow, f_restrec, f_toldpath, f_toldplace, f_with, f_ent, f_fil, f_ckn, f_cko, f_ckt, f_ckd, f_ckp, f_ckr, f_cke, f_cku, f_stepsof, f_kind, f_take, f_purse, f_coin, f_mark, f_copied, f_same, f_words, f_made, f_flat, f_flatv, f_deed, f_right, f_law, f_init, f_gpart, f_gord, f_glck, f_mwith, f_finit, f_isnone, f_has, f_follows, f_learnhas, f_learn, f_answers, f_tkinit, f_ask, f_kindat, f_missing, f_pon, f_workout, f_takerest, f_wanted, f_entry, f_entries, f_takepart, f_setname, f_trycases, f_dostep, f_run, f_sofar, f_outcome, f_ginit, f_gfound, f_ganswer, f_gnote, f_gvalue, f_tinit] = true)
    (pkZ : frAll K [("len" : Str), ("max" : Str), ("min" : Str), ("abs" : Str), ("int" : Str), ("range" : Str), ("set" : Str), ("list" : Str), ("tuple" : Str), ("all" : Str), ("repr" : Str), ("isinstance" : Str), ("dict" : Str), ("bool" : Str), ("str" : Str), ("enumerate" : Str), ("sorted" : Str)] = true)
    (pkM : fnAll K [f_init, f_mwith, f_finit, f_isnone, f_has, f_follows, f_learnhas, f_learn, f_answers, f_tkinit, f_ask, f_kindat, f_missing, f_pon, f_workout, f_takerest, f_wanted, f_entry, f_entries, f_takepart, f_setname, f_trycases, f_dostep, f_run, f_sofar, f_outcome, f_ginit, f_gfound, f_ganswer, f_gnote, f_gvalue] = true)
    (pkC : clAll K [CP, CF, CT, CG] = true)
    (pkN : (noAll K CP ["_part", "_order", "_lacks"] && (noAll K CF K02.fN && (noAll K CT tN && noAll K CG gN))) = true)
    (pkO : (prAll K pP && (prAll K pO && prAll K pL)) = true)
    (pkE : erOne K CE = true)
    (pkI : isOne K CP CR = true)
    (pkV : bvOne K f_gvalue = true)
    : ∃ fd : FuncData, (∀ (s : Shared) (v : Value), BindsTo s fd ⟨[v], []⟩ [("script", v)]) ∧ ∀ base : Heap, K.In base → base.Ns mainGlobals mg → FnOk l.prog w K mg base CX0 47 fa fd ["script"] (spLaw K) := by
  have e := hfa.symm.trans (PySem.W.mg_of X G a_law)
  cases e
  have m_fresh := PySem.W.mg_of X G a_fresh
  have m_resp := PySem.W.mg_of X G a_resp
  have m_knownp := PySem.W.mg_of X G a_knownp
  have m_inpath := PySem.W.mg_of X G a_inpath
  have m_inplace := PySem.W.mg_of X G a_inplace
  have m_itemsf := PySem.W.mg_of X G a_itemsf
  have m_othersw := PySem.W.mg_of X G a_othersw
  have m_restrow := PySem.W.mg_of X G a_restrow
  have m_restrec := PySem.W.mg_of X G a_restrec
  have m_toldpath := PySem.W.mg_of X G a_toldpath
  have m_toldplace := PySem.W.mg_of X G a_toldplace
  have m_with := PySem.W.mg_of X G a_with
  have m_ent := PySem.W.mg_of X G a_ent
  have m_fil := PySem.W.mg_of X G a_fil
  have m_ckn := PySem.W.mg_of X G a_ckn
  have m_cko := PySem.W.mg_of X G a_cko
  have m_ckt := PySem.W.mg_of X G a_ckt
  have m_ckd := PySem.W.mg_of X G a_ckd
  have m_ckp := PySem.W.mg_of X G a_ckp
  have m_ckr := PySem.W.mg_of X G a_ckr
  have m_cke := PySem.W.mg_of X G a_cke
  have m_cku := PySem.W.mg_of X G a_cku
  have m_stepsof := PySem.W.mg_of X G a_stepsof
  have m_kind := PySem.W.mg_of X G a_kind
  have m_take := PySem.W.mg_of X G a_take
  have m_purse := PySem.W.mg_of X G a_purse
  have m_coin := PySem.W.mg_of X G a_coin
  have m_mark := PySem.W.mg_of X G a_mark
  have m_copied := PySem.W.mg_of X G a_copied
  have m_same := PySem.W.mg_of X G a_same
  have m_words := PySem.W.mg_of X G a_words
  have m_made := PySem.W.mg_of X G a_made
  have m_flat := PySem.W.mg_of X G a_flat
  have m_flatv := PySem.W.mg_of X G a_flatv
  have m_deed := PySem.W.mg_of X G a_deed
  have m_right := PySem.W.mg_of X G a_right
  have m_law := PySem.W.mg_of X G a_law
  have y_len := PySem.W.mg_none_of X G (fr_of pkZ (i := 0) (x := "len") rfl)
  have y_max := PySem.W.mg_none_of X G (fr_of pkZ (i := 1) (x := "max") rfl)
  have y_min := PySem.W.mg_none_of X G (fr_of pkZ (i := 2) (x := "min") rfl)
  have y_abs := PySem.W.mg_none_of X G (fr_of pkZ (i := 3) (x := "abs") rfl)
  have y_int := PySem.W.mg_none_of X G (fr_of pkZ (i := 4) (x := "int") rfl)
  have y_range := PySem.W.mg_none_of X G (fr_of pkZ (i := 5) (x := "range") rfl)
  have y_set := PySem.W.mg_none_of X G (fr_of pkZ (i := 6) (x := "set") rfl)
  have y_list := PySem.W.mg_none_of X G (fr_of pkZ (i := 7) (x := "list") rfl)
  have y_tuple := PySem.W.mg_none_of X G (fr_of pkZ (i := 8) (x := "tuple") rfl)
  have y_all := PySem.W.mg_none_of X G (fr_of pkZ (i := 9) (x := "all") rfl)
  have y_repr := PySem.W.mg_none_of X G (fr_of pkZ (i := 10) (x := "repr") rfl)
  have y_isinstance := PySem.W.mg_none_of X G (fr_of pkZ (i := 11) (x := "isinstance") rfl)
  have y_dict := PySem.W.mg_none_of X G (fr_of pkZ (i := 12) (x := "dict") rfl)
  have y_bool := PySem.W.mg_none_of X G (fr_of pkZ (i := 13) (x := "bool") rfl)
  have y_str := PySem.W.mg_none_of X G (fr_of pkZ (i := 14) (x := "str") rfl)
  have y_enumerate := PySem.W.mg_none_of X G (fr_of pkZ (i := 15) (x := "enumerate") rfl)
  have y_sorted := PySem.W.mg_none_of X G (fr_of pkZ (i := 16) (x := "sorted") rfl)
  have c_fresh := cd_of pkQ (i := 0) (v := cd_fresh) (q := "fresh") rfl
  have k_fresh := kp_of pkK (i := 0) (f := f_fresh) rfl
  have c_resp := cd_of pkQ (i := 1) (v := cd_resp) (q := "result_place") rfl
  have k_resp := kp_of pkK (i := 1) (f := f_resp) rfl
  have c_knownp := cd_of pkQ (i := 2) (v := cd_knownp) (q := "known_place") rfl
  have k_knownp := kp_of pkK (i := 2) (f := f_knownp) rfl
  have c_inpath := cd_of pkQ (i := 3) (v := cd_inpath) (q := "inner_path") rfl
  have k_inpath := kp_of pkK (i := 3) (f := f_inpath) rfl
  have c_inplace := cd_of pkQ (i := 4) (v := cd_inplace) (q := "inner_place") rfl
  have k_inplace := kp_of pkK (i := 4) (f := f_inplace) rfl
  have c_itemsf := cd_of pkQ (i := 5) (v := cd_itemsf) (q := "items_from") rfl
  have k_itemsf := kp_of pkK (i := 5) (f := f_itemsf) rfl
  have c_othersw := cd_of pkQ (i := 6) (v := cd_othersw) (q := "others_without") rfl
  have k_othersw := kp_of pkK (i := 6) (f := f_othersw) rfl
  have c_restrow := cd_of pkQ (i := 7) (v := cd_restrow) (q := "rest_of_row") rfl
  have k_restrow := kp_of pkK (i := 7) (f := f_restrow) rfl
  have c_restrec := cd_of pkQ (i := 8) (v := cd_restrec) (q := "rest_of_record") rfl
  have k_restrec := kp_of pkK (i := 8) (f := f_restrec) rfl
  have c_toldpath := cd_of pkQ (i := 9) (v := cd_toldpath) (q := "told_path") rfl
  have k_toldpath := kp_of pkK (i := 9) (f := f_toldpath) rfl
  have c_toldplace := cd_of pkQ (i := 10) (v := cd_toldplace) (q := "told_place") rfl
  have k_toldplace := kp_of pkK (i := 10) (f := f_toldplace) rfl
  have c_with := cd_of pkQ (i := 11) (v := cd_with) (q := "with_each_place") rfl
  have k_with := kp_of pkK (i := 11) (f := f_with) rfl
  have c_ent := cd_of pkQ (i := 12) (v := cd_ent) (q := "entries_of") rfl
  have k_ent := kp_of pkK (i := 12) (f := f_ent) rfl
  have c_fil := cd_of pkQ (i := 13) (v := cd_fil) (q := "is_filled") rfl
  have k_fil := kp_of pkK (i := 13) (f := f_fil) rfl
  have c_ckn := cd_of pkQ (i := 14) (v := cd_ckn) (q := "check_name") rfl
  have k_ckn := kp_of pkK (i := 14) (f := f_ckn) rfl
  have c_cko := cd_of pkQ (i := 15) (v := cd_cko) (q := "check_optional_name") rfl
  have k_cko := kp_of pkK (i := 15) (f := f_cko) rfl
  have c_ckt := cd_of pkQ (i := 16) (v := cd_ckt) (q := "check_term") rfl
  have k_ckt := kp_of pkK (i := 16) (f := f_ckt) rfl
  have c_ckd := cd_of pkQ (i := 17) (v := cd_ckd) (q := "check_default") rfl
  have k_ckd := kp_of pkK (i := 17) (f := f_ckd) rfl
  have c_ckp := cd_of pkQ (i := 18) (v := cd_ckp) (q := "check_part") rfl
  have k_ckp := kp_of pkK (i := 18) (f := f_ckp) rfl
  have c_ckr := cd_of pkQ (i := 19) (v := cd_ckr) (q := "check_row") rfl
  have k_ckr := kp_of pkK (i := 19) (f := f_ckr) rfl
  have c_cke := cd_of pkQ (i := 20) (v := cd_cke) (q := "check_record") rfl
  have k_cke := kp_of pkK (i := 20) (f := f_cke) rfl
  have c_cku := cd_of pkQ (i := 21) (v := cd_cku) (q := "check_rules") rfl
  have k_cku := kp_of pkK (i := 21) (f := f_cku) rfl
  have c_stepsof := cd_of pkQ (i := 22) (v := cd_stepsof) (q := "steps_of") rfl
  have k_stepsof := kp_of pkK (i := 22) (f := f_stepsof) rfl
  have c_kind := cd_of pkQ (i := 23) (v := cd_kind) (q := "kind_of") rfl
  have k_kind := kp_of pkK (i := 23) (f := f_kind) rfl
  have c_take := cd_of pkQ (i := 24) (v := cd_take) (q := "take") rfl
  have k_take := kp_of pkK (i := 24) (f := f_take) rfl
  have c_purse := cd_of pkQ (i := 25) (v := cd_purse) (q := "_law_purse") rfl
  have k_purse := kp_of pkK (i := 25) (f := f_purse) rfl
  have c_coin := cd_of pkQ (i := 26) (v := cd_coin) (q := "_law_coin") rfl
  have k_coin := kp_of pkK (i := 26) (f := f_coin) rfl
  have c_mark := cd_of pkQ (i := 27) (v := cd_mark) (q := "_law_ta_mark") rfl
  have k_mark := kp_of pkK (i := 27) (f := f_mark) rfl
  have c_copied := cd_of pkQ (i := 28) (v := cd_copied) (q := "_law_ta_copy") rfl
  have k_copied := kp_of pkK (i := 28) (f := f_copied) rfl
  have c_same := cd_of pkQ (i := 29) (v := cd_same) (q := "_law_ta_same") rfl
  have k_same := kp_of pkK (i := 29) (f := f_same) rfl
  have c_words := cd_of pkQ (i := 30) (v := cd_words) (q := "_law_tk_words") rfl
  have k_words := kp_of pkK (i := 30) (f := f_words) rfl
  have c_made := cd_of pkQ (i := 31) (v := cd_made) (q := "_law_tk_made") rfl
  have k_made := kp_of pkK (i := 31) (f := f_made) rfl
  have c_flat := cd_of pkQ (i := 32) (v := cd_flat) (q := "_law_ta_flat") rfl
  have k_flat := kp_of pkK (i := 32) (f := f_flat) rfl
  have c_flatv := cd_of pkQ (i := 33) (v := cd_flatv) (q := "_law_ta_flat_value") rfl
  have k_flatv := kp_of pkK (i := 33) (f := f_flatv) rfl
  have c_deed := cd_of pkQ (i := 34) (v := cd_deed) (q := "_law_ta_flat_deed") rfl
  have k_deed := kp_of pkK (i := 34) (f := f_deed) rfl
  have c_right := cd_of pkQ (i := 35) (v := cd_right) (q := "_law_right") rfl
  have k_right := kp_of pkK (i := 35) (f := f_right) rfl
  have c_law := cd_of pkQ (i := 36) (v := cd_law) (q := "law") rfl
  have k_law := kp_of pkK (i := 36) (f := fa) rfl
  have c_init := cd_of pkQ (i := 37) (v := cd_init) (q := "Pattern.__init__") rfl
  have k_init := kp_of pkK (i := 37) (f := f_init) rfl
  have c_gpart := cd_of pkQ (i := 38) (v := cd_gpart) (q := "Pattern.part") rfl
  have k_gpart := kp_of pkK (i := 38) (f := f_gpart) rfl
  have c_gord := cd_of pkQ (i := 39) (v := cd_gord) (q := "Pattern.order") rfl
  have k_gord := kp_of pkK (i := 39) (f := f_gord) rfl
  have c_glck := cd_of pkQ (i := 40) (v := cd_glck) (q := "Pattern.lacks") rfl
  have k_glck := kp_of pkK (i := 40) (f := f_glck) rfl
  have c_mwith := cd_of pkQ (i := 41) (v := cd_mwith) (q := "Pattern.with_order") rfl
  have k_mwith := kp_of pkK (i := 41) (f := f_mwith) rfl
  have c_finit := cd_of pkQ (i := 42) (v := cd_finit) (q := "Facts.__init__") rfl
  have k_finit := kp_of pkK (i := 42) (f := f_finit) rfl
  have c_isnone := cd_of pkQ (i := 43) (v := cd_isnone) (q := "Facts._is_none") rfl
  have k_isnone := kp_of pkK (i := 43) (f := f_isnone) rfl
  have c_has := cd_of pkQ (i := 44) (v := cd_has) (q := "Facts._has") rfl
  have k_has := kp_of pkK (i := 44) (f := f_has) rfl
  have c_follows := cd_of pkQ (i := 45) (v := cd_follows) (q := "Facts.follows") rfl
  have k_follows := kp_of pkK (i := 45) (f := f_follows) rfl
  have c_learnhas := cd_of pkQ (i := 46) (v := cd_learnhas) (q := "Facts._learn_has") rfl
  have k_learnhas := kp_of pkK (i := 46) (f := f_learnhas) rfl
  have c_learn := cd_of pkQ (i := 47) (v := cd_learn) (q := "Facts.learn") rfl
  have k_learn := kp_of pkK (i := 47) (f := f_learn) rfl
  have c_answers := cd_of pkQ (i := 48) (v := cd_answers) (q := "Facts.answers") rfl
  have k_answers := kp_of pkK (i := 48) (f := f_answers) rfl
  have c_tkinit := cd_of pkQ (i := 49) (v := cd_tkinit) (q := "Taking.__init__") rfl
  have k_tkinit := kp_of pkK (i := 49) (f := f_tkinit) rfl
  have c_ask := cd_of pkQ (i := 50) (v := cd_ask) (q := "Taking.ask") rfl
  have k_ask := kp_of pkK (i := 50) (f := f_ask) rfl
  have c_kindat := cd_of pkQ (i := 51) (v := cd_kindat) (q := "Taking.kind_at") rfl
  have k_kindat := kp_of pkK (i := 51) (f := f_kindat) rfl
  have c_missing := cd_of pkQ (i := 52) (v := cd_missing) (q := "Taking.is_missing") rfl
  have k_missing := kp_of pkK (i := 52) (f := f_missing) rfl
  have c_pon := cd_of pkQ (i := 53) (v := cd_pon) (q := "Taking.place_of_name") rfl
  have k_pon := kp_of pkK (i := 53) (f := f_pon) rfl
  have c_workout := cd_of pkQ (i := 54) (v := cd_workout) (q := "Taking.work_out") rfl
  have k_workout := kp_of pkK (i := 54) (f := f_workout) rfl
  have c_takerest := cd_of pkQ (i := 55) (v := cd_takerest) (q := "Taking.take_rest") rfl
  have k_takerest := kp_of pkK (i := 55) (f := f_takerest) rfl
  have c_wanted := cd_of pkQ (i := 56) (v := cd_wanted) (q := "Taking.take_wanted") rfl
  have k_wanted := kp_of pkK (i := 56) (f := f_wanted) rfl
  have c_entry := cd_of pkQ (i := 57) (v := cd_entry) (q := "Taking.take_entry") rfl
  have k_entry := kp_of pkK (i := 57) (f := f_entry) rfl
  have c_entries := cd_of pkQ (i := 58) (v := cd_entries) (q := "Taking.take_entries") rfl
  have k_entries := kp_of pkK (i := 58) (f := f_entries) rfl
  have c_takepart := cd_of pkQ (i := 59) (v := cd_takepart) (q := "Taking.take_part") rfl
  have k_takepart := kp_of pkK (i := 59) (f := f_takepart) rfl
  have c_setname := cd_of pkQ (i := 60) (v := cd_setname) (q := "Taking.set_name") rfl
  have k_setname := kp_of pkK (i := 60) (f := f_setname) rfl
  have c_trycases := cd_of pkQ (i := 61) (v := cd_trycases) (q := "Taking.try_cases") rfl
  have k_trycases := kp_of pkK (i := 61) (f := f_trycases) rfl
  have c_dostep := cd_of pkQ (i := 62) (v := cd_dostep) (q := "Taking.do_step") rfl
  have k_dostep := kp_of pkK (i := 62) (f := f_dostep) rfl
  have c_run := cd_of pkQ (i := 63) (v := cd_run) (q := "Taking.run") rfl
  have k_run := kp_of pkK (i := 63) (f := f_run) rfl
  have c_sofar := cd_of pkQ (i := 64) (v := cd_sofar) (q := "Taking.so_far") rfl
  have k_sofar := kp_of pkK (i := 64) (f := f_sofar) rfl
  have c_outcome := cd_of pkQ (i := 65) (v := cd_outcome) (q := "Taking.outcome") rfl
  have k_outcome := kp_of pkK (i := 65) (f := f_outcome) rfl
  have c_ginit := cd_of pkQ (i := 66) (v := cd_ginit) (q := "Given.__init__") rfl
  have k_ginit := kp_of pkK (i := 66) (f := f_ginit) rfl
  have c_gfound := cd_of pkQ (i := 67) (v := cd_gfound) (q := "Given.found_at") rfl
  have k_gfound := kp_of pkK (i := 67) (f := f_gfound) rfl
  have c_ganswer := cd_of pkQ (i := 68) (v := cd_ganswer) (q := "Given.answer") rfl
  have k_ganswer := kp_of pkK (i := 68) (f := f_ganswer) rfl
  have c_gnote := cd_of pkQ (i := 69) (v := cd_gnote) (q := "Given.note_call") rfl
  have k_gnote := kp_of pkK (i := 69) (f := f_gnote) rfl
  have c_gvalue := cd_of pkQ (i := 70) (v := cd_gvalue) (q := "Given.value_at") rfl
  have k_gvalue := kp_of pkK (i := 70) (f := f_gvalue) rfl
  have c_tinit := cd_of pkQ (i := 71) (v := cd_tinit) (q := "TakeError.__init__") rfl
  have k_tinit := kp_of pkK (i := 71) (f := f_tinit) rfl
  have T : Txt K mg := ⟨y_len, y_max, y_min, y_abs, y_int, y_range, y_set, y_list, y_tuple, y_all, y_repr, y_isinstance⟩
  have F_fresh := fun_mk (st := sFresh) l_fresh c_fresh k_fresh
  have b_fresh := F_fresh.binds (ps := ["thing"]) fun _ _ _ _ _ _ us hl => match us, hl with | [_], _ => rfl
  have F_resp := fun_mk (st := sResP) l_resp c_resp k_resp
  have b_resp := F_resp.binds (ps := ["number"]) fun _ _ _ _ _ _ us hl => match us, hl with | [_], _ => rfl
  have F_knownp := fun_mk (st := sKnownP) l_knownp c_knownp k_knownp
  have b_knownp := F_knownp.binds (ps := ["number"]) fun _ _ _ _ _ _ us hl => match us, hl with | [_], _ => rfl
  have F_inpath := fun_mk (st := sInPath) l_inpath c_inpath k_inpath
  have b_inpath := F_inpath.binds (ps := ["place", "key"]) fun _ _ _ _ _ _ us hl => match us, hl with | [_, _], _ => rfl
  have F_inplace := fun_mk (st := sInPlace) l_inplace c_inplace k_inplace
  have b_inplace := F_inplace.binds (ps := ["place", "key"]) fun _ _ _ _ _ _ us hl => match us, hl with | [_, _], _ => rfl
  have F_itemsf := fun_mk (st := sItemsF) l_itemsf c_itemsf k_itemsf
  have b_itemsf := F_itemsf.binds (ps := ["place", "index"]) fun _ _ _ _ _ _ us hl => match us, hl with | [_, _], _ => rfl
  have F_othersw := fun_mk (st := sOthersW) l_othersw c_othersw k_othersw
  have b_othersw := F_othersw.binds (ps := ["place", "fields"]) fun _ _ _ _ _ _ us hl => match us, hl with | [_, _], _ => rfl
  have F_restrow := fun_mk (st := sRestRow) l_restrow c_restrow k_restrow
  have b_restrow := F_restrow.binds (ps := ["place", "index"]) fun _ _ _ _ _ _ us hl => match us, hl with | [_, _], _ => rfl
  have F_restrec := fun_mk (st := sRestRec) l_restrec c_restrec k_restrec
  have b_restrec := F_restrec.binds (ps := ["place", "fields"]) fun _ _ _ _ _ _ us hl => match us, hl with | [_, _], _ => rfl
  have F_toldpath := fun_mk (st := sToldPath) l_toldpath c_toldpath k_toldpath
  have b_toldpath := F_toldpath.binds (ps := ["path"]) fun _ _ _ _ _ _ us hl => match us, hl with | [_], _ => rfl
  have F_toldplace := fun_mk (st := sToldPlace) l_toldplace c_toldplace k_toldplace
  have b_toldplace := F_toldplace.binds (ps := ["place"]) fun _ _ _ _ _ _ us hl => match us, hl with | [_], _ => rfl
  have F_with := fun_mk (st := sWithEach) l_with c_with k_with
  have b_with := F_with.binds (ps := ["outcome", "change"]) fun _ _ _ _ _ _ us hl => match us, hl with | [_, _], _ => rfl
  have F_ent := fun_mk (st := sEntries) l_ent c_ent k_ent
  have b_ent := F_ent.binds (ps := ["part"]) fun _ _ _ _ _ _ us hl => match us, hl with | [_], _ => rfl
  have F_fil := fun_mk (st := sFilled) l_fil c_fil k_fil
  have b_fil := F_fil.binds (ps := ["thing"]) fun _ _ _ _ _ _ us hl => match us, hl with | [_], _ => rfl
  have F_ckn := fun_mk (st := sCkName) l_ckn c_ckn k_ckn
  have b_ckn := F_ckn.binds (ps := ["name"]) fun _ _ _ _ _ _ us hl => match us, hl with | [_], _ => rfl
  have F_cko := fun_mk (st := sCkOpt) l_cko c_cko k_cko
  have b_cko := F_cko.binds (ps := ["name"]) fun _ _ _ _ _ _ us hl => match us, hl with | [_], _ => rfl
  have F_ckt := fun_mk (st := sCkTerm) l_ckt c_ckt k_ckt
  have b_ckt := F_ckt.binds (ps := ["term"]) fun _ _ _ _ _ _ us hl => match us, hl with | [_], _ => rfl
  have F_ckd := fun_mk (st := sCkDef) l_ckd c_ckd k_ckd
  have b_ckd := F_ckd.binds (ps := ["default"]) fun _ _ _ _ _ _ us hl => match us, hl with | [_], _ => rfl
  have F_ckp := fun_mk (st := sCkPart) l_ckp c_ckp k_ckp
  have b_ckp := F_ckp.binds (ps := ["part"]) fun _ _ _ _ _ _ us hl => match us, hl with | [_], _ => rfl
  have F_ckr := fun_mk (st := sCkRow) l_ckr c_ckr k_ckr
  have b_ckr := F_ckr.binds (ps := ["part"]) fun _ _ _ _ _ _ us hl => match us, hl with | [_], _ => rfl
  have F_cke := fun_mk (st := sCkRec) l_cke c_cke k_cke
  have b_cke := F_cke.binds (ps := ["part"]) fun _ _ _ _ _ _ us hl => match us, hl with | [_], _ => rfl
  have F_cku := fun_mk (st := sCkRules) l_cku c_cku k_cku
  have b_cku := F_cku.binds (ps := ["order", "lacks"]) fun _ _ _ _ _ _ us hl => match us, hl with | [_, _], _ => rfl
  have F_stepsof := fun_mk (st := sStepsOf) l_stepsof c_stepsof k_stepsof
  have b_stepsof := F_stepsof.binds (ps := ["pattern"]) fun _ _ _ _ _ _ us hl => match us, hl with | [_], _ => rfl
  have F_kind := fun_mk (st := sKindOf) l_kind c_kind k_kind
  have b_kind := F_kind.binds (ps := ["value"]) fun _ _ _ _ _ _ us hl => match us, hl with | [_], _ => rfl
  have F_take := fun_mk (st := sTake) l_take c_take k_take
  have b_take := F_take.binds (ps := ["pattern", "value", "results"]) fun _ _ _ _ _ _ us hl => match us, hl with | [_, _, _], _ => rfl
  have F_purse := fun_mk (st := sPurse) l_purse c_purse k_purse
  have b_purse := F_purse.binds (ps := ["script", "place"]) fun _ _ _ _ _ _ us hl => match us, hl with | [_, _], _ => rfl
  have F_coin := fun_mk (st := sCoin) l_coin c_coin k_coin
  have b_coin := F_coin.binds (ps := ["purse", "many"]) fun _ _ _ _ _ _ us hl => match us, hl with | [_, _], _ => rfl
  have F_mark := fun_mk (st := sMark) l_mark c_mark k_mark
  have b_mark := F_mark.binds (ps := ["thing", "tally"]) fun _ _ _ _ _ _ us hl => match us, hl with | [_, _], _ => rfl
  have F_copied := fun_mk (st := sCopied) l_copied c_copied k_copied
  have b_copied := F_copied.binds (ps := ["thing"]) fun _ _ _ _ _ _ us hl => match us, hl with | [_], _ => rfl
  have F_same := fun_mk (st := sSame) l_same c_same k_same
  have b_same := F_same.binds (ps := ["told", "owed"]) fun _ _ _ _ _ _ us hl => match us, hl with | [_, _], _ => rfl
  have F_words := fun_mk (st := sWords) l_words c_words k_words
  have b_words := F_words.binds (ps := ["purse", "many"]) fun _ _ _ _ _ _ us hl => match us, hl with | [_, _], _ => rfl
  have F_made := fun_mk (st := sMade) l_made c_made k_made
  have b_made := F_made.binds (ps := ["purse", "plan"]) fun _ _ _ _ _ _ us hl => match us, hl with | [_, _], _ => rfl
  have F_flat := fun_mk (st := sFlat) l_flat c_flat k_flat
  have b_flat := F_flat.binds (ps := ["purse"]) fun _ _ _ _ _ _ us hl => match us, hl with | [_], _ => rfl
  have F_flatv := fun_mk (st := sFlatV) l_flatv c_flatv k_flatv
  have b_flatv := F_flatv.binds (ps := ["purse", "piece"]) fun _ _ _ _ _ _ us hl => match us, hl with | [_, _], _ => rfl
  have F_deed := fun_mk (st := sDeed) l_deed c_deed k_deed
  have b_deed := F_deed.binds (ps := ["piece", "worth"]) fun _ _ _ _ _ _ us hl => match us, hl with | [_, _], _ => rfl
  have F_right := fun_mk (st := sRight) l_right c_right k_right
  have b_right := F_right.binds (ps := ["purse"]) fun _ _ _ _ _ _ us hl => match us, hl with | [_], _ => rfl
  have F_law := fun_mk (st := sLaw) l_law c_law k_law
  have F_init := fun_mk (st := sInit) l_init c_init k_init
  have b_init := F_init.binds (ps := ["self", "part", "order", "lacks"]) fun _ _ _ _ _ _ us hl => match us, hl with | [_, _, _, _], _ => rfl
  have F_gpart := fun_mk (st := sGPart) l_gpart c_gpart k_gpart
  have b_gpart := F_gpart.binds (ps := ["self"]) fun _ _ _ _ _ _ us hl => match us, hl with | [_], _ => rfl
  have F_gord := fun_mk (st := sGOrd) l_gord c_gord k_gord
  have b_gord := F_gord.binds (ps := ["self"]) fun _ _ _ _ _ _ us hl => match us, hl with | [_], _ => rfl
  have F_glck := fun_mk (st := sGLck) l_glck c_glck k_glck
  have b_glck := F_glck.binds (ps := ["self"]) fun _ _ _ _ _ _ us hl => match us, hl with | [_], _ => rfl
  have F_mwith := fun_mk (st := sMWith) l_mwith c_mwith k_mwith
  have b_mwith := F_mwith.binds (ps := ["self", "order"]) fun _ _ _ _ _ _ us hl => match us, hl with | [_, _], _ => rfl
  have F_finit := fun_mk (st := sFInit) l_finit c_finit k_finit
  have b_finit := F_finit.binds (ps := ["self"]) fun _ _ _ _ _ _ us hl => match us, hl with | [_], _ => rfl
  have F_isnone := fun_mk (st := sIsNone) l_isnone c_isnone k_isnone
  have b_isnone := F_isnone.binds (ps := ["self", "path"]) fun _ _ _ _ _ _ us hl => match us, hl with | [_, _], _ => rfl
  have F_has := fun_mk (st := sHas) l_has c_has k_has
  have b_has := F_has.binds (ps := ["self", "path", "key"]) fun _ _ _ _ _ _ us hl => match us, hl with | [_, _, _], _ => rfl
  have F_follows := fun_mk (st := sFollows) l_follows c_follows k_follows
  have b_follows := F_follows.binds (ps := ["self", "look"]) fun _ _ _ _ _ _ us hl => match us, hl with | [_, _], _ => rfl
  have F_learnhas := fun_mk (st := sLearnHas) l_learnhas c_learnhas k_learnhas
  have b_learnhas := F_learnhas.binds (ps := ["self", "path", "key", "answer"]) fun _ _ _ _ _ _ us hl => match us, hl with | [_, _, _, _], _ => rfl
  have F_learn := fun_mk (st := sLearn) l_learn c_learn k_learn
  have b_learn := F_learn.binds (ps := ["self", "look", "answer"]) fun _ _ _ _ _ _ us hl => match us, hl with | [_, _, _], _ => rfl
  have F_answers := fun_mk (st := sAnswers) l_answers c_answers k_answers
  have b_answers := F_answers.binds (ps := ["self", "look"]) fun _ _ _ _ _ _ us hl => match us, hl with | [_, _], _ => rfl
  have F_tkinit := fun_mk (st := sTkInit) l_tkinit c_tkinit k_tkinit
  have b_tkinit := F_tkinit.binds (ps := ["self", "source", "order", "lacks"]) fun _ _ _ _ _ _ us hl => match us, hl with | [_, _, _, _], _ => rfl
  have F_ask := fun_mk (st := sAsk) l_ask c_ask k_ask
  have b_ask := F_ask.binds (ps := ["self", "look"]) fun _ _ _ _ _ _ us hl => match us, hl with | [_, _], _ => rfl
  have F_kindat := fun_mk (st := sKindAt) l_kindat c_kindat k_kindat
  have b_kindat := F_kindat.binds (ps := ["self", "place"]) fun _ _ _ _ _ _ us hl => match us, hl with | [_, _], _ => rfl
  have F_missing := fun_mk (st := sIsMissing) l_missing c_missing k_missing
  have b_missing := F_missing.binds (ps := ["self", "entry", "place"]) fun _ _ _ _ _ _ us hl => match us, hl with | [_, _, _], _ => rfl
  have F_pon := fun_mk (st := sPlaceOfName) l_pon c_pon k_pon
  have b_pon := F_pon.binds (ps := ["self", "name"]) fun _ _ _ _ _ _ us hl => match us, hl with | [_, _], _ => rfl
  have F_workout := fun_mk (st := sWorkOut) l_workout c_workout k_workout
  have b_workout := F_workout.binds (ps := ["self", "term"]) fun _ _ _ _ _ _ us hl => match us, hl with | [_, _], _ => rfl
  have F_takerest := fun_mk (st := sTakeRest) l_takerest c_takerest k_takerest
  have b_takerest := F_takerest.binds (ps := ["self", "part", "place"]) fun _ _ _ _ _ _ us hl => match us, hl with | [_, _, _], _ => rfl
  have F_wanted := fun_mk (st := sTakeWanted) l_wanted c_wanted k_wanted
  have b_wanted := F_wanted.binds (ps := ["self", "wanted", "place"]) fun _ _ _ _ _ _ us hl => match us, hl with | [_, _, _], _ => rfl
  have F_entry := fun_mk (st := sTakeEntry) l_entry c_entry k_entry
  have b_entry := F_entry.binds (ps := ["self", "entry", "place", "wanted"]) fun _ _ _ _ _ _ us hl => match us, hl with | [_, _, _, _], _ => rfl
  have F_entries := fun_mk (st := sTakeEntries) l_entries c_entries k_entries
  have b_entries := F_entries.binds (ps := ["self", "part", "place"]) fun _ _ _ _ _ _ us hl => match us, hl with | [_, _, _], _ => rfl
  have F_takepart := fun_mk (st := sTakePart) l_takepart c_takepart k_takepart
  have b_takepart := F_takepart.binds (ps := ["self", "part", "place"]) fun _ _ _ _ _ _ us hl => match us, hl with | [_, _, _], _ => rfl
  have F_setname := fun_mk (st := sSetName) l_setname c_setname k_setname
  have b_setname := F_setname.binds (ps := ["self", "name", "term"]) fun _ _ _ _ _ _ us hl => match us, hl with | [_, _, _], _ => rfl
  have F_trycases := fun_mk (st := sTryCases) l_trycases c_trycases k_trycases
  have b_trycases := F_trycases.binds (ps := ["self", "parts", "place"]) fun _ _ _ _ _ _ us hl => match us, hl with | [_, _, _], _ => rfl
  have F_dostep := fun_mk (st := sDoStep) l_dostep c_dostep k_dostep
  have b_dostep := F_dostep.binds (ps := ["self", "step"]) fun _ _ _ _ _ _ us hl => match us, hl with | [_, _], _ => rfl
  have F_run := fun_mk (st := sRun) l_run c_run k_run
  have b_run := F_run.binds (ps := ["self", "steps"]) fun _ _ _ _ _ _ us hl => match us, hl with | [_, _], _ => rfl
  have F_sofar := fun_mk (st := sSoFar) l_sofar c_sofar k_sofar
  have b_sofar := F_sofar.binds (ps := ["self"]) fun _ _ _ _ _ _ us hl => match us, hl with | [_], _ => rfl
  have F_outcome := fun_mk (st := sOutcome) l_outcome c_outcome k_outcome
  have b_outcome := F_outcome.binds (ps := ["self"]) fun _ _ _ _ _ _ us hl => match us, hl with | [_], _ => rfl
  have F_ginit := fun_mk (st := sGInit) l_ginit c_ginit k_ginit
  have b_ginit := F_ginit.binds (ps := ["self", "value", "results"]) fun _ _ _ _ _ _ us hl => match us, hl with | [_, _, _], _ => rfl
  have F_gfound := fun_mk (st := sGFound) l_gfound c_gfound k_gfound
  have b_gfound := F_gfound.binds (ps := ["self", "path"]) fun _ _ _ _ _ _ us hl => match us, hl with | [_, _], _ => rfl
  have F_ganswer := fun_mk (st := sGAnswer) l_ganswer c_ganswer k_ganswer
  have b_ganswer := F_ganswer.binds (ps := ["self", "look", "answers"]) fun _ _ _ _ _ _ us hl => match us, hl with | [_, _, _], _ => rfl
  have F_gnote := fun_mk (st := sGNote) l_gnote c_gnote k_gnote
  have b_gnote := F_gnote.binds (ps := ["self", "number"]) fun _ _ _ _ _ _ us hl => match us, hl with | [_, _], _ => rfl
  have F_gvalue := fun_mk (st := sGValue) l_gvalue c_gvalue k_gvalue
  have b_gvalue := F_gvalue.binds (ps := ["self", "place"]) fun _ _ _ _ _ _ us hl => match us, hl with | [_, _], _ => rfl
  have F_tinit := fun_mk (st := sTInit) l_tinit c_tinit k_tinit
  have b_tinit := F_tinit.binds (ps := ["self", "value"]) fun _ _ _ _ _ _ us hl => match us, hl with | [_, _], _ => rfl
  have mCP := PySem.W.mg_of X G aCP
  have mCF := PySem.W.mg_of X G aCF
  have mCT := PySem.W.mg_of X G aCT
  have mCG := PySem.W.mg_of X G aCG
  have mCR := PySem.W.mg_of X G aCR
  have mCE := PySem.W.mg_of X G aCE
  have mT := PySem.W.mg_of X G aT
  have mP := PySem.W.mg_of X G aP
  have mN := PySem.W.mg_of X G aN
  have mL := PySem.W.mg_of X G aL
  have mKi := PySem.W.mg_of X G aKi
  have mVa := PySem.W.mg_of X G aVa
  have mSt := PySem.W.mg_of X G aSt
  have fn : ∀ f, f ∈ [f_init, f_mwith, f_finit, f_isnone, f_has, f_follows, f_learnhas, f_learn, f_answers, f_tkinit, f_ask, f_kindat, f_missing, f_pon, f_workout, f_takerest, f_wanted, f_entry, f_entries, f_takepart, f_setname, f_trycases, f_dostep, f_run, f_sofar, f_outcome, f_ginit, f_gfound, f_ganswer, f_gnote, f_gvalue] → PySem.W.isFn K (.ref f) = true := fun f hf => List.all_eq_true.mp pkM f hf
  have i_init := fn f_init (List.mem_of_getElem? (i := 0) rfl)
  have i_mwith := fn f_mwith (List.mem_of_getElem? (i := 1) rfl)
  have i_finit := fn f_finit (List.mem_of_getElem? (i := 2) rfl)
  have i_isnone := fn f_isnone (List.mem_of_getElem? (i := 3) rfl)
  have i_has := fn f_has (List.mem_of_getElem? (i := 4) rfl)
  have i_follows := fn f_follows (List.mem_of_getElem? (i := 5) rfl)
  have i_learnhas := fn f_learnhas (List.mem_of_getElem? (i := 6) rfl)
  have i_learn := fn f_learn (List.mem_of_getElem? (i := 7) rfl)
  have i_answers := fn f_answers (List.mem_of_getElem? (i := 8) rfl)
  have i_tkinit := fn f_tkinit (List.mem_of_getElem? (i := 9) rfl)
  have i_ask := fn f_ask (List.mem_of_getElem? (i := 10) rfl)
  have i_kindat := fn f_kindat (List.mem_of_getElem? (i := 11) rfl)
  have i_missing := fn f_missing (List.mem_of_getElem? (i := 12) rfl)
  have i_pon := fn f_pon (List.mem_of_getElem? (i := 13) rfl)
  have i_workout := fn f_workout (List.mem_of_getElem? (i := 14) rfl)
  have i_takerest := fn f_takerest (List.mem_of_getElem? (i := 15) rfl)
  have i_wanted := fn f_wanted (List.mem_of_getElem? (i := 16) rfl)
  have i_entry := fn f_entry (List.mem_of_getElem? (i := 17) rfl)
  have i_entries := fn f_entries (List.mem_of_getElem? (i := 18) rfl)
  have i_takepart := fn f_takepart (List.mem_of_getElem? (i := 19) rfl)
  have i_setname := fn f_setname (List.mem_of_getElem? (i := 20) rfl)
  have i_trycases := fn f_trycases (List.mem_of_getElem? (i := 21) rfl)
  have i_dostep := fn f_dostep (List.mem_of_getElem? (i := 22) rfl)
  have i_run := fn f_run (List.mem_of_getElem? (i := 23) rfl)
  have i_sofar := fn f_sofar (List.mem_of_getElem? (i := 24) rfl)
  have i_outcome := fn f_outcome (List.mem_of_getElem? (i := 25) rfl)
  have i_ginit := fn f_ginit (List.mem_of_getElem? (i := 26) rfl)
  have i_gfound := fn f_gfound (List.mem_of_getElem? (i := 27) rfl)
  have i_ganswer := fn f_ganswer (List.mem_of_getElem? (i := 28) rfl)
  have i_gnote := fn f_gnote (List.mem_of_getElem? (i := 29) rfl)
  have i_gvalue := fn f_gvalue (List.mem_of_getElem? (i := 30) rfl)
  obtain ⟨cCP, mmCP, kkCP⟩ := cl_of pkC (List.mem_of_getElem? (i := 0) rfl : CP ∈ [CP, CF, CT, CG])
  obtain ⟨cCF, mmCF, kkCF⟩ := cl_of pkC (List.mem_of_getElem? (i := 1) rfl : CF ∈ [CP, CF, CT, CG])
  obtain ⟨cCT, mmCT, kkCT⟩ := cl_of pkC (List.mem_of_getElem? (i := 2) rfl : CT ∈ [CP, CF, CT, CG])
  obtain ⟨cCG, mmCG, kkCG⟩ := cl_of pkC (List.mem_of_getElem? (i := 3) rfl : CG ∈ [CP, CF, CT, CG])
  obtain ⟨nP, pkN⟩ := Bool.and_eq_true_iff.mp pkN
  obtain ⟨nF, pkN⟩ := Bool.and_eq_true_iff.mp pkN
  obtain ⟨nT, nG⟩ := Bool.and_eq_true_iff.mp pkN
  obtain ⟨o1, pkO⟩ := Bool.and_eq_true_iff.mp pkO
  obtain ⟨o2, o3⟩ := Bool.and_eq_true_iff.mp pkO
  have nP' := no_of nP
  have CC : PCls K CP := ⟨cCP, nP' _ (List.mem_of_getElem? (i := 0) rfl), nP' _ (List.mem_of_getElem? (i := 1) rfl), nP' _ (List.mem_of_getElem? (i := 2) rfl)⟩
  have cF : FCls K CF K02.fN := ⟨cCF, no_of nF⟩
  have cT : FCls K CT tN := ⟨cCT, no_of nT⟩
  have cG : FCls K CG gN := ⟨cCG, no_of nG⟩
  have MP : Mk K CP f_init := ⟨mmCP, mkCP, i_init, kkCP⟩
  have MF : Mk K CF f_finit := ⟨mmCF, mkCF, i_finit, kkCF⟩
  have MT : Mk K CT f_tkinit := ⟨mmCT, mkCT, i_tkinit, kkCT⟩
  have MG : Mk K CG f_ginit := ⟨mmCG, mkCG, i_ginit, kkCG⟩
  have qP : PropOf K CP "part" pP f_gpart := pr_of o1 p1_gpart p4_gpart
  have qO : PropOf K CP "order" pO f_gord := pr_of o2 p1_gord p4_gord
  have qL : PropOf K CP "lacks" pL f_glck := pr_of o3 p1_glck p4_glck
  have EC : OErr K mg CE f_tinit "TakeEnded" := by
    obtain ⟨h1, z⟩ := Bool.and_eq_true_iff.mp pkE
    obtain ⟨h2, z⟩ := Bool.and_eq_true_iff.mp z
    obtain ⟨h3, z⟩ := Bool.and_eq_true_iff.mp z
    obtain ⟨h4, h5⟩ := Bool.and_eq_true_iff.mp z
    exact ⟨mCE, ⟨⟨_, _, _, _, _, _, _, _, _, _, _, _, _, _, _, xCE, rfl⟩, of_decide_eq_true h1, of_decide_eq_true h2, of_decide_eq_true h3, h4⟩, iCE, of_decide_eq_true h5, tI⟩
  have bv := Bool.and_eq_true_iff.mp pkV
  have bv2 := Bool.and_eq_true_iff.mp bv.2
  have wGV : BMeth K CG "value_at" f_gvalue := ⟨⟨w_gvalue, i_gvalue, k_gvalue⟩, of_decide_eq_true bv.1, of_decide_eq_true bv2.1, by decide +kernel, bv2.2⟩
  have TT : Tab K w dT szT := ⟨He.dicW_ok kT, fun q hq => by
    simp at hq
    rcases hq with rfl | rfl | rfl
    · exact ⟨_, eT0, _, rfl⟩
    · exact ⟨_, eT1, _, rfl⟩
    · exact ⟨_, eT2, _, rfl⟩⟩
  have TP : Tab K w dP szP := ⟨He.dicW_ok kP, fun q hq => by
    simp at hq
    rcases hq with rfl | rfl | rfl | rfl
    · exact ⟨_, eP0, _, rfl⟩
    · exact ⟨_, eP1, _, rfl⟩
    · exact ⟨_, eP2, _, rfl⟩
    · exact ⟨_, eP3, _, rfl⟩⟩
  have hK : ∀ H, SqT K H aK (kindsT.map V.str) := fun H => .inr ⟨_, _, _, lK, rfl, rfl, by show 4 ≤ sizeLine; decide, .cons ⟨k0, rfl⟩ (.cons ⟨k1, rfl⟩ (.cons ⟨k2, rfl⟩ (.cons ⟨k3, rfl⟩ .nil)))⟩
  have hV : ∀ H, PcAt K H (.ref aV) (.at pV0) := fun H => ⟨aV, bV', rfl, .inr ⟨_, _, _, lV, rfl, rfl, by show 2 ≤ sizeLine; decide, .cons ⟨tV, rfl⟩ (.cons rfl .nil)⟩, .inr ⟨_, _, _, lW, rfl, rfl, by show 1 ≤ sizeLine; decide, .cons ⟨tW, rfl⟩ .nil⟩⟩
  have hS : ∀ H, PcAt K H (.ref aS) .step := fun H => ⟨aS, rfl, .inr ⟨_, _, _, lS, rfl, rfl, by show 1 ≤ sizeLine; decide, .cons ⟨tS, rfl⟩ .nil⟩⟩
  have W_isnone : Meth K CF "_is_none" f_isnone := ⟨w_isnone, i_isnone, k_isnone⟩
  have W_has : Meth K CF "_has" f_has := ⟨w_has, i_has, k_has⟩
  have W_follows : Meth K CF "follows" f_follows := ⟨w_follows, i_follows, k_follows⟩
  have W_learnhas : Meth K CF "_learn_has" f_learnhas := ⟨w_learnhas, i_learnhas, k_learnhas⟩
  have W_learn : Meth K CF "learn" f_learn := ⟨w_learn, i_learn, k_learn⟩
  have W_answers : Meth K CF "answers" f_answers := ⟨w_answers, i_answers, k_answers⟩
  have W_ask : Meth K CT "ask" f_ask := ⟨w_ask, i_ask, k_ask⟩
  have W_kindat : Meth K CT "kind_at" f_kindat := ⟨w_kindat, i_kindat, k_kindat⟩
  have W_missing : Meth K CT "is_missing" f_missing := ⟨w_missing, i_missing, k_missing⟩
  have W_pon : Meth K CT "place_of_name" f_pon := ⟨w_pon, i_pon, k_pon⟩
  have W_workout : Meth K CT "work_out" f_workout := ⟨w_workout, i_workout, k_workout⟩
  have W_takerest : Meth K CT "take_rest" f_takerest := ⟨w_takerest, i_takerest, k_takerest⟩
  have W_wanted : Meth K CT "take_wanted" f_wanted := ⟨w_wanted, i_wanted, k_wanted⟩
  have W_entry : Meth K CT "take_entry" f_entry := ⟨w_entry, i_entry, k_entry⟩
  have W_entries : Meth K CT "take_entries" f_entries := ⟨w_entries, i_entries, k_entries⟩
  have W_takepart : Meth K CT "take_part" f_takepart := ⟨w_takepart, i_takepart, k_takepart⟩
  have W_setname : Meth K CT "set_name" f_setname := ⟨w_setname, i_setname, k_setname⟩
  have W_trycases : Meth K CT "try_cases" f_trycases := ⟨w_trycases, i_trycases, k_trycases⟩
  have W_dostep : Meth K CT "do_step" f_dostep := ⟨w_dostep, i_dostep, k_dostep⟩
  have W_run : Meth K CT "run" f_run := ⟨w_run, i_run, k_run⟩
  have W_sofar : Meth K CT "so_far" f_sofar := ⟨w_sofar, i_sofar, k_sofar⟩
  have W_outcome : Meth K CT "outcome" f_outcome := ⟨w_outcome, i_outcome, k_outcome⟩
  have W_gfound : Meth K CG "found_at" f_gfound := ⟨w_gfound, i_gfound, k_gfound⟩
  have W_ganswer : Meth K CG "answer" f_ganswer := ⟨w_ganswer, i_ganswer, k_ganswer⟩
  have W_gnote : Meth K CG "note_call" f_gnote := ⟨w_gnote, i_gnote, k_gnote⟩
  have W_gvalue : Meth K CG "value_at" f_gvalue := ⟨w_gvalue, i_gvalue, k_gvalue⟩
  have W_mwith : Meth K CP "with_order" f_mwith := ⟨w_mwith, i_mwith, k_mwith⟩
  refine ⟨PySem.W.fnOf "law" "law" (defArgs sLaw) (defBody sLaw) (defScope sLaw) .none kV_law dc_law pm_law an_law cd_law ct_law, fun s v => .of_eq rfl, fun base _ _ => ?_⟩
  have GC := ok_coin (P := l.prog) (w := w) (base := base) F_coin T
  have GFr : ∀ n, FnOk l.prog w K mg base CX0 n f_fresh _ ["thing"] (spCopy n) := fun n => Nat.rec copy_none (fun n ih => ok_fresh F_fresh T ih b_fresh m_fresh y_dict) n
  have GFx : ∀ n, FnOk l.prog w K mg base CX0 n f_fresh _ ["thing"] (spCopyX K n) := fun n => Nat.rec copyX_none (fun n ih => ok_freshX F_fresh T ih b_fresh m_fresh y_dict) n
  have GCo : ∀ n, FnOk l.prog w K mg base CX0 n f_copied _ ["thing"] (spCopy n) := fun n => Nat.rec copy_none (fun n ih => ok_tcopy F_copied T ih b_copied m_copied y_dict) n
  have GMa : ∀ n, FnOk l.prog w K mg base CX0 n f_mark _ ["thing", "tally"] (spMark n) := fun n => Nat.rec mark_none (fun n ih => ok_mark F_mark T ih b_mark m_mark y_dict) n
  have GSa : ∀ n, FnOk l.prog w K mg base CX0 n f_same _ ["told", "owed"] (spSameX K n) := fun n => Nat.rec sameX_none (fun n ih => ok_sameX F_same T ih b_same m_same y_dict y_bool y_str) n
  have GRp := ok_resp (P := l.prog) (w := w) (mg := mg) (base := base) F_resp
  have GKp := ok_knownp (P := l.prog) (w := w) (mg := mg) (base := base) F_knownp
  have GIp := ok_inpath (P := l.prog) (w := w) (mg := mg) (base := base) F_inpath
  have GIl := ok_inplace (P := l.prog) (w := w) (base := base) F_inplace F_inpath GIp b_inpath m_inpath
  have GIf := ok_itemsf (P := l.prog) (w := w) (mg := mg) (base := base) F_itemsf
  have GRr := ok_restrow (P := l.prog) (w := w) (base := base) F_restrow F_itemsf GIf b_itemsf m_itemsf
  have GOw := ok_othersw (P := l.prog) (w := w) (base := base) F_othersw T y_sorted
  have GRc := ok_restrec (P := l.prog) (w := w) (base := base) F_restrec T F_othersw GOw b_othersw m_othersw
  have GTa := ok_toldpath (P := l.prog) (w := w) (base := base) F_toldpath T y_str
  have GTl := ok_toldplace (P := l.prog) (w := w) (base := base) F_toldplace T F_toldpath GTa b_toldpath m_toldpath
  have GEn := ok_ent2 (P := l.prog) (w := w) (base := base) F_ent T y_enumerate
  -- facts
  have GFi := ok_finit (P := l.prog) (w := w) (mg := mg) (base := base) F_finit cF
  have GNo := ok_isnone (P := l.prog) (w := w) (mg := mg) (base := base) F_isnone cF
  have GHa := ok_has (P := l.prog) (w := w) (base := base) F_has T y_str cF
  have GFo := ok_follows (P := l.prog) (w := w) (mg := mg) (base := base) F_follows cF F_isnone GNo b_isnone W_isnone F_has GHa b_has W_has
  have GLh := ok_learnhas (P := l.prog) (w := w) (base := base) F_learnhas T y_str cF
  have GLe := ok_learn (P := l.prog) (w := w) (mg := mg) (base := base) F_learn cF F_learnhas GLh b_learnhas W_learnhas
  have GAn := ok_answers (P := l.prog) (w := w) (base := base) F_answers cF mKi hK F_follows GFo b_follows W_follows
  -- a taking
  have GTk : ∀ (S : Src l.prog w K mg base) (lt nt : Bool), FnOk l.prog w K mg base CX0 3 f_tkinit _ ["self", "source", "order", "lacks"] (spTkInit (mkT cT cF S lt nt)) := fun S lt nt => ok_tkinit (T := mkT cT cF S lt nt) F_tkinit mCF MF F_finit GFi b_finit
  have GTo : ∀ (S : Src l.prog w K mg base) (lt nt : Bool), FnOk l.prog w K mg base CX0 3 f_outcome _ ["self"] (spOutcome (mkT cT cF S lt nt)) := fun S lt nt =>
    ok_outcome (T := mkT cT cF S lt nt) F_outcome F_sofar (ok_sofar (T := mkT cT cF S lt nt) F_sofar T y_sorted) b_sofar W_sofar F_toldplace GTl b_toldplace m_toldplace
  have GTr : ∀ (S : Src l.prog w K mg base) (lt nt : Bool), FnOk l.prog w K mg base (L2.CX l.prog w) 34 f_run _ ["self", "steps"] (spRun (mkT cT cF S lt nt) 34) := fun S lt nt => by
    have A1 := ok_ask (T := mkT cT cF S lt nt) F_ask T F_answers GAn b_answers W_answers F_learn GLe b_learn W_learn
    have A2 := ok_kindat (T := mkT cT cF S lt nt) F_kindat F_ask A1 b_ask W_ask
    have A3 := ok_missing (T := mkT cT cF S lt nt) F_missing F_ask A1 b_ask W_ask F_inpath GIp b_inpath m_inpath
    have A4 := ok_pon (T := mkT cT cF S lt nt) F_pon
    have wo : ∀ k, 10 ≤ k → FnOk l.prog w K mg base (L2.CX l.prog w) k f_workout _ ["self", "term"] (spWorkOut (mkT cT cF S lt nt) k) → FnOk l.prog w K mg base (L2.CX l.prog w) (k + 1) f_workout _ ["self", "term"] (spWorkOut (mkT cT cF S lt nt) (k + 1)) := fun k hk ih =>
      ok_workout (T := mkT cT cF S lt nt) F_workout T hk F_knownp GKp b_knownp m_knownp F_resp GRp b_resp m_resp F_pon A4 b_pon W_pon ih b_workout W_workout
    have A5 := wo 17 (by decide) (wo 16 (by decide) (wo 15 (by decide) (wo 14 (by decide) (wo 13 (by decide) (wo 12 (by decide) (wo 11 (by decide) (wo 10 (by decide) wo_none)))))))
    have A6 := ok_takerest (T := mkT cT cF S lt nt) F_takerest T F_restrow GRr b_restrow m_restrow F_restrec GRc b_restrec m_restrec
    have st : ∀ k, 18 ≤ k → FnOk l.prog w K mg base (L2.CX l.prog w) k f_takepart _ ["self", "part", "place"] (spTakePart (mkT cT cF S lt nt) k) → FnOk l.prog w K mg base (L2.CX l.prog w) (k + 4) f_takepart _ ["self", "part", "place"] (spTakePart (mkT cT cF S lt nt) (k + 4)) := fun k hk ih => by
      have B1 := ok_wanted (T := mkT cT cF S lt nt) F_wanted hk F_workout A5 b_workout W_workout F_inplace GIl b_inplace m_inplace F_takepart ih b_takepart W_takepart
      have B2 := ok_entry (T := mkT cT cF S lt nt) F_entry T y_str hk F_missing A3 b_missing W_missing F_inplace GIl b_inplace m_inplace F_takepart ih b_takepart W_takepart F_wanted B1 b_wanted W_wanted
      have B3 := ok_entries (T := mkT cT cF S lt nt) F_entries hk F_kindat A2 b_kindat W_kindat F_ent GEn b_ent m_ent F_entry B2 b_entry W_entry F_takerest A6 b_takerest W_takerest F_wanted B1 b_wanted W_wanted
      exact ok_takepart (T := mkT cT cF S lt nt) F_takepart F_entries B3 b_entries W_entries
    have A7 := st 27 (by decide) (st 23 (by decide) (st 19 (by decide) tp_none))
    have A8 := ok_setname (T := mkT cT cF S lt nt) F_setname mSt hS F_workout A5 b_workout W_workout
    have A9 := ok_trycases (T := mkT cT cF S lt nt) F_trycases y_dict y_enumerate F_takepart A7 b_takepart W_takepart
    have A10 := ok_dostep (T := mkT cT cF S lt nt) F_dostep (by decide) mSt hS mVa hV F_pon A4 b_pon W_pon F_setname A8 b_setname W_setname F_takepart A7 b_takepart W_takepart F_trycases A9 b_trycases W_trycases
    exact ok_run (T := mkT cT cF S lt nt) F_run y_enumerate F_dostep A10 b_dostep W_dostep
  -- given
  have GGi := ok_ginit (P := l.prog) (w := w) (mg := mg) (base := base) F_ginit cG
  have GKd := ok_kind (P := l.prog) (w := w) (base := base) F_kind T y_dict
  have GGf := ok_gfound (P := l.prog) (w := w) (mg := mg) (base := base) F_gfound cG
  have GGa := ok_ganswer (P := l.prog) (w := w) (base := base) F_ganswer T y_dict cG F_gfound GGf b_gfound W_gfound F_kind GKd b_kind m_kind
  have GGn := ok_gnote (P := l.prog) (w := w) (base := base) F_gnote T cG EC F_tinit b_tinit
  have GGv := ok_gvalue (P := l.prog) (w := w) (base := base) (n := 5) (by decide) F_gvalue cG F_gfound GGf b_gfound W_gfound F_fresh (GFx 5) b_fresh m_fresh
  have GWi := ok_with (P := l.prog) (w := w) (mg := mg) (base := base) F_with F_gvalue GGv b_gvalue bv2.2
  -- patterns
  have GFl := ok_filled (P := l.prog) (w := w) (base := base) F_fil T
  have GKn := ok_ckname (P := l.prog) (w := w) (base := base) F_ckn T y_str mN mL
  have GKo := ok_ckopt (P := l.prog) (w := w) (base := base) F_cko F_ckn GKn b_ckn m_ckn
  have GKt : ∀ n, FnOk l.prog w K mg base CX0 n f_ckt _ ["term"] (spCkTerm n) := fun n => Nat.rec ckterm_none (fun n ih => ok_ckterm F_ckt T F_fil GFl b_fil m_fil F_ckn GKn b_ckn m_ckn TT mT ih b_ckt m_ckt) n
  have GKf := ok_ckdef (P := l.prog) (w := w) (base := base) F_ckd F_ckt (GKt 7) b_ckt m_ckt
  have GKa : ∀ n, FnOk l.prog w K mg base CX0 n f_ckp _ ["part"] (spCkPart n) ∧ FnOk l.prog w K mg base CX0 n f_ckr _ ["part"] (spCkIn true n) ∧ FnOk l.prog w K mg base CX0 n f_cke _ ["part"] (spCkIn false n) := fun n => Nat.rec ⟨ckpart_none, ckin_none, ckin_none⟩
    (fun n ih => ⟨ok_ckpart F_ckp T F_fil GFl b_fil m_fil F_ckn GKn b_ckn m_ckn TP mP F_ckr ih.2.1 b_ckr m_ckr F_cke ih.2.2 b_cke m_cke,
      ok_ckrow F_ckr F_cko GKo b_cko m_cko F_ckd GKf b_ckd m_ckd F_ckp ih.1 b_ckp m_ckp, ok_ckrec F_cke F_cko GKo b_cko m_cko F_ckn GKn b_ckn m_ckn F_ckd GKf b_ckd m_ckd F_ckp ih.1 b_ckp m_ckp⟩) n
  have GKu := ok_ckrules (P := l.prog) (w := w) (mg := mg) (base := base) F_cku
  have GIn := ok_init (P := l.prog) (w := w) (base := base) F_init CC F_ckp (GKa 24).1 b_ckp m_ckp F_cku GKu b_cku m_cku F_fresh (GFr 40) b_fresh m_fresh
  have GGp := ok_gpart (P := l.prog) (w := w) (base := base) F_gpart CC F_fresh (GFr 40) b_fresh m_fresh
  have GGo := ok_gord (P := l.prog) (w := w) (mg := mg) (base := base) F_gord CC
  have GGl := ok_glck (P := l.prog) (w := w) (mg := mg) (base := base) F_glck CC
  have GMw := ok_mwith (P := l.prog) (w := w) (base := base) F_mwith CC MP mCP GIn b_init
  have GSo := ok_steps (P := l.prog) (w := w) (base := base) F_stepsof T CC mCR (is_of pkI) qP GGp b_gpart
  have GTt := ok_take (P := l.prog) (w := w) (base := base) (N := 44) (kR := 34) (nv := 5) (m := 2) (by decide) (by decide) (by decide) (by decide) F_take cG MG mCG GGi b_ginit GGa GGn W_ganswer W_gnote b_ganswer b_gnote wGV cT cF MT mCT GTk b_tkinit GTr b_run W_run GTo b_outcome W_outcome CC qO GGo b_gord qL GGl b_glck
    F_stepsof GSo b_stepsof m_stepsof F_with GWi b_with m_with
  -- the law's own
  have GWo := ok_tkwords (P := l.prog) (w := w) (base := base) F_words T F_coin b_coin m_coin
  have GMd := ok_tkmade (P := l.prog) (w := w) (base := base) F_made T CC MP mCP F_coin GC b_coin m_coin F_copied (GCo 40) b_copied m_copied GIn b_init W_mwith GMw b_mwith qP GGp b_gpart qO GGo b_gord qL GGl b_glck F_mark (GMa 40) b_mark m_mark
  have GFt := ok_flat (P := l.prog) (w := w) (base := base) F_flat T F_coin GC b_coin m_coin F_words GWo b_words m_words
  have GFv := ok_flatv (P := l.prog) (w := w) (base := base) F_flatv T y_enumerate F_coin GC b_coin m_coin
  have GDe := ok_deed (P := l.prog) (w := w) (base := base) F_deed T y_enumerate y_sorted y_dict
  have GRt := ok_right10 (P := l.prog) (w := w) (base := base) (N := 45) (R := 45) (nv := 5) (m := 0) (by decide) (by decide) (by decide) F_right T F_flat GFt b_flat m_flat F_made GMd b_made m_made F_flatv GFv b_flatv m_flatv F_deed GDe b_deed m_deed F_take GTt b_take m_take F_same (GSa 6) b_same m_same
  exact ok_law10 (R := 46) (by decide) F_law T (ok_purse F_purse T) b_purse m_purse k_purse GRt b_right m_right k_right
end K02
set_option Elab.async false
set_option maxRecDepth 100000
namespace K02
open PySem L2 PyProof.Rows
theorem walk {l : PySem.W.OpenLaw} {q : Program} {loose : List Str} {XP : (Str → Option Value) → Heap → Prop} {YP : World → Heap → Prop} {d : DefRec} {K : Params → PySem.W.Frag} (hn : l.most = some 63) (hdf : d.params.defaults = [])
    (hY : ∀ (w : World) (h : Heap), YP w h → (K w.params).In h)
    (F : ∀ (w : World) (mg : Str → Option Value) (fa : Addr) (h : Heap), (K w.params).In h → h.Ns mainGlobals mg → mg d.name = some (.ref fa) →
      ∃ fd : FuncData, (∀ (s : Shared) (u : Value), BindsTo s fd ⟨[u], []⟩ [("script", u)]) ∧ ∀ base : Heap, (K w.params).In base → base.Ns mainGlobals mg → FnOk l.prog w (K w.params) mg base CX0 47 fa fd ["script"] (spLaw (K w.params))) :
    PySem.W.WalkO q loose XP YP l.row.toRowW d [] (fun f vs => PySem.call f vs) :=
  L2.walk_of (n := 63) (k := 47) (x := "script") (CX := fun _ => CX0) (sp := fun w => spLaw (K w.params)) hn (by decide) hdf ⟨rfl, by decide, by decide⟩ hY F (fun _ _ a ns hl _ hS => ⟨a, ns, rfl, hS, hl, fun _ => rfl⟩) fun _ _ _ _ _ z => z
end K02
open PySem PySem.W PyProof.Rows
set_option maxRecDepth 100000 in
set_option maxHeartbeats 0 in
theorem PySem.Challenge.cw_partedvalues_k10_flat_rows_and_records_holds : PySem.Challenge.rw_partedvalues_k10_flat_rows_and_records.Holds := by
  w_on; o_law
  refine Hd.holds rfl rfl rfl ?said ?hw ?hc
  (case said => assumption)
  (case hw => w_witness2)
  refine K02.walk (l := PySem.Challenge.rw_partedvalues_k10_flat_rows_and_records) rfl rfl (fun w h Y => PySem.W.kIn_of Y) ?F
  case F =>
    k_fill
    intro w mg fa h KX G hmg
    refine' K02.all_mk KX G hmg ?a_fresh ?l_fresh ?a_resp ?l_resp ?a_knownp ?l_knownp ?a_inpath ?l_inpath ?a_inplace ?l_inplace ?a_itemsf ?l_itemsf ?a_othersw ?l_othersw ?a_restrow ?l_restrow ?a_restrec ?l_restrec ?a_toldpath ?l_toldpath ?a_toldplace ?l_toldplace ?a_with ?l_with ?a_ent ?l_ent ?a_fil ?l_fil ?a_ckn ?l_ckn ?a_cko ?l_cko ?a_ckt ?l_ckt ?a_ckd ?l_ckd ?a_ckp ?l_ckp ?a_ckr ?l_ckr ?a_cke ?l_cke ?a_cku ?l_cku ?a_stepsof ?l_stepsof ?a_kind ?l_kind ?a_take ?l_take ?a_purse ?l_purse ?a_coin ?l_coin ?a_mark ?l_mark ?a_copied ?l_copied ?a_same ?l_same ?a_words ?l_words ?a_made ?l_made ?a_flat ?l_flat ?a_flatv ?l_flatv ?a_deed ?l_deed ?a_right ?l_right ?a_law ?l_law ?aCP ?aCF ?aCT ?aCG ?aCR ?aCE ?xCE ?iCE ?tI ?mkCP ?mkCF ?mkCT ?mkCG ?w_mwith ?w_isnone ?w_has ?w_follows ?w_learnhas ?w_learn ?w_answers ?w_ask ?w_kindat ?w_missing ?w_pon ?w_workout ?w_takerest ?w_wanted ?w_entry ?w_entries ?w_takepart ?w_setname ?w_trycases ?w_dostep ?w_run ?w_sofar ?w_outcome ?w_gfound ?w_ganswer ?w_gnote ?w_gvalue ?p1_gpart ?p4_gpart ?p1_gord ?p4_gord ?p1_glck ?p4_glck ?l_init ?l_gpart ?l_gord ?l_glck ?l_mwith ?l_finit ?l_isnone ?l_has ?l_follows ?l_learnhas ?l_learn ?l_answers ?l_tkinit ?l_ask ?l_kindat ?l_missing ?l_pon ?l_workout ?l_takerest ?l_wanted ?l_entry ?l_entries ?l_takepart ?l_setname ?l_trycases ?l_dostep ?l_run ?l_sofar ?l_outcome ?l_ginit ?l_gfound ?l_ganswer ?l_gnote ?l_gvalue ?l_tinit ?aT ?aP ?aN ?aL ?aKi ?aVa ?aSt ?lK ?lV ?lW ?lS ?kT ?kP ?eT0 ?eT1 ?eT2 ?eP0 ?eP1 ?eP2 ?eP3 ?pkQ ?pkK ?pkZ ?pkM ?pkC ?pkN ?pkO ?pkE ?pkI ?pkV
    (case a_fresh => k_is)
    (case l_fresh => k_is)
    (case a_resp => k_is)
    (case l_resp => k_is)
    (case a_knownp => k_is)
    (case l_knownp => k_is)
    (case a_inpath => k_is)
    (case l_inpath => k_is)
    (case a_inplace => k_is)
    (case l_inplace => k_is)
    (case a_itemsf => k_is)
    (case l_itemsf => k_is)
    (case a_othersw => k_is)
    (case l_othersw => k_is)
    (case a_restrow => k_is)
    (case l_restrow => k_is)
    (case a_restrec => k_is)
    (case l_restrec => k_is)
    (case a_toldpath => k_is)
    (case l_toldpath => k_is)
    (case a_toldplace => k_is)
    (case l_toldplace => k_is)
    (case a_with => k_is)
    (case l_with => k_is)
    (case a_ent => k_is)
    (case l_ent => k_is)
    (case a_fil => k_is)
    (case l_fil => k_is)
    (case a_ckn => k_is)
    (case l_ckn => k_is)
    (case a_cko => k_is)
    (case l_cko => k_is)
    (case a_ckt => k_is)
    (case l_ckt => k_is)
    (case a_ckd => k_is)
    (case l_ckd => k_is)
    (case a_ckp => k_is)
    (case l_ckp => k_is)
    (case a_ckr => k_is)
    (case l_ckr => k_is)
    (case a_cke => k_is)
    (case l_cke => k_is)
    (case a_cku => k_is)
    (case l_cku => k_is)
    (case a_stepsof => k_is)
    (case l_stepsof => k_is)
    (case a_kind => k_is)
    (case l_kind => k_is)
    (case a_take => k_is)
    (case l_take => k_is)
    (case a_purse => k_is)
    (case l_purse => k_is)
    (case a_coin => k_is)
    (case l_coin => k_is)
    (case a_mark => k_is)
    (case l_mark => k_is)
    (case a_copied => k_is)
    (case l_copied => k_is)
    (case a_same => k_is)
    (case l_same => k_is)
    (case a_words => k_is)
    (case l_words => k_is)
    (case a_made => k_is)
    (case l_made => k_is)
    (case a_flat => k_is)
    (case l_flat => k_is)
    (case a_flatv => k_is)
    (case l_flatv => k_is)
    (case a_deed => k_is)
    (case l_deed => k_is)
    (case a_right => k_is)
    (case l_right => k_is)
    (case a_law => k_is)
    (case l_law => k_is)
    (case aCP => k_is)
    (case aCF => k_is)
    (case aCT => k_is)
    (case aCG => k_is)
    (case aCR => k_is)
    (case aCE => k_is)
    (case xCE => k_is)
    (case iCE => k_is)
    (case tI => k_is)
    (case mkCP => k_is)
    (case mkCF => k_is)
    (case mkCT => k_is)
    (case mkCG => k_is)
    (case w_mwith => k_is)
    (case w_isnone => k_is)
    (case w_has => k_is)
    (case w_follows => k_is)
    (case w_learnhas => k_is)
    (case w_learn => k_is)
    (case w_answers => k_is)
    (case w_ask => k_is)
    (case w_kindat => k_is)
    (case w_missing => k_is)
    (case w_pon => k_is)
    (case w_workout => k_is)
    (case w_takerest => k_is)
    (case w_wanted => k_is)
    (case w_entry => k_is)
    (case w_entries => k_is)
    (case w_takepart => k_is)
    (case w_setname => k_is)
    (case w_trycases => k_is)
    (case w_dostep => k_is)
    (case w_run => k_is)
    (case w_sofar => k_is)
    (case w_outcome => k_is)
    (case w_gfound => k_is)
    (case w_ganswer => k_is)
    (case w_gnote => k_is)
    (case w_gvalue => k_is)
    (case p1_gpart => k_is)
    (case p4_gpart => k_is)
    (case p1_gord => k_is)
    (case p4_gord => k_is)
    (case p1_glck => k_is)
    (case p4_glck => k_is)
    (case l_init => k_is)
    (case l_gpart => k_is)
    (case l_gord => k_is)
    (case l_glck => k_is)
    (case l_mwith => k_is)
    (case l_finit => k_is)
    (case l_isnone => k_is)
    (case l_has => k_is)
    (case l_follows => k_is)
    (case l_learnhas => k_is)
    (case l_learn => k_is)
    (case l_answers => k_is)
    (case l_tkinit => k_is)
    (case l_ask => k_is)
    (case l_kindat => k_is)
    (case l_missing => k_is)
    (case l_pon => k_is)
    (case l_workout => k_is)
    (case l_takerest => k_is)
    (case l_wanted => k_is)
    (case l_entry => k_is)
    (case l_entries => k_is)
    (case l_takepart => k_is)
    (case l_setname => k_is)
    (case l_trycases => k_is)
    (case l_dostep => k_is)
    (case l_run => k_is)
    (case l_sofar => k_is)
    (case l_outcome => k_is)
    (case l_ginit => k_is)
    (case l_gfound => k_is)
    (case l_ganswer => k_is)
    (case l_gnote => k_is)
    (case l_gvalue => k_is)
    (case l_tinit => k_is)
    (case aT => k_is)
    (case aP => k_is)
    (case aN => k_is)
    (case aL => k_is)
    (case aKi => k_is)
    (case aVa => k_is)
    (case aSt => k_is)
    (case lK => k_is)
    (case lV => k_is)
    (case lW => k_is)
    (case lS => k_is)
    (case kT => first | k_is | rfl | kernel_rfl)
    (case kP => first | k_is | rfl | kernel_rfl)
    (case eT0 => k_is)
    (case eT1 => k_is)
    (case eT2 => k_is)
    (case eP0 => k_is)
    (case eP1 => k_is)
    (case eP2 => k_is)
    (case eP3 => k_is)
    (case pkQ => kernel_rfl)
    (case pkK => kernel_rfl)
    (case pkZ => kernel_rfl)
    (case pkM => kernel_rfl)
    (case pkC => kernel_rfl)
    (case pkN => kernel_rfl)
    (case pkO => kernel_rfl)
    (case pkE => kernel_rfl)
    (case pkI => kernel_rfl)
    (case pkV => kernel_rfl)
#print axioms PySem.Challenge.cw_partedvalues_k10_flat_rows_and_records_holds
