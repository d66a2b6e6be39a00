import PyProof.Rows.All
import Wide.All
import OpenK.AllK
import Wide.FinOn
import KE.OsGo
import KE.OsArgs
import PySem.Challenge.RW_glasscartoons_s12_turned
open PySem PySem.W PyProof.Rows
set_option Elab.async false
namespace My
theorem size (z : Int) : GlaPlans.SIXTYFOUR z = decide (¬ 18446744073709551616 ≤ (if z < 0 then -z else z)) := by
  unfold GlaPlans.SIXTYFOUR
  have e : (2 ^ 64 : Nat) = 18446744073709551616 := by decide
  rw [e]
  apply decide_eq_decide.mpr
  split <;> omega
theorem small {a b c d e g : Int} (h1 : ¬ 18446744073709551616 ≤ (if a < 0 then -a else a)) (h2 : ¬ 18446744073709551616 ≤ (if b < 0 then -b else b)) (h3 : ¬ 18446744073709551616 ≤ (if c < 0 then -c else c))
    (h4 : ¬ 18446744073709551616 ≤ (if d < 0 then -d else d)) (h5 : ¬ 18446744073709551616 ≤ (if e < 0 then -e else e)) (h6 : ¬ 18446744073709551616 ≤ (if g < 0 then -g else g)) :
    PyYqglaa.turned a b c d e g = [0, (c - a) * (g - d) - (d - b) * (e - c)] := by
  have s : GlaPlans.asked (.turned a b c d e g) = true := by
    show List.all _ _ = true
    simp only [List.all_cons, List.all_nil, size, decide_eq_true h1, decide_eq_true h2, decide_eq_true h3, decide_eq_true h4, decide_eq_true h5, decide_eq_true h6, Bool.and_self]
  show PlanNeutral.told (if GlaPlans.asked (.turned a b c d e g) = false then GlaPlans.BAD else .number ((c - a) * (g - d) - (d - b) * (e - c))) = _
  rw [s]
  rfl
theorem great {a b c d e g : Int} (x : Int) (m : x ∈ [a, b, c, d, e, g]) (h : 18446744073709551616 ≤ (if x < 0 then -x else x)) : PyYqglaa.turned a b c d e g = [-1] := by
  have s : GlaPlans.asked (.turned a b c d e g) = false := by
    show List.all _ _ = false
    rw [List.all_eq_false]
    exact ⟨x, m, by rw [size]; simp [h]⟩
  show PlanNeutral.told (if GlaPlans.asked (.turned a b c d e g) = false then GlaPlans.BAD else _) = _
  rw [s]
  rfl
end My
theorem said : PySem.Challenge.rw_glasscartoons_s12_turned.wellSaid = true := by decide +kernel
set_option maxRecDepth 100000 in
set_option maxHeartbeats 8000000 in
theorem PySem.Challenge.cw_glasscartoons_s12_turned_holds : PySem.Challenge.rw_glasscartoons_s12_turned.Holds := by
  open_ks with [.int 0, .int 0, .int 0, .int 0, .int 0, .int 0]
  all_goals
    os_open said with a w q e
    obtain ⟨p1, p2, p3, p4, p5, p6, u⟩ := a
    have e1 := os_j_int (List.cons.inj e).1
    have e := (List.cons.inj e).2
    have e2 := os_j_int (List.cons.inj e).1
    have e := (List.cons.inj e).2
    have e3 := os_j_int (List.cons.inj e).1
    have e := (List.cons.inj e).2
    have e4 := os_j_int (List.cons.inj e).1
    have e := (List.cons.inj e).2
    have e5 := os_j_int (List.cons.inj e).1
    have e := (List.cons.inj e).2
    have e6 := os_j_int (List.cons.inj e).1
    subst e1 e2 e3 e4 e5 e6
    show _ = WData.list (List.map WData.int (PyYqglaa.turned _ _ _ _ _ _))
  · rw [My.great _ (.head _) (by assumption)]; rfl
  · rw [My.great _ (.tail _ (.head _)) (by assumption)]; rfl
  · rw [My.great _ (.tail _ (.tail _ (.head _))) (by assumption)]; rfl
  · rw [My.great _ (.tail _ (.tail _ (.tail _ (.head _)))) (by assumption)]; rfl
  · rw [My.great _ (.tail _ (.tail _ (.tail _ (.tail _ (.head _))))) (by assumption)]; rfl
  · rw [My.great _ (.tail _ (.tail _ (.tail _ (.tail _ (.tail _ (.head _)))))) (by assumption)]; rfl
  · rw [My.small (by assumption) (by assumption) (by assumption) (by assumption) (by assumption) (by assumption)]; rfl
#print axioms PySem.Challenge.cw_glasscartoons_s12_turned_holds
