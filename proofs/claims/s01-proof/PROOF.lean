import PyProof.Rows.All
import Wide.All
import OpenK.AllK
import Wide.FinOn
import PyProof.EqAt
import PyProof.EqKinds
import PyProof.TupleCall
import Open.SpecLaws
import KE.OsHead
import KE.OsGo
import HandS.ForSpec
import HandS.Comp
import HandS.Text
import PySem.Challenge.RW_groupqueue_s01_answers
set_option Elab.async false
set_option maxRecDepth 100000
set_option maxHeartbeats 2000000
/-! The mathematics: facts of the specification's own words, in plain Lean. -/
namespace Gq
open Rp05
theorem at_some {h : House} {r : Nat} {x : Run} (e : h.runs[r]? = some x) : h.at_ r = x := by
  unfold House.at_
  rw [List.getD_eq_getElem?_getD, e]
  rfl
theorem at_out {h : House} {r : Nat} (e : h.runs.length ≤ r) : h.at_ r = ⟨0, 7⟩ := by
  unfold House.at_
  rw [List.getD_eq_getElem?_getD, List.getElem?_eq_none_iff.mpr e]
  rfl
theorem get_at {h : House} {r : Nat} (e : r < h.runs.length) : h.runs[r]? = some (h.at_ r) := by
  unfold House.at_
  rw [List.getD_eq_getElem?_getD, List.getElem?_eq_getElem e]
  rfl
theorem house_ext {h k : House} (g : h.groups = k.groups) (n : h.runs.length = k.runs.length) (e : ∀ r, r < h.runs.length → h.at_ r = k.at_ r) : h = k := by
  cases h with
  | mk hg hr =>
    cases k with
    | mk kg kr =>
      have g' : hg = kg := g
      subst g'
      have e' : hr = kr := by
        apply List.ext_getElem?
        intro i
        by_cases hi : i < hr.length
        · have h1 := get_at (h := ⟨hg, hr⟩) hi
          have h2 := get_at (h := ⟨hg, kr⟩) (r := i) (by show i < kr.length; have : hr.length = kr.length := n; omega)
          show (House.mk hg hr).runs[i]? = (House.mk hg kr).runs[i]?
          rw [h1, h2, e i hi]
        · rw [List.getElem?_eq_none_iff.mpr (by omega), List.getElem?_eq_none_iff.mpr (by have : hr.length = kr.length := n; omega)]
      rw [e']
theorem change_len (h : House) (p : Nat → Bool) (s : Nat) : (h.change p s).runs.length = h.runs.length := by
  unfold House.change
  simp
theorem change_groups (h : House) (p : Nat → Bool) (s : Nat) : (h.change p s).groups = h.groups := rfl
theorem change_at {h : House} {p : Nat → Bool} {s r : Nat} (hr : r < h.runs.length) : (h.change p s).at_ r = if p r = true then { h.at_ r with stand := s } else h.at_ r := by
  refine at_some ?_
  show ((List.range h.runs.length).map fun r => if p r = true then { h.at_ r with stand := s } else h.at_ r)[r]? = _
  rw [List.getElem?_map, List.getElem?_range hr]
  rfl
theorem change_stand {h : House} {p : Nat → Bool} {s r : Nat} (hr : r < h.runs.length) : ((h.change p s).at_ r).stand = if p r = true then s else (h.at_ r).stand := by
  rw [change_at hr]
  split <;> rfl
theorem change_gs (h : House) (p : Nat → Bool) (s r : Nat) : ((h.change p s).at_ r).groups = (h.at_ r).groups := by
  by_cases hr : r < h.runs.length
  · rw [change_at hr]
    split <;> rfl
  · rw [at_out (by rw [change_len]; omega), at_out (by omega)]
theorem change_in (h : House) (p : Nat → Bool) (s r g : Nat) : ((h.change p s).at_ r).in_ g = (h.at_ r).in_ g := by
  unfold Run.in_
  rw [change_gs]
theorem change_groupsOf (h : House) (p : Nat → Bool) (s r : Nat) : (h.change p s).groupsOf r = h.groupsOf r := by
  unfold House.groupsOf
  rw [change_groups]
  congr 1
  funext g
  exact change_in h p s r g
theorem change_group (h : House) (p : Nat → Bool) (s g : Nat) : (h.change p s).group g = h.group g := rfl
/-- changes that change the same -/
theorem change_congr {h : House} {p q : Nat → Bool} {s : Nat} (e : ∀ r, r < h.runs.length → p r = q r) : h.change p s = h.change q s := by
  refine house_ext rfl (by rw [change_len, change_len]) fun r hr => ?_
  rw [change_len] at hr
  rw [change_at hr, change_at hr, e r hr]
/-- nothing is changed -/
theorem change_none {h : House} {p : Nat → Bool} {s : Nat} (e : ∀ r, r < h.runs.length → p r = false) : h.change p s = h := by
  refine house_ext rfl (by rw [change_len]) fun r hr => ?_
  rw [change_len] at hr
  rw [change_at hr, e r hr]
  rfl
/-- one more of the same -/
theorem change_more {h : House} {p q : Nat → Bool} {s : Nat} : (h.change p s).change q s = h.change (fun r => p r || q r) s := by
  refine house_ext rfl (by rw [change_len, change_len, change_len]) fun r hr => ?_
  rw [change_len, change_len] at hr
  rw [change_at (by rw [change_len]; exact hr), change_at hr, change_at hr]
  cases p r <;> cases q r <;> rfl
/-- those newer, by dropping -/
theorem filter_drop (p : Nat → Bool) (r n : Nat) : (List.range n).filter (fun q => decide (r < q) && p q) = ((List.range n).drop (r + 1)).filter p := by
  induction n with
  | zero => simp
  | succ n ih =>
    rw [List.range_succ, List.filter_append, ih]
    by_cases h : r < n
    · rw [List.drop_append_of_le_length (by rw [List.length_range]; omega), List.filter_append]
      congr 1
      rw [List.filter_cons, List.filter_cons, List.filter_nil, decide_eq_true h, Bool.true_and]
      rfl
    · have e1 : (List.range n).drop (r + 1) = [] := List.drop_eq_nil_of_le (by rw [List.length_range]; omega)
      have e2 : (List.range n ++ [n]).drop (r + 1) = [] := List.drop_eq_nil_of_le (by rw [List.length_append, List.length_range]; simp; omega)
      rw [e1, e2]
      simp [h]
theorem newer_drop (h : House) (r g : Nat) : h.newer r g = ((List.range h.runs.length).drop (r + 1)).filter fun q => (h.at_ q).stand == 0 && (h.at_ q).in_ g := filter_drop _ r _
theorem take_range {r n : Nat} (h : r ≤ n) : (List.range n).take r = List.range r := by
  apply List.ext_getElem?
  intro i
  by_cases hi : i < r
  · rw [List.getElem?_take_of_lt hi, List.getElem?_range hi, List.getElem?_range (by omega)]
  · rw [List.getElem?_eq_none_iff.mpr (by rw [List.length_take, List.length_range]; omega), List.getElem?_eq_none_iff.mpr (by rw [List.length_range]; omega)]
theorem mem_groupsOf {h : House} {r g : Nat} : g ∈ h.groupsOf r ↔ g < h.groups.length ∧ (h.at_ r).in_ g = true := by
  unfold House.groupsOf
  rw [List.mem_filter, List.mem_range]
theorem groupsOf_len (h : House) (r : Nat) : (h.groupsOf r).length ≤ h.groups.length := by
  have := List.length_filter_le (fun g => (h.at_ r).in_ g) (List.range h.groups.length)
  rw [List.length_range] at this
  exact this
theorem any_holding (h : House) (r : Nat) : ((h.groupsOf r).any fun g => decide ((h.group g).most ≤ (h.older r g).length)) = !(h.holding r).isEmpty := by
  unfold House.holding
  generalize h.groupsOf r = l
  induction l with
  | nil => rfl
  | cons a l ih =>
    rw [List.any_cons, List.filter_cons, ih]
    cases decide ((h.group a).most ≤ (h.older r a).length) <;> simp
theorem begins_eq (h : House) (r : Nat) : h.begins r = ((h.at_ r).stand == 0 && !((h.groupsOf r).any fun g => decide ((h.group g).most ≤ (h.older r g).length))) := by
  unfold House.begins
  rw [any_holding]
  simp
theorem those_two (h : House) (p q : Nat → Bool) : ((h.those p).filter q) = h.those fun r => p r && q r := by
  unfold House.those
  rw [List.filter_filter]
  congr 1
  funext r
  exact Bool.and_comm _ _
theorem mem_those {h : House} {p : Nat → Bool} {r : Nat} : r ∈ h.those p ↔ r < h.runs.length ∧ p r = true := by
  unfold House.those
  rw [List.mem_filter, List.mem_range]
theorem those_len (h : House) (p : Nat → Bool) : (h.those p).length ≤ h.runs.length := by
  have := List.length_filter_le p (List.range h.runs.length)
  rw [List.length_range] at this
  exact this
/-- how many are here -/
theorem lives_count (h : House) : (h.runs.filter Run.lives).length = (h.those fun r => (h.at_ r).lives).length := by
  have e : h.runs = (List.range h.runs.length).map h.at_ := by
    apply List.ext_getElem?
    intro i
    by_cases hi : i < h.runs.length
    · rw [List.getElem?_map, List.getElem?_range hi, get_at hi]
      rfl
    · rw [List.getElem?_eq_none_iff.mpr (by omega), List.getElem?_eq_none_iff.mpr (by simp; omega)]
  unfold House.those
  conv => lhs; rw [e]
  rw [List.filter_map, List.length_map]
  rfl
theorem runs_eq (h : House) : h.runs = (List.range h.runs.length).map h.at_ := by
  apply List.ext_getElem?
  intro i
  by_cases hi : i < h.runs.length
  · rw [List.getElem?_map, List.getElem?_range hi, get_at hi]
    rfl
  · rw [List.getElem?_eq_none_iff.mpr (by omega), List.getElem?_eq_none_iff.mpr (by simp; omega)]
/-- one more run -/
def more (h : House) (m : Nat) : House := { h with runs := h.runs ++ [⟨m, 0⟩] }
theorem more_len (h : House) (m : Nat) : (more h m).runs.length = h.runs.length + 1 := by
  unfold more
  simp
theorem more_old {h : House} {m r : Nat} (hr : r < h.runs.length) : (more h m).at_ r = h.at_ r := by
  refine at_some ?_
  show (h.runs ++ [⟨m, 0⟩])[r]? = _
  rw [List.getElem?_append_left hr, get_at hr]
theorem more_new (h : House) (m : Nat) : (more h m).at_ h.runs.length = ⟨m, 0⟩ := by
  refine at_some ?_
  show (h.runs ++ [⟨m, 0⟩])[h.runs.length]? = _
  rw [List.getElem?_append_right (Nat.le_refl _)]
  simp
theorem more_groupsOf {h : House} {m r : Nat} (hr : r < h.runs.length) : (more h m).groupsOf r = h.groupsOf r := by
  unfold House.groupsOf
  rw [more_old hr]
  rfl
end Gq
namespace Gq
open Rp05
def cutP (h : House) (r : Nat) : Bool := (h.groupsOf r).all fun g => (h.group g).cut && !(h.newer r g).isEmpty
theorem stops_eq (h : House) (r : Nat) : h.stops r = ((h.at_ r).stand == 1 && cutP h r) := rfl
/-- the houses on submit's way -/
def sA (h : House) (m : Nat) : House := more h m
def sB (h : House) (m : Nat) : House := (sA h m).change (sA h m).outs 5
def sC (h : House) (m : Nat) : House := (sB h m).change (sB h m).begins 1
def ran (h : House) : List Nat := h.those fun r => (h.at_ r).stand == 1
theorem sB_len (h : House) (m : Nat) : (sB h m).runs.length = h.runs.length + 1 := by
  unfold sB
  rw [change_len]
  exact more_len h m
theorem sC_len (h : House) (m : Nat) : (sC h m).runs.length = h.runs.length + 1 := by
  unfold sC
  rw [change_len]
  exact sB_len h m
theorem stays {h : House} {m r : Nat} (hr : r < h.runs.length) (e : (h.at_ r).stand = 1) : ((sC h m).at_ r).stand = 1 := by
  have e1 : ((sA h m).at_ r).stand = 1 := by
    unfold sA
    rw [more_old hr]
    exact e
  have o1 : (sA h m).outs r = false := by
    unfold House.outs
    rw [e1]
    rfl
  have e2 : ((sB h m).at_ r).stand = 1 := by
    unfold sB
    rw [change_stand (by rw [show (sA h m).runs.length = _ from more_len h m]; omega), o1]
    exact e1
  have o2 : (sB h m).begins r = false := by
    unfold House.begins
    rw [e2]
    rfl
  unfold sC
  rw [change_stand (by rw [sB_len]; omega), o2]
  exact e2
def cutQ (h : House) (m r : Nat) : Bool := (sC h m).stops r && ((sA h m).at_ r).stand == 1
theorem cut_at {h : House} {m r : Nat} (hr : r < h.runs.length) : cutQ h m r = ((h.at_ r).stand == 1 && cutP (sC h m) r) := by
  unfold cutQ
  rw [stops_eq, show ((sA h m).at_ r) = h.at_ r from more_old hr]
  cases e : ((h.at_ r).stand == 1) with
  | false => simp
  | true =>
    rw [stays hr (by simpa using e)]
    simp
theorem cut_new (h : House) (m : Nat) : cutQ h m h.runs.length = false := by
  unfold cutQ
  rw [show ((sA h m).at_ h.runs.length) = ⟨m, 0⟩ from more_new h m]
  simp
theorem cut_those (h : House) (m : Nat) : (sC h m).those (cutQ h m) = (ran h).filter (cutP (sC h m)) := by
  unfold House.those ran House.those
  rw [sC_len, List.range_succ, List.filter_append, List.filter_filter]
  have e1 : [h.runs.length].filter (cutQ h m) = [] := by
    rw [List.filter_cons, cut_new]
    rfl
  rw [e1, List.append_nil]
  apply List.filter_congr
  intro r hr
  rw [cut_at (List.mem_range.mp hr)]
  exact Bool.and_comm _ _
theorem cut_change (h : House) (m : Nat) : (sC h m).change (fun r => decide (r ∈ (ran h).filter (cutP (sC h m)))) 2 = (sC h m).change (cutQ h m) 2 := by
  refine change_congr fun r hr => ?_
  rw [← cut_those, Bool.eq_iff_iff, decide_eq_true_iff, mem_those]
  simp [hr]
/-- what submit answers and leaves, in these words -/
theorem submit_eq {h : House} {m : Nat} (h1 : ¬ (m = 0 ∨ 2 ^ h.groups.length ≤ m)) (h2 : ¬ (HERE ≤ (h.runs.filter Run.lives).length ∨ ALL ≤ h.runs.length)) :
    step h (.submit m) = ((sC h m).change (cutQ h m) 2, ⟨(h.runs.length : Nat), told ((sA h m).those (sA h m).outs) ++ (told ((sB h m).those (sB h m).begins) ++ told ((sC h m).those (cutQ h m)))⟩) := by
  show (if m = 0 ∨ 2 ^ h.groups.length ≤ m then _ else if HERE ≤ (h.runs.filter Run.lives).length ∨ ALL ≤ h.runs.length then _ else _) = _
  rw [if_neg h1, if_neg h2]
  rfl
theorem ran_lt {h : House} {r : Nat} (e : r ∈ ran h) : r < h.runs.length := (mem_those.mp e).1
end Gq
/-! The list of calls, taken apart. -/
namespace Gq
theorem shape_inv {p : Int} {x : Nat × Nat} (e : PyRp05.shape p = some x) :
    (p = 0 ∧ x = (1, 0)) ∨ (p = 1 ∧ x = (4, 0)) ∨ (p = 2 ∧ x = (1, 0)) ∨ (p = 3 ∧ x = (2, 0)) ∨ (p = 4 ∧ x = (1, 0)) ∨ (p = 5 ∧ x = (0, 0)) ∨ (p = 6 ∧ x = (1, 0)) ∨ (p = 7 ∧ x = (1, 0)) := by
  unfold PyRp05.shape at e
  by_cases h0 : p = 0
  · rw [if_pos h0] at e; exact .inl ⟨h0, (Option.some.inj e).symm⟩
  rw [if_neg h0] at e
  by_cases h1 : p = 1
  · rw [if_pos h1] at e; exact .inr (.inl ⟨h1, (Option.some.inj e).symm⟩)
  rw [if_neg h1] at e
  by_cases h2 : p = 2
  · rw [if_pos h2] at e; exact .inr (.inr (.inl ⟨h2, (Option.some.inj e).symm⟩))
  rw [if_neg h2] at e
  by_cases h3 : p = 3
  · rw [if_pos h3] at e; exact .inr (.inr (.inr (.inl ⟨h3, (Option.some.inj e).symm⟩)))
  rw [if_neg h3] at e
  by_cases h4 : p = 4
  · rw [if_pos h4] at e; exact .inr (.inr (.inr (.inr (.inl ⟨h4, (Option.some.inj e).symm⟩))))
  rw [if_neg h4] at e
  by_cases h5 : p = 5
  · rw [if_pos h5] at e; exact .inr (.inr (.inr (.inr (.inr (.inl ⟨h5, (Option.some.inj e).symm⟩)))))
  rw [if_neg h5] at e
  by_cases h6 : p = 6
  · rw [if_pos h6] at e; exact .inr (.inr (.inr (.inr (.inr (.inr (.inl ⟨h6, (Option.some.inj e).symm⟩))))))
  rw [if_neg h6] at e
  by_cases h7 : p = 7
  · rw [if_pos h7] at e; exact .inr (.inr (.inr (.inr (.inr (.inr (.inr ⟨h7, (Option.some.inj e).symm⟩))))))
  rw [if_neg h7] at e
  cases e
/-- how many numbers stand behind a call's number -/
def behind : List Nat := [1, 4, 1, 2, 1, 0, 1, 1]
theorem shape_behind {p : Int} {x : Nat × Nat} (e : PyRp05.shape p = some x) : ∃ j : Nat, p = (j : Int) ∧ behind[j]? = some x.1 ∧ x.2 = 0 := by
  rcases shape_inv e with ⟨h, z⟩ | ⟨h, z⟩ | ⟨h, z⟩ | ⟨h, z⟩ | ⟨h, z⟩ | ⟨h, z⟩ | ⟨h, z⟩ | ⟨h, z⟩ <;> subst z
  · exact ⟨0, h, rfl, rfl⟩
  · exact ⟨1, h, rfl, rfl⟩
  · exact ⟨2, h, rfl, rfl⟩
  · exact ⟨3, h, rfl, rfl⟩
  · exact ⟨4, h, rfl, rfl⟩
  · exact ⟨5, h, rfl, rfl⟩
  · exact ⟨6, h, rfl, rfl⟩
  · exact ⟨7, h, rfl, rfl⟩
theorem calls_cons {f : Nat} {p : Int} {r : List Int} {cs : List (List (List Int))} (e : PyFlat.calls PyRp05.shape f (p :: r) = some cs) :
    ∃ (f' n : Nat) (cs' : List (List (List Int))), PyRp05.shape p = some (n, 0) ∧ n ≤ r.length ∧ cs = [p :: r.take n] :: cs' ∧ PyFlat.calls PyRp05.shape f' (r.drop n) = some cs' := by
  cases f with
  | zero => cases e
  | succ f =>
    unfold PyFlat.calls PyFlat.call at e
    dsimp only at e
    cases hs : PyRp05.shape p with
    | none =>
      rw [hs] at e
      cases e
    | some x =>
      obtain ⟨n, k⟩ := x
      have hk : k = 0 := by
        obtain ⟨_, _, _, z⟩ := shape_behind hs
        exact z
      subst hk
      rw [hs] at e
      dsimp only at e
      by_cases hl : r.length < n
      · rw [if_pos hl] at e
        cases e
      · rw [if_neg hl] at e
        unfold PyFlat.rows at e
        dsimp only at e
        cases hc : PyFlat.calls PyRp05.shape f (r.drop n) with
        | none =>
          rw [hc] at e
          cases e
        | some cs' =>
          rw [hc] at e
          exact ⟨f, n, cs', rfl, by omega, (Option.some.inj e).symm, hc⟩
theorem calls_nil {f : Nat} {cs : List (List (List Int))} (e : PyFlat.calls PyRp05.shape f [] = some cs) : cs = [] := by
  unfold PyFlat.calls at e
  exact (Option.some.inj e).symm
theorem whole_id (c : List (List Int)) : PyRp05.whole c = c := by
  unfold PyRp05.whole
  split <;> rfl
theorem map_whole (cs : List (List (List Int))) : cs.map PyRp05.whole = cs := by
  have e : PyRp05.whole = id := funext whole_id
  rw [e, List.map_id]
/-- the call that stands in the list -/
theorem call_of {p : Int} {n : Nat} {args : List Int} (e : PyRp05.shape p = some (n, 0)) (hl : args.length = n) : ∃ c, Rp05Neutral.callOf [p :: args] = some c := by
  rcases shape_inv e with ⟨h, z⟩ | ⟨h, z⟩ | ⟨h, z⟩ | ⟨h, z⟩ | ⟨h, z⟩ | ⟨h, z⟩ | ⟨h, z⟩ | ⟨h, z⟩ <;> (have z := (Prod.mk.inj z).1; subst h; rw [z] at hl)
  · match args, hl with | [_], _ => exact ⟨_, rfl⟩
  · match args, hl with | [_, _, _, _], _ => exact ⟨_, rfl⟩
  · match args, hl with | [_], _ => exact ⟨_, rfl⟩
  · match args, hl with | [_, _], _ => exact ⟨_, rfl⟩
  · match args, hl with | [_], _ => exact ⟨_, rfl⟩
  · match args, hl with | [], _ => exact ⟨_, rfl⟩
  · match args, hl with | [_], _ => exact ⟨_, rfl⟩
  · match args, hl with | [_], _ => exact ⟨_, rfl⟩
theorem step_some {h : Rp05.House} {cc : Rp05Neutral.Call} {c : Rp05.Call} (e : Rp05Neutral.callOf cc = some c) : Rp05Neutral.step h cc = ((Rp05.step h c).1, Rp05Neutral.out (Rp05.step h c).2) := by
  unfold Rp05Neutral.step
  rw [e]
/-- at the place i, with the house h and the answers so far -/
def OnWay (l : List Int) (i : Nat) (h : Rp05.House) (given : List Int) : Prop :=
  ∃ (f : Nat) (cs : List (List (List Int))), PyFlat.calls PyRp05.shape f (l.drop i) = some cs ∧ given ++ PyFlat.told (PyFlat.played Rp05Neutral.step h cs) = PyRp05.answers l
theorem way_start {l : List Int} (ha : PyRp05.answers_asked l = true) : OnWay l 0 Rp05.init [] := by
  unfold PyRp05.answers_asked at ha
  cases e : PyFlat.calls PyRp05.shape l.length l with
  | none =>
    rw [e] at ha
    cases ha
  | some cs =>
    refine ⟨l.length, cs, e, ?_⟩
    unfold PyRp05.answers PyRp05.calls
    rw [e]
    dsimp only
    rw [map_whole, List.nil_append]
    rfl
theorem way_end {l : List Int} {i : Nat} {h : Rp05.House} {given : List Int} (w : OnWay l i h given) (hi : l.length ≤ i) : given = PyRp05.answers l := by
  obtain ⟨f, cs, e, g⟩ := w
  rw [List.drop_eq_nil_of_le hi] at e
  rw [calls_nil e] at g
  rw [← g]
  exact (List.append_nil given).symm
theorem way_step {l : List Int} {i : Nat} {h : Rp05.House} {given : List Int} (w : OnWay l i h given) (hi : i < l.length) :
    ∃ (p : Int) (j n : Nat) (args : List Int) (c : Rp05.Call), l[i]? = some p ∧ p = (j : Int) ∧ behind[j]? = some n ∧ args.length = n ∧ args = (l.drop (i + 1)).take n ∧ i + 1 + n ≤ l.length ∧ Rp05Neutral.callOf [p :: args] = some c ∧
      OnWay l (i + 1 + n) (Rp05.step h c).1 (given ++ [((Rp05Neutral.out (Rp05.step h c).2).length : Int)] ++ Rp05Neutral.out (Rp05.step h c).2) ∧
      (given ++ [((Rp05Neutral.out (Rp05.step h c).2).length : Int)] ++ Rp05Neutral.out (Rp05.step h c).2).length ≤ (PyRp05.answers l).length := by
  obtain ⟨f, cs, e, g⟩ := w
  have ed : l.drop i = l[i] :: l.drop (i + 1) := List.drop_eq_getElem_cons hi
  rw [ed] at e
  obtain ⟨f', n, cs', hs, hn, hc, e'⟩ := calls_cons e
  obtain ⟨j, hj, hb, _⟩ := shape_behind hs
  have hl : ((l.drop (i + 1)).take n).length = n := by rw [List.length_take, Nat.min_eq_left hn]
  obtain ⟨c, ec⟩ := call_of hs hl
  rw [List.length_drop] at hn
  have g2 : given ++ [((Rp05Neutral.out (Rp05.step h c).2).length : Int)] ++ Rp05Neutral.out (Rp05.step h c).2 ++ PyFlat.told (PyFlat.played Rp05Neutral.step (Rp05.step h c).1 cs') = PyRp05.answers l := by
    rw [← g, hc]
    have ep : PyFlat.played Rp05Neutral.step h ([l[i] :: (l.drop (i + 1)).take n] :: cs') = (Rp05Neutral.step h [l[i] :: (l.drop (i + 1)).take n]).2 :: PyFlat.played Rp05Neutral.step (Rp05Neutral.step h [l[i] :: (l.drop (i + 1)).take n]).1 cs' := rfl
    rw [ep, step_some ec]
    unfold PyFlat.told
    rw [List.flatMap_cons]
    simp
  refine ⟨l[i], j, n, _, c, List.getElem?_eq_getElem hi, hj, hb, hl, rfl, by omega, ec, ⟨f', cs', ?_, g2⟩, ?_⟩
  · rw [← e', List.drop_drop]
  · rw [← g2, List.length_append (as := given ++ _ ++ _)]
    exact Nat.le_add_right _ _
theorem asked_short {l : List Int} (ha : PyRp05.answers_asked l = true) : (PyRp05.answers l).length ≤ 10000000 := by
  unfold PyRp05.answers_asked at ha
  cases e : PyFlat.calls PyRp05.shape l.length l with
  | none =>
    rw [e] at ha
    cases ha
  | some cs =>
    rw [e] at ha
    dsimp only at ha
    rw [Bool.and_eq_true] at ha
    exact of_decide_eq_true ha.2
/-- the calls, one by one -/
theorem call_inv {p : Int} {args : List Int} {c : Rp05.Call} (e : Rp05Neutral.callOf [p :: args] = some c) (hp : ∀ x, x ∈ args → 0 ≤ x) :
    (p = 0 ∧ ∃ n : Nat, args = [(n : Int)] ∧ c = .begins n) ∨ (p = 1 ∧ ∃ g m k t : Nat, args = [(g : Int), (m : Int), (k : Int), (t : Int)] ∧ c = .group g m k t) ∨ (p = 2 ∧ ∃ m : Nat, args = [(m : Int)] ∧ c = .submit m) ∨
    (p = 3 ∧ ∃ r q : Nat, args = [(r : Int), (q : Int)] ∧ c = .ended r q) ∨ (p = 4 ∧ ∃ r : Nat, args = [(r : Int)] ∧ c = .cancel r) ∨ (p = 5 ∧ args = [] ∧ c = .stand) ∨ (p = 6 ∧ ∃ r : Nat, args = [(r : Int)] ∧ c = .why r) ∨ (p = 7 ∧ ∃ g : Nat, args = [(g : Int)] ∧ c = .members g) := by
  have up : ∀ x, x ∈ args → ((x.toNat : Nat) : Int) = x := fun x hx => Int.toNat_of_nonneg (hp x hx)
  unfold Rp05Neutral.callOf at e
  split at e
  · rename_i n h
    obtain ⟨h1, h2⟩ := List.cons.inj (List.cons.inj h).1
    subst h1 h2
    refine .inl ⟨rfl, n.toNat, ?_, (Option.some.inj e).symm⟩
    rw [up n (by simp)]
  · rename_i g m k t h
    obtain ⟨h1, h2⟩ := List.cons.inj (List.cons.inj h).1
    subst h1 h2
    refine .inr (.inl ⟨rfl, g.toNat, m.toNat, k.toNat, t.toNat, ?_, (Option.some.inj e).symm⟩)
    rw [up g (by simp), up m (by simp), up k (by simp), up t (by simp)]
  · rename_i n h
    obtain ⟨h1, h2⟩ := List.cons.inj (List.cons.inj h).1
    subst h1 h2
    refine .inr (.inr (.inl ⟨rfl, n.toNat, ?_, (Option.some.inj e).symm⟩))
    rw [up n (by simp)]
  · rename_i r q h
    obtain ⟨h1, h2⟩ := List.cons.inj (List.cons.inj h).1
    subst h1 h2
    refine .inr (.inr (.inr (.inl ⟨rfl, r.toNat, q.toNat, ?_, (Option.some.inj e).symm⟩)))
    rw [up r (by simp), up q (by simp)]
  · rename_i n h
    obtain ⟨h1, h2⟩ := List.cons.inj (List.cons.inj h).1
    subst h1 h2
    refine .inr (.inr (.inr (.inr (.inl ⟨rfl, n.toNat, ?_, (Option.some.inj e).symm⟩))))
    rw [up n (by simp)]
  · rename_i h
    obtain ⟨h1, h2⟩ := List.cons.inj (List.cons.inj h).1
    subst h1 h2
    exact .inr (.inr (.inr (.inr (.inr (.inl ⟨rfl, rfl, (Option.some.inj e).symm⟩)))))
  · rename_i n h
    obtain ⟨h1, h2⟩ := List.cons.inj (List.cons.inj h).1
    subst h1 h2
    refine .inr (.inr (.inr (.inr (.inr (.inr (.inl ⟨rfl, n.toNat, ?_, (Option.some.inj e).symm⟩))))))
    rw [up n (by simp)]
  · rename_i n h
    obtain ⟨h1, h2⟩ := List.cons.inj (List.cons.inj h).1
    subst h1 h2
    refine .inr (.inr (.inr (.inr (.inr (.inr (.inr ⟨rfl, n.toNat, ?_, (Option.some.inj e).symm⟩))))))
    rw [up n (by simp)]
  · cases e
end Gq
namespace Gq
open PySem PySem.Spec PyProof.Rows L2
open PySem.W (Codec)

/-! ### 1. small words of our own -/
theorem pe_cn {X : Cx} {x : Str} {n : Int} {pos : Pos} (hg : Gl X x) (h : ∃ t, X.mg x = some (.int n t)) (hd : (x == ("__debug__" : Str)) = false := by decide) : PE X (.Name x pos) (tC (.int n)) := by
  obtain ⟨t, ht⟩ := h
  exact pe_glob hg ht ⟨_, rfl⟩ hd
theorem if_true_of {c : Bool} {A B : Prop} (hc : c = true) (h : A) : if c = true then A else B := by
  rw [if_pos hc]
  exact h
theorem if_false_of {c : Bool} {A B : Prop} (hc : c = false) (h : B) : if c = true then A else B := by
  rw [hc, if_neg Bool.false_ne_true]
  exact h
theorem Same.new {H : Hp} {p : Addr} {o : HO} (h : H p = none) : Same H (upd H p o) := fun b o' e => by
  rw [upd_ne (ne_of_none e h)]
  exact e
theorem take_snoc {α : Type} : ∀ {l : List α} {i : Nat} {x : α}, l[i]? = some x → l.take (i + 1) = l.take i ++ [x]
  | [], i, x, h => by simp at h
  | a :: l, 0, x, h => by
    have e : a = x := Option.some.inj h
    subst e
    rfl
  | a :: l, i + 1, x, h => by
    have ih := take_snoc (l := l) (i := i) (x := x) h
    show a :: l.take (i + 1) = a :: l.take i ++ [x]
    rw [ih]
    rfl
theorem map_get {α : Type} {is : List α} {f : α → V} {i : Nat} {x : V} (h : (is.map f)[i]? = some x) : ∃ q, is[i]? = some q ∧ x = f q := by
  rw [List.getElem?_map] at h
  cases e : is[i]? with
  | none =>
    rw [e] at h
    cases h
  | some q =>
    rw [e] at h
    exact ⟨q, rfl, (Option.some.inj h).symm⟩
/-- a comprehension over a list: the test p, the element g; both leave all as it was -/
theorem lc_fm {α : Type} {K : PySem.W.Frag} {a : Addr} {j : Nat} {tt : TT} {te : TE} {vs : List Nat} {σ : L2.St} {H1 : Hp} {D : Addr} {Qd : Hp → Prop}
    (is : List α) (f : α → V) (p : α → Bool) (g : α → V) (hS : SqL K H1 a (is.map f)) (hD : H1 D = none) (hz : is.length < sizeLine)
    (hw : ∀ x, wipe ((wipe σ vs).set j (some x)) vs = wipe σ vs)
    (ht : ∀ q, q ∈ is → ∀ H Q, Same H1 H → (∀ H3, Same H H3 → Q (p q) H3) → tt ((wipe σ vs).set j (some (f q))) H Q)
    (he : ∀ q, q ∈ is → p q = true → ∀ H Q, Same H1 H → (∀ H3, Same H H3 → Q (g q) H3) → te ((wipe σ vs).set j (some (f q))) H Q)
    (hd : ∀ H, Same H1 H → H D = some (.lst ((is.filter p).map g)) → Qd H) :
    ∃ W : Nat → Nat → Hp → Prop, (∃ m, W 0 m (upd H1 D (.lst []))) ∧ ∀ i m H, W i m H →
      ((Itl K a).stop i H ∧ Qd H) ∨ ((Itl K a).go i H ∧ ∃ Nx : Hp → Prop, (∀ H', Nx H' → ∃ m', m' < m ∧ W (i + 1) m' H') ∧ ∀ x H', (Itl K a).yld i H x H' → gName j x (wipe σ vs) H' fun σ2 H2 => wipe σ2 vs = wipe σ vs ∧ tt σ2 H2 fun b H3 =>
        if b = true then te σ2 H3 fun y H4 => ∃ acc, H4 D = some (.lst acc) ∧ acc.length < sizeLine ∧ Nx (upd H4 D (.lst (acc ++ [y]))) else Nx H3) := by
  refine lc_list (K := K) (a := a) (xs := is.map f) (fun i H => Same H1 H ∧ H D = some (.lst (((is.take i).filter p).map g))) ⟨Same.new hD, upd_same⟩ (fun i H _ h => h.1.seq hS) ?_ ?_
  · rintro i x H hx ⟨s1, hH⟩
    obtain ⟨q, hq, rfl⟩ := map_get hx
    have mq : q ∈ is := List.mem_of_getElem? hq
    have hl : i < is.length := (List.getElem?_eq_some_iff.mp hq).1
    refine ⟨hw _, ht q mq H _ s1 fun H3 s3 => ?_⟩
    cases hp : p q with
    | false =>
      refine if_false_of rfl ⟨s1.trans s3, ?_⟩
      rw [take_snoc hq, List.filter_append, List.filter_cons, hp]
      simp
      exact s3 _ _ hH
    | true =>
      refine if_true_of rfl (he q mq hp H3 _ (s1.trans s3) fun H4 s4 => ?_)
      refine ⟨_, s4 _ _ (s3 _ _ hH), ?_, ?_, ?_⟩
      · rw [List.length_map]
        have h1 := List.length_filter_le p (is.take i)
        rw [List.length_take] at h1
        omega
      · intro b o e
        rw [upd_ne (ne_of_none e hD)]
        exact s4 _ _ (s3 _ _ (s1 _ _ e))
      · rw [upd_same, take_snoc hq, List.filter_append, List.filter_cons, hp, List.map_append]
        simp
  · rintro H ⟨s1, hH⟩
    rw [List.length_map, List.take_length] at hH
    exact hd H s1 hH
/-- the same over range(n), from 0 -/
theorem lr_fm {n : Nat} {j : Nat} {tt : TT} {te : TE} {vs : List Nat} {σ : L2.St} {H1 : Hp} {D : Addr} {Qd : Hp → Prop}
    (p : Nat → Bool) (g : Nat → V) (hD : H1 D = none) (hz : n < sizeLine)
    (hw : ∀ x, wipe ((wipe σ vs).set j (some x)) vs = wipe σ vs)
    (ht : ∀ q, q < n → ∀ H Q, Same H1 H → (∀ H3, Same H H3 → Q (p q) H3) → tt ((wipe σ vs).set j (some (.int (0 + (q : Int))))) H Q)
    (he : ∀ q, q < n → p q = true → ∀ H Q, Same H1 H → (∀ H3, Same H H3 → Q (g q) H3) → te ((wipe σ vs).set j (some (.int (0 + (q : Int))))) H Q)
    (hd : ∀ H, Same H1 H → H D = some (.lst (((List.range n).filter p).map g)) → Qd H) :
    ∃ W : Nat → Nat → Hp → Prop, (∃ m, W 0 m (upd H1 D (.lst []))) ∧ ∀ i m H, W i m H →
      ((Itr 0 n).stop i H ∧ Qd H) ∨ ((Itr 0 n).go i H ∧ ∃ Nx : Hp → Prop, (∀ H', Nx H' → ∃ m', m' < m ∧ W (i + 1) m' H') ∧ ∀ x H', (Itr 0 n).yld i H x H' → gName j x (wipe σ vs) H' fun σ2 H2 => wipe σ2 vs = wipe σ vs ∧ tt σ2 H2 fun b H3 =>
        if b = true then te σ2 H3 fun y H4 => ∃ acc, H4 D = some (.lst acc) ∧ acc.length < sizeLine ∧ Nx (upd H4 D (.lst (acc ++ [y]))) else Nx H3) := by
  refine lc_range (lo := 0) (n := n) (fun i H => Same H1 H ∧ H D = some (.lst (((List.range i).filter p).map g))) ⟨Same.new hD, upd_same⟩ ?_ ?_
  · rintro i H hi ⟨s1, hH⟩
    refine ⟨hw _, ht i hi H _ s1 fun H3 s3 => ?_⟩
    cases hp : p i with
    | false =>
      refine if_false_of rfl ⟨s1.trans s3, ?_⟩
      rw [List.range_succ, List.filter_append, List.filter_cons, hp]
      simp
      exact s3 _ _ hH
    | true =>
      refine if_true_of rfl (he i hi hp H3 _ (s1.trans s3) fun H4 s4 => ?_)
      refine ⟨_, s4 _ _ (s3 _ _ hH), ?_, ?_, ?_⟩
      · rw [List.length_map]
        have h1 := List.length_filter_le p (List.range i)
        rw [List.length_range] at h1
        omega
      · intro b o e
        rw [upd_ne (ne_of_none e hD)]
        exact s4 _ _ (s3 _ _ (s1 _ _ e))
      · rw [upd_same, List.range_succ, List.filter_append, List.filter_cons, hp, List.map_append]
        simp
  · rintro H ⟨s1, hH⟩
    exact hd H s1 hH
end Gq
namespace Gq
open PySem PySem.Spec PyProof.Rows L2
open PySem.W (Codec)
/-! ### 2. The text by places -/
def top (i : Nat) : Stmt := PySem.Challenge.pw_groupqueue_s01_answers.main.body.getD i (.Pass ⟨0, 0, 0, 0⟩)
abbrev sGI : Stmt := inClass (top 20) 0
abbrev sRI : Stmt := inClass (top 21) 0
abbrev sPlain : Stmt := top 22
abbrev sGis : Stmt := top 23
abbrev sInR : Stmt := top 24
abbrev sHere : Stmt := top 25
abbrev sHog : Stmt := top 26
abbrev sTold : Stmt := top 27
abbrev hm (j : Nat) : Stmt := inClass (top 28) j
abbrev sHI : Stmt := hm 0
abbrev sBegins : Stmt := hm 1
abbrev sGroup : Stmt := hm 2
abbrev sSubmit : Stmt := hm 3
abbrev sEnded : Stmt := hm 4
abbrev sCancel : Stmt := hm 5
abbrev sStandAll : Stmt := hm 6
abbrev sWhy : Stmt := hm 7
abbrev sMembers : Stmt := hm 8
abbrev sFull : Stmt := hm 9
abbrev sStand : Stmt := hm 10
abbrev sPush : Stmt := hm 11
abbrev sBeg : Stmt := hm 12
abbrev sTell : Stmt := hm 13
abbrev sOutd : Stmt := hm 14
abbrev sHold : Stmt := hm 15
abbrev sCut : Stmt := hm 16
abbrev sNewer : Stmt := hm 17
abbrev sOlder : Stmt := hm 18
abbrev sAnswer : Stmt := top 38
abbrev sAnswers : Stmt := top 39
/-! ### 3. The data -/
def gF (m k c : Int) : List (Str × V) := [("most", .int m), ("keep", .int k), ("cuts", .int c)]
def rF (n : Int) (b : Addr) (s : Int) : List (Str × V) := [("number", .int n), ("belongs_to", .ref b), ("stands", .int s)]
def hF (gl rl : Addr) : List (Str × V) := [("groups", .ref gl), ("runs", .ref rl)]
theorem gF_most (m k c : Int) : (gF m k c).lookup ("most" : Str) = some (.int m) := rfl
theorem gF_keep (m k c : Int) : (gF m k c).lookup ("keep" : Str) = some (.int k) := rfl
theorem gF_cuts (m k c : Int) : (gF m k c).lookup ("cuts" : Str) = some (.int c) := rfl
theorem rF_number (n : Int) (b : Addr) (s : Int) : (rF n b s).lookup ("number" : Str) = some (.int n) := rfl
theorem rF_belongs (n : Int) (b : Addr) (s : Int) : (rF n b s).lookup ("belongs_to" : Str) = some (.ref b) := rfl
theorem rF_stands (n : Int) (b : Addr) (s : Int) : (rF n b s).lookup ("stands" : Str) = some (.int s) := rfl
theorem hF_groups (g r : Addr) : (hF g r).lookup ("groups" : Str) = some (.ref g) := rfl
theorem hF_runs (g r : Addr) : (hF g r).lookup ("runs" : Str) = some (.ref r) := rfl
theorem rF_put (n : Int) (b : Addr) (s t : Int) : putF "stands" (.int t) (rF n b s) = rF n b t := rfl
theorem hF_putG (g r x : Addr) : putF "groups" (.ref x) (hF g r) = hF x r := rfl
theorem hF_putR (g r x : Addr) : putF "runs" (.ref x) (hF g r) = hF g x := rfl
theorem gF_new (m k c : Int) : putF "cuts" (.int c) (putF "keep" (.int k) (putF "most" (.int m) [])) = gF m k c := rfl
theorem rF_new (n : Int) (b : Addr) (s : Int) : putF "stands" (.int s) (putF "belongs_to" (.ref b) (putF "number" (.int n) [])) = rF n b s := rfl
theorem hF_new (g r : Addr) : putF "runs" (.ref r) (putF "groups" (.ref g) []) = hF g r := rfl
theorem rF_gF {n m k c s : Int} {b C C' dx dx' : Addr} : HO.ins C dx (rF n b s) ≠ HO.ins C' dx' (gF m k c) := by
  intro z
  have e := (HO.ins.inj z).2.2
  have e1 := (Prod.mk.inj (List.cons.inj e).1).1
  exact absurd e1 (by decide)
theorem rF_hF {n s : Int} {b g r C C' dx dx' : Addr} : HO.ins C dx (rF n b s) ≠ HO.ins C' dx' (hF g r) := by
  intro z
  have e := (HO.ins.inj z).2.2
  have e1 := (Prod.mk.inj (List.cons.inj e).1).1
  exact absurd e1 (by decide)
theorem gF_hF {m k c : Int} {g r C C' dx dx' : Addr} : HO.ins C dx (gF m k c) ≠ HO.ins C' dx' (hF g r) := by
  intro z
  have e := (HO.ins.inj z).2.2
  have e1 := (Prod.mk.inj (List.cons.inj e).1).1
  exact absurd e1 (by decide)
def cI (b : Bool) : Int := if b = true then 1 else 0
/-- the three classes -/
structure Cl where
  g : Addr
  r : Addr
  h : Addr
/-- where the parts of a house stand -/
structure Loc where
  gl : Addr
  rl : Addr
  ga : Nat → Addr
  ra : Nat → Addr
  ba : Nat → Addr
def gRefs (L : Loc) (n : Nat) : List V := (List.range n).map fun q => V.ref (L.ga q)
def rRefs (L : Loc) (is : List Nat) : List V := is.map fun q => V.ref (L.ra q)
def nums (is : List Nat) : List V := is.map fun (q : Nat) => V.int (q : Int)
/-- THE INVARIANT: the house h stands at a, its parts at L -/
structure At (C : Cl) (H : Hp) (a : Addr) (L : Loc) (h : Rp05.House) : Prop where
  ho : ∃ dx, H a = some (.ins C.h dx (hF L.gl L.rl))
  gl : H L.gl = some (.lst (gRefs L h.groups.length))
  ga : ∀ q, q < h.groups.length → ∃ dx, H (L.ga q) = some (.ins C.g dx (gF (h.group q).most (h.group q).keep (cI (h.group q).cut)))
  rl : H L.rl = some (.lst (rRefs L (List.range h.runs.length)))
  ra : ∀ q, q < h.runs.length → ∃ dx, H (L.ra q) = some (.ins C.r dx (rF q (L.ba q) (h.at_ q).stand))
  ba : ∀ q, q < h.runs.length → H (L.ba q) = some (.lst (nums (h.groupsOf q)))
  inj : ∀ p q, p < h.runs.length → q < h.runs.length → L.ra p = L.ra q → p = q
  ng : 1 ≤ h.groups.length ∧ h.groups.length ≤ 8
  nr : h.runs.length ≤ 50
  gr : L.gl ≠ L.rl
  br : ∀ q, q < h.runs.length → L.ba q ≠ L.rl
theorem At.same {C : Cl} {H H' : Hp} {a : Addr} {L : Loc} {h : Rp05.House} (A : At C H a L h) (s : Same H H') : At C H' a L h := by
  refine ⟨?_, s _ _ A.gl, fun q hq => ?_, s _ _ A.rl, fun q hq => ?_, fun q hq => s _ _ (A.ba q hq), A.inj, A.ng, A.nr, A.gr, A.br⟩
  · obtain ⟨dx, e⟩ := A.ho
    exact ⟨dx, s _ _ e⟩
  · obtain ⟨dx, e⟩ := A.ga q hq
    exact ⟨dx, s _ _ e⟩
  · obtain ⟨dx, e⟩ := A.ra q hq
    exact ⟨dx, s _ _ e⟩
/-- what is changed lies in S; what was tracked is tracked -/
structure Kp (S : Addr → Prop) (H H' : Hp) : Prop where
  keep : ∀ b o, H b = some o → ¬ S b → H' b = some o
  dom : ∀ b, H' b = none → H b = none
theorem Kp.of_same {S : Addr → Prop} {H H' : Hp} (s : Same H H') : Kp S H H' := ⟨fun b o e _ => s b o e, fun _ e => s.free e⟩
theorem Kp.trans {S : Addr → Prop} {H H1 H2 : Hp} (a : Kp S H H1) (b : Kp S H1 H2) : Kp S H H2 :=
  ⟨fun c o e n => b.keep c o (a.keep c o e n) n, fun c e => a.dom c (b.dom c e)⟩
theorem Kp.mono {S S' : Addr → Prop} {H H' : Hp} (a : Kp S H H') (i : ∀ b, S b → S' b) : Kp S' H H' := ⟨fun b o e n => a.keep b o e fun z => n (i b z), a.dom⟩
/-- the runs' own objects -/
def RS (L : Loc) (n : Nat) : Addr → Prop := fun b => ∃ q, q < n ∧ b = L.ra q
/-- one run stands elsewhere -/
theorem At.mark {C : Cl} {H : Hp} {a : Addr} {L : Loc} {h : Rp05.House} {r s : Nat} {dx : Addr} (A : At C H a L h) (hr : r < h.runs.length) (e : ∃ z, H (L.ra r) = some (.ins C.r dx (rF r (L.ba r) z))) :
    At C (upd H (L.ra r) (.ins C.r dx (rF r (L.ba r) s))) a L (h.change (fun k => k == r) s) ∧ Kp (RS L h.runs.length) H (upd H (L.ra r) (.ins C.r dx (rF r (L.ba r) s))) := by
  obtain ⟨z, e⟩ := e
  have el : ∀ {b : Addr} {xs : List V}, H b = some (.lst xs) → b ≠ L.ra r := fun eb => ne_of eb e (by intro z; cases z)
  refine ⟨⟨?_, ?_, fun q hq => ?_, ?_, fun q hq => ?_, fun q hq => ?_, ?_, A.ng, by rw [change_len]; exact A.nr, A.gr, by rw [change_len]; exact A.br⟩, ⟨fun b o eb nb => ?_, fun b eb => ?_⟩⟩
  · obtain ⟨dh, eh⟩ := A.ho
    exact ⟨dh, by rw [upd_ne (ne_of eh e fun z => rF_hF z.symm)]; exact eh⟩
  · rw [upd_ne (el A.gl)]
    exact A.gl
  · obtain ⟨dg, eg⟩ := A.ga q hq
    exact ⟨dg, by rw [upd_ne (ne_of eg e fun z => rF_gF z.symm)]; exact eg⟩
  · rw [upd_ne (el A.rl), change_len]
    exact A.rl
  · rw [change_len] at hq
    by_cases hqr : q = r
    · subst hqr
      refine ⟨dx, ?_⟩
      rw [upd_same, change_stand hq, if_pos (beq_self_eq_true q)]
    · obtain ⟨dq, eq⟩ := A.ra q hq
      refine ⟨dq, ?_⟩
      rw [upd_ne fun z => hqr (A.inj q r hq hr z), change_stand hq, if_neg (by simp [hqr])]
      exact eq
  · rw [change_len] at hq
    rw [upd_ne (el (A.ba q hq)), change_groupsOf]
    exact A.ba q hq
  · intro p q hp hq
    rw [change_len] at hp hq
    exact A.inj p q hp hq
  · rw [upd_ne fun z => nb ⟨r, hr, z⟩]
    exact eb
  · by_cases hb : b = L.ra r
    · subst hb
      rw [upd_same] at eb
      cases eb
    · rw [upd_ne hb] at eb
      exact eb
end Gq
namespace Gq
open PySem PySem.Spec PyProof.Rows L2
open PySem.W (Codec)
/-- what the top has written -/
structure Txt (K : PySem.W.Frag) (mg : Str → Option Value) (C : Cl) : Prop where
  cg : Cls K C.g
  cr : Cls K C.r
  ch : Cls K C.h
  nMost : NoAttr K C.g "most"
  nKeep : NoAttr K C.g "keep"
  nCuts : NoAttr K C.g "cuts"
  nNum : NoAttr K C.r "number"
  nBel : NoAttr K C.r "belongs_to"
  nSta : NoAttr K C.r "stands"
  nGrs : NoAttr K C.h "groups"
  nRuns : NoAttr K C.h "runs"
  mgG : mg "Group" = some (.ref C.g)
  mgR : mg "Run" = some (.ref C.r)
  mgH : mg "House" = some (.ref C.h)
  kWaits : ∃ t, mg "WAITS" = some (.int 0 t)
  kRuns : ∃ t, mg "RUNS" = some (.int 1 t)
  kTold : ∃ t, mg "TOLD_TO_STOP" = some (.int 2 t)
  kPassed : ∃ t, mg "PASSED" = some (.int 3 t)
  kFailed : ∃ t, mg "FAILED" = some (.int 4 t)
  kPushed : ∃ t, mg "PUSHED_OUT" = some (.int 5 t)
  kStopped : ∃ t, mg "STOPPED" = some (.int 6 t)
  kCalled : ∃ t, mg "CALLED_OFF" = some (.int 7 t)
  kWrong : ∃ t, mg "WRONG_NUMBER" = some (.int (-1) t)
  kNot : ∃ t, mg "NOT_THERE" = some (.int (-2) t)
  kLate : ∃ t, mg "TOO_LATE" = some (.int (-3) t)
  kAlready : ∃ t, mg "TOLD_ALREADY" = some (.int (-4) t)
  kWrongS : ∃ t, mg "WRONG_STAND" = some (.int (-5) t)
  kFull : ∃ t, mg "FULL" = some (.int (-7) t)
  kGroups : ∃ t, mg "GROUPS_LIMIT" = some (.int 8 t)
  kMost : ∃ t, mg "MOST_LIMIT" = some (.int 4 t)
  kKeep : ∃ t, mg "KEEP_LIMIT" = some (.int 8 t)
  kHere : ∃ t, mg "HERE_LIMIT" = some (.int 20 t)
  kAll : ∃ t, mg "RUNS_LIMIT" = some (.int 50 t)
  bLen : mg "len" = none
  bRange : mg "range" = none
  bAll : mg "all" = none
theorem yes_if {σ : L2.St} {H : Hp} {A B : Hp → Prop} (h : A H) : tYes σ H (fun b H3 => if b = true then A H3 else B H3) := by
  show (if true = true then A H else B H)
  exact iteT h
/-! ### 4. The promises of the small defs -/
def spGI (C : Cl) : Sp := fun vs H Q _ => ∃ (p dx : Addr) (m k c : Int), vs = [.ref p, .int m, .int k, .int c] ∧ H p = some (.ins C.g dx []) ∧ ∀ H' : Hp, H' p = some (.ins C.g dx (gF m k c)) → (∀ b o, H b = some o → b ≠ p → H' b = some o) → Q .non H'
def spRI (C : Cl) : Sp := fun vs H Q _ => ∃ (p dx b : Addr) (n : Int), vs = [.ref p, .int n, .ref b] ∧ H p = some (.ins C.r dx []) ∧ ∀ H' : Hp, H' p = some (.ins C.r dx (rF n b 0)) → (∀ b o, H b = some o → b ≠ p → H' b = some o) → Q .non H'
def spInR : Sp := fun vs H Q _ => ∃ (x lo hi : Int), vs = [.int x, .int lo, .int hi] ∧ Q (.bl (decide (lo ≤ x) && decide (x ≤ hi))) H
def spHere (C : Cl) : Sp := fun vs H Q _ => ∃ (a dx b : Addr) (n s : Int), vs = [.ref a] ∧ H a = some (.ins C.r dx (rF n b s)) ∧ Q (.bl (decide (s ≤ 2))) H
def spGis : Sp := fun vs H Q _ => ∃ (m n : Nat), vs = [.int m, .int n] ∧ n ≤ 8 ∧ ∀ (H' : Hp) (p : Addr), Same H H' → H p = none → H' p = some (.lst (nums ((List.range n).filter fun k => Rp05.bit m k))) → Q (.ref p) H'
def spPlain (C : Cl) : Sp := fun vs H Q _ => ∃ (n : Nat), vs = [.int n] ∧ n ≤ 8 ∧ ∀ (H' : Hp) (p : Addr) (ga : Nat → Addr), Same H H' → H p = none → H' p = some (.lst ((List.range n).map fun q => V.ref (ga q))) →
  (∀ q, q < n → ∃ dx, H' (ga q) = some (.ins C.g dx (gF 1 1 0))) → Q (.ref p) H'
def spTold (C : Cl) (K : PySem.W.Frag) : Sp := fun vs H Q _ => ∃ (l : Addr) (is : List Nat) (ra : Nat → Addr), vs = [.ref l] ∧ SqL K H l (is.map fun q => V.ref (ra q)) ∧ is.length ≤ 1000 ∧
  (∀ q, q ∈ is → ∃ dx b s, H (ra q) = some (.ins C.r dx (rF q b s))) ∧ ∀ (H' : Hp) (p : Addr), Same H H' → H p = none → H' p = some (.lst (nums (is.length :: is))) → Q (.ref p) H'
section
variable {P : Program} {w : World} {K : PySem.W.Frag} {mg : Str → Option Value} {base : Heap} {C : Cl}
theorem scGI : FnScope ["self", "most", "keep", "cuts"] ["self", "most", "keep", "cuts"] (defScope sGI) := ⟨rfl, rfl, rfl, by decide +kernel, rfl, by decide +kernel, by decide +kernel⟩
theorem ok_gi {f : Addr} {fd : FuncData} (F : Fun K "__init__" "Group.__init__" sGI f fd) (T : Txt K mg C) : FnOk P w K mg base CX0 1 f fd ["self", "most", "keep", "cuts"] (spGI C) := by
  refine F.ok scGI (fun vs H Q E h => ?_) (fun cdv A outer s H vs Q E hr h => ?_)
  · obtain ⟨p, dx, m, k, c, rfl, _⟩ := h
    rfl
  · obtain ⟨p, dx, m, k, c, rfl, hp, kk⟩ := h
    refine ⟨_, pss_cons (ps_fld (pv 0) (pv 1) rfl) (pss_cons (ps_fld (pv 0) (pv 2) rfl) (pss_one (ps_fld (pv 0) (pv 3) rfl))), ?_⟩
    refine ⟨_, rfl, _, rfl, p, C.g, dx, [], rfl, hp, T.cg, T.nMost, (by show 0 < 1000; decide), ?_⟩
    refine ⟨_, rfl, _, rfl, p, C.g, dx, _, rfl, upd_same, T.cg, T.nKeep, (by show 1 < 1000; decide), ?_⟩
    refine ⟨_, rfl, _, rfl, p, C.g, dx, _, rfl, upd_same, T.cg, T.nCuts, (by show 2 < 1000; decide), ?_⟩
    exact kk _ upd_same fun b o e hb => by rw [upd_ne hb, upd_ne hb, upd_ne hb]; exact e
theorem scRI : FnScope ["self", "number", "belongs_to"] ["self", "number", "belongs_to"] (defScope sRI) := ⟨rfl, rfl, rfl, by decide +kernel, rfl, by decide +kernel, by decide +kernel⟩
theorem ok_ri {f : Addr} {fd : FuncData} (F : Fun K "__init__" "Run.__init__" sRI f fd) (T : Txt K mg C) : FnOk P w K mg base CX0 1 f fd ["self", "number", "belongs_to"] (spRI C) := by
  refine F.ok scRI (fun vs H Q E h => ?_) (fun cdv A outer s H vs Q E hr h => ?_)
  · obtain ⟨p, dx, b, n, rfl, _⟩ := h
    rfl
  · obtain ⟨p, dx, b, n, rfl, hp, kk⟩ := h
    refine ⟨_, pss_cons (ps_fld (pv 0) (pv 1) rfl) (pss_cons (ps_fld (pv 0) (pv 2) rfl) (pss_one (ps_fld (pv 0) (pe_cn rfl T.kWaits) rfl))), ?_⟩
    refine ⟨_, rfl, _, rfl, p, C.r, dx, [], rfl, hp, T.cr, T.nNum, (by show 0 < 1000; decide), ?_⟩
    refine ⟨_, rfl, _, rfl, p, C.r, dx, _, rfl, upd_same, T.cr, T.nBel, (by show 1 < 1000; decide), ?_⟩
    refine ⟨_, rfl, p, C.r, dx, _, rfl, upd_same, T.cr, T.nSta, (by show 2 < 1000; decide), ?_⟩
    exact kk _ upd_same fun b o e hb => by rw [upd_ne hb, upd_ne hb, upd_ne hb]; exact e
theorem scInR : FnScope ["number", "lowest", "highest"] ["number", "lowest", "highest"] (defScope sInR) := ⟨rfl, rfl, rfl, by decide +kernel, rfl, by decide +kernel, by decide +kernel⟩
theorem ok_inr {f : Addr} {fd : FuncData} (F : Fun K "in_range" "in_range" sInR f fd) : FnOk P w K mg base CX0 1 f fd ["number", "lowest", "highest"] spInR := by
  refine F.ok scInR (fun vs H Q E h => ?_) (fun cdv A outer s H vs Q E hr h => ?_)
  · obtain ⟨x, lo, hi, rfl, _⟩ := h
    rfl
  · obtain ⟨x, lo, hi, rfl, q⟩ := h
    refine ⟨_, pss_one (ps_ret (pe_and (pe_cmpR op_le (pv 1) (pv 0) (nomark _)) (pe_one (pe_cmpR op_le (pv 0) (pv 2) (nomark _))))), ?_⟩
    refine ⟨_, rfl, _, rfl, _, _, rfl, rfl, _, rfl, ?_⟩
    cases e : decide (lo ≤ x) with
    | false =>
      rw [e] at q
      exact if_false_of rfl q
    | true =>
      rw [e] at q
      exact if_true_of rfl ⟨_, rfl, _, rfl, _, _, rfl, rfl, q⟩
theorem scHere : FnScope ["run"] ["run"] (defScope sHere) := ⟨rfl, rfl, rfl, by decide +kernel, rfl, by decide +kernel, by decide +kernel⟩
theorem ok_here {f : Addr} {fd : FuncData} (F : Fun K "is_here" "is_here" sHere f fd) (T : Txt K mg C) : FnOk P w K mg base CX0 1 f fd ["run"] (spHere C) := by
  refine F.ok scHere (fun vs H Q E h => ?_) (fun cdv A outer s H vs Q E hr h => ?_)
  · obtain ⟨a, dx, b, n, s, rfl, _⟩ := h
    rfl
  · obtain ⟨a, dx, b, n, s, rfl, ha, q⟩ := h
    refine ⟨_, pss_one (ps_ret (pe_cmpR op_le (pe_fld (pv 0) rfl) (pe_cn rfl T.kTold) (nomark _))), ?_⟩
    exact ⟨_, rfl, a, C.r, dx, _, _, rfl, ha, T.cr, T.nSta, rF_stands _ _ _, _, _, rfl, rfl, q⟩
theorem scTold : FnScope ["runs", "run"] ["runs"] (defScope sTold) := ⟨rfl, rfl, rfl, by decide +kernel, rfl, by decide +kernel, by decide +kernel⟩
theorem ok_told {f : Addr} {fd : FuncData} (F : Fun K "runs_told" "runs_told" sTold f fd) (T : Txt K mg C) : FnOk P w K mg base CX0 1 f fd ["runs"] (spTold C K) := by
  refine F.ok scTold (fun vs H Q E h => ?_) (fun cdv A outer s H vs Q E hr h => ?_)
  · obtain ⟨l, is, ra, rfl, _⟩ := h
    rfl
  · obtain ⟨l, is, ra, rfl, hS, hz, hi, k⟩ := h
    refine ⟨_, pss_one (ps_ret (pe_op op_cat (pe_lst (pa_cons (pe_callB call_len_seq (by rfl) T.bLen PySem.boot_len (pa_cons (pv 0) pa_nil)) pa_nil))
      (pe_lc (own := [("run", 1)]) (g := gName 1) (tt := tYes) (te := tFld K (tVar 1) "number") rfl scTold.nd (pi_list (pv 0)) (blkOk_by (own := [("run", 1)]) (N := ["runs", "run"]) (sc := defScope sTold) (by decide +kernel)) (fun _ _ _ _ _ => pg_name (i := 1) scTold.nd rfl (Or.inl rfl)) (fun _ _ _ _ _ => pts_nil) (fun _ _ _ _ _ => pe_fld (pv 1) rfl)))), ?_⟩
    refine ⟨_, rfl, l, _, rfl, .inl hS, (by show 1 ≤ sizeLine; decide), fun p1 n1 => ?_⟩
    have s1 : Same H (upd H p1 (.lst [V.int ((is.map fun q => V.ref (ra q)).length : Nat)])) := Same.new n1
    refine ⟨_, rfl, l, rfl, ⟨_, s1.seq hS⟩, fun D nD => ?_⟩
    refine lc_fm (K := K) is (fun q => V.ref (ra q)) (fun _ => true) (fun q => V.int (q : Int)) (s1.seq hS) nD (Nat.lt_of_le_of_lt hz (by decide)) (fun _ => rfl) (fun q hq H3 Q3 s3 k3 => k3 H3 (Same.refl _)) (fun q hq _ H3 Q3 s3 k3 => ?_) (fun H3 s3 hD => ?_)
    · obtain ⟨dx, b, s, e⟩ := hi q hq
      exact ⟨_, rfl, ra q, C.r, dx, _, _, rfl, s3 _ _ (s1 _ _ e), T.cr, T.nNum, rF_number _ _ _, k3 H3 (Same.refl _)⟩
    · have e1 : is.filter (fun _ => true) = is := List.filter_eq_self.mpr fun _ _ => rfl
      rw [e1] at hD
      refine ⟨p1, D, _, _, rfl, rfl, s3 _ _ upd_same, hD, ?_, fun p np => ?_⟩
      · rw [List.length_map, List.length_map]
        show 1 + is.length ≤ sizeLine
        exact Nat.le_trans (Nat.add_le_add_left hz 1) (by decide)
      · refine k _ p ((s1.trans s3).trans (Same.new np)) ((s1.trans s3).free np) ?_
        rw [upd_same, List.length_map]
        rfl
theorem bit_dec (m k : Nat) : decide (V.int (Builtin.bitAnd ((m : Int) / 2 ^ (0 + (k : Int)).toNat) 1) = V.int 1) = Rp05.bit m k := by
  rw [dec_int, bitAnd_m1]
  have e0 : (0 + (k : Int)).toNat = k := by omega
  rw [e0]
  have e1 : ((m : Int) / 2 ^ k % 2) = ((m / 2 ^ k % 2 : Nat) : Int) := by simp
  rw [e1]
  unfold Rp05.bit
  generalize m / 2 ^ k % 2 = z
  rw [Bool.eq_iff_iff]
  simp
  omega
theorem scGis : FnScope ["group_set", "how_many", "number"] ["group_set", "how_many"] (defScope sGis) := ⟨rfl, rfl, rfl, by decide +kernel, rfl, by decide +kernel, by decide +kernel⟩
theorem ok_gis {f : Addr} {fd : FuncData} (F : Fun K "groups_in_set" "groups_in_set" sGis f fd) (T : Txt K mg C) : FnOk P w K mg base CX0 1 f fd ["group_set", "how_many"] spGis := by
  refine F.ok scGis (fun vs H Q E h => ?_) (fun cdv A outer s H vs Q E hr h => ?_)
  · obtain ⟨m, n, rfl, _⟩ := h
    rfl
  · obtain ⟨m, n, rfl, hn, k⟩ := h
    refine ⟨_, pss_one (ps_ret (pe_lc (own := [("number", 2)]) (g := gName 2) (tt := tTest (tOp rEq (tOp (rI0 fun i j => .int (Builtin.bitAnd i j)) (tOp (rI (fun _ j => 0 ≤ j) fun i j => .int (i / 2 ^ j.toNat)) (tVar 0) (tVar 2)) (tC (.int 1))) (tC (.int 1)))) (te := tVar 2) rfl scGis.nd
      (pi_range1 rfl T.bRange (pa_cons (pv 1) pa_nil)) (blkOk_by (own := [("number", 2)]) (N := ["group_set", "how_many", "number"]) (sc := defScope sGis) (by decide +kernel)) (fun _ _ _ _ _ => pg_name (i := 2) scGis.nd rfl (Or.inl rfl))
      (fun _ _ _ _ _ => pts_one (pt_cmpR op_eq (pe_op op_and (pe_op op_shr (pv 0) (pv 2)) pe_int) pe_int (nomark _))) (fun _ _ _ _ _ => pv 2))), ?_⟩
    refine ⟨_, rfl, (n : Int), rfl, by omega, by omega, fun D nD => ?_⟩
    rw [Int.toNat_natCast]
    refine lr_fm (fun q => Rp05.bit m q) (fun q => V.int (q : Int)) nD (Nat.lt_of_le_of_lt hn (by decide)) (fun _ => rfl) (fun q hq H3 Q3 s3 k3 => ?_) (fun q hq _ H3 Q3 s3 k3 => ?_) (fun H3 s3 hD => ?_)
    · refine ⟨_, rfl, _, rfl, _, _, rfl, rfl, (by omega), _, _, rfl, rfl, rfl, _, rfl, ?_⟩
      rw [bit_dec]
      exact k3 H3 (Same.refl _)
    · refine ⟨_, rfl, ?_⟩
      have e : (0 + (q : Int)) = (q : Int) := by omega
      rw [e]
      exact k3 H3 (Same.refl _)
    · exact k H3 D s3 nD hD
theorem scPlain : FnScope ["how_many", "number"] ["how_many"] (defScope sPlain) := ⟨rfl, rfl, rfl, by decide +kernel, rfl, by decide +kernel, by decide +kernel⟩
theorem ok_plain {f fG : Addr} {fd fdG : FuncData} (F : Fun K "plain_groups" "plain_groups" sPlain f fd) (T : Txt K mg C) (M : Mk K C.g fG) (GG : FnOk P w K mg base CX0 1 fG fdG ["self", "most", "keep", "cuts"] (spGI C)) (bG : Binds K fdG ["self", "most", "keep", "cuts"] []) :
    FnOk P w K mg base CX0 3 f fd ["how_many"] (spPlain C) := by
  refine F.ok scPlain (fun vs H Q E h => ?_) (fun cdv A outer s H vs Q E hr h => ?_)
  · obtain ⟨n, rfl, _⟩ := h
    rfl
  · obtain ⟨n, rfl, hn, k⟩ := h
    refine ⟨_, pss_one (ps_ret (pe_lc (own := [("number", 1)]) (g := gName 1) (tt := tYes) (te := tMake C.g (spGI C) [] E0 (tCons (tC (.int 1)) (tCons (tC (.int 1)) (tCons (tC (.int 0)) tNil)))) rfl scPlain.nd
      (pi_range1 rfl T.bRange (pa_cons (pv 0) pa_nil)) (blkOk_by (own := [("number", 1)]) (N := ["how_many", "number"]) (sc := defScope sPlain) (by decide +kernel)) (fun _ _ _ _ _ => pg_name (i := 1) scPlain.nd rfl (Or.inl rfl))
      (fun _ _ _ _ _ => pts_nil) (fun _ _ _ _ _ => pe_make M GG hr rfl T.mgG bG .nil pass0 (pa_cons pe_int (pa_cons pe_int (pa_cons pe_int pa_nil)))))), ?_⟩
    refine ⟨_, rfl, (n : Int), rfl, by omega, by omega, fun D nD => ?_⟩
    rw [Int.toNat_natCast]
    refine lc_range (lo := 0) (n := n) (fun i H3 => Same H H3 ∧ ∃ ga : Nat → Addr, H3 D = some (.lst ((List.range i).map fun q => V.ref (ga q))) ∧ ∀ q, q < i → ∃ dx, H3 (ga q) = some (.ins C.g dx (gF 1 1 0))) ⟨Same.new nD, fun _ => 0, upd_same, fun q hq => absurd hq (Nat.not_lt_zero _)⟩ ?_ ?_
    · rintro i H3 hi ⟨s3, ga, hD, hg⟩
      refine ⟨rfl, yes_if ?_⟩
      intro x dx nx nd ne
      refine ⟨x, dx, 1, 1, 0, rfl, upd_same, fun H4 e4 k4 => ⟨rfl, ?_⟩⟩
      have s4 : Same H3 H4 := Same.made nx nd k4
      have nxD : x ≠ D := fun z => by
        rw [z, hD] at nx
        cases nx
      refine ⟨_, s4 _ _ hD, ?_, ?_, fun q => if q = i then x else ga q, ?_, ?_⟩
      · rw [List.length_map, List.length_range]
        exact Nat.lt_of_lt_of_le (Nat.lt_of_lt_of_le hi hn) (by decide)
      · intro b o e
        rw [upd_ne (ne_of_none e nD)]
        exact s4 _ _ (s3 _ _ e)
      · rw [upd_same, List.range_succ, List.map_append]
        simp only [List.map_cons, List.map_nil, if_true]
        congr 3
        apply List.map_congr_left
        intro q hq
        rw [List.mem_range] at hq
        rw [if_neg (by omega)]
      · intro q hq
        by_cases hqi : q = i
        · refine ⟨dx, ?_⟩
          show upd H4 D _ (if q = i then x else ga q) = _
          rw [if_pos hqi, upd_ne nxD]
          exact e4
        · obtain ⟨dq, eq⟩ := hg q (by omega)
          refine ⟨dq, ?_⟩
          show upd H4 D _ (if q = i then x else ga q) = _
          rw [if_neg hqi, upd_ne (ne_of eq hD (by intro z; cases z))]
          exact s4 _ _ eq
    · rintro H3 ⟨s3, ga, hD, hg⟩
      exact k H3 D ga s3 nD hD hg
end
end Gq
namespace Gq
open PySem PySem.Spec PyProof.Rows L2
open PySem.W (Codec)
open Rp05 (House)
/-! ### 5. Between values and numbers -/
theorem in_nums (g : Nat) : ∀ l : List Nat, inV (.int g) (nums l) = decide (g ∈ l)
  | [] => rfl
  | q :: l => by
    have ih := in_nums g l
    show (eqV (.int q) (.int g) || inV (.int g) (nums l)) = decide (g ∈ q :: l)
    rw [ih]
    show (((q : Int) == (g : Int)) || decide (g ∈ l)) = decide (g ∈ q :: l)
    rw [Bool.eq_iff_iff, Bool.or_eq_true, beq_iff_eq, decide_eq_true_iff, decide_eq_true_iff, List.mem_cons]
    constructor
    · rintro (e | e)
      · exact .inl (by omega)
      · exact .inr e
    · rintro (e | e)
      · exact .inl (by omega)
      · exact .inr e
theorem in_dec {h : House} {q g : Nat} (hg : g < h.groups.length) : inV (.int g) (nums (h.groupsOf q)) = (h.at_ q).in_ g := by
  rw [in_nums, Bool.eq_iff_iff, decide_eq_true_iff, mem_groupsOf]
  simp [hg]
theorem flat_nums : ∀ l : List Nat, (nums l).all flatV = true
  | [] => rfl
  | q :: l => by
    show (true && (nums l).all flatV) = true
    rw [flat_nums l]
    rfl
theorem lives_int (x : Rp05.Run) : decide ((x.stand : Int) ≤ 2) = x.lives := by
  unfold Rp05.Run.lives
  rw [Bool.eq_iff_iff]
  simp
  omega
theorem stand_int (n k : Nat) : decide (V.int (n : Int) = V.int (k : Int)) = (n == k) := by
  rw [dec_int, Bool.eq_iff_iff, beq_iff_eq, beq_iff_eq]
  omega
theorem le_int2 (n k : Nat) : decide ((n : Int) ≤ (k : Int)) = decide (n ≤ k) := by
  rw [Bool.eq_iff_iff]
  simp
theorem cut_lo {L : Loc} {n r : Nat} (hr : r ≤ n) : cutV (rRefs L (List.range n)) none (some (r : Int)) = rRefs L (List.range r) := by
  unfold cutV rRefs
  rw [HT.sIx_none, HT.sIx_nat, List.length_map, List.length_range, List.drop_zero, Nat.sub_zero, ← List.map_take, take_range (by omega), Nat.min_eq_left hr]
theorem cut_hi {L : Loc} {n r : Nat} (hr : r < n) : cutV (rRefs L (List.range n)) (some ((r : Int) + 1)) none = rRefs L ((List.range n).drop (r + 1)) := by
  have e : ((r : Int) + 1) = ((r + 1 : Nat) : Int) := by omega
  unfold cutV rRefs
  rw [e, HT.sIx_none, HT.sIx_nat, List.length_map, List.length_range, ← List.map_drop, Nat.min_eq_left (by omega), List.take_of_length_le (by simp)]
theorem len_drop_range (n r : Nat) : ((List.range n).drop r).length ≤ n := by
  rw [List.length_drop, List.length_range]
  omega
/-! ### 6. The promises of the methods that only look -/
def spHog (C : Cl) : Sp := fun vs H Q _ => ∃ (a l : Addr) (L : Loc) (h : House) (is : List Nat) (g : Nat), vs = [.ref l, .int g] ∧ At C H a L h ∧ H l = some (.lst (rRefs L is)) ∧ is.length ≤ 50 ∧ (∀ q, q ∈ is → q < h.runs.length) ∧ g < h.groups.length ∧
  ∀ (H' : Hp) (p : Addr), Same H H' → H p = none → H' p = some (.lst (rRefs L (is.filter fun q => (h.at_ q).lives && (h.at_ q).in_ g))) → Q (.ref p) H'
def spOlder (C : Cl) : Sp := fun vs H Q _ => ∃ (a : Addr) (L : Loc) (h : House) (r g : Nat), vs = [.ref a, .ref (L.ra r), .int g] ∧ At C H a L h ∧ r < h.runs.length ∧ g < h.groups.length ∧
  ∀ (H' : Hp) (p : Addr), Same H H' → H p = none → H' p = some (.lst (rRefs L (h.older r g))) → Q (.ref p) H'
def spNewer (C : Cl) : Sp := fun vs H Q _ => ∃ (a : Addr) (L : Loc) (h : House) (r g : Nat), vs = [.ref a, .ref (L.ra r), .int g] ∧ At C H a L h ∧ r < h.runs.length ∧ g < h.groups.length ∧
  ∀ (H' : Hp), Same H H' → Q (.int (h.newer r g).length) H'
def spHold (C : Cl) : Sp := fun vs H Q _ => ∃ (a : Addr) (L : Loc) (h : House) (r : Nat), vs = [.ref a, .ref (L.ra r)] ∧ At C H a L h ∧ r < h.runs.length ∧
  ∀ (H' : Hp) (p : Addr), Same H H' → H p = none → H' p = some (.lst (nums (h.holding r))) → Q (.ref p) H'
def spOutd (C : Cl) : Sp := fun vs H Q _ => ∃ (a : Addr) (L : Loc) (h : House) (r : Nat), vs = [.ref a, .ref (L.ra r)] ∧ At C H a L h ∧ r < h.runs.length ∧
  ∀ (H' : Hp), Same H H' → Q (.bl ((h.groupsOf r).all fun g => decide ((h.group g).keep ≤ (h.newer r g).length))) H'
def spCut (C : Cl) : Sp := fun vs H Q _ => ∃ (a : Addr) (L : Loc) (h : House) (r : Nat), vs = [.ref a, .ref (L.ra r)] ∧ At C H a L h ∧ r < h.runs.length ∧
  ∀ (H' : Hp), Same H H' → Q (.bl ((h.groupsOf r).all fun g => (h.group g).cut && !(h.newer r g).isEmpty)) H'
def spStand (C : Cl) : Sp := fun vs H Q _ => ∃ (a : Addr) (L : Loc) (h : House) (k : Nat), vs = [.ref a, .int k] ∧ At C H a L h ∧
  ∀ (H' : Hp) (p : Addr), Same H H' → H p = none → H' p = some (.lst (rRefs L (h.those fun r => (h.at_ r).stand == k))) → Q (.ref p) H'
def spFull (C : Cl) : Sp := fun vs H Q _ => ∃ (a : Addr) (L : Loc) (h : House), vs = [.ref a] ∧ At C H a L h ∧
  ∀ (H' : Hp), Same H H' → Q (.bl (decide (20 ≤ (h.those fun r => (h.at_ r).lives).length) || decide (50 ≤ h.runs.length))) H'
section
variable {P : Program} {w : World} {K : PySem.W.Frag} {mg : Str → Option Value} {base : Heap} {C : Cl}
theorem scHog : FnScope ["runs", "group_number", "run"] ["runs", "group_number"] (defScope sHog) := ⟨rfl, rfl, rfl, by decide +kernel, rfl, by decide +kernel, by decide +kernel⟩
theorem ok_hog {f fH : Addr} {fd fdH : FuncData} (F : Fun K "here_of_group" "here_of_group" sHog f fd) (T : Txt K mg C) (mgH : mg "is_here" = some (.ref fH)) (kpH : PySem.W.keepIn K (.ref fH) = true) (GH : FnOk P w K mg base CX0 1 fH fdH ["run"] (spHere C)) (bH : Binds K fdH ["run"] []) :
    FnOk P w K mg base CX0 2 f fd ["runs", "group_number"] (spHog C) := by
  refine F.ok scHog (fun vs H Q E h => ?_) (fun cdv A outer s H vs Q E hr h => ?_)
  · obtain ⟨a, l, L, h, is, g, rfl, _⟩ := h
    rfl
  · obtain ⟨a, l, L, h, is, g, rfl, I, hl, hz, hi, hg, k⟩ := h
    refine ⟨_, pss_one (ps_ret (pe_lc (own := [("run", 2)]) (g := gName 2) (tt := tAnd (tB (tCall (spHere C) [] E0 (tCons (tVar 2) tNil))) (tTest (tOp (rIn K false) (tVar 1) (tFld K (tVar 2) "belongs_to")))) (te := tVar 2) rfl scHog.nd
        (pi_list (pv 0)) (blkOk_by (own := [("run", 2)]) (N := ["runs", "group_number", "run"]) (sc := defScope sHog) (by decide +kernel)) (fun _ _ _ _ _ => pg_name (i := 2) scHog.nd rfl (Or.inl rfl))
        (fun _ _ _ _ _ => pts_one (PW.pt (pw_and (pt_val (pe_call GH hr rfl mgH kpH bH .nil pass0 (pa_cons (pv 2) pa_nil))) (pw_and1 (pt_cmpR op_in_seq (pv 1) (pe_fld (pv 2) rfl) rfl))))) (fun _ _ _ _ _ => pv 2))), ?_⟩
    refine ⟨_, rfl, l, rfl, ⟨_, SqL.of hl⟩, fun D nD => ?_⟩
    refine lc_fm (K := K) is (fun q => V.ref (L.ra q)) (fun q => (h.at_ q).lives && (h.at_ q).in_ g) (fun q => V.ref (L.ra q)) (SqL.of hl) nD (Nat.lt_of_le_of_lt hz (by decide)) (fun _ => rfl) (fun q hq H3 Q3 s3 k3 => ?_) (fun q hq _ H3 Q3 s3 k3 => ⟨_, rfl, k3 H3 (Same.refl _)⟩) (fun H3 s3 hD => k H3 D s3 nD hD)
    have hq' : q < h.runs.length := hi q hq
    have I3 := I.same s3
    obtain ⟨dq, eq⟩ := I3.ra q hq'
    refine ⟨_, rfl, L.ra q, dq, L.ba q, _, _, rfl, eq, _, rfl, ?_⟩
    rw [lives_int]
    cases hl : (h.at_ q).lives with
    | false =>
      refine iteF ?_
      have := k3 H3 (Same.refl _)
      rw [hl] at this
      exact this
    | true =>
      refine iteT ?_
      refine ⟨_, rfl, _, rfl, L.ra q, C.r, dq, _, _, rfl, eq, T.cr, T.nBel, rF_belongs _ _ _, L.ba q, _, rfl, .inl (SqL.of (I3.ba q hq')), rfl, flat_nums _, _, rfl, ?_⟩
      have := k3 H3 (Same.refl _)
      rw [hl] at this
      rw [in_dec hg]
      exact this
theorem scOlder : FnScope ["self", "run", "group_number"] ["self", "run", "group_number"] (defScope sOlder) := ⟨rfl, rfl, rfl, by decide +kernel, rfl, by decide +kernel, by decide +kernel⟩
theorem ok_older {f fH : Addr} {fd fdH : FuncData} (F : Fun K "older_here" "House.older_here" sOlder f fd) (T : Txt K mg C) (mgH : mg "here_of_group" = some (.ref fH)) (kpH : PySem.W.keepIn K (.ref fH) = true) (GH : FnOk P w K mg base CX0 2 fH fdH ["runs", "group_number"] (spHog C)) (bH : Binds K fdH ["runs", "group_number"] []) :
    FnOk P w K mg base CX0 3 f fd ["self", "run", "group_number"] (spOlder C) := by
  refine F.ok scOlder (fun vs H Q E h => ?_) (fun cdv A outer s H vs Q E hr h => ?_)
  · obtain ⟨a, L, h, r, g, rfl, _⟩ := h
    rfl
  · obtain ⟨a, L, h, r, g, rfl, I, hr', hg, k⟩ := h
    refine ⟨_, pss_one (ps_ret (pe_call GH hr rfl mgH kpH bH .nil pass0 (pa_cons (pe_slice sl_list (pe_fld (pv 0) rfl) po_none (po_some (pe_fld (pv 1) rfl))) (pa_cons (pv 2) pa_nil)))), ?_⟩
    obtain ⟨da, ea⟩ := I.ho
    obtain ⟨dr, er⟩ := I.ra r hr'
    refine ⟨_, rfl, a, C.h, da, _, _, rfl, ea, T.ch, T.nRuns, hF_runs _ _, ?_⟩
    refine ⟨_, rfl, L.ra r, C.r, dr, _, _, rfl, er, T.cr, T.nNum, rF_number _ _ _, _, rfl, L.rl, _, rfl, SqL.of I.rl, fun p np => ?_⟩
    rw [cut_lo (Nat.le_of_lt hr')]
    have s1 : Same H (upd H p (.lst (rRefs L (List.range r)))) := Same.new np
    refine ⟨_, rfl, a, p, L, h, List.range r, g, rfl, I.same s1, upd_same, ?_, fun q hq => Nat.lt_trans (List.mem_range.mp hq) hr', hg, fun H3 D s3 nD hD => k H3 D (s1.trans s3) (s1.free nD) hD⟩
    rw [List.length_range]
    exact Nat.le_trans (Nat.le_of_lt hr') I.nr
theorem scNewer : FnScope ["self", "run", "group_number", "newer", "other"] ["self", "run", "group_number"] (defScope sNewer) := ⟨rfl, rfl, rfl, by decide +kernel, rfl, by decide +kernel, by decide +kernel⟩
theorem ok_newer {f : Addr} {fd : FuncData} (F : Fun K "newer_waiting" "House.newer_waiting" sNewer f fd) (T : Txt K mg C) : FnOk P w K mg base CX0 1 f fd ["self", "run", "group_number"] (spNewer C) := by
  refine F.ok scNewer (fun vs H Q E h => ?_) (fun cdv A outer s H vs Q E hr h => ?_)
  · obtain ⟨a, L, h, r, g, rfl, _⟩ := h
    rfl
  · obtain ⟨a, L, h, r, g, rfl, I, hr', hg, k⟩ := h
    refine ⟨_, pss_cons (ps_set (i := 3) scNewer.nd rfl (Or.inl rfl) (pe_slice sl_list (pe_fld (pv 0) rfl) (po_some (pe_op op_add (pe_fld (pv 1) rfl) pe_int)) po_none))
      (pss_one (ps_ret (pe_callB call_len_seq (by rfl) T.bLen PySem.boot_len (pa_cons (pe_lc (own := [("other", 4)]) (g := gName 4) (tt := tAnd (tTest (tOp rEq (tFld K (tVar 4) "stands") (tC (.int 0)))) (tTest (tOp (rIn K false) (tVar 2) (tFld K (tVar 4) "belongs_to")))) (te := tVar 4) rfl scNewer.nd
        (pi_list (pv 3)) (blkOk_by (own := [("other", 4)]) (N := ["self", "run", "group_number", "newer", "other"]) (sc := defScope sNewer) (by decide +kernel)) (fun _ _ _ _ _ => pg_name (i := 4) scNewer.nd rfl (Or.inl rfl))
        (fun _ _ _ _ _ => pts_one (PW.pt (pw_and (pt_cmpR op_eq (pe_fld (pv 4) rfl) (pe_cn rfl T.kWaits) (nomark _)) (pw_and1 (pt_cmpR op_in_seq (pv 2) (pe_fld (pv 4) rfl) rfl))))) (fun _ _ _ _ _ => pv 4)) pa_nil)))), ?_⟩
    obtain ⟨da, ea⟩ := I.ho
    obtain ⟨dr, er⟩ := I.ra r hr'
    refine ⟨_, rfl, a, C.h, da, _, _, rfl, ea, T.ch, T.nRuns, hF_runs _ _, ?_⟩
    refine ⟨_, rfl, L.ra r, C.r, dr, _, _, rfl, er, T.cr, T.nNum, rF_number _ _ _, _, _, rfl, rfl, _, rfl, L.rl, _, rfl, SqL.of I.rl, fun p np => ?_⟩
    rw [cut_hi hr']
    have s1 : Same H (upd H p (.lst (rRefs L ((List.range h.runs.length).drop (r + 1))))) := Same.new np
    refine ⟨_, rfl, p, rfl, ⟨_, SqL.of upd_same⟩, fun D nD => ?_⟩
    refine lc_fm (K := K) ((List.range h.runs.length).drop (r + 1)) (fun q => V.ref (L.ra q)) (fun q => (h.at_ q).stand == 0 && (h.at_ q).in_ g) (fun q => V.ref (L.ra q)) (SqL.of upd_same) nD (Nat.lt_of_le_of_lt (Nat.le_trans (len_drop_range _ _) I.nr) (by decide)) (fun _ => rfl) (fun q hq H3 Q3 s3 k3 => ?_) (fun q hq _ H3 Q3 s3 k3 => ⟨_, rfl, k3 H3 (Same.refl _)⟩) (fun H3 s3 hD => ?_)
    · have hq' : q < h.runs.length := List.mem_range.mp (List.mem_of_mem_drop hq)
      have I3 := I.same (s1.trans s3)
      obtain ⟨dq, eq⟩ := I3.ra q hq'
      refine ⟨_, rfl, L.ra q, C.r, dq, _, _, rfl, eq, T.cr, T.nSta, rF_stands _ _ _, rfl, _, rfl, ?_⟩
      rw [show decide (V.int ((h.at_ q).stand : Int) = V.int 0) = ((h.at_ q).stand == 0) from stand_int _ 0]
      cases hl : ((h.at_ q).stand == 0) with
      | false =>
        refine iteF ?_
        have := k3 H3 (Same.refl _)
        rw [hl] at this
        exact this
      | true =>
        refine iteT ?_
        refine ⟨_, rfl, _, rfl, L.ra q, C.r, dq, _, _, rfl, eq, T.cr, T.nBel, rF_belongs _ _ _, L.ba q, _, rfl, .inl (SqL.of (I3.ba q hq')), rfl, flat_nums _, _, rfl, ?_⟩
        have := k3 H3 (Same.refl _)
        rw [hl] at this
        rw [in_dec hg]
        exact this
    · refine ⟨D, _, rfl, .inl (SqL.of hD), ?_⟩
      rw [List.length_map, ← newer_drop]
      exact k H3 (s1.trans s3)
end
end Gq
namespace Gq
open PySem PySem.Spec PyProof.Rows L2
open PySem.W (Codec)
open Rp05 (House)
/-- a method that keeps its promise; a def that does -/
def Mth (P : Program) (w : World) (K : PySem.W.Frag) (mg : Str → Option Value) (base : Heap) (C : Addr) (m : Str) (k : Nat) (ps : List Str) (sp : Sp) : Prop :=
  ∃ (f : Addr) (fd : FuncData), Meth K C m f ∧ FnOk P w K mg base CX0 k f fd ps sp ∧ Binds K fd ps []
def Dfn (P : Program) (w : World) (K : PySem.W.Frag) (mg : Str → Option Value) (base : Heap) (x : Str) (k : Nat) (ps : List Str) (sp : Sp) : Prop :=
  ∃ (f : Addr) (fd : FuncData), mg x = some (.ref f) ∧ PySem.W.keepIn K (.ref f) = true ∧ FnOk P w K mg base CX0 k f fd ps sp ∧ Binds K fd ps []
def Mak (P : Program) (w : World) (K : PySem.W.Frag) (mg : Str → Option Value) (base : Heap) (C : Addr) (k : Nat) (ps : List Str) (sp : Sp) : Prop :=
  ∃ (f : Addr) (fd : FuncData), Mk K C f ∧ FnOk P w K mg base CX0 k f fd ps sp ∧ Binds K fd ps []
def rLen (K : PySem.W.Frag) : List V → Hp → VK → Prop := fun xs H Q => ∃ p ys, xs = [.ref p] ∧ (SqL K H p ys ∨ SqT K H p ys) ∧ Q (.int ys.length) H
theorem gRefs_get {L : Loc} {n g : Nat} (h : g < n) : (gRefs L n)[g]? = some (V.ref (L.ga g)) := by
  unfold gRefs
  rw [List.getElem?_map, List.getElem?_range h]
  rfl
theorem rRefs_get {L : Loc} {n g : Nat} (h : g < n) : (rRefs L (List.range n))[g]? = some (V.ref (L.ra g)) := by
  unfold rRefs
  rw [List.getElem?_map, List.getElem?_range h]
  rfl
theorem filter_yes {α : Type} (l : List α) : l.filter (fun _ => true) = l := List.filter_eq_self.mpr fun _ _ => rfl
theorem cI_one (b : Bool) : decide (V.int (cI b) = V.int 1) = b := by
  cases b <;> rfl
theorem pos_len (l : List Nat) : decide ((0 : Int) < (l.length : Int)) = !l.isEmpty := by
  cases l with
  | nil => rfl
  | cons a l =>
    rw [decide_eq_true (by rw [List.length_cons]; omega)]
    rfl
section
variable {P : Program} {w : World} {K : PySem.W.Frag} {mg : Str → Option Value} {base : Heap} {C : Cl}
theorem scHold : FnScope ["self", "run", "number"] ["self", "run"] (defScope sHold) := ⟨rfl, rfl, rfl, by decide +kernel, rfl, by decide +kernel, by decide +kernel⟩
theorem ok_hold {f : Addr} {fd : FuncData} (F : Fun K "groups_holding_back" "House.groups_holding_back" sHold f fd) (T : Txt K mg C) (mO : Mth P w K mg base C.h "older_here" 3 ["self", "run", "group_number"] (spOlder C)) : FnOk P w K mg base CX0 4 f fd ["self", "run"] (spHold C) := by
  obtain ⟨fO, fdO, mO, GO, bO⟩ := mO
  refine F.ok scHold (fun vs H Q E h => ?_) (fun cdv A outer s H vs Q E hr h => ?_)
  · obtain ⟨a, L, h, r, rfl, _⟩ := h
    rfl
  · obtain ⟨a, L, h, r, rfl, I, hr', k⟩ := h
    refine ⟨_, pss_one (ps_ret (pe_lc (own := [("number", 2)]) (g := gName 2)
        (tt := tTest (tOp (rI0 fun i j => .bl (decide (j ≤ i))) (tCB (rLen K) (tCons (tMeth C.h "older_here" (spOlder C) [] E0 (tVar 0) (tCons (tVar 1) (tCons (tVar 2) tNil))) tNil)) (tFld K (tOp (rIxL K) (tFld K (tVar 0) "groups") (tVar 2)) "most")))
        (te := tVar 2) rfl scHold.nd
        (pi_list (pe_fld (pv 1) rfl)) (blkOk_by (own := [("number", 2)]) (N := ["self", "run", "number"]) (sc := defScope sHold) (by decide +kernel)) (fun _ _ _ _ _ => pg_name (i := 2) scHold.nd rfl (Or.inl rfl))
        (fun _ _ _ _ _ => pts_one (pt_cmpR op_ge (pe_callB call_len_seq (by rfl) T.bLen PySem.boot_len (pa_cons (pe_meth (pv 0) T.ch mO GO hr bO .nil pass0 (pa_cons (pv 1) (pa_cons (pv 2) pa_nil))) pa_nil))
          (pe_fld (pe_ix ix_list (pe_fld (pv 0) rfl) (pv 2) (fun _ _ => rfl)) rfl) (nomark _))) (fun _ _ _ _ _ => pv 2))), ?_⟩
    obtain ⟨dr, er⟩ := I.ra r hr'
    refine ⟨_, rfl, L.ra r, C.r, dr, _, _, rfl, er, T.cr, T.nBel, rF_belongs _ _ _, L.ba r, rfl, ⟨_, SqL.of (I.ba r hr')⟩, fun D nD => ?_⟩
    refine lc_fm (K := K) (h.groupsOf r) (fun q => V.int (q : Int)) (fun g => decide ((h.group g).most ≤ (h.older r g).length)) (fun q => V.int (q : Int)) (SqL.of (I.ba r hr')) nD (Nat.lt_of_le_of_lt (Nat.le_trans (groupsOf_len _ _) I.ng.2) (by decide)) (fun _ => rfl) (fun q hq H3 Q3 s3 k3 => ?_) (fun q hq _ H3 Q3 s3 k3 => ⟨_, rfl, k3 H3 (Same.refl _)⟩) (fun H3 s3 hD => k H3 D s3 nD hD)
    have hg := (mem_groupsOf.mp hq).1
    have I3 := I.same s3
    obtain ⟨da, ea⟩ := I3.ho
    refine ⟨_, rfl, a, da, _, rfl, ea, rfl, _, rfl, _, rfl, a, L, h, r, q, rfl, I3, hr', hg, fun H4 p4 s4 n4 e4 => ?_⟩
    have I4 := I3.same s4
    obtain ⟨da4, ea4⟩ := I4.ho
    obtain ⟨dg, eg⟩ := I4.ga q hg
    refine ⟨p4, _, rfl, .inl (SqL.of e4), ?_⟩
    refine ⟨_, rfl, a, C.h, da4, _, _, rfl, ea4, T.ch, T.nGrs, hF_groups _ _, _, rfl, L.gl, _, _, _, rfl, rfl, SqL.of I4.gl, atI_nat (gRefs_get hg), L.ga q, C.g, dg, _, _, rfl, eg, T.cg, T.nMost, gF_most _ _ _, _, _, rfl, rfl, _, rfl, ?_⟩
    show Q3 (decide (((h.group q).most : Int) ≤ ((rRefs L (h.older r q)).length : Int))) H4
    unfold rRefs
    rw [List.length_map, le_int2]
    exact k3 H4 s4
theorem scOutd : FnScope ["self", "run", "number"] ["self", "run"] (defScope sOutd) := ⟨rfl, rfl, rfl, by decide +kernel, rfl, by decide +kernel, by decide +kernel⟩
theorem ok_outd {f : Addr} {fd : FuncData} (F : Fun K "is_outdated" "House.is_outdated" sOutd f fd) (T : Txt K mg C) (mO : Mth P w K mg base C.h "newer_waiting" 1 ["self", "run", "group_number"] (spNewer C)) : FnOk P w K mg base CX0 2 f fd ["self", "run"] (spOutd C) := by
  obtain ⟨fO, fdO, mO, GO, bO⟩ := mO
  refine F.ok scOutd (fun vs H Q E h => ?_) (fun cdv A outer s H vs Q E hr h => ?_)
  · obtain ⟨a, L, h, r, rfl, _⟩ := h
    rfl
  · obtain ⟨a, L, h, r, rfl, I, hr', k⟩ := h
    refine ⟨_, pss_one (ps_ret (pe_callB (cr_all rfl) (by rfl) T.bAll (by decide +kernel) (pa_cons (pe_lc (own := [("number", 2)]) (g := gName 2) (tt := tYes)
        (te := tOp (rI0 fun i j => .bl (decide (j ≤ i))) (tMeth C.h "newer_waiting" (spNewer C) [] E0 (tVar 0) (tCons (tVar 1) (tCons (tVar 2) tNil))) (tFld K (tOp (rIxL K) (tFld K (tVar 0) "groups") (tVar 2)) "keep")) rfl scOutd.nd
        (pi_list (pe_fld (pv 1) rfl)) (blkOk_by (own := [("number", 2)]) (N := ["self", "run", "number"]) (sc := defScope sOutd) (by decide +kernel)) (fun _ _ _ _ _ => pg_name (i := 2) scOutd.nd rfl (Or.inl rfl))
        (fun _ _ _ _ _ => pts_nil) (fun _ _ _ _ _ => pe_cmpR op_ge (pe_meth (pv 0) T.ch mO GO hr bO .nil pass0 (pa_cons (pv 1) (pa_cons (pv 2) pa_nil)))
          (pe_fld (pe_ix ix_list (pe_fld (pv 0) rfl) (pv 2) (fun _ _ => rfl)) rfl) (nomark _))) pa_nil))), ?_⟩
    obtain ⟨dr, er⟩ := I.ra r hr'
    refine ⟨_, rfl, L.ra r, C.r, dr, _, _, rfl, er, T.cr, T.nBel, rF_belongs _ _ _, L.ba r, rfl, ⟨_, SqL.of (I.ba r hr')⟩, fun D nD => ?_⟩
    refine lc_fm (K := K) (h.groupsOf r) (fun q => V.int (q : Int)) (fun _ => true) (fun g => V.bl (decide ((h.group g).keep ≤ (h.newer r g).length))) (SqL.of (I.ba r hr')) nD (Nat.lt_of_le_of_lt (Nat.le_trans (groupsOf_len _ _) I.ng.2) (by decide)) (fun _ => rfl) (fun q hq H3 Q3 s3 k3 => k3 H3 (Same.refl _)) (fun q hq _ H3 Q3 s3 k3 => ?_) (fun H3 s3 hD => ?_)
    · have hg := (mem_groupsOf.mp hq).1
      have I3 := I.same s3
      obtain ⟨da, ea⟩ := I3.ho
      refine ⟨_, rfl, a, da, _, rfl, ea, rfl, _, rfl, _, rfl, a, L, h, r, q, rfl, I3, hr', hg, fun H4 s4 => ?_⟩
      have I4 := I3.same s4
      obtain ⟨da4, ea4⟩ := I4.ho
      obtain ⟨dg, eg⟩ := I4.ga q hg
      refine ⟨_, rfl, a, C.h, da4, _, _, rfl, ea4, T.ch, T.nGrs, hF_groups _ _, _, rfl, L.gl, _, _, _, rfl, rfl, SqL.of I4.gl, atI_nat (gRefs_get hg), L.ga q, C.g, dg, _, _, rfl, eg, T.cg, T.nKeep, gF_keep _ _ _, _, _, rfl, rfl, ?_⟩
      show Q3 (V.bl (decide (((h.group q).keep : Int) ≤ ((h.newer r q).length : Int)))) H4
      rw [le_int2]
      exact k3 H4 s4
    · rw [filter_yes] at hD
      refine ⟨D, (h.groupsOf r).map fun g => decide ((h.group g).keep ≤ (h.newer r g).length), rfl, SqL.of (by rw [List.map_map]; exact hD), ?_⟩
      rw [List.all_map]
      exact k H3 s3
theorem scCut : FnScope ["self", "run", "number"] ["self", "run"] (defScope sCut) := ⟨rfl, rfl, rfl, by decide +kernel, rfl, by decide +kernel, by decide +kernel⟩
theorem ok_cut {f : Addr} {fd : FuncData} (F : Fun K "is_cut" "House.is_cut" sCut f fd) (T : Txt K mg C) (mO : Mth P w K mg base C.h "newer_waiting" 1 ["self", "run", "group_number"] (spNewer C)) : FnOk P w K mg base CX0 2 f fd ["self", "run"] (spCut C) := by
  obtain ⟨fO, fdO, mO, GO, bO⟩ := mO
  refine F.ok scCut (fun vs H Q E h => ?_) (fun cdv A outer s H vs Q E hr h => ?_)
  · obtain ⟨a, L, h, r, rfl, _⟩ := h
    rfl
  · obtain ⟨a, L, h, r, rfl, I, hr', k⟩ := h
    refine ⟨_, pss_one (ps_ret (pe_callB (cr_all rfl) (by rfl) T.bAll (by decide +kernel) (pa_cons (pe_lc (own := [("number", 2)]) (g := gName 2) (tt := tYes)
        (te := tAndV (tOp rEq (tFld K (tOp (rIxL K) (tFld K (tVar 0) "groups") (tVar 2)) "cuts") (tC (.int 1))) (tOp (rI0 fun i j => .bl (decide (j < i))) (tMeth C.h "newer_waiting" (spNewer C) [] E0 (tVar 0) (tCons (tVar 1) (tCons (tVar 2) tNil))) (tC (.int 0)))) rfl scCut.nd
        (pi_list (pe_fld (pv 1) rfl)) (blkOk_by (own := [("number", 2)]) (N := ["self", "run", "number"]) (sc := defScope sCut) (by decide +kernel)) (fun _ _ _ _ _ => pg_name (i := 2) scCut.nd rfl (Or.inl rfl))
        (fun _ _ _ _ _ => pts_nil) (fun _ _ _ _ _ => pe_and (pe_cmpR op_eq (pe_fld (pe_ix ix_list (pe_fld (pv 0) rfl) (pv 2) (fun _ _ => rfl)) rfl) pe_int (nomark _)) (pe_one (pe_cmpR op_gt (pe_meth (pv 0) T.ch mO GO hr bO .nil pass0 (pa_cons (pv 1) (pa_cons (pv 2) pa_nil)))
          pe_int (nomark _))))) pa_nil))), ?_⟩
    obtain ⟨dr, er⟩ := I.ra r hr'
    refine ⟨_, rfl, L.ra r, C.r, dr, _, _, rfl, er, T.cr, T.nBel, rF_belongs _ _ _, L.ba r, rfl, ⟨_, SqL.of (I.ba r hr')⟩, fun D nD => ?_⟩
    refine lc_fm (K := K) (h.groupsOf r) (fun q => V.int (q : Int)) (fun _ => true) (fun g => V.bl ((h.group g).cut && !(h.newer r g).isEmpty)) (SqL.of (I.ba r hr')) nD (Nat.lt_of_le_of_lt (Nat.le_trans (groupsOf_len _ _) I.ng.2) (by decide)) (fun _ => rfl) (fun q hq H3 Q3 s3 k3 => k3 H3 (Same.refl _)) (fun q hq _ H3 Q3 s3 k3 => ?_) (fun H3 s3 hD => ?_)
    · have hg := (mem_groupsOf.mp hq).1
      have I3 := I.same s3
      obtain ⟨da, ea⟩ := I3.ho
      obtain ⟨dg, eg⟩ := I3.ga q hg
      refine ⟨_, rfl, a, C.h, da, _, _, rfl, ea, T.ch, T.nGrs, hF_groups _ _, _, rfl, L.gl, _, _, _, rfl, rfl, SqL.of I3.gl, atI_nat (gRefs_get hg), L.ga q, C.g, dg, _, _, rfl, eg, T.cg, T.nCuts, gF_cuts _ _ _, rfl, _, rfl, ?_⟩
      rw [cI_one]
      cases hc : (h.group q).cut with
      | false =>
        refine iteF ?_
        have := k3 H3 (Same.refl _)
        rw [hc] at this
        exact this
      | true =>
        refine iteT ?_
        refine ⟨_, rfl, a, da, _, rfl, ea, rfl, _, rfl, _, rfl, a, L, h, r, q, rfl, I3, hr', hg, fun H4 s4 => ?_⟩
        refine ⟨_, _, rfl, rfl, ?_⟩
        show Q3 (V.bl (decide ((0 : Int) < ((h.newer r q).length : Int)))) H4
        rw [pos_len]
        have := k3 H4 s4
        rw [hc] at this
        exact this
    · rw [filter_yes] at hD
      refine ⟨D, (h.groupsOf r).map fun g => (h.group g).cut && !(h.newer r g).isEmpty, rfl, SqL.of (by rw [List.map_map]; exact hD), ?_⟩
      rw [List.all_map]
      exact k H3 s3
theorem scStand : FnScope ["self", "where", "run"] ["self", "where"] (defScope sStand) := ⟨rfl, rfl, rfl, by decide +kernel, rfl, by decide +kernel, by decide +kernel⟩
theorem ok_stand {f : Addr} {fd : FuncData} (F : Fun K "runs_that_stand" "House.runs_that_stand" sStand f fd) (T : Txt K mg C) : FnOk P w K mg base CX0 1 f fd ["self", "where"] (spStand C) := by
  refine F.ok scStand (fun vs H Q E h => ?_) (fun cdv A outer s H vs Q E hr h => ?_)
  · obtain ⟨a, L, h, r, rfl, _⟩ := h
    rfl
  · obtain ⟨a, L, h, r, rfl, I, k⟩ := h
    refine ⟨_, pss_one (ps_ret (pe_lc (own := [("run", 2)]) (g := gName 2) (tt := tTest (tOp rEq (tFld K (tVar 2) "stands") (tVar 1))) (te := tVar 2) rfl scStand.nd
        (pi_list (pe_fld (pv 0) rfl)) (blkOk_by (own := [("run", 2)]) (N := ["self", "where", "run"]) (sc := defScope sStand) (by decide +kernel)) (fun _ _ _ _ _ => pg_name (i := 2) scStand.nd rfl (Or.inl rfl))
        (fun _ _ _ _ _ => pts_one (pt_cmpR op_eq (pe_fld (pv 2) rfl) (pv 1) (nomark _))) (fun _ _ _ _ _ => pv 2))), ?_⟩
    obtain ⟨da, ea⟩ := I.ho
    refine ⟨_, rfl, a, C.h, da, _, _, rfl, ea, T.ch, T.nRuns, hF_runs _ _, L.rl, rfl, ⟨_, SqL.of I.rl⟩, fun D nD => ?_⟩
    refine lc_fm (K := K) (List.range h.runs.length) (fun q => V.ref (L.ra q)) (fun q => (h.at_ q).stand == r) (fun q => V.ref (L.ra q)) (SqL.of I.rl) nD (Nat.lt_of_le_of_lt (by rw [List.length_range]; exact I.nr) (by decide)) (fun _ => rfl) (fun q hq H3 Q3 s3 k3 => ?_) (fun q hq _ H3 Q3 s3 k3 => ⟨_, rfl, k3 H3 (Same.refl _)⟩) (fun H3 s3 hD => k H3 D s3 nD hD)
    have hq' : q < h.runs.length := List.mem_range.mp hq
    obtain ⟨dq, eq⟩ := (I.same s3).ra q hq'
    refine ⟨_, rfl, L.ra q, C.r, dq, _, _, rfl, eq, T.cr, T.nSta, rF_stands _ _ _, _, rfl, rfl, _, rfl, ?_⟩
    rw [stand_int]
    exact k3 H3 (Same.refl _)
theorem scFull : FnScope ["self", "here", "run"] ["self"] (defScope sFull) := ⟨rfl, rfl, rfl, by decide +kernel, rfl, by decide +kernel, by decide +kernel⟩
theorem ok_full {f : Addr} {fd : FuncData} (F : Fun K "is_full" "House.is_full" sFull f fd) (T : Txt K mg C) (dH : Dfn P w K mg base "is_here" 1 ["run"] (spHere C)) : FnOk P w K mg base CX0 2 f fd ["self"] (spFull C) := by
  obtain ⟨fH, fdH, mgH, kpH, GH, bH⟩ := dH
  refine F.ok scFull (fun vs H Q E h => ?_) (fun cdv A outer s H vs Q E hr h => ?_)
  · obtain ⟨a, L, h, rfl, _⟩ := h
    rfl
  · obtain ⟨a, L, h, rfl, I, k⟩ := h
    refine ⟨_, pss_cons (ps_setLc (i := 1) (own := [("run", 2)]) (g := gName 2) (tt := tB (tCall (spHere C) [] E0 (tCons (tVar 2) tNil))) (te := tVar 2) rfl scFull.nd rfl rfl (sw_true rfl rfl rfl (by decide +kernel))
        (pi_list (pe_fld (pv 0) rfl)) (blkOk_by (own := [("run", 2)]) (N := ["self", "here", "run"]) (sc := defScope sFull) (by decide +kernel)) (fun _ _ _ _ _ => pg_name (i := 2) scFull.nd rfl (Or.inl rfl))
        (fun _ _ _ _ _ => pts_one (pt_val (pe_call GH hr rfl mgH kpH bH .nil pass0 (pa_cons (pv 2) pa_nil)))) (fun _ _ _ _ _ => pv 2))
      (pss_one (ps_ret (pe_or (pe_cmpR op_ge (pe_callB call_len_seq (by rfl) T.bLen PySem.boot_len (pa_cons (pv 1) pa_nil)) (pe_cn rfl T.kHere) (nomark _)) (pe_one (pe_cmpR op_ge (pe_callB call_len_seq (by rfl) T.bLen PySem.boot_len (pa_cons (pe_fld (pv 0) rfl) pa_nil)) (pe_cn rfl T.kAll) (nomark _)))))), ?_⟩
    obtain ⟨da, ea⟩ := I.ho
    refine ⟨_, rfl, a, C.h, da, _, _, rfl, ea, T.ch, T.nRuns, hF_runs _ _, L.rl, rfl, ⟨_, SqL.of I.rl⟩, fun D nD => ?_⟩
    refine lc_fm (K := K) (List.range h.runs.length) (fun q => V.ref (L.ra q)) (fun q => (h.at_ q).lives) (fun q => V.ref (L.ra q)) (SqL.of I.rl) nD (Nat.lt_of_le_of_lt (by rw [List.length_range]; exact I.nr) (by decide)) (fun _ => rfl) (fun q hq H3 Q3 s3 k3 => ?_) (fun q hq _ H3 Q3 s3 k3 => ⟨_, rfl, k3 H3 (Same.refl _)⟩) (fun H3 s3 hD => ?_)
    · have hq' : q < h.runs.length := List.mem_range.mp hq
      obtain ⟨dq, eq⟩ := (I.same s3).ra q hq'
      refine ⟨_, rfl, L.ra q, dq, L.ba q, _, _, rfl, eq, _, rfl, ?_⟩
      rw [lives_int]
      exact k3 H3 (Same.refl _)
    · have I3 := I.same s3
      obtain ⟨da3, ea3⟩ := I3.ho
      refine ⟨_, rfl, D, _, rfl, .inl (SqL.of hD), _, _, rfl, rfl, _, rfl, ?_⟩
      have e1 : decide ((20 : Int) ≤ (((List.range h.runs.length).filter fun q => (h.at_ q).lives).map fun q => V.ref (L.ra q)).length) = decide (20 ≤ (h.those fun r => (h.at_ r).lives).length) := by
        rw [List.length_map]
        exact le_int2 20 _
      have k4 := k H3 s3
      rw [e1]
      cases hc : decide (20 ≤ (h.those fun r => (h.at_ r).lives).length) with
      | true =>
        rw [hc] at k4
        exact iteT k4
      | false =>
        rw [hc, Bool.false_or] at k4
        refine iteF ?_
        refine ⟨_, rfl, a, C.h, da3, _, _, rfl, ea3, T.ch, T.nRuns, hF_runs _ _, L.rl, _, rfl, .inl (SqL.of I3.rl), _, _, rfl, rfl, ?_⟩
        show Q (V.bl (decide ((50 : Int) ≤ ((rRefs L (List.range h.runs.length)).length : Int)))) H3
        unfold rRefs
        rw [List.length_map, List.length_range, show decide ((50 : Int) ≤ (h.runs.length : Int)) = decide (50 ≤ h.runs.length) from le_int2 50 _]
        exact k4
end
end Gq
namespace Gq
open PySem PySem.Spec PyProof.Rows L2
open PySem.W (Codec)
open Rp05 (House)
/-! ### 7. The methods that change where runs stand -/
theorem mark_step {C : Cl} {H : Hp} {a : Addr} {L : Loc} {h : House} {is : List Nat} {i q s : Nat} {dx : Addr} {z : Int} (A : At C H a L (h.change (fun r => decide (r ∈ is.take i)) s)) (hq : is[i]? = some q) (hn : q < h.runs.length) (e : H (L.ra q) = some (.ins C.r dx (rF q (L.ba q) z))) :
    At C (upd H (L.ra q) (.ins C.r dx (rF q (L.ba q) s))) a L (h.change (fun r => decide (r ∈ is.take (i + 1))) s) ∧ Kp (RS L h.runs.length) H (upd H (L.ra q) (.ins C.r dx (rF q (L.ba q) s))) := by
  obtain ⟨B, k⟩ := A.mark (s := s) (by rw [change_len]; exact hn) ⟨z, e⟩
  rw [change_len] at k
  refine ⟨?_, k⟩
  rw [change_more] at B
  have ec : h.change (fun r => decide (r ∈ is.take i) || r == q) s = h.change (fun r => decide (r ∈ is.take (i + 1))) s := by
    refine change_congr fun r _ => ?_
    rw [take_snoc hq, Bool.eq_iff_iff]
    simp
  rw [ec] at B
  exact B
theorem mark_start {C : Cl} {H : Hp} {a : Addr} {L : Loc} {h : House} {is : List Nat} {s : Nat} (A : At C H a L h) : At C H a L (h.change (fun r => decide (r ∈ is.take 0)) s) := by
  rw [change_none (by intro r _; simp)]
  exact A
theorem mark_end {h : House} {p : Nat → Bool} {s : Nat} : h.change (fun r => decide (r ∈ (h.those p).take (h.those p).length)) s = h.change p s := by
  refine change_congr fun r hr => ?_
  rw [List.take_length, Bool.eq_iff_iff, decide_eq_true_iff, mem_those]
  simp [hr]
theorem lst_ra {C : Cl} {H : Hp} {a : Addr} {L : Loc} {h : House} (A : At C H a L h) {p : Addr} {xs : List V} (e : H p = some (.lst xs)) : ¬ RS L h.runs.length p := by
  rintro ⟨q, hq, rfl⟩
  obtain ⟨d, e2⟩ := A.ra q hq
  rw [e2] at e
  cases e
theorem len0 (l : List Nat) : decide (V.int ((nums l).length : Int) = V.int 0) = l.isEmpty := by
  cases l with
  | nil => rfl
  | cons a l =>
    rw [dec_int]
    unfold nums
    rw [List.length_map]
    show (((l.length + 1 : Nat) : Int) == 0) = false
    rw [beq_eq_false_iff_ne]
    omega
def spPush (C : Cl) : Sp := fun vs H Q _ => ∃ (a : Addr) (L : Loc) (h : House), vs = [.ref a] ∧ At C H a L h ∧
  ∀ (H' : Hp) (p : Addr), At C H' a L (h.change h.outs 5) → Kp (RS L h.runs.length) H H' → H p = none → H' p = some (.lst (rRefs L (h.those h.outs))) → Q (.ref p) H'
def spBeg (C : Cl) : Sp := fun vs H Q _ => ∃ (a : Addr) (L : Loc) (h : House), vs = [.ref a] ∧ At C H a L h ∧
  ∀ (H' : Hp) (p : Addr), At C H' a L (h.change h.begins 1) → Kp (RS L h.runs.length) H H' → H p = none → H' p = some (.lst (rRefs L (h.those h.begins))) → Q (.ref p) H'
def spTell (C : Cl) : Sp := fun vs H Q _ => ∃ (a l : Addr) (L : Loc) (h : House) (is : List Nat), vs = [.ref a, .ref l] ∧ At C H a L h ∧ H l = some (.lst (rRefs L is)) ∧ is.length ≤ 50 ∧ (∀ q, q ∈ is → q < h.runs.length) ∧
  ∀ (H' : Hp) (p : Addr), At C H' a L (h.change (fun r => decide (r ∈ is.filter (cutP h))) 2) → Kp (RS L h.runs.length) H H' → H p = none → H' p = some (.lst (rRefs L (is.filter (cutP h)))) → Q (.ref p) H'
section
variable {P : Program} {w : World} {K : PySem.W.Frag} {mg : Str → Option Value} {base : Heap} {C : Cl}
theorem scPush : FnScope ["self", "outdated", "run"] ["self"] (defScope sPush) := ⟨rfl, rfl, rfl, by decide +kernel, rfl, by decide +kernel, by decide +kernel⟩
theorem ok_push {f : Addr} {fd : FuncData} (F : Fun K "push_out" "House.push_out" sPush f fd) (T : Txt K mg C) (mS : Mth P w K mg base C.h "runs_that_stand" 1 ["self", "where"] (spStand C)) (mO : Mth P w K mg base C.h "is_outdated" 2 ["self", "run"] (spOutd C)) :
    FnOk P w K mg base CX0 3 f fd ["self"] (spPush C) := by
  obtain ⟨fS, fdS, mS, GS, bS⟩ := mS
  obtain ⟨fO, fdO, mO, GO, bO⟩ := mO
  refine F.ok scPush (fun vs H Q E h => ?_) (fun cdv A outer s H vs Q E hr h => ?_)
  · obtain ⟨a, L, h, rfl, _⟩ := h
    rfl
  · obtain ⟨a, L, h, rfl, I, k⟩ := h
    have hr1 : Room 1 _ := hr.mono (by decide)
    refine ⟨_, pss_cons (ps_setLc (i := 1) (own := [("run", 2)]) (g := gName 2) (tt := tB (tMeth C.h "is_outdated" (spOutd C) [] E0 (tVar 0) (tCons (tVar 2) tNil))) (te := tVar 2) rfl scPush.nd rfl rfl (sw_true rfl rfl rfl (by decide +kernel))
        (pi_list (pe_meth (pv 0) T.ch mS GS hr1 bS .nil pass0 (pa_cons (pe_cn rfl T.kWaits) pa_nil))) (blkOk_by (own := [("run", 2)]) (N := ["self", "outdated", "run"]) (sc := defScope sPush) (by decide +kernel)) (fun _ _ _ _ _ => pg_name (i := 2) scPush.nd rfl (Or.inl rfl))
        (fun _ _ _ _ _ => pts_one (pt_val (pe_meth (pv 0) T.ch mO GO hr bO .nil pass0 (pa_cons (pv 2) pa_nil)))) (fun _ _ _ _ _ => pv 2))
      (pss_cons (ps_for PassesOwn.never rfl (pi_list (pv 1)) (pg_name (i := 2) scPush.nd rfl (Or.inl rfl)) (pss_one (ps_fld (pv 2) (pe_cn rfl T.kPushed) rfl)))
      (pss_one (ps_ret (pv 1)))), ?_⟩
    obtain ⟨da, ea⟩ := I.ho
    refine ⟨_, rfl, a, da, _, rfl, ea, rfl, a, L, h, 0, rfl, I, fun H1 l s1 nl hl => ?_⟩
    have I1 := I.same s1
    refine ⟨l, rfl, ⟨_, SqL.of hl⟩, fun D nD => ?_⟩
    refine lc_fm (K := K) (h.those fun r => (h.at_ r).stand == 0) (fun q => V.ref (L.ra q)) (fun r => (h.groupsOf r).all fun g => decide ((h.group g).keep ≤ (h.newer r g).length)) (fun q => V.ref (L.ra q)) (SqL.of hl) nD (Nat.lt_of_le_of_lt (Nat.le_trans (those_len _ _) I.nr) (by decide)) (fun _ => rfl) (fun q hq H3 Q3 s3 k3 => ?_) (fun q hq _ H3 Q3 s3 k3 => ⟨_, rfl, k3 H3 (Same.refl _)⟩) (fun H3 s3 hD => ?_)
    · have I3 := I1.same s3
      obtain ⟨da3, ea3⟩ := I3.ho
      exact ⟨_, rfl, a, da3, _, rfl, ea3, rfl, _, rfl, a, L, h, q, rfl, I3, (mem_those.mp hq).1, fun H4 s4 => ⟨_, rfl, k3 H4 s4⟩⟩
    · rw [those_two] at hD
      have hD : H3 D = some (.lst (rRefs L (h.those h.outs))) := hD
      have I3 := I1.same s3
      refine ⟨_, rfl, D, rfl, ⟨_, SqL.of hD⟩, for_list (K := K) (a := D) (xs := rRefs L (h.those h.outs)) (fun i σ H' => ∃ v, σ = [some (.ref a), some (.ref D), v] ∧ At C H' a L (h.change (fun r => decide (r ∈ (h.those h.outs).take i)) 5) ∧ Kp (RS L h.runs.length) H H' ∧ H' D = some (.lst (rRefs L (h.those h.outs))))
        ⟨none, rfl, mark_start I3, Kp.of_same (s1.trans s3), hD⟩ (fun i σ H' _ ⟨_, _, _, _, e⟩ => SqL.of e) ?_ ?_⟩
      · rintro i y σ H' hi ⟨v, rfl, B, kp, e⟩
        obtain ⟨q, hq, rfl⟩ := map_get hi
        have hqn := (mem_those.mp (List.mem_of_getElem? hq)).1
        obtain ⟨dq, eq⟩ := B.ra q (by rw [change_len]; exact hqn)
        refine ⟨_, rfl, L.ra q, C.r, dq, _, rfl, eq, T.cr, T.nSta, (by show 3 < 1000; decide), ?_⟩
        obtain ⟨B2, k2⟩ := mark_step (s := 5) B hq hqn eq
        exact ⟨_, rfl, B2, kp.trans k2, k2.keep D _ e (by have := lst_ra B e; rw [change_len] at this; exact this)⟩
      · rintro σ H' ⟨v, rfl, B, kp, e⟩
        refine ⟨_, rfl, ?_⟩
        unfold rRefs at B
        rw [List.length_map, mark_end] at B
        exact k H' D B kp (s1.free nD) e
theorem scBeg : FnScope ["self", "free", "run"] ["self"] (defScope sBeg) := ⟨rfl, rfl, rfl, by decide +kernel, rfl, by decide +kernel, by decide +kernel⟩
theorem ok_beg {f : Addr} {fd : FuncData} (F : Fun K "begin_to_run" "House.begin_to_run" sBeg f fd) (T : Txt K mg C) (mS : Mth P w K mg base C.h "runs_that_stand" 1 ["self", "where"] (spStand C)) (mO : Mth P w K mg base C.h "groups_holding_back" 4 ["self", "run"] (spHold C)) :
    FnOk P w K mg base CX0 5 f fd ["self"] (spBeg C) := by
  obtain ⟨fS, fdS, mS, GS, bS⟩ := mS
  obtain ⟨fO, fdO, mO, GO, bO⟩ := mO
  refine F.ok scBeg (fun vs H Q E h => ?_) (fun cdv A outer s H vs Q E hr h => ?_)
  · obtain ⟨a, L, h, rfl, _⟩ := h
    rfl
  · obtain ⟨a, L, h, rfl, I, k⟩ := h
    have hr1 : Room 1 _ := hr.mono (by decide)
    refine ⟨_, pss_cons (ps_setLc (i := 1) (own := [("run", 2)]) (g := gName 2) (tt := tTest (tOp rEq (tCB (rLen K) (tCons (tMeth C.h "groups_holding_back" (spHold C) [] E0 (tVar 0) (tCons (tVar 2) tNil)) tNil)) (tC (.int 0)))) (te := tVar 2) rfl scBeg.nd rfl rfl (sw_true rfl rfl rfl (by decide +kernel))
        (pi_list (pe_meth (pv 0) T.ch mS GS hr1 bS .nil pass0 (pa_cons (pe_cn rfl T.kWaits) pa_nil))) (blkOk_by (own := [("run", 2)]) (N := ["self", "free", "run"]) (sc := defScope sBeg) (by decide +kernel)) (fun _ _ _ _ _ => pg_name (i := 2) scBeg.nd rfl (Or.inl rfl))
        (fun _ _ _ _ _ => pts_one (pt_cmpR op_eq (pe_callB call_len_seq (by rfl) T.bLen PySem.boot_len (pa_cons (pe_meth (pv 0) T.ch mO GO hr bO .nil pass0 (pa_cons (pv 2) pa_nil)) pa_nil)) pe_int (nomark _))) (fun _ _ _ _ _ => pv 2))
      (pss_cons (ps_for PassesOwn.never rfl (pi_list (pv 1)) (pg_name (i := 2) scBeg.nd rfl (Or.inl rfl)) (pss_one (ps_fld (pv 2) (pe_cn rfl T.kRuns) rfl)))
      (pss_one (ps_ret (pv 1)))), ?_⟩
    obtain ⟨da, ea⟩ := I.ho
    refine ⟨_, rfl, a, da, _, rfl, ea, rfl, a, L, h, 0, rfl, I, fun H1 l s1 nl hl => ?_⟩
    have I1 := I.same s1
    refine ⟨l, rfl, ⟨_, SqL.of hl⟩, fun D nD => ?_⟩
    refine lc_fm (K := K) (h.those fun r => (h.at_ r).stand == 0) (fun q => V.ref (L.ra q)) (fun r => (h.holding r).isEmpty) (fun q => V.ref (L.ra q)) (SqL.of hl) nD (Nat.lt_of_le_of_lt (Nat.le_trans (those_len _ _) I.nr) (by decide)) (fun _ => rfl) (fun q hq H3 Q3 s3 k3 => ?_) (fun q hq _ H3 Q3 s3 k3 => ⟨_, rfl, k3 H3 (Same.refl _)⟩) (fun H3 s3 hD => ?_)
    · have I3 := I1.same s3
      obtain ⟨da3, ea3⟩ := I3.ho
      exact ⟨_, rfl, a, da3, _, rfl, ea3, rfl, _, rfl, a, L, h, q, rfl, I3, (mem_those.mp hq).1, fun H4 p4 s4 n4 e4 => ⟨p4, _, rfl, .inl (SqL.of e4), rfl, _, rfl, by rw [len0]; exact k3 H4 s4⟩⟩
    · rw [those_two] at hD
      have hD : H3 D = some (.lst (rRefs L (h.those h.begins))) := hD
      have I3 := I1.same s3
      refine ⟨_, rfl, D, rfl, ⟨_, SqL.of hD⟩, for_list (K := K) (a := D) (xs := rRefs L (h.those h.begins)) (fun i σ H' => ∃ v, σ = [some (.ref a), some (.ref D), v] ∧ At C H' a L (h.change (fun r => decide (r ∈ (h.those h.begins).take i)) 1) ∧ Kp (RS L h.runs.length) H H' ∧ H' D = some (.lst (rRefs L (h.those h.begins))))
        ⟨none, rfl, mark_start I3, Kp.of_same (s1.trans s3), hD⟩ (fun i σ H' _ ⟨_, _, _, _, e⟩ => SqL.of e) ?_ ?_⟩
      · rintro i y σ H' hi ⟨v, rfl, B, kp, e⟩
        obtain ⟨q, hq, rfl⟩ := map_get hi
        have hqn := (mem_those.mp (List.mem_of_getElem? hq)).1
        obtain ⟨dq, eq⟩ := B.ra q (by rw [change_len]; exact hqn)
        refine ⟨_, rfl, L.ra q, C.r, dq, _, rfl, eq, T.cr, T.nSta, (by show 3 < 1000; decide), ?_⟩
        obtain ⟨B2, k2⟩ := mark_step (s := 1) B hq hqn eq
        exact ⟨_, rfl, B2, kp.trans k2, k2.keep D _ e (by have := lst_ra B e; rw [change_len] at this; exact this)⟩
      · rintro σ H' ⟨v, rfl, B, kp, e⟩
        refine ⟨_, rfl, ?_⟩
        unfold rRefs at B
        rw [List.length_map, mark_end] at B
        exact k H' D B kp (s1.free nD) e
theorem scTell : FnScope ["self", "ran_before", "told", "run"] ["self", "ran_before"] (defScope sTell) := ⟨rfl, rfl, rfl, by decide +kernel, rfl, by decide +kernel, by decide +kernel⟩
theorem ok_tell {f : Addr} {fd : FuncData} (F : Fun K "tell_to_stop" "House.tell_to_stop" sTell f fd) (T : Txt K mg C) (mO : Mth P w K mg base C.h "is_cut" 2 ["self", "run"] (spCut C)) :
    FnOk P w K mg base CX0 3 f fd ["self", "ran_before"] (spTell C) := by
  obtain ⟨fO, fdO, mO, GO, bO⟩ := mO
  refine F.ok scTell (fun vs H Q E h => ?_) (fun cdv A outer s H vs Q E hr h => ?_)
  · obtain ⟨a, l, L, h, is, rfl, _⟩ := h
    rfl
  · obtain ⟨a, l, L, h, is, rfl, I, hl, hz, hi, k⟩ := h
    refine ⟨_, pss_cons (ps_setLc (i := 2) (own := [("run", 3)]) (g := gName 3) (tt := tB (tMeth C.h "is_cut" (spCut C) [] E0 (tVar 0) (tCons (tVar 3) tNil))) (te := tVar 3) rfl scTell.nd rfl rfl (sw_true rfl rfl rfl (by decide +kernel))
        (pi_list (pv 1)) (blkOk_by (own := [("run", 3)]) (N := ["self", "ran_before", "told", "run"]) (sc := defScope sTell) (by decide +kernel)) (fun _ _ _ _ _ => pg_name (i := 3) scTell.nd rfl (Or.inl rfl))
        (fun _ _ _ _ _ => pts_one (pt_val (pe_meth (pv 0) T.ch mO GO hr bO .nil pass0 (pa_cons (pv 3) pa_nil)))) (fun _ _ _ _ _ => pv 3))
      (pss_cons (ps_for PassesOwn.never rfl (pi_list (pv 2)) (pg_name (i := 3) scTell.nd rfl (Or.inl rfl)) (pss_one (ps_fld (pv 3) (pe_cn rfl T.kTold) rfl)))
      (pss_one (ps_ret (pv 2)))), ?_⟩
    refine ⟨_, rfl, l, rfl, ⟨_, SqL.of hl⟩, fun D nD => ?_⟩
    refine lc_fm (K := K) is (fun q => V.ref (L.ra q)) (cutP h) (fun q => V.ref (L.ra q)) (SqL.of hl) nD (Nat.lt_of_le_of_lt hz (by decide)) (fun _ => rfl) (fun q hq H3 Q3 s3 k3 => ?_) (fun q hq _ H3 Q3 s3 k3 => ⟨_, rfl, k3 H3 (Same.refl _)⟩) (fun H3 s3 hD => ?_)
    · have I3 := I.same s3
      obtain ⟨da3, ea3⟩ := I3.ho
      exact ⟨_, rfl, a, da3, _, rfl, ea3, rfl, _, rfl, a, L, h, q, rfl, I3, hi q hq, fun H4 s4 => ⟨_, rfl, k3 H4 s4⟩⟩
    · have hD : H3 D = some (.lst (rRefs L (is.filter (cutP h)))) := hD
      have I3 := I.same s3
      refine ⟨_, rfl, D, rfl, ⟨_, SqL.of hD⟩, for_list (K := K) (a := D) (xs := rRefs L (is.filter (cutP h))) (fun i σ H' => ∃ v, σ = [some (.ref a), some (.ref l), some (.ref D), v] ∧ At C H' a L (h.change (fun r => decide (r ∈ (is.filter (cutP h)).take i)) 2) ∧ Kp (RS L h.runs.length) H H' ∧ H' D = some (.lst (rRefs L (is.filter (cutP h)))))
        ⟨none, rfl, mark_start I3, Kp.of_same s3, hD⟩ (fun i σ H' _ ⟨_, _, _, _, e⟩ => SqL.of e) ?_ ?_⟩
      · rintro i y σ H' hi' ⟨v, rfl, B, kp, e⟩
        obtain ⟨q, hq, rfl⟩ := map_get hi'
        have hqn := hi q (List.mem_filter.mp (List.mem_of_getElem? hq)).1
        obtain ⟨dq, eq⟩ := B.ra q (by rw [change_len]; exact hqn)
        refine ⟨_, rfl, L.ra q, C.r, dq, _, rfl, eq, T.cr, T.nSta, (by show 3 < 1000; decide), ?_⟩
        obtain ⟨B2, k2⟩ := mark_step (s := 2) B hq hqn eq
        exact ⟨_, rfl, B2, kp.trans k2, k2.keep D _ e (by have := lst_ra B e; rw [change_len] at this; exact this)⟩
      · rintro σ H' ⟨v, rfl, B, kp, e⟩
        refine ⟨_, rfl, ?_⟩
        unfold rRefs at B
        rw [List.length_map, List.take_length] at B
        exact k H' D B kp nD e
end
end Gq
namespace Gq
open PySem PySem.Spec PyProof.Rows L2
open PySem.W (Codec)
open Rp05 (House)
/-! ### 8. The calls -/
/-- the objects of a house that a call may change, and the lists that belong to it -/
def FP (a : Addr) (L : Loc) (n : Nat) : Addr → Prop := fun b => b = a ∨ b = L.gl ∨ b = L.rl ∨ ∃ q, q < n ∧ (b = L.ra q ∨ b = L.ba q)
theorem FP.rs {a : Addr} {L : Loc} {n : Nat} {b : Addr} (h : RS L n b) : FP a L n b := by
  obtain ⟨q, hq, e⟩ := h
  exact .inr (.inr (.inr ⟨q, hq, .inl e⟩))
/-- what a call answers, as values -/
def outV (an : Rp05.Ans) : List V := (Rp05Neutral.out an).map V.int
theorem outV_mk (v : Int) (l : List Nat) : outV ⟨v, l⟩ = V.int v :: nums l := by
  unfold outV Rp05Neutral.out nums
  rw [List.map_cons, List.map_map]
  rfl
theorem outV_ok (v : Int) : outV (Rp05.ok v) = [V.int v] := rfl
/-- behind a call -/
def After (C : Cl) (a : Addr) (H : Hp) (L : Loc) (h : House) (c : Rp05.Call) (Q : VK) : Prop :=
  ∀ (H' : Hp) (L' : Loc) (p : Addr), At C H' a L' (Rp05.step h c).1 → Kp (FP a L h.runs.length) H H' → (∀ b, FP a L' (Rp05.step h c).1.runs.length b → H b = none ∨ FP a L h.runs.length b) →
    H p = none → H' p = some (.lst (outV (Rp05.step h c).2)) → Q (.ref p) H'
theorem After.same {C : Cl} {a : Addr} {H H' : Hp} {L : Loc} {h : House} {c : Rp05.Call} {Q : VK} {an : Rp05.Ans} {p : Addr} (k : After C a H L h c Q) (I : At C H a L h) (e : Rp05.step h c = (h, an)) (s : Same H H') (np : H p = none) (hp : H' p = some (.lst (outV an))) : Q (.ref p) H' := by
  refine k H' L p ?_ (Kp.of_same s) ?_ np ?_
  · rw [e]
    exact I.same s
  · rw [e]
    exact fun b h => .inr h
  · rw [e]
    exact hp
/-- a refusal: a new list of one number -/
theorem After.no {C : Cl} {a : Addr} {H H1 : Hp} {L : Loc} {h : House} {c : Rp05.Call} {Q : VK} {v : Int} {p : Addr} (k : After C a H L h c Q) (I : At C H a L h) (e : Rp05.step h c = (h, Rp05.ok v)) (s : Same H H1) (np : H1 p = none) : Q (.ref p) (upd H1 p (.lst [V.int v])) :=
  k.same I e (s.trans (Same.new np)) (s.free np) upd_same
def spBegins (C : Cl) : Sp := fun vs H Q _ => ∃ (a : Addr) (L : Loc) (h : House) (n : Nat), vs = [.ref a, .int n] ∧ At C H a L h ∧ After C a H L h (.begins n) Q
def spGroup (C : Cl) : Sp := fun vs H Q _ => ∃ (a : Addr) (L : Loc) (h : House) (g m k c : Nat), vs = [.ref a, .int g, .int m, .int k, .int c] ∧ At C H a L h ∧ After C a H L h (.group g m k c) Q
def spSubmit (C : Cl) : Sp := fun vs H Q _ => ∃ (a : Addr) (L : Loc) (h : House) (m : Nat), vs = [.ref a, .int m] ∧ At C H a L h ∧ After C a H L h (.submit m) Q
def spEnded (C : Cl) : Sp := fun vs H Q _ => ∃ (a : Addr) (L : Loc) (h : House) (r q : Nat), vs = [.ref a, .int r, .int q] ∧ At C H a L h ∧ After C a H L h (.ended r q) Q
def spHI (C : Cl) : Sp := fun vs H Q _ => ∃ (a dx : Addr), vs = [.ref a] ∧ H a = some (.ins C.h dx []) ∧ ∀ (H' : Hp) (L : Loc), At C H' a L Rp05.init → (∀ b o, H b = some o → b ≠ a → H' b = some o) → (∀ b, FP a L 0 b → b = a ∨ H b = none) → Q .non H'
/-- a house without runs, whose groups are plain -/
theorem plain_at {C : Cl} {H : Hp} {a gl rl dx : Addr} {ga : Nat → Addr} {n : Nat} (h1 : 1 ≤ n) (h8 : n ≤ 8) (ho : H a = some (.ins C.h dx (hF gl rl))) (hg : H gl = some (.lst ((List.range n).map fun q => V.ref (ga q)))) (hq : ∀ q, q < n → ∃ dx, H (ga q) = some (.ins C.g dx (gF 1 1 0)))
    (hr : H rl = some (.lst [])) (ne : gl ≠ rl) : At C H a ⟨gl, rl, ga, fun _ => 0, fun _ => 0⟩ ⟨List.replicate n ⟨1, 1, false⟩, []⟩ := by
  refine ⟨⟨dx, ho⟩, ?_, ?_, hr, fun q z => absurd z (Nat.not_lt_zero _), fun q z => absurd z (Nat.not_lt_zero _), fun p q z => absurd z (Nat.not_lt_zero _), ?_, Nat.zero_le _, ne, fun q z => absurd z (Nat.not_lt_zero _)⟩
  · show H gl = some (.lst (gRefs _ (List.replicate n _).length))
    rw [List.length_replicate]
    exact hg
  · intro q z
    have z : q < (List.replicate n _).length := z
    rw [List.length_replicate] at z
    obtain ⟨d, e⟩ := hq q z
    refine ⟨d, ?_⟩
    have eg : (House.mk (List.replicate n ⟨1, 1, false⟩) []).group q = ⟨1, 1, false⟩ := by
      unfold House.group
      rw [List.getD_eq_getElem?_getD, List.getElem?_replicate, if_pos z]
      rfl
    rw [eg]
    exact e
  · show 1 ≤ (List.replicate n _).length ∧ (List.replicate n _).length ≤ 8
    rw [List.length_replicate]
    exact ⟨h1, h8⟩
section
variable {P : Program} {w : World} {K : PySem.W.Frag} {mg : Str → Option Value} {base : Heap} {C : Cl}
theorem scHI : FnScope ["self"] ["self"] (defScope sHI) := ⟨rfl, rfl, rfl, by decide +kernel, rfl, by decide +kernel, by decide +kernel⟩
theorem ok_hi {f : Addr} {fd : FuncData} (F : Fun K "__init__" "House.__init__" sHI f fd) (T : Txt K mg C) (dP : Dfn P w K mg base "plain_groups" 3 ["how_many"] (spPlain C)) : FnOk P w K mg base CX0 4 f fd ["self"] (spHI C) := by
  obtain ⟨fP, fdP, mgP, kpP, GP, bP⟩ := dP
  refine F.ok scHI (fun vs H Q E h => ?_) (fun cdv A outer s H vs Q E hr h => ?_)
  · obtain ⟨a, dx, rfl, _⟩ := h
    rfl
  · obtain ⟨a, dx, rfl, ha, k⟩ := h
    refine ⟨_, pss_cons (ps_fld (pv 0) (pe_call GP hr rfl mgP kpP bP .nil pass0 (pa_cons pe_int pa_nil)) rfl) (pss_one (ps_fld (pv 0) (pe_lst pa_nil) rfl)), ?_⟩
    refine ⟨1, rfl, (by decide), fun H1 gl ga s1 ngl hgl hga => ?_⟩
    refine ⟨_, rfl, a, C.h, dx, _, rfl, s1 _ _ ha, T.ch, T.nGrs, (by show 0 < 1000; decide), ?_⟩
    refine ⟨Nat.zero_le _, fun rl nrl => ?_⟩
    have nar : a ≠ rl := fun z => by
      rw [z, upd_same] at nrl
      cases nrl
    refine ⟨_, rfl, a, C.h, dx, _, rfl, by rw [upd_ne nar]; exact upd_same, T.ch, T.nRuns, (by show 1 < 1000; decide), ?_⟩
    have nrl1 : H1 rl = none := by
      rw [upd_ne (fun z => nar z.symm)] at nrl
      exact nrl
    have ngla : gl ≠ a := ne_of hgl (s1 _ _ ha) (by intro z; cases z)
    have nglr : gl ≠ rl := ne_of_none hgl nrl1
    refine k _ ⟨gl, rl, ga, fun _ => 0, fun _ => 0⟩ (plain_at (C := C) (dx := dx) (n := 1) (by decide) (by decide) upd_same ?_ (fun q hq => ?_) ?_ nglr) ?_ ?_
    · rw [upd_ne ngla, upd_ne nglr, upd_ne ngla]
      exact hgl
    · obtain ⟨dq, eq⟩ := hga q hq
      have n1 : ga q ≠ a := ne_of eq (s1 _ _ ha) fun z => List.cons_ne_nil _ _ (HO.ins.inj z).2.2
      have n2 : ga q ≠ rl := ne_of_none eq nrl1
      exact ⟨dq, by rw [upd_ne n1, upd_ne n2, upd_ne n1]; exact eq⟩
    · rw [upd_ne (fun z => nar z.symm)]
      exact upd_same
    · intro b o e nb
      rw [upd_ne nb, upd_ne (ne_of_none (s1 _ _ e) nrl1), upd_ne nb]
      exact s1 _ _ e
    · rintro b (z | z | z | ⟨q, hq, _⟩)
      · exact .inl z
      · refine .inr ?_
        rw [show b = gl from z]
        exact ngl
      · refine .inr ?_
        rw [show b = rl from z]
        exact s1.free nrl1
      · exact absurd hq (Nat.not_lt_zero _)
theorem scBegins : FnScope ["self", "how_many"] ["self", "how_many"] (defScope sBegins) := ⟨rfl, rfl, rfl, by decide +kernel, rfl, by decide +kernel, by decide +kernel⟩
theorem ok_begins {f : Addr} {fd : FuncData} (F : Fun K "begins" "House.begins" sBegins f fd) (T : Txt K mg C) (dP : Dfn P w K mg base "plain_groups" 3 ["how_many"] (spPlain C)) (dR : Dfn P w K mg base "in_range" 1 ["number", "lowest", "highest"] spInR) : FnOk P w K mg base CX0 4 f fd ["self", "how_many"] (spBegins C) := by
  obtain ⟨fP, fdP, mgP, kpP, GP, bP⟩ := dP
  obtain ⟨fR, fdR, mgR, kpR, GR, bR⟩ := dR
  refine F.ok scBegins (fun vs H Q E h => ?_) (fun cdv A outer s H vs Q E hr h => ?_)
  · obtain ⟨a, L, h, n, rfl, _⟩ := h
    rfl
  · obtain ⟨a, L, h, n, rfl, I, k⟩ := h
    have hr1 : Room 1 _ := hr.mono (by decide)
    refine ⟨_, pss_cons (ps_if (pt_not (pt_val (pe_call GR hr1 rfl mgR kpR bR .nil pass0 (pa_cons (pv 1) (pa_cons pe_int (pa_cons (pe_cn rfl T.kGroups) pa_nil)))))) (pss_one (ps_ret (pe_lst (pa_cons (pe_cn rfl T.kWrong) pa_nil)))) pss_nil)
      (pss_cons (ps_fld (pv 0) (pe_call GP hr rfl mgP kpP bP .nil pass0 (pa_cons (pv 1) pa_nil)) rfl) (pss_cons (ps_fld (pv 0) (pe_lst pa_nil) rfl) (pss_one (ps_ret (pe_lst (pa_cons pe_int pa_nil)))))), ?_⟩
    refine ⟨_, rfl, _, _, _, rfl, _, rfl, ?_⟩
    by_cases hn : n = 0 ∨ 8 < n
    · have e : (!(decide ((1 : Int) ≤ (n : Int)) && decide ((n : Int) ≤ 8))) = true := by
        rw [Bool.not_eq_true', Bool.and_eq_false_iff, decide_eq_false_iff_not, decide_eq_false_iff_not]
        omega
      refine if_true_of e ?_
      refine ⟨(by show 1 ≤ sizeLine; decide), fun p np => ?_⟩
      exact k.no I (if_pos hn) (Same.refl _) np
    · have e : (!(decide ((1 : Int) ≤ (n : Int)) && decide ((n : Int) ≤ 8))) = false := by
        rw [Bool.not_eq_false', Bool.and_eq_true, decide_eq_true_iff, decide_eq_true_iff]
        omega
      refine if_false_of e ?_
      have es : Rp05.step h (.begins n) = (⟨List.replicate n ⟨1, 1, false⟩, []⟩, Rp05.ok 0) := if_neg hn
      refine ⟨_, rfl, n, rfl, (by omega), fun H1 gl ga s1 ngl hgl hga => ?_⟩
      obtain ⟨dx, ha⟩ := I.ho
      refine ⟨_, rfl, a, C.h, dx, _, rfl, s1 _ _ ha, T.ch, T.nGrs, (by show 2 < 1000; decide), ?_⟩
      refine ⟨Nat.zero_le _, fun rl nrl => ?_⟩
      have nar : a ≠ rl := fun z => by
        rw [z, upd_same] at nrl
        cases nrl
      refine ⟨_, rfl, a, C.h, dx, _, rfl, by rw [upd_ne nar]; exact upd_same, T.ch, T.nRuns, (by show 2 < 1000; decide), ?_⟩
      refine ⟨(by show 1 ≤ sizeLine; decide), fun p np => ?_⟩
      have nrl1 : H1 rl = none := by
        rw [upd_ne (fun z => nar z.symm)] at nrl
        exact nrl
      have ngla : gl ≠ a := ne_of hgl (s1 _ _ ha) (by intro z; cases z)
      have nglr : gl ≠ rl := ne_of_none hgl nrl1
      have npa : p ≠ a := fun z => by
        rw [z, upd_same] at np
        cases np
      have npr : p ≠ rl := fun z => by
        rw [z, upd_ne (fun z => nar z.symm), upd_same] at np
        cases np
      have np1 : H1 p = none := by
        rw [upd_ne npa, upd_ne npr, upd_ne npa] at np
        exact np
      refine k _ ⟨gl, rl, ga, fun _ => 0, fun _ => 0⟩ p ?_ ⟨?_, ?_⟩ ?_ (s1.free np1) ?_
      · rw [es]
        refine plain_at (C := C) (dx := dx) (n := n) (by omega) (by omega) ?_ ?_ (fun q hq => ?_) ?_ nglr
        · rw [upd_ne (fun z => npa z.symm)]
          exact upd_same
        · rw [upd_ne (ne_of_none hgl np1), upd_ne ngla, upd_ne nglr, upd_ne ngla]
          exact hgl
        · obtain ⟨dq, eq⟩ := hga q hq
          have n1 : ga q ≠ a := ne_of eq (s1 _ _ ha) fun z => gF_hF z
          have n2 : ga q ≠ rl := ne_of_none eq nrl1
          exact ⟨dq, by rw [upd_ne (ne_of_none eq np1), upd_ne n1, upd_ne n2, upd_ne n1]; exact eq⟩
        · rw [upd_ne (fun z => npr z.symm), upd_ne (fun z => nar z.symm)]
          exact upd_same
      · intro b o e nb
        have nba : b ≠ a := fun z => nb (.inl z)
        rw [upd_ne (ne_of_none (s1 _ _ e) np1), upd_ne nba, upd_ne (ne_of_none (s1 _ _ e) nrl1), upd_ne nba]
        exact s1 _ _ e
      · intro b e
        by_cases hb : b = p
        · rw [hb, upd_same] at e
          cases e
        · by_cases hba : b = a
          · rw [upd_ne hb, hba, upd_same] at e
            cases e
          · by_cases hbr : b = rl
            · rw [upd_ne hb, upd_ne hba, hbr, upd_same] at e
              cases e
            · rw [upd_ne hb, upd_ne hba, upd_ne hbr, upd_ne hba] at e
              exact s1.free e
      · rw [es]
        rintro b (z | z | z | ⟨q, hq, _⟩)
        · exact .inr (.inl z)
        · refine .inl ?_
          rw [show b = gl from z]
          exact ngl
        · refine .inl ?_
          rw [show b = rl from z]
          exact s1.free nrl1
        · exact absurd hq (Nat.not_lt_zero _)
      · rw [upd_same, es]
        rfl
end
end Gq
namespace Gq
open PySem PySem.Spec PyProof.Rows L2
open PySem.W (Codec)
open Rp05 (House)
theorem gRefs_set {L : Loc} {n g : Nat} {x : Addr} : (gRefs L n).set g (V.ref x) = gRefs { L with ga := fun q => if q = g then x else L.ga q } n := by
  apply List.ext_getElem?
  intro i
  unfold gRefs
  rw [List.getElem?_set]
  by_cases hi : i < n
  · rw [List.getElem?_map, List.getElem?_map, List.getElem?_range hi, List.length_map, List.length_range]
    show _ = some (V.ref (if i = g then x else L.ga i))
    by_cases e : g = i
    · rw [if_pos e, if_pos (by omega), if_pos e.symm]
    · rw [if_neg e, if_neg (fun z => e z.symm)]
      rfl
  · rw [List.getElem?_eq_none_iff.mpr (by rw [List.length_map, List.length_range]; omega), List.getElem?_eq_none_iff.mpr (by rw [List.length_map, List.length_range]; omega), List.length_map, List.length_range]
    by_cases e : g = i
    · rw [if_pos e, if_neg (by omega)]
    · rw [if_neg e]
theorem cI_eq {c : Nat} (h : c ≤ 1) : cI (c == 1) = (c : Int) := by
  match c, h with
  | 0, _ => rfl
  | 1, _ => rfl
theorem At.setg {C : Cl} {H H1 : Hp} {a x dx : Addr} {L : Loc} {h : House} {g m k c : Nat} (I : At C H a L h) (hg : g < h.groups.length) (h0 : h.runs = []) (s : Same H H1) (ex : H1 x = some (.ins C.g dx (gF m k c))) (hc : c ≤ 1) :
    At C (upd H1 L.gl (.lst ((gRefs L h.groups.length).set g (V.ref x)))) a { L with ga := fun q => if q = g then x else L.ga q } { h with groups := h.groups.set g ⟨m, k, c == 1⟩ } := by
  have J := I.same s
  have nl : h.runs.length = 0 := by rw [h0]; rfl
  refine ⟨?_, ?_, fun q hq => ?_, ?_, fun q hq => ?_, fun q hq => ?_, fun p q hp => ?_, ?_, ?_, I.gr, I.br⟩
  · obtain ⟨d, e⟩ := J.ho
    exact ⟨d, by rw [upd_ne (ne_of e J.gl (by intro z; cases z))]; exact e⟩
  · show upd H1 L.gl _ L.gl = some (.lst (gRefs _ (h.groups.set g _).length))
    rw [upd_same, List.length_set, gRefs_set]
  · have hq : q < (h.groups.set g _).length := hq
    rw [List.length_set] at hq
    show ∃ d, upd H1 L.gl _ (if q = g then x else L.ga q) = some (.ins C.g d (gF (House.group _ q).most _ _))
    by_cases e : q = g
    · subst e
      have eg : (House.mk (h.groups.set q ⟨m, k, c == 1⟩) h.runs).group q = ⟨m, k, c == 1⟩ := by
        show (h.groups.set q ⟨m, k, c == 1⟩).getD q _ = _
        rw [List.getD_eq_getElem?_getD, List.getElem?_set_self hg]
        rfl
      refine ⟨dx, ?_⟩
      rw [if_pos rfl, eg, upd_ne (ne_of ex J.gl (by intro z; cases z))]
      show H1 x = some (.ins C.g dx (gF m k (cI (c == 1))))
      rw [cI_eq hc]
      exact ex
    · obtain ⟨d, eq⟩ := J.ga q hq
      have eg : (House.mk (h.groups.set g ⟨m, k, c == 1⟩) h.runs).group q = h.group q := by
        unfold House.group
        rw [List.getD_eq_getElem?_getD, List.getD_eq_getElem?_getD, List.getElem?_set_ne (fun z => e z.symm)]
      refine ⟨d, ?_⟩
      rw [if_neg e, eg, upd_ne (ne_of eq J.gl (by intro z; cases z))]
      exact eq
  · show upd H1 L.gl _ L.rl = _
    rw [upd_ne (fun z => I.gr z.symm)]
    exact J.rl
  · have hq : q < h.runs.length := hq
    omega
  · have hq : q < h.runs.length := hq
    omega
  · have hp : p < h.runs.length := hp
    omega
  · show 1 ≤ (h.groups.set g _).length ∧ (h.groups.set g _).length ≤ 8
    rw [List.length_set]
    exact I.ng
  · exact I.nr
section
variable {P : Program} {w : World} {K : PySem.W.Frag} {mg : Str → Option Value} {base : Heap} {C : Cl}
theorem scGroup : FnScope ["self", "number", "most", "keep", "cuts"] ["self", "number", "most", "keep", "cuts"] (defScope sGroup) := ⟨rfl, rfl, rfl, by decide +kernel, rfl, by decide +kernel, by decide +kernel⟩
theorem ok_group {f : Addr} {fd : FuncData} (F : Fun K "group" "House.group" sGroup f fd) (T : Txt K mg C) (dG : Mak P w K mg base C.g 1 ["self", "most", "keep", "cuts"] (spGI C)) (dR : Dfn P w K mg base "in_range" 1 ["number", "lowest", "highest"] spInR) :
    FnOk P w K mg base CX0 3 f fd ["self", "number", "most", "keep", "cuts"] (spGroup C) := by
  obtain ⟨fG, fdG, MG, GG, bG⟩ := dG
  obtain ⟨fR, fdR, mgR, kpR, GR, bR⟩ := dR
  refine F.ok scGroup (fun vs H Q E h => ?_) (fun cdv A outer s H vs Q E hr h => ?_)
  · obtain ⟨a, L, h, g, m, k, c, rfl, _⟩ := h
    rfl
  · obtain ⟨a, L, h, g, m, kk, c, rfl, I, k⟩ := h
    have hr1 : Room 1 _ := hr.mono (by decide)
    refine ⟨_, pss_cons (ps_if (pt_cmpR op_ge (pv 1) (pe_callB call_len_seq (by rfl) T.bLen PySem.boot_len (pa_cons (pe_fld (pv 0) rfl) pa_nil)) (nomark _)) (pss_one (ps_ret (pe_lst (pa_cons (pe_cn rfl T.kNot) pa_nil)))) pss_nil)
      (pss_cons (ps_if (pt_cmpR op_gt (pe_callB call_len_seq (by rfl) T.bLen PySem.boot_len (pa_cons (pe_fld (pv 0) rfl) pa_nil)) pe_int (nomark _)) (pss_one (ps_ret (pe_lst (pa_cons (pe_cn rfl T.kLate) pa_nil)))) pss_nil)
      (pss_cons (ps_if (pt_not (PW.pt (pw_and (pt_val (pe_call GR hr1 rfl mgR kpR bR .nil pass0 (pa_cons (pv 2) (pa_cons pe_int (pa_cons (pe_cn rfl T.kMost) pa_nil)))))
          (pw_and (pt_val (pe_call GR hr1 rfl mgR kpR bR .nil pass0 (pa_cons (pv 3) (pa_cons pe_int (pa_cons (pe_cn rfl T.kKeep) pa_nil)))))
          (pw_and1 (pt_val (pe_call GR hr1 rfl mgR kpR bR .nil pass0 (pa_cons (pv 4) (pa_cons pe_int (pa_cons pe_int pa_nil)))))))))) (pss_one (ps_ret (pe_lst (pa_cons (pe_cn rfl T.kWrong) pa_nil)))) pss_nil)
      (pss_cons (ps_asg (pe_make MG GG hr rfl T.mgG bG .nil pass0 (pa_cons (pv 2) (pa_cons (pv 3) (pa_cons (pv 4) pa_nil)))) (pg_sub (pe_fld (pv 0) rfl) (pv 1) set_list))
      (pss_one (ps_ret (pe_lst (pa_cons pe_int pa_nil))))))), ?_⟩
    obtain ⟨da, ea⟩ := I.ho
    refine ⟨_, rfl, _, rfl, a, C.h, da, _, _, rfl, ea, T.ch, T.nGrs, hF_groups _ _, L.gl, _, rfl, .inl (SqL.of I.gl), _, _, rfl, rfl, _, rfl, ?_⟩
    have lg : (gRefs L h.groups.length).length = h.groups.length := by
      unfold gRefs
      rw [List.length_map, List.length_range]
    rw [lg]
    by_cases hg : h.groups.length ≤ g
    · refine if_true_of (decide_eq_true (by omega)) ?_
      exact ⟨(by show 1 ≤ sizeLine; decide), fun p np => k.no I (if_pos hg) (Same.refl _) np⟩
    refine if_false_of (decide_eq_false (by omega)) ?_
    refine ⟨_, rfl, a, C.h, da, _, _, rfl, ea, T.ch, T.nRuns, hF_runs _ _, L.rl, _, rfl, .inl (SqL.of I.rl), _, _, rfl, rfl, _, rfl, ?_⟩
    have lr : (rRefs L (List.range h.runs.length)).length = h.runs.length := by
      unfold rRefs
      rw [List.length_map, List.length_range]
    rw [lr]
    by_cases h0 : h.runs ≠ []
    · have : 0 < h.runs.length := List.length_pos_iff.mpr h0
      refine if_true_of (decide_eq_true (by omega)) ?_
      refine ⟨(by show 1 ≤ sizeLine; decide), fun p np => k.no I ?_ (Same.refl _) np⟩
      show (if h.groups.length ≤ g then _ else if h.runs ≠ [] then _ else _) = _
      rw [if_neg hg, if_pos h0]
    have h0' : h.runs = [] := Classical.byContradiction h0
    refine if_false_of (decide_eq_false (by rw [h0']; decide)) ?_
    have es0 : ∀ x, Rp05.step h (.group g m kk c) = x ↔ (if m = 0 ∨ 4 < m ∨ kk = 0 ∨ 8 < kk ∨ 1 < c then (h, Rp05.ok (-1)) else ({ h with groups := h.groups.set g ⟨m, kk, c == 1⟩ }, Rp05.ok 0)) = x := by
      intro x
      show (if h.groups.length ≤ g then _ else if h.runs ≠ [] then _ else _) = x ↔ _
      rw [if_neg hg, if_neg h0]
    have fin : (!(if (decide ((1 : Int) ≤ (m : Int)) && decide ((m : Int) ≤ 4)) = true then (if (decide ((1 : Int) ≤ (kk : Int)) && decide ((kk : Int) ≤ 8)) = true then (decide ((0 : Int) ≤ (c : Int)) && decide ((c : Int) ≤ 1)) else false) else false)) = decide (m = 0 ∨ 4 < m ∨ kk = 0 ∨ 8 < kk ∨ 1 < c) := by
      rw [Bool.eq_iff_iff, Bool.not_eq_true', decide_eq_true_iff]
      by_cases q1 : (1 : Int) ≤ (m : Int) ∧ (m : Int) ≤ 4
      · rw [if_pos (by simp; omega)]
        by_cases q2 : (1 : Int) ≤ (kk : Int) ∧ (kk : Int) ≤ 8
        · rw [if_pos (by simp; omega)]
          simp
          omega
        · rw [if_neg (by simp; omega)]
          simp
          omega
      · rw [if_neg (by simp; omega)]
        simp
        omega
    have done : ∀ b : Bool, b = decide (m = 0 ∨ 4 < m ∨ kk = 0 ∨ 8 < kk ∨ 1 < c) → (if b = true then tRet (tLst (tCons (tC (.int (-1))) tNil)) { nx := fun _ H' => Q .non H', rt := Q } [some (.ref a), some (.int g), some (.int m), some (.int kk), some (.int c)] H
        else tAsg (tMake C.g (spGI C) [] E0 (tCons (tVar 2) (tCons (tVar 3) (tCons (tVar 4) tNil)))) (gSub (tFld K (tVar 0) "groups") (tVar 1) rSetL) { nx := fun σ H' => tRet (tLst (tCons (tC (.int 0)) tNil)) { nx := fun _ H' => Q .non H', rt := Q } σ H', rt := Q } [some (.ref a), some (.int g), some (.int m), some (.int kk), some (.int c)] H) := by
      intro b eb
      by_cases hb : m = 0 ∨ 4 < m ∨ kk = 0 ∨ 8 < kk ∨ 1 < c
      · refine if_true_of (by rw [eb]; exact decide_eq_true hb) ?_
        exact ⟨(by show 1 ≤ sizeLine; decide), fun p np => k.no I ((es0 _).mpr (if_pos hb)) (Same.refl _) np⟩
      · refine if_false_of (by rw [eb]; exact decide_eq_false hb) ?_
        have es := (es0 _).mpr (if_neg hb)
        refine ⟨_, rfl, _, rfl, _, rfl, ?_⟩
        intro x dx nx nd ne
        refine ⟨x, dx, m, kk, c, rfl, upd_same, fun H1 e1 k1 => ⟨rfl, ?_⟩⟩
        have s1 : Same H H1 := Same.made nx nd k1
        have I1 := I.same s1
        refine ⟨_, rfl, a, C.h, da, _, _, rfl, s1 _ _ ea, T.ch, T.nGrs, hF_groups _ _, _, rfl, L.gl, _, _, g, rfl, rfl, I1.gl, ?_, ?_⟩
        · rw [lg]
          unfold ixN
          rw [if_pos (by omega), if_pos (by omega)]
          simp
        · refine ⟨(by show 1 ≤ sizeLine; decide), fun p np => ?_⟩
          have J := I.setg (g := g) (by omega) h0' s1 e1 (show c ≤ 1 by omega)
          have npg : p ≠ L.gl := fun z => by
            rw [z, upd_same] at np
            cases np
          have np1 : H1 p = none := by
            rw [upd_ne npg] at np
            exact np
          refine k _ { L with ga := fun q => if q = g then x else L.ga q } p ?_ ⟨?_, ?_⟩ ?_ (s1.free np1) ?_
          · rw [es]
            exact J.same (Same.new np)
          · intro b o e nb
            rw [upd_ne (ne_of_none (s1 _ _ e) np1), upd_ne fun z => nb (.inr (.inl z))]
            exact s1 _ _ e
          · intro b e
            by_cases hb : b = p
            · rw [hb, upd_same] at e
              cases e
            · by_cases hbg : b = L.gl
              · rw [upd_ne hb, hbg, upd_same] at e
                cases e
              · rw [upd_ne hb, upd_ne hbg] at e
                exact s1.free e
          · rw [es]
            exact fun b z => .inr z
          · rw [upd_same, es]
            rfl
    refine ⟨_, rfl, _, _, _, rfl, _, rfl, ?_⟩
    cases e1 : (decide ((1 : Int) ≤ (m : Int)) && decide ((m : Int) ≤ 4)) with
    | false =>
      refine iteF (done _ ?_)
      rw [← fin, e1]
      rfl
    | true =>
      refine iteT ⟨_, rfl, _, _, _, rfl, _, rfl, ?_⟩
      cases e2 : (decide ((1 : Int) ≤ (kk : Int)) && decide ((kk : Int) ≤ 8)) with
      | false =>
        refine iteF (done _ ?_)
        rw [← fin, e1, e2]
        rfl
      | true =>
        refine iteT ⟨_, rfl, _, _, _, rfl, _, rfl, ?_⟩
        refine done _ ?_
        rw [← fin, e1, e2]
        rfl
end
end Gq
namespace Gq
open PySem PySem.Spec PyProof.Rows L2
open PySem.W (Codec)
open Rp05 (House)
theorem nums_app (l k : List Nat) : nums l ++ nums k = nums (l ++ k) := by
  unfold nums
  rw [List.map_append]
theorem nums_len (l : List Nat) : (nums l).length = l.length := by
  unfold nums
  rw [List.length_map]
theorem kp_fp {a : Addr} {L : Loc} {n : Nat} {H H' : Hp} (k : Kp (RS L n) H H') : Kp (FP a L n) H H' := k.mono fun _ z => FP.rs z
section
variable {P : Program} {w : World} {K : PySem.W.Frag} {mg : Str → Option Value} {base : Heap} {C : Cl}
/-- [run.stands] + runs_told(self.begin_to_run()) -/
theorem tail_ok (T : Txt K mg C) {a : Addr} {L : Loc} {h : House} {H H1 : Hp} {r : Nat} {σ : L2.St} {D : Ends} {i : Nat} (I : At C H1 a L h) (hr : r < h.runs.length) (kp : Kp (RS L h.runs.length) H H1) (h0 : σ[0]? = some (some (.ref a))) (hi : σ[i]? = some (some (.ref (L.ra r))))
    (k : ∀ (H' : Hp) (p : Addr), At C H' a L h.wake → Kp (RS L h.runs.length) H H' → H p = none → H' p = some (.lst (outV ⟨((h.at_ r).stand : Nat), Rp05.told (h.those h.begins)⟩)) → D.rt (.ref p) H') :
    tRet (tOp rCat (tLst (tCons (tFld K (tVar i) "stands") tNil)) (tCall (spTold C K) [] E0 (tCons (tMeth C.h "begin_to_run" (spBeg C) [] E0 (tVar 0) tNil) tNil))) D σ H1 := by
  obtain ⟨dr, er⟩ := I.ra r hr
  refine ⟨_, hi, L.ra r, C.r, dr, _, _, rfl, er, T.cr, T.nSta, rF_stands _ _ _, (by show 1 ≤ sizeLine; decide), fun p1 n1 => ?_⟩
  have I2 := I.same (Same.new (o := .lst [V.int ((h.at_ r).stand : Int)]) n1)
  obtain ⟨d2, e2⟩ := I2.ho
  refine ⟨_, h0, a, d2, _, rfl, e2, rfl, a, L, h, rfl, I2, fun H3 p3 I3 k3 n3 e3 => ?_⟩
  have hp1 : H3 p1 = some (.lst [V.int ((h.at_ r).stand : Int)]) := k3.keep _ _ upd_same (lst_ra I2 upd_same)
  refine ⟨p3, h.those h.begins, L.ra, rfl, SqL.of e3, Nat.le_trans (Nat.le_trans (those_len _ _) I.nr) (by decide), fun q hq => ?_, fun H4 p4 s4 n4 e4 => ?_⟩
  · obtain ⟨dq, eq⟩ := I3.ra q (by rw [change_len]; exact (mem_those.mp hq).1)
    exact ⟨dq, _, _, eq⟩
  · refine ⟨p1, p4, _, _, rfl, rfl, s4 _ _ hp1, e4, ?_, fun p np => ?_⟩
    · rw [nums_len]
      have := those_len h h.begins
      have := I.nr
      show 1 + ((h.those h.begins).length + 1) ≤ sizeLine
      exact Nat.le_trans (show 1 + ((h.those h.begins).length + 1) ≤ 100 by omega) (by decide)
    · refine k _ p (I3.same (s4.trans (Same.new np))) ((kp.trans (Kp.of_same (Same.new n1))).trans (k3.trans (Kp.of_same (s4.trans (Same.new np))))) ?_ ?_
      · exact kp.dom _ ((Same.new n1).free (k3.dom _ (s4.free np)))
      · rw [upd_same, outV_mk]
        rfl
theorem scEnded : FnScope ["self", "number", "passed", "run"] ["self", "number", "passed"] (defScope sEnded) := ⟨rfl, rfl, rfl, by decide +kernel, rfl, by decide +kernel, by decide +kernel⟩
theorem ok_ended {f : Addr} {fd : FuncData} (F : Fun K "ended" "House.ended" sEnded f fd) (T : Txt K mg C) (mB : Mth P w K mg base C.h "begin_to_run" 5 ["self"] (spBeg C)) (dT : Dfn P w K mg base "runs_told" 1 ["runs"] (spTold C K)) :
    FnOk P w K mg base CX0 6 f fd ["self", "number", "passed"] (spEnded C) := by
  obtain ⟨fB, fdB, mB, GB, bB⟩ := mB
  obtain ⟨fT, fdT, mgT, kpT, GT, bT⟩ := dT
  refine F.ok scEnded (fun vs H Q E h => ?_) (fun cdv A outer s H vs Q E hr h => ?_)
  · obtain ⟨a, L, h, r, q, rfl, _⟩ := h
    rfl
  · obtain ⟨a, L, h, r, q, rfl, I, k⟩ := h
    have hr1 : Room 1 _ := hr.mono (by decide)
    refine ⟨_, pss_cons (ps_if (pt_cmpR op_ge (pv 1) (pe_callB call_len_seq (by rfl) T.bLen PySem.boot_len (pa_cons (pe_fld (pv 0) rfl) pa_nil)) (nomark _)) (pss_one (ps_ret (pe_lst (pa_cons (pe_cn rfl T.kNot) pa_nil)))) pss_nil)
      (pss_cons (ps_set (i := 3) scEnded.nd rfl (Or.inl rfl) (pe_ix ix_list (pe_fld (pv 0) rfl) (pv 1) (fun _ _ => rfl)))
      (pss_cons (ps_if (pt_cmpR op_eq (pe_fld (pv 3) rfl) (pe_cn rfl T.kTold) (nomark _)) (pss_one (ps_fld (pv 3) (pe_cn rfl T.kStopped) rfl))
        (pss_one (ps_if (pt_cmpR op_eq (pe_fld (pv 3) rfl) (pe_cn rfl T.kRuns) (nomark _)) (pss_one (ps_fld (pv 3) (pe_ifExp (pt_cmpR op_eq (pv 2) pe_int (nomark _)) (pe_cn rfl T.kFailed) (pe_cn rfl T.kPassed)) rfl))
          (pss_one (ps_ret (pe_lst (pa_cons (pe_cn rfl T.kWrongS) pa_nil)))))))
      (pss_one (ps_ret (pe_op op_cat (pe_lst (pa_cons (pe_fld (pv 3) rfl) pa_nil)) (pe_call GT hr1 rfl mgT kpT bT .nil pass0 (pa_cons (pe_meth0 (pv 0) T.ch mB GB hr bB .nil pass0) pa_nil))))))), ?_⟩
    obtain ⟨da, ea⟩ := I.ho
    refine ⟨_, rfl, _, rfl, a, C.h, da, _, _, rfl, ea, T.ch, T.nRuns, hF_runs _ _, L.rl, _, rfl, .inl (SqL.of I.rl), _, _, rfl, rfl, _, rfl, ?_⟩
    have lr : (rRefs L (List.range h.runs.length)).length = h.runs.length := by
      unfold rRefs
      rw [List.length_map, List.length_range]
    rw [lr]
    by_cases hn : h.runs.length ≤ r
    · refine if_true_of (decide_eq_true (by omega)) ?_
      exact ⟨(by show 1 ≤ sizeLine; decide), fun p np => k.no I (if_pos hn) (Same.refl _) np⟩
    refine if_false_of (decide_eq_false (by omega)) ?_
    have hr' : r < h.runs.length := by omega
    refine ⟨_, rfl, a, C.h, da, _, _, rfl, ea, T.ch, T.nRuns, hF_runs _ _, _, rfl, L.rl, _, _, _, rfl, rfl, SqL.of I.rl, atI_nat (rRefs_get hr'), ?_⟩
    obtain ⟨dr, er⟩ := I.ra r hr'
    refine ⟨_, rfl, L.ra r, C.r, dr, _, _, rfl, er, T.cr, T.nSta, rF_stands _ _ _, rfl, _, rfl, ?_⟩
    have fin : ∀ s : Nat, (h.at_ r).stand = 1 ∨ (h.at_ r).stand = 2 → s = (if (h.at_ r).stand = 2 then 6 else if q ≠ 0 then 3 else 4) → ∀ D : Ends, D.rt = Q →
        tRet (tOp rCat (tLst (tCons (tFld K (tVar 3) "stands") tNil)) (tCall (spTold C K) [] E0 (tCons (tMeth C.h "begin_to_run" (spBeg C) [] E0 (tVar 0) tNil) tNil))) D [some (.ref a), some (.int r), some (.int q), some (.ref (L.ra r))] (upd H (L.ra r) (.ins C.r dr (rF r (L.ba r) s))) := by
      intro s hs es D hD
      obtain ⟨J, kp⟩ := I.mark (s := s) hr' ⟨_, er⟩
      have e : Rp05.step h (.ended r q) = ((h.change (fun k => k == r) s).wake, ⟨(s : Nat), Rp05.told ((h.change (fun k => k == r) s).those (h.change (fun k => k == r) s).begins)⟩) := by
        show (if h.runs.length ≤ r then _ else if (h.at_ r).stand ≠ 1 ∧ (h.at_ r).stand ≠ 2 then _ else _) = _
        rw [if_neg hn, if_neg (by omega), es]
      refine tail_ok T (r := r) J (by rw [change_len]; exact hr') (by rw [change_len]; exact kp) rfl rfl fun H' p J' kp' np hp => ?_
      rw [change_len] at kp'
      rw [change_stand hr', if_pos (beq_self_eq_true r)] at hp
      rw [hD]
      refine k H' L p ?_ (kp_fp kp') ?_ np ?_
      · rw [e]
        exact J'
      · rw [e]
        show ∀ b, FP a L (Rp05.House.change _ _ _).runs.length b → _
        rw [change_len, change_len]
        exact fun b z => .inr z
      · rw [e]
        exact hp
    rw [show decide (V.int ((h.at_ r).stand : Int) = V.int 2) = ((h.at_ r).stand == 2) from stand_int _ 2]
    by_cases c2 : (h.at_ r).stand = 2
    · refine if_true_of (by simp [c2]) ?_
      refine ⟨_, rfl, L.ra r, C.r, dr, _, rfl, er, T.cr, T.nSta, (by show 3 < 1000; decide), ?_⟩
      exact fin 6 (.inr c2) (by rw [if_pos c2]) _ rfl
    · refine if_false_of (by simp [c2]) ?_
      refine ⟨_, rfl, L.ra r, C.r, dr, _, _, rfl, er, T.cr, T.nSta, rF_stands _ _ _, rfl, _, rfl, ?_⟩
      rw [show decide (V.int ((h.at_ r).stand : Int) = V.int 1) = ((h.at_ r).stand == 1) from stand_int _ 1]
      by_cases c1 : (h.at_ r).stand = 1
      · refine if_true_of (by simp [c1]) ?_
        refine ⟨_, rfl, rfl, _, rfl, ?_⟩
        rw [show decide (V.int (q : Int) = V.int 0) = (q == 0) from stand_int _ 0]
        by_cases c0 : q = 0
        · refine if_true_of (by simp [c0]) ?_
          refine ⟨_, rfl, L.ra r, C.r, dr, _, rfl, er, T.cr, T.nSta, (by show 3 < 1000; decide), ?_⟩
          exact fin 4 (.inl c1) (by rw [if_neg c2, if_neg (by simp [c0])]) _ rfl
        · refine if_false_of (by simp [c0]) ?_
          refine ⟨_, rfl, L.ra r, C.r, dr, _, rfl, er, T.cr, T.nSta, (by show 3 < 1000; decide), ?_⟩
          exact fin 3 (.inl c1) (by rw [if_neg c2, if_pos c0]) _ rfl
      · refine if_false_of (by simp [c1]) ?_
        refine ⟨(by show 1 ≤ sizeLine; decide), fun p np => k.no I ?_ (Same.refl _) np⟩
        show (if h.runs.length ≤ r then _ else if (h.at_ r).stand ≠ 1 ∧ (h.at_ r).stand ≠ 2 then _ else _) = _
        rw [if_neg hn, if_pos ⟨c1, c2⟩]
end
end Gq
namespace Gq
open PySem PySem.Spec PyProof.Rows L2
open PySem.W (Codec)
open Rp05 (House)
def Loc.more (L : Loc) (n : Nat) (x b : Addr) : Loc := { L with ra := fun q => if q = n then x else L.ra q, ba := fun q => if q = n then b else L.ba q }
theorem more_ra {L : Loc} {n q : Nat} {x b : Addr} (h : q < n) : (L.more n x b).ra q = L.ra q := if_neg (by omega)
theorem more_ba {L : Loc} {n q : Nat} {x b : Addr} (h : q < n) : (L.more n x b).ba q = L.ba q := if_neg (by omega)
theorem more_raN {L : Loc} {n : Nat} {x b : Addr} : (L.more n x b).ra n = x := if_pos rfl
theorem more_baN {L : Loc} {n : Nat} {x b : Addr} : (L.more n x b).ba n = b := if_pos rfl
theorem more_refs {L : Loc} {n : Nat} {x b : Addr} {is : List Nat} (h : ∀ q, q ∈ is → q < n) : rRefs (L.more n x b) is = rRefs L is := by
  unfold rRefs
  apply List.map_congr_left
  intro q hq
  rw [more_ra (h q hq)]
theorem At.more {C : Cl} {H H1 : Hp} {a x b dx : Addr} {L : Loc} {h : House} {m : Nat} (I : At C H a L h) (hn : h.runs.length < 50) (s : Same H H1) (nx : H x = none) (nb : H b = none) (ex : H1 x = some (.ins C.r dx (rF h.runs.length b 0)))
    (eb : H1 b = some (.lst (nums ((List.range h.groups.length).filter fun k => Rp05.bit m k)))) :
    At C (upd H1 L.rl (.lst (rRefs L (List.range h.runs.length) ++ [V.ref x]))) a (L.more h.runs.length x b) (more h m) := by
  have J := I.same s
  have nbr : b ≠ L.rl := fun z => by
    rw [z, I.rl] at nb
    cases nb
  have nxr : x ≠ L.rl := ne_of ex J.rl (by intro z; cases z)
  refine ⟨?_, ?_, fun q hq => ?_, ?_, fun q hq => ?_, fun q hq => ?_, fun p q hp hq e => ?_, I.ng, ?_, I.gr, fun q hq => ?_⟩
  · obtain ⟨d, e⟩ := J.ho
    exact ⟨d, by rw [upd_ne (ne_of e J.rl (by intro z; cases z))]; exact e⟩
  · show upd H1 L.rl _ L.gl = some (.lst (gRefs L _))
    rw [upd_ne I.gr]
    exact J.gl
  · obtain ⟨d, e⟩ := J.ga q hq
    refine ⟨d, ?_⟩
    show upd H1 L.rl _ (L.ga q) = _
    rw [upd_ne (ne_of e J.rl (by intro z; cases z))]
    exact e
  · show upd H1 L.rl _ L.rl = _
    rw [upd_same, more_len, List.range_succ]
    unfold rRefs
    rw [List.map_append]
    congr 3
    · apply List.map_congr_left
      intro q hq
      rw [more_ra (List.mem_range.mp hq)]
    · show [V.ref x] = [V.ref _]
      rw [more_raN]
  · rw [more_len] at hq
    by_cases e : q = h.runs.length
    · subst e
      refine ⟨dx, ?_⟩
      rw [more_raN, more_baN, more_new, upd_ne nxr]
      exact ex
    · have hq' : q < h.runs.length := by omega
      obtain ⟨d, eq⟩ := J.ra q hq'
      refine ⟨d, ?_⟩
      rw [more_ra hq', more_ba hq', more_old hq', upd_ne (ne_of eq J.rl (by intro z; cases z))]
      exact eq
  · rw [more_len] at hq
    by_cases e : q = h.runs.length
    · subst e
      have eg : (Gq.more h m).groupsOf h.runs.length = (List.range h.groups.length).filter fun k => Rp05.bit m k := by
        unfold House.groupsOf
        rw [more_new]
        rfl
      rw [more_baN, eg, upd_ne nbr]
      exact eb
    · have hq' : q < h.runs.length := by omega
      rw [more_ba hq', more_groupsOf hq', upd_ne (I.br q hq')]
      exact J.ba q hq'
  · rw [more_len] at hp hq
    have old : ∀ q, q < h.runs.length → L.ra q ≠ x := fun q hq' z => by
      obtain ⟨d, e⟩ := I.ra q hq'
      rw [z, nx] at e
      cases e
    by_cases ep : p = h.runs.length
    · by_cases eq : q = h.runs.length
      · rw [ep, eq]
      · rw [ep, more_raN, more_ra (by omega)] at e
        exact absurd e.symm (old q (by omega))
    · by_cases eq : q = h.runs.length
      · rw [eq, more_raN, more_ra (by omega)] at e
        exact absurd e (old p (by omega))
      · rw [more_ra (by omega), more_ra (by omega)] at e
        exact I.inj p q (by omega) (by omega) e
  · rw [more_len]
    omega
  · rw [more_len] at hq
    show (L.more h.runs.length x b).ba q ≠ L.rl
    by_cases e : q = h.runs.length
    · rw [e, more_baN]
      exact nbr
    · rw [more_ba (by omega)]
      exact I.br q (by omega)
theorem shr_zero (m n : Nat) : (!decide (V.int ((m : Int) / 2 ^ ((n : Int)).toNat) = V.int 0)) = decide (2 ^ n ≤ m) := by
  rw [Int.toNat_natCast, dec_int]
  have e1 : ((m : Int) / 2 ^ n) = ((m / 2 ^ n : Nat) : Int) := by simp
  rw [e1, Bool.eq_iff_iff]
  simp only [Bool.not_eq_true', beq_eq_false_iff_ne, decide_eq_true_eq]
  have hp : 0 < 2 ^ n := Nat.two_pow_pos n
  have := Nat.div_eq_zero_iff (a := m) (b := 2 ^ n)
  omega
/-- the told lists, each with how many ahead -/
theorem told_len {h : House} {p : Nat → Bool} (hn : h.runs.length ≤ 50) : (Rp05.told (h.those p)).length ≤ 51 := by
  have := those_len h p
  show (h.those p).length + 1 ≤ 51
  omega
section
variable {P : Program} {w : World} {K : PySem.W.Frag} {mg : Str → Option Value} {base : Heap} {C : Cl}
theorem scSubmit : FnScope ["self", "group_set", "ran_before", "number", "pushed_out", "begun", "told"] ["self", "group_set"] (defScope sSubmit) := ⟨rfl, rfl, rfl, by decide +kernel, rfl, by decide +kernel, by decide +kernel⟩
theorem ok_submit {f : Addr} {fd : FuncData} (F : Fun K "submit" "House.submit" sSubmit f fd) (T : Txt K mg C) (mF : Mth P w K mg base C.h "is_full" 2 ["self"] (spFull C)) (mS : Mth P w K mg base C.h "runs_that_stand" 1 ["self", "where"] (spStand C))
    (dR : Mak P w K mg base C.r 1 ["self", "number", "belongs_to"] (spRI C)) (dG : Dfn P w K mg base "groups_in_set" 1 ["group_set", "how_many"] spGis) (mP : Mth P w K mg base C.h "push_out" 3 ["self"] (spPush C))
    (mB : Mth P w K mg base C.h "begin_to_run" 5 ["self"] (spBeg C)) (mT : Mth P w K mg base C.h "tell_to_stop" 3 ["self", "ran_before"] (spTell C)) (dT : Dfn P w K mg base "runs_told" 1 ["runs"] (spTold C K)) :
    FnOk P w K mg base CX0 6 f fd ["self", "group_set"] (spSubmit C) := by
  obtain ⟨fF, fdF, mF, GF, bF⟩ := mF
  obtain ⟨fS, fdS, mS, GS, bS⟩ := mS
  obtain ⟨fR, fdR, MR, GR, bR⟩ := dR
  obtain ⟨fG, fdG, mgG, kpG, GG, bG⟩ := dG
  obtain ⟨fP, fdP, mP, GP, bP⟩ := mP
  obtain ⟨fB, fdB, mB, GB, bB⟩ := mB
  obtain ⟨fK, fdK, mK, GK, bK⟩ := mT
  obtain ⟨fT, fdT, mgT, kpT, GT, bT⟩ := dT
  refine F.ok scSubmit (fun vs H Q E h => ?_) (fun cdv A outer s H vs Q E hr h => ?_)
  · obtain ⟨a, L, h, m, rfl, _⟩ := h
    rfl
  · obtain ⟨a, L, h, m, rfl, I, k⟩ := h
    have hr1 : Room 1 _ := hr.mono (by decide)
    have hr2 : Room 2 _ := hr.mono (by decide)
    have hr3 : Room 3 _ := hr.mono (by decide)
    refine ⟨_, pss_cons (ps_if (PW.pt (pw_or (pt_cmpR op_eq (pv 1) pe_int (nomark _)) (pw_or1 (pt_cmpR op_ne (pe_op op_shr (pv 1) (pe_callB call_len_seq (by rfl) T.bLen PySem.boot_len (pa_cons (pe_fld (pv 0) rfl) pa_nil))) pe_int (nomark _))))) (pss_one (ps_ret (pe_lst (pa_cons (pe_cn rfl T.kWrong) pa_nil)))) pss_nil)
      (pss_cons (ps_if (pt_val (pe_meth0 (pv 0) T.ch mF GF hr2 bF .nil pass0)) (pss_one (ps_ret (pe_lst (pa_cons (pe_cn rfl T.kFull) pa_nil)))) pss_nil)
      (pss_cons (ps_set (i := 2) scSubmit.nd rfl (Or.inl rfl) (pe_meth (pv 0) T.ch mS GS hr1 bS .nil pass0 (pa_cons (pe_cn rfl T.kRuns) pa_nil)))
      (pss_cons (ps_set (i := 3) scSubmit.nd rfl (Or.inl rfl) (pe_callB call_len_seq (by rfl) T.bLen PySem.boot_len (pa_cons (pe_fld (pv 0) rfl) pa_nil)))
      (pss_cons (ps_expr (pe_bm PySem.F.plainAttrs_list PySem.F.slot_list_append PySem.F.type_list_append mt_append (pe_fld (pv 0) rfl) (pa_cons (pe_make MR GR hr2 rfl T.mgR bR .nil pass0 (pa_cons (pv 3) (pa_cons (pe_call GG hr1 rfl mgG kpG bG .nil pass0 (pa_cons (pv 1) (pa_cons (pe_callB call_len_seq (by rfl) T.bLen PySem.boot_len (pa_cons (pe_fld (pv 0) rfl) pa_nil)) pa_nil))) pa_nil))) pa_nil)))
      (pss_cons (ps_set (i := 4) scSubmit.nd rfl (Or.inl rfl) (pe_meth0 (pv 0) T.ch mP GP hr3 bP .nil pass0))
      (pss_cons (ps_set (i := 5) scSubmit.nd rfl (Or.inl rfl) (pe_meth0 (pv 0) T.ch mB GB hr bB .nil pass0))
      (pss_cons (ps_set (i := 6) scSubmit.nd rfl (Or.inl rfl) (pe_meth (pv 0) T.ch mK GK hr3 bK .nil pass0 (pa_cons (pv 2) pa_nil)))
      (pss_one (ps_ret (pe_op op_cat (pe_op op_cat (pe_op op_cat (pe_lst (pa_cons (pv 3) pa_nil)) (pe_call GT hr1 rfl mgT kpT bT .nil pass0 (pa_cons (pv 4) pa_nil))) (pe_call GT hr1 rfl mgT kpT bT .nil pass0 (pa_cons (pv 5) pa_nil))) (pe_call GT hr1 rfl mgT kpT bT .nil pass0 (pa_cons (pv 6) pa_nil)))))))))))), ?_⟩
    obtain ⟨da, ea⟩ := I.ho
    have lg : (gRefs L h.groups.length).length = h.groups.length := by
      unfold gRefs
      rw [List.length_map, List.length_range]
    have lr : (rRefs L (List.range h.runs.length)).length = h.runs.length := by
      unfold rRefs
      rw [List.length_map, List.length_range]
    -- if group_set == 0 or group_set >> len(self.groups) != 0
    refine ⟨_, rfl, rfl, _, rfl, ?_⟩
    rw [show decide (V.int (m : Int) = V.int 0) = (m == 0) from stand_int _ 0]
    by_cases m0 : m = 0
    · refine if_true_of (by simp [m0]) (iteT ?_)
      exact ⟨(by show 1 ≤ sizeLine; decide), fun p np => k.no I (if_pos (.inl m0)) (Same.refl _) np⟩
    refine if_false_of (by simp [m0]) ?_
    refine ⟨_, rfl, _, rfl, a, C.h, da, _, _, rfl, ea, T.ch, T.nGrs, hF_groups _ _, L.gl, _, rfl, .inl (SqL.of I.gl), _, _, rfl, rfl, (by omega), rfl, _, rfl, ?_⟩
    rw [lg, shr_zero]
    by_cases m1 : 2 ^ h.groups.length ≤ m
    · refine if_true_of (decide_eq_true m1) ?_
      exact ⟨(by show 1 ≤ sizeLine; decide), fun p np => k.no I (if_pos (.inr m1)) (Same.refl _) np⟩
    refine if_false_of (decide_eq_false m1) ?_
    have hm : ¬ (m = 0 ∨ 2 ^ h.groups.length ≤ m) := by
      rintro (z | z)
      · exact m0 z
      · exact m1 z
    -- if self.is_full()
    refine ⟨_, rfl, a, da, _, rfl, ea, rfl, a, L, h, rfl, I, fun H1 s1 => ⟨_, rfl, ?_⟩⟩
    rw [← lives_count]
    have I1 := I.same s1
    by_cases hf : 20 ≤ (h.runs.filter Rp05.Run.lives).length ∨ 50 ≤ h.runs.length
    · refine if_true_of (by rw [Bool.or_eq_true, decide_eq_true_iff, decide_eq_true_iff]; exact hf) ?_
      refine ⟨(by show 1 ≤ sizeLine; decide), fun p np => k.no I ?_ s1 np⟩
      show (if m = 0 ∨ 2 ^ h.groups.length ≤ m then _ else if Rp05.HERE ≤ (h.runs.filter Rp05.Run.lives).length ∨ Rp05.ALL ≤ h.runs.length then _ else _) = _
      rw [if_neg hm]
      exact if_pos hf
    refine if_false_of (by rw [Bool.or_eq_false_iff, decide_eq_false_iff_not, decide_eq_false_iff_not]; exact ⟨fun z => hf (.inl z), fun z => hf (.inr z)⟩) ?_
    have es := submit_eq (h := h) (m := m) hm hf
    have hn : h.runs.length < 50 := by
      have : ¬ 50 ≤ h.runs.length := fun z => hf (.inr z)
      omega
    -- ran_before = self.runs_that_stand(RUNS)
    obtain ⟨da1, ea1⟩ := I1.ho
    refine ⟨_, rfl, a, da1, _, rfl, ea1, rfl, a, L, h, 1, rfl, I1, fun H2 l s2 nl hl => ?_⟩
    have hl : H2 l = some (.lst (rRefs L (ran h))) := hl
    have I2 := I1.same s2
    obtain ⟨da2, ea2⟩ := I2.ho
    -- number = len(self.runs)
    refine ⟨_, rfl, a, C.h, da2, _, _, rfl, ea2, T.ch, T.nRuns, hF_runs _ _, L.rl, _, rfl, .inl (SqL.of I2.rl), ?_⟩
    rw [lr]
    -- self.runs.append(Run(number, groups_in_set(group_set, len(self.groups))))
    refine ⟨_, rfl, a, C.h, da2, _, _, rfl, ea2, T.ch, T.nRuns, hF_runs _ _, .inl ⟨rfl, _, SqL.of I2.rl⟩, ?_⟩
    refine ⟨_, rfl, _, rfl, _, rfl, a, C.h, da2, _, _, rfl, ea2, T.ch, T.nGrs, hF_groups _ _, L.gl, _, rfl, .inl (SqL.of I2.gl), ?_⟩
    rw [lg]
    refine ⟨m, h.groups.length, rfl, I.ng.2, fun H3 b s3 nb hb => ?_⟩
    intro x dx nx nd ne
    refine ⟨x, dx, b, _, rfl, upd_same, fun H4 e4 k4 => ⟨rfl, ?_⟩⟩
    have s4 : Same H3 H4 := Same.made nx nd k4
    have s24 : Same H2 H4 := s3.trans s4
    refine ⟨L.rl, _, _, rfl, rfl, s24 _ _ I2.rl, (by rw [lr]; exact Nat.lt_of_lt_of_le hn (by decide)), ?_⟩
    have J5 := I2.more (x := x) (m := m) hn s24 (s3.free nx) nb e4 (s4 _ _ hb)
    generalize hH5 : upd H4 L.rl (.lst (rRefs L (List.range h.runs.length) ++ [V.ref x])) = H5 at J5
    have keep5 : ∀ c o, H2 c = some o → c ≠ L.rl → H5 c = some o := fun c o e nc => by
      rw [← hH5, upd_ne nc]
      exact s24 _ _ e
    have dom5 : ∀ c, H5 c = none → H2 c = none := fun c e => by
      rw [← hH5] at e
      by_cases hc : c = L.rl
      · rw [hc, upd_same] at e
        cases e
      · rw [upd_ne hc] at e
        exact s24.free e
    have J5 : At C H5 a (L.more h.runs.length x b) (sA h m) := J5
    generalize hL : L.more h.runs.length x b = M at J5
    obtain ⟨da5, ea5⟩ := J5.ho
    -- pushed_out, begun, told
    refine ⟨_, rfl, a, da5, _, rfl, ea5, rfl, a, M, sA h m, rfl, J5, fun H6 p6 J6 k6 n6 e6 => ?_⟩
    have J6 : At C H6 a M (sB h m) := J6
    rw [show (sA h m).runs.length = h.runs.length + 1 from more_len h m] at k6
    obtain ⟨da6, ea6⟩ := J6.ho
    refine ⟨_, rfl, a, da6, _, rfl, ea6, rfl, a, M, sB h m, rfl, J6, fun H7 p7 J7 k7 n7 e7 => ?_⟩
    have J7 : At C H7 a M (sC h m) := J7
    rw [sB_len] at k7
    obtain ⟨da7, ea7⟩ := J7.ho
    have hl5 : H5 l = some (.lst (rRefs M (ran h))) := by
      rw [← hL, more_refs fun q hq => ran_lt hq]
      refine keep5 _ _ hl fun z => ?_
      rw [z, I1.rl] at nl
      cases nl
    have nrs : ∀ {H' : Hp} {h' : House} {p : Addr} {xs : List V}, At C H' a M h' → h'.runs.length = h.runs.length + 1 → H' p = some (.lst xs) → ¬ RS M (h.runs.length + 1) p := fun J e z => by
      rw [← e]
      exact lst_ra J z
    have lA : (sA h m).runs.length = h.runs.length + 1 := more_len h m
    have hl6 := k6.keep _ _ hl5 (nrs J5 lA hl5)
    have hl7 := k7.keep _ _ hl6 (nrs J6 (sB_len h m) hl6)
    refine ⟨_, rfl, a, da7, _, rfl, ea7, rfl, _, rfl, a, l, M, sC h m, ran h, rfl, J7, hl7, Nat.le_trans (those_len _ _) (Nat.le_of_lt hn), (fun q hq => by rw [sC_len]; have := ran_lt hq; omega), fun H8 p8 J8 k8 n8 e8 => ?_⟩
    rw [cut_change] at J8
    rw [sC_len] at k8
    have lD : ((sC h m).change (cutQ h m) 2).runs.length = h.runs.length + 1 := by rw [change_len, sC_len]
    rw [← cut_those] at e8
    have e6' := k7.keep _ _ e6 (nrs J6 (sB_len h m) e6)
    have e6'' := k8.keep _ _ e6' (nrs J7 (sC_len h m) e6')
    have e7' := k8.keep _ _ e7 (nrs J7 (sC_len h m) e7)
    have num : ∀ {H' : Hp} {is : List Nat}, Same H8 H' → (∀ q, q ∈ is → q < h.runs.length + 1) → ∀ q, q ∈ is → ∃ dx b s, H' (M.ra q) = some (.ins C.r dx (rF q b s)) := fun {H' is} s hi q hq => by
      obtain ⟨dq, eq⟩ := (J8.same s).ra q (by rw [lD]; exact hi q hq)
      exact ⟨dq, _, _, eq⟩
    have lt1 : ∀ q, q ∈ (sA h m).those (sA h m).outs → q < h.runs.length + 1 := fun q hq => by rw [← lA]; exact (mem_those.mp hq).1
    have lt2 : ∀ q, q ∈ (sB h m).those (sB h m).begins → q < h.runs.length + 1 := fun q hq => by rw [← sB_len h m]; exact (mem_those.mp hq).1
    have lt3 : ∀ q, q ∈ (sC h m).those (cutQ h m) → q < h.runs.length + 1 := fun q hq => by rw [← sC_len h m]; exact (mem_those.mp hq).1
    have le1 := those_len (sA h m) (sA h m).outs
    have le2 := those_len (sB h m) (sB h m).begins
    have le3 := those_len (sC h m) (cutQ h m)
    rw [lA] at le1
    rw [sB_len] at le2
    rw [sC_len] at le3
    -- return [number] + runs_told(pushed_out) + runs_told(begun) + runs_told(told)
    refine ⟨_, rfl, (by show 1 ≤ sizeLine; decide), fun p9 n9 => ?_⟩
    have s9 : Same H8 (upd H8 p9 (.lst [V.int (h.runs.length : Int)])) := Same.new n9
    refine ⟨_, rfl, p6, _, M.ra, rfl, SqL.of (s9 _ _ e6''), (by omega), num s9 lt1, fun H10 p10 s10 n10 e10 => ?_⟩
    refine ⟨p9, p10, _, _, rfl, rfl, s10 _ _ upd_same, e10, ?_, fun p11 n11 => ?_⟩
    · rw [nums_len]
      exact Nat.le_trans (show 1 + (((sA h m).those (sA h m).outs).length + 1) ≤ 100 by omega) (by decide)
    have s11 := (s9.trans s10).trans (Same.new (o := .lst ([V.int (h.runs.length : Int)] ++ nums (((sA h m).those (sA h m).outs).length :: (sA h m).those (sA h m).outs))) n11)
    refine ⟨_, rfl, p7, _, M.ra, rfl, SqL.of (s11 _ _ e7'), (by omega), num s11 lt2, fun H12 p12 s12 n12 e12 => ?_⟩
    refine ⟨p11, p12, _, _, rfl, rfl, s12 _ _ upd_same, e12, ?_, fun p13 n13 => ?_⟩
    · rw [List.length_append, nums_len, nums_len]
      exact Nat.le_trans (show (1 + (((sA h m).those (sA h m).outs).length + 1)) + (((sB h m).those (sB h m).begins).length + 1) ≤ 200 by omega) (by decide)
    have s13 := (s11.trans s12).trans (Same.new (o := .lst (([V.int (h.runs.length : Int)] ++ nums (((sA h m).those (sA h m).outs).length :: (sA h m).those (sA h m).outs)) ++ nums (((sB h m).those (sB h m).begins).length :: (sB h m).those (sB h m).begins))) n13)
    refine ⟨_, rfl, p8, _, M.ra, rfl, SqL.of (s13 _ _ e8), (by omega), num s13 lt3, fun H14 p14 s14 n14 e14 => ?_⟩
    refine ⟨p13, p14, _, _, rfl, rfl, s14 _ _ upd_same, e14, ?_, fun p15 n15 => ?_⟩
    · rw [List.length_append, List.length_append, nums_len, nums_len, nums_len]
      exact Nat.le_trans (show ((1 + (((sA h m).those (sA h m).outs).length + 1)) + (((sB h m).those (sB h m).begins).length + 1)) + (((sC h m).those (cutQ h m)).length + 1) ≤ 300 by omega) (by decide)
    have s15 := (s13.trans s14).trans (Same.new (o := .lst ((([V.int (h.runs.length : Int)] ++ nums (((sA h m).those (sA h m).outs).length :: (sA h m).those (sA h m).outs)) ++ nums (((sB h m).those (sB h m).begins).length :: (sB h m).those (sB h m).begins)) ++ nums (((sC h m).those (cutQ h m)).length :: (sC h m).those (cutQ h m)))) n15)
    have kk : Kp (RS M (h.runs.length + 1)) H5 _ := (k6.trans (k7.trans k8)).trans (Kp.of_same s15)
    refine k _ M p15 ?_ ⟨fun c o e nc => ?_, fun c e => ?_⟩ ?_ ?_ ?_
    · rw [es]
      exact J8.same s15
    · have e2 := s2 _ _ (s1 _ _ e)
      refine kk.keep c o (keep5 c o e2 fun z => nc (.inr (.inr (.inl z)))) ?_
      rintro ⟨q, hq, z⟩
      rw [← hL] at z
      by_cases hqn : q = h.runs.length
      · rw [hqn, more_raN] at z
        rw [z, s3.free nx] at e2
        cases e2
      · rw [more_ra (by omega)] at z
        exact nc (FP.rs ⟨q, by omega, z⟩)
    · exact s1.free (s2.free (dom5 c (kk.dom c e)))
    · rw [es]
      show ∀ c, FP a M ((sC h m).change (cutQ h m) 2).runs.length c → _
      rw [lD, ← hL]
      rintro c (z | z | z | ⟨q, hq, z⟩)
      · exact .inr (.inl z)
      · exact .inr (.inr (.inl z))
      · exact .inr (.inr (.inr (.inl z)))
      · by_cases hqn : q = h.runs.length
        · rw [hqn, more_raN, more_baN] at z
          rcases z with z | z
          · rw [z]
            exact .inl (s1.free (s2.free (s3.free nx)))
          · rw [z]
            exact .inl (s1.free (s2.free nb))
        · rw [more_ra (by omega), more_ba (by omega)] at z
          exact .inr (.inr (.inr (.inr ⟨q, by omega, z⟩)))
    · refine s1.free (s2.free (dom5 _ ((k6.trans (k7.trans k8)).dom _ ?_)))
      exact (s13.trans s14).free n15
    · rw [es, upd_same]
      show _ = some (HO.lst (outV ⟨(h.runs.length : Nat), _⟩))
      rw [outV_mk, ← nums_app, ← nums_app]
      simp only [List.append_assoc]
      rfl
end
end Gq
namespace Gq
open PySem PySem.Spec PyProof.Rows L2
open PySem.W (Codec)
open Rp05 (House)
/-! ### 8b. cancel, stand, why, members -/
theorem runs_at (h : House) : h.runs = (List.range h.runs.length).map h.at_ := by
  apply List.ext_getElem?
  intro i
  by_cases hi : i < h.runs.length
  · rw [List.getElem?_map, List.getElem?_range hi, get_at hi]
    rfl
  · rw [List.getElem?_eq_none_iff.mpr (by omega), List.getElem?_eq_none_iff.mpr (by rw [List.length_map, List.length_range]; omega)]
theorem stands_at (h : House) : (h.runs.map fun x => x.stand) = (List.range h.runs.length).map fun q => (h.at_ q).stand := by
  have e := congrArg (List.map fun x : Rp05.Run => x.stand) (runs_at h)
  rw [List.map_map] at e
  exact e
theorem older_len (h : House) (r g : Nat) : (h.older r g).length ≤ r := by
  have := List.length_filter_le (fun q => (h.at_ q).lives && (h.at_ q).in_ g) (List.range r)
  rw [List.length_range] at this
  exact this
theorem holding_len (h : House) (r : Nat) : (h.holding r).length ≤ h.groups.length :=
  Nat.le_trans (List.length_filter_le _ _) (groupsOf_len h r)
theorem holding_lt {h : House} {r g : Nat} (e : g ∈ h.holding r) : g < h.groups.length := (mem_groupsOf.mp (List.mem_filter.mp e).1).1
/-- what is told of the groups -/
def whyL (h : House) (r : Nat) (l : List Nat) : List Nat := l.flatMap fun g => g :: Rp05.told (h.older r g)
theorem whyL_len {h : House} {r : Nat} (hr : r ≤ 50) : ∀ l : List Nat, (whyL h r l).length ≤ 52 * l.length
  | [] => Nat.le_refl _
  | g :: l => by
    have ih := whyL_len (h := h) hr l
    have o := older_len h r g
    have e : (whyL h r (g :: l)).length = (h.older r g).length + 2 + (whyL h r l).length := by
      show (List.flatMap _ (g :: l)).length = _
      rw [List.flatMap_cons, List.length_append]
      rfl
    rw [e, List.length_cons]
    omega
theorem whyL_snoc (h : House) (r g : Nat) (l : List Nat) : whyL h r (l ++ [g]) = whyL h r l ++ (g :: Rp05.told (h.older r g)) := by
  unfold whyL
  rw [List.flatMap_append, List.flatMap_cons, List.flatMap_nil, List.append_nil]
/-- what is told of a group's runs -/
def memL (h : House) (l : List Nat) : List Nat := l.flatMap fun r => [r, (h.at_ r).stand]
theorem memL_len (h : House) : ∀ l : List Nat, (memL h l).length = 2 * l.length
  | [] => rfl
  | r :: l => by
    have ih := memL_len h l
    show (List.flatMap _ (r :: l)).length = _
    rw [List.flatMap_cons, List.length_append]
    show 2 + (memL h l).length = 2 * (l.length + 1)
    omega
theorem memL_snoc (h : House) (r : Nat) (l : List Nat) : memL h (l ++ [r]) = memL h l ++ [r, (h.at_ r).stand] := by
  unfold memL
  rw [List.flatMap_append, List.flatMap_cons, List.flatMap_nil, List.append_nil]
def spCancel (C : Cl) : Sp := fun vs H Q _ => ∃ (a : Addr) (L : Loc) (h : House) (r : Nat), vs = [.ref a, .int r] ∧ At C H a L h ∧ After C a H L h (.cancel r) Q
def spStandAll (C : Cl) : Sp := fun vs H Q _ => ∃ (a : Addr) (L : Loc) (h : House), vs = [.ref a] ∧ At C H a L h ∧ After C a H L h .stand Q
def spWhy (C : Cl) : Sp := fun vs H Q _ => ∃ (a : Addr) (L : Loc) (h : House) (r : Nat), vs = [.ref a, .int r] ∧ At C H a L h ∧ After C a H L h (.why r) Q
def spMembers (C : Cl) : Sp := fun vs H Q _ => ∃ (a : Addr) (L : Loc) (h : House) (g : Nat), vs = [.ref a, .int g] ∧ At C H a L h ∧ After C a H L h (.members g) Q
section
variable {P : Program} {w : World} {K : PySem.W.Frag} {mg : Str → Option Value} {base : Heap} {C : Cl}
theorem rRefs_len (L : Loc) (is : List Nat) : (rRefs L is).length = is.length := by
  unfold rRefs
  rw [List.length_map]
theorem gRefs_len (L : Loc) (n : Nat) : (gRefs L n).length = n := by
  unfold gRefs
  rw [List.length_map, List.length_range]
theorem scCancel : FnScope ["self", "number", "run"] ["self", "number"] (defScope sCancel) := ⟨rfl, rfl, rfl, by decide +kernel, rfl, by decide +kernel, by decide +kernel⟩
theorem ok_cancel {f : Addr} {fd : FuncData} (F : Fun K "cancel" "House.cancel" sCancel f fd) (T : Txt K mg C) (mB : Mth P w K mg base C.h "begin_to_run" 5 ["self"] (spBeg C)) (dT : Dfn P w K mg base "runs_told" 1 ["runs"] (spTold C K)) (dH : Dfn P w K mg base "is_here" 1 ["run"] (spHere C)) :
    FnOk P w K mg base CX0 6 f fd ["self", "number"] (spCancel C) := by
  obtain ⟨fB, fdB, mB, GB, bB⟩ := mB
  obtain ⟨fT, fdT, mgT, kpT, GT, bT⟩ := dT
  obtain ⟨fH, fdH, mgH, kpH, GH, bH⟩ := dH
  refine F.ok scCancel (fun vs H Q E h => ?_) (fun cdv A outer s H vs Q E hr h => ?_)
  · obtain ⟨a, L, h, r, rfl, _⟩ := h
    rfl
  · obtain ⟨a, L, h, r, rfl, I, k⟩ := h
    have hr1 : Room 1 _ := hr.mono (by decide)
    refine ⟨_, pss_cons (ps_if (pt_cmpR op_ge (pv 1) (pe_callB call_len_seq (by rfl) T.bLen PySem.boot_len (pa_cons (pe_fld (pv 0) rfl) pa_nil)) (nomark _)) (pss_one (ps_ret (pe_lst (pa_cons (pe_cn rfl T.kNot) pa_nil)))) pss_nil)
      (pss_cons (ps_set (i := 2) scCancel.nd rfl (Or.inl rfl) (pe_ix ix_list (pe_fld (pv 0) rfl) (pv 1) (fun _ _ => rfl)))
      (pss_cons (ps_if (pt_cmpR op_eq (pe_fld (pv 2) rfl) (pe_cn rfl T.kTold) (nomark _)) (pss_one (ps_ret (pe_lst (pa_cons (pe_cn rfl T.kAlready) pa_nil)))) pss_nil)
      (pss_cons (ps_if (pt_not (pt_val (pe_call GH hr1 rfl mgH kpH bH .nil pass0 (pa_cons (pv 2) pa_nil)))) (pss_one (ps_ret (pe_lst (pa_cons (pe_cn rfl T.kWrongS) pa_nil)))) pss_nil)
      (pss_cons (ps_fld (pv 2) (pe_ifExp (pt_cmpR op_eq (pe_fld (pv 2) rfl) (pe_cn rfl T.kWaits) (nomark _)) (pe_cn rfl T.kCalled) (pe_cn rfl T.kTold)) rfl)
      (pss_one (ps_ret (pe_op op_cat (pe_lst (pa_cons (pe_fld (pv 2) rfl) pa_nil)) (pe_call GT hr1 rfl mgT kpT bT .nil pass0 (pa_cons (pe_meth0 (pv 0) T.ch mB GB hr bB .nil pass0) pa_nil))))))))), ?_⟩
    obtain ⟨da, ea⟩ := I.ho
    refine ⟨_, rfl, _, rfl, a, C.h, da, _, _, rfl, ea, T.ch, T.nRuns, hF_runs _ _, L.rl, _, rfl, .inl (SqL.of I.rl), _, _, rfl, rfl, _, rfl, ?_⟩
    rw [rRefs_len, List.length_range]
    by_cases hn : h.runs.length ≤ r
    · refine if_true_of (decide_eq_true (by omega)) ?_
      exact ⟨(by show 1 ≤ sizeLine; decide), fun p np => k.no I (if_pos hn) (Same.refl _) np⟩
    refine if_false_of (decide_eq_false (by omega)) ?_
    have hr' : r < h.runs.length := by omega
    have e0 : ∀ x, Rp05.step h (.cancel r) = x ↔ (if (h.at_ r).stand = 2 then (h, Rp05.ok (-4)) else if 2 < (h.at_ r).stand then (h, Rp05.ok (-5)) else
        ((h.change (fun k => k == r) (if (h.at_ r).stand = 1 then 2 else 7)).wake, ⟨((if (h.at_ r).stand = 1 then 2 else 7 : Nat) : Int), Rp05.told ((h.change (fun k => k == r) (if (h.at_ r).stand = 1 then 2 else 7)).those (h.change (fun k => k == r) (if (h.at_ r).stand = 1 then 2 else 7)).begins)⟩)) = x := by
      intro x
      show (if h.runs.length ≤ r then _ else _) = x ↔ _
      rw [if_neg hn]
    refine ⟨_, rfl, a, C.h, da, _, _, rfl, ea, T.ch, T.nRuns, hF_runs _ _, _, rfl, L.rl, _, _, _, rfl, rfl, SqL.of I.rl, atI_nat (rRefs_get hr'), ?_⟩
    obtain ⟨dr, er⟩ := I.ra r hr'
    refine ⟨_, rfl, L.ra r, C.r, dr, _, _, rfl, er, T.cr, T.nSta, rF_stands _ _ _, rfl, _, rfl, ?_⟩
    have fin : ∀ s : Nat, (h.at_ r).stand = 0 ∨ (h.at_ r).stand = 1 → s = (if (h.at_ r).stand = 1 then 2 else 7) → ∀ D : Ends, D.rt = Q →
        tRet (tOp rCat (tLst (tCons (tFld K (tVar 2) "stands") tNil)) (tCall (spTold C K) [] E0 (tCons (tMeth C.h "begin_to_run" (spBeg C) [] E0 (tVar 0) tNil) tNil))) D [some (.ref a), some (.int r), some (.ref (L.ra r))] (upd H (L.ra r) (.ins C.r dr (rF r (L.ba r) s))) := by
      intro s hs es D hD
      obtain ⟨J, kp⟩ := I.mark (s := s) hr' ⟨_, er⟩
      have e : Rp05.step h (.cancel r) = ((h.change (fun k => k == r) s).wake, ⟨(s : Nat), Rp05.told ((h.change (fun k => k == r) s).those (h.change (fun k => k == r) s).begins)⟩) := by
        rw [e0, if_neg (by omega), if_neg (by omega), es]
      refine tail_ok T (r := r) J (by rw [change_len]; exact hr') (by rw [change_len]; exact kp) rfl rfl fun H' p J' kp' np hp => ?_
      rw [change_len] at kp'
      rw [change_stand hr', if_pos (beq_self_eq_true r)] at hp
      rw [hD]
      refine k H' L p ?_ (kp_fp kp') ?_ np ?_
      · rw [e]
        exact J'
      · rw [e]
        show ∀ b, FP a L (Rp05.House.change _ _ _).runs.length b → _
        rw [change_len, change_len]
        exact fun b z => .inr z
      · rw [e]
        exact hp
    rw [show decide (V.int ((h.at_ r).stand : Int) = V.int 2) = ((h.at_ r).stand == 2) from stand_int _ 2]
    by_cases c2 : (h.at_ r).stand = 2
    · refine if_true_of (by simp [c2]) ?_
      exact ⟨(by show 1 ≤ sizeLine; decide), fun p np => k.no I ((e0 _).mpr (if_pos c2)) (Same.refl _) np⟩
    refine if_false_of (by simp [c2]) ?_
    refine ⟨_, rfl, L.ra r, dr, L.ba r, _, _, rfl, er, _, rfl, ?_⟩
    rw [lives_int]
    by_cases c3 : 2 < (h.at_ r).stand
    · refine if_true_of (by unfold Rp05.Run.lives; rw [Bool.not_eq_true', decide_eq_false_iff_not]; omega) ?_
      refine ⟨(by show 1 ≤ sizeLine; decide), fun p np => k.no I ((e0 _).mpr ?_) (Same.refl _) np⟩
      rw [if_neg c2, if_pos c3]
    refine if_false_of (by unfold Rp05.Run.lives; rw [Bool.not_eq_false', decide_eq_true_iff]; omega) ?_
    refine ⟨_, rfl, L.ra r, C.r, dr, _, _, rfl, er, T.cr, T.nSta, rF_stands _ _ _, rfl, _, rfl, ?_⟩
    rw [show decide (V.int ((h.at_ r).stand : Int) = V.int 0) = ((h.at_ r).stand == 0) from stand_int _ 0]
    by_cases c0 : (h.at_ r).stand = 0
    · refine if_true_of (by simp [c0]) ?_
      refine ⟨_, rfl, L.ra r, C.r, dr, _, rfl, er, T.cr, T.nSta, (by show 3 < 1000; decide), ?_⟩
      exact fin 7 (.inl c0) (by rw [if_neg (by omega)]) _ rfl
    · refine if_false_of (by simp [c0]) ?_
      refine ⟨_, rfl, L.ra r, C.r, dr, _, rfl, er, T.cr, T.nSta, (by show 3 < 1000; decide), ?_⟩
      exact fin 2 (.inr (by omega)) (by rw [if_pos (by omega)]) _ rfl
theorem scStandAll : FnScope ["self", "run"] ["self"] (defScope sStandAll) := ⟨rfl, rfl, rfl, by decide +kernel, rfl, by decide +kernel, by decide +kernel⟩
theorem ok_standAll {f : Addr} {fd : FuncData} (F : Fun K "stand" "House.stand" sStandAll f fd) (T : Txt K mg C) : FnOk P w K mg base CX0 1 f fd ["self"] (spStandAll C) := by
  refine F.ok scStandAll (fun vs H Q E h => ?_) (fun cdv A outer s H vs Q E hr h => ?_)
  · obtain ⟨a, L, h, rfl, _⟩ := h
    rfl
  · obtain ⟨a, L, h, rfl, I, k⟩ := h
    refine ⟨_, pss_one (ps_ret (pe_op op_cat (pe_lst (pa_cons (pe_callB call_len_seq (by rfl) T.bLen PySem.boot_len (pa_cons (pe_fld (pv 0) rfl) pa_nil)) pa_nil))
      (pe_lc (own := [("run", 1)]) (g := gName 1) (tt := tYes) (te := tFld K (tVar 1) "stands") rfl scStandAll.nd (pi_list (pe_fld (pv 0) rfl)) (blkOk_by (own := [("run", 1)]) (N := ["self", "run"]) (sc := defScope sStandAll) (by decide +kernel)) (fun _ _ _ _ _ => pg_name (i := 1) scStandAll.nd rfl (Or.inl rfl)) (fun _ _ _ _ _ => pts_nil) (fun _ _ _ _ _ => pe_fld (pv 1) rfl)))), ?_⟩
    obtain ⟨da, ea⟩ := I.ho
    refine ⟨_, rfl, a, C.h, da, _, _, rfl, ea, T.ch, T.nRuns, hF_runs _ _, L.rl, _, rfl, .inl (SqL.of I.rl), (by show 1 ≤ sizeLine; decide), fun p1 n1 => ?_⟩
    rw [rRefs_len, List.length_range]
    have s1 : Same H (upd H p1 (.lst [V.int (h.runs.length : Int)])) := Same.new n1
    have I1 := I.same s1
    obtain ⟨da1, ea1⟩ := I1.ho
    refine ⟨_, rfl, a, C.h, da1, _, _, rfl, ea1, T.ch, T.nRuns, hF_runs _ _, L.rl, rfl, ⟨_, SqL.of I1.rl⟩, fun D nD => ?_⟩
    refine lc_fm (K := K) (List.range h.runs.length) (fun q => V.ref (L.ra q)) (fun _ => true) (fun q => V.int ((h.at_ q).stand : Int)) (SqL.of I1.rl) nD (Nat.lt_of_le_of_lt (by rw [List.length_range]; exact I.nr) (by decide)) (fun _ => rfl) (fun q hq H3 Q3 s3 k3 => k3 H3 (Same.refl _)) (fun q hq _ H3 Q3 s3 k3 => ?_) (fun H3 s3 hD => ?_)
    · obtain ⟨dq, eq⟩ := (I1.same s3).ra q (List.mem_range.mp hq)
      exact ⟨_, rfl, L.ra q, C.r, dq, _, _, rfl, eq, T.cr, T.nSta, rF_stands _ _ _, k3 H3 (Same.refl _)⟩
    · rw [filter_yes] at hD
      refine ⟨p1, D, _, _, rfl, rfl, s3 _ _ upd_same, hD, ?_, fun p np => ?_⟩
      · rw [List.length_map, List.length_range]
        show 1 + h.runs.length ≤ sizeLine
        exact Nat.le_trans (Nat.add_le_add_left I.nr 1) (by decide)
      · refine k.same I rfl ((s1.trans s3).trans (Same.new np)) ((s1.trans s3).free np) ?_
        rw [upd_same, outV_mk, stands_at]
        unfold nums
        rw [List.map_map]
        rfl
theorem scWhy : FnScope ["self", "number", "run", "holding", "told", "group_number"] ["self", "number"] (defScope sWhy) := ⟨rfl, rfl, rfl, by decide +kernel, rfl, by decide +kernel, by decide +kernel⟩
theorem ok_why {f : Addr} {fd : FuncData} (F : Fun K "why" "House.why" sWhy f fd) (T : Txt K mg C) (mH : Mth P w K mg base C.h "groups_holding_back" 4 ["self", "run"] (spHold C)) (mO : Mth P w K mg base C.h "older_here" 3 ["self", "run", "group_number"] (spOlder C)) (dT : Dfn P w K mg base "runs_told" 1 ["runs"] (spTold C K)) :
    FnOk P w K mg base CX0 5 f fd ["self", "number"] (spWhy C) := by
  obtain ⟨fH, fdH, mH, GH, bH⟩ := mH
  obtain ⟨fO, fdO, mO, GO, bO⟩ := mO
  obtain ⟨fT, fdT, mgT, kpT, GT, bT⟩ := dT
  refine F.ok scWhy (fun vs H Q E h => ?_) (fun cdv A outer s H vs Q E hr h => ?_)
  · obtain ⟨a, L, h, r, rfl, _⟩ := h
    rfl
  · obtain ⟨a, L, h, r, rfl, I, k⟩ := h
    have hr1 : Room 1 _ := hr.mono (by decide)
    have hr3 : Room 3 _ := hr.mono (by decide)
    refine ⟨_, pss_cons (ps_if (pt_cmpR op_ge (pv 1) (pe_callB call_len_seq (by rfl) T.bLen PySem.boot_len (pa_cons (pe_fld (pv 0) rfl) pa_nil)) (nomark _)) (pss_one (ps_ret (pe_lst (pa_cons (pe_cn rfl T.kNot) pa_nil)))) pss_nil)
      (pss_cons (ps_set (i := 2) scWhy.nd rfl (Or.inl rfl) (pe_ix ix_list (pe_fld (pv 0) rfl) (pv 1) (fun _ _ => rfl)))
      (pss_cons (ps_if (pt_cmpR op_ne (pe_fld (pv 2) rfl) (pe_cn rfl T.kWaits) (nomark _)) (pss_one (ps_ret (pe_lst (pa_cons (pe_cn rfl T.kWrongS) pa_nil)))) pss_nil)
      (pss_cons (ps_set (i := 3) scWhy.nd rfl (Or.inl rfl) (pe_meth (pv 0) T.ch mH GH hr bH .nil pass0 (pa_cons (pv 2) pa_nil)))
      (pss_cons (ps_set (i := 4) scWhy.nd rfl (Or.inl rfl) (pe_lst (pa_cons (pe_callB call_len_seq (by rfl) T.bLen PySem.boot_len (pa_cons (pv 3) pa_nil)) pa_nil)))
      (pss_cons (ps_for PassesOwn.never rfl (pi_list (pv 3)) (pg_name (i := 5) scWhy.nd rfl (Or.inl rfl))
        (pss_cons (ps_expr (pe_bm PySem.F.plainAttrs_list PySem.F.slot_list_append PySem.F.type_list_append mt_append (pv 4) (pa_cons (pv 5) pa_nil)))
        (pss_one (ps_expr (pe_bm PySem.F.plainAttrs_list PySem.F.slot_list_extend PySem.F.type_list_extend mt_extend (pv 4) (pa_cons (pe_call GT hr1 rfl mgT kpT bT .nil pass0 (pa_cons (pe_meth (pv 0) T.ch mO GO hr3 bO .nil pass0 (pa_cons (pv 2) (pa_cons (pv 5) pa_nil))) pa_nil)) pa_nil))))))
      (pss_one (ps_ret (pv 4)))))))), ?_⟩
    obtain ⟨da, ea⟩ := I.ho
    refine ⟨_, rfl, _, rfl, a, C.h, da, _, _, rfl, ea, T.ch, T.nRuns, hF_runs _ _, L.rl, _, rfl, .inl (SqL.of I.rl), _, _, rfl, rfl, _, rfl, ?_⟩
    rw [rRefs_len, List.length_range]
    by_cases hn : h.runs.length ≤ r
    · refine if_true_of (decide_eq_true (by omega)) ?_
      exact ⟨(by show 1 ≤ sizeLine; decide), fun p np => k.no I (if_pos hn) (Same.refl _) np⟩
    refine if_false_of (decide_eq_false (by omega)) ?_
    have hr' : r < h.runs.length := by omega
    have r50 : r ≤ 50 := Nat.le_trans (Nat.le_of_lt hr') I.nr
    refine ⟨_, rfl, a, C.h, da, _, _, rfl, ea, T.ch, T.nRuns, hF_runs _ _, _, rfl, L.rl, _, _, _, rfl, rfl, SqL.of I.rl, atI_nat (rRefs_get hr'), ?_⟩
    obtain ⟨dr, er⟩ := I.ra r hr'
    refine ⟨_, rfl, L.ra r, C.r, dr, _, _, rfl, er, T.cr, T.nSta, rF_stands _ _ _, rfl, _, rfl, ?_⟩
    rw [show decide (V.int ((h.at_ r).stand : Int) = V.int 0) = ((h.at_ r).stand == 0) from stand_int _ 0]
    by_cases c0 : (h.at_ r).stand ≠ 0
    · refine if_true_of (by simp [c0]) ?_
      refine ⟨(by show 1 ≤ sizeLine; decide), fun p np => k.no I ?_ (Same.refl _) np⟩
      show (if h.runs.length ≤ r then _ else if (h.at_ r).stand ≠ 0 then _ else _) = _
      rw [if_neg hn, if_pos c0]
    have c0' : (h.at_ r).stand = 0 := by omega
    refine if_false_of (by simp [c0']) ?_
    have es : Rp05.step h (.why r) = (h, ⟨((h.holding r).length : Nat), whyL h r (h.holding r)⟩) := by
      show (if h.runs.length ≤ r then _ else if (h.at_ r).stand ≠ 0 then _ else _) = _
      rw [if_neg hn, if_neg c0]
      rfl
    have h8 : (h.holding r).length ≤ 8 := Nat.le_trans (holding_len h r) I.ng.2
    -- holding = self.groups_holding_back(run)
    refine ⟨_, rfl, a, da, _, rfl, ea, rfl, _, rfl, a, L, h, r, rfl, I, hr', fun H1 D s1 nD hD => ?_⟩
    -- told = [len(holding)]
    refine ⟨_, rfl, D, _, rfl, .inl (SqL.of hD), (by show 1 ≤ sizeLine; decide), fun t nt => ?_⟩
    rw [nums_len]
    have s2 : Same H (upd H1 t (.lst [V.int ((h.holding r).length : Int)])) := s1.trans (Same.new nt)
    have ntH : H t = none := s1.free nt
    have nDt : D ≠ t := ne_of_none hD nt
    have hD2 : (upd H1 t (.lst [V.int ((h.holding r).length : Int)])) D = some (.lst (nums (h.holding r))) := by
      rw [upd_ne nDt]
      exact hD
    refine ⟨_, rfl, D, rfl, ⟨_, SqL.of hD2⟩, for_list (K := K) (a := D) (xs := nums (h.holding r)) (fun i σ H' => ∃ v, σ = [some (.ref a), some (.int r), some (.ref (L.ra r)), some (.ref D), some (.ref t), v] ∧ Same H H' ∧ H' D = some (.lst (nums (h.holding r))) ∧
        H' t = some (.lst (nums ((h.holding r).length :: whyL h r ((h.holding r).take i)))))
      ⟨none, rfl, s2, hD2, upd_same⟩ (fun i σ H' _ ⟨_, _, _, e, _⟩ => SqL.of e) ?_ ?_⟩
    · rintro i y σ H' hi ⟨v, rfl, sm, eD, eT⟩
      obtain ⟨g, hg, rfl⟩ := map_get hi
      have hgl := holding_lt (List.mem_of_getElem? hg)
      have wl := whyL_len (h := h) r50 ((h.holding r).take i)
      have wl8 : ((h.holding r).take i).length ≤ 8 := by
        rw [List.length_take]
        omega
      have ol := older_len h r g
      refine ⟨_, rfl, .inl ⟨rfl, _, SqL.of eT⟩, _, rfl, t, _, _, rfl, rfl, eT, ?_, ?_⟩
      · rw [nums_len, List.length_cons]
        exact Nat.lt_of_le_of_lt (show _ ≤ 500 by omega) (by decide)
      have s3 : Same H (upd H' t (.lst (nums ((h.holding r).length :: whyL h r ((h.holding r).take i)) ++ [V.int (g : Int)]))) := fun b o e => by
        rw [upd_ne (ne_of_none e ntH)]
        exact sm _ _ e
      have I3 := I.same s3
      obtain ⟨d3, e3⟩ := I3.ho
      refine ⟨_, rfl, .inl ⟨rfl, _, SqL.of upd_same⟩, _, rfl, a, d3, _, rfl, e3, rfl, _, rfl, _, rfl, a, L, h, r, g, rfl, I3, hr', hgl, fun H4 p4 s4 n4 e4 => ?_⟩
      refine ⟨p4, h.older r g, L.ra, rfl, SqL.of e4, Nat.le_trans (Nat.le_trans ol r50) (by decide), fun q hq => ?_, fun H5 p5 s5 n5 e5 => ?_⟩
      · have hq1 : q < r := List.mem_range.mp (List.mem_filter.mp hq).1
        obtain ⟨dq, eq⟩ := (I3.same s4).ra q (Nat.lt_trans hq1 hr')
        exact ⟨dq, _, _, eq⟩
      · refine ⟨t, p5, _, _, rfl, rfl, s5 _ _ (s4 _ _ upd_same), e5, ?_, ?_⟩
        · rw [List.length_append, nums_len, nums_len, List.length_cons, List.length_cons]
          exact Nat.le_trans (show _ + 1 + [V.int (g : Int)].length + (_ + 1) ≤ 600 by rw [List.length_singleton]; omega) (by decide)
        · refine ⟨_, rfl, fun b o e => ?_, ?_, ?_⟩
          · rw [upd_ne (ne_of_none e ntH)]
            exact s5 _ _ (s4 _ _ (s3 _ _ e))
          · rw [upd_ne nDt]
            refine s5 _ _ (s4 _ _ ?_)
            rw [upd_ne nDt]
            exact eD
          · rw [upd_same, take_snoc hg, whyL_snoc, show ([V.int (g : Int)] : List V) = nums [g] from rfl, nums_app, nums_app]
            simp only [List.append_assoc, List.cons_append, List.nil_append]
            rfl
    · rintro σ H' ⟨v, rfl, sm, eD, eT⟩
      refine ⟨_, rfl, ?_⟩
      rw [nums_len, List.take_length] at eT
      refine k.same I es sm ntH ?_
      rw [eT, outV_mk]
      rfl
theorem scMembers : FnScope ["self", "group_number", "here", "told", "run"] ["self", "group_number"] (defScope sMembers) := ⟨rfl, rfl, rfl, by decide +kernel, rfl, by decide +kernel, by decide +kernel⟩
theorem ok_members {f : Addr} {fd : FuncData} (F : Fun K "members" "House.members" sMembers f fd) (T : Txt K mg C) (dG : Dfn P w K mg base "here_of_group" 2 ["runs", "group_number"] (spHog C)) :
    FnOk P w K mg base CX0 3 f fd ["self", "group_number"] (spMembers C) := by
  obtain ⟨fG, fdG, mgG, kpG, GG, bG⟩ := dG
  refine F.ok scMembers (fun vs H Q E h => ?_) (fun cdv A outer s H vs Q E hr h => ?_)
  · obtain ⟨a, L, h, g, rfl, _⟩ := h
    rfl
  · obtain ⟨a, L, h, g, rfl, I, k⟩ := h
    refine ⟨_, pss_cons (ps_if (pt_cmpR op_ge (pv 1) (pe_callB call_len_seq (by rfl) T.bLen PySem.boot_len (pa_cons (pe_fld (pv 0) rfl) pa_nil)) (nomark _)) (pss_one (ps_ret (pe_lst (pa_cons (pe_cn rfl T.kNot) pa_nil)))) pss_nil)
      (pss_cons (ps_set (i := 2) scMembers.nd rfl (Or.inl rfl) (pe_call GG hr rfl mgG kpG bG .nil pass0 (pa_cons (pe_fld (pv 0) rfl) (pa_cons (pv 1) pa_nil))))
      (pss_cons (ps_set (i := 3) scMembers.nd rfl (Or.inl rfl) (pe_lst (pa_cons (pe_callB call_len_seq (by rfl) T.bLen PySem.boot_len (pa_cons (pv 2) pa_nil)) pa_nil)))
      (pss_cons (ps_for PassesOwn.never rfl (pi_list (pv 2)) (pg_name (i := 4) scMembers.nd rfl (Or.inl rfl))
        (pss_one (ps_expr (pe_bm PySem.F.plainAttrs_list PySem.F.slot_list_extend PySem.F.type_list_extend mt_extend (pv 3) (pa_cons (pe_lst (pa_cons (pe_fld (pv 4) rfl) (pa_cons (pe_fld (pv 4) rfl) pa_nil))) pa_nil)))))
      (pss_one (ps_ret (pv 3)))))), ?_⟩
    obtain ⟨da, ea⟩ := I.ho
    refine ⟨_, rfl, _, rfl, a, C.h, da, _, _, rfl, ea, T.ch, T.nGrs, hF_groups _ _, L.gl, _, rfl, .inl (SqL.of I.gl), _, _, rfl, rfl, _, rfl, ?_⟩
    rw [gRefs_len]
    by_cases hn : h.groups.length ≤ g
    · refine if_true_of (decide_eq_true (by omega)) ?_
      exact ⟨(by show 1 ≤ sizeLine; decide), fun p np => k.no I (if_pos hn) (Same.refl _) np⟩
    refine if_false_of (decide_eq_false (by omega)) ?_
    generalize hl : (h.those fun r => (h.at_ r).lives && (h.at_ r).in_ g) = l
    have es : Rp05.step h (.members g) = (h, ⟨(l.length : Nat), memL h l⟩) := by
      rw [← hl]
      show (if h.groups.length ≤ g then _ else _) = _
      rw [if_neg hn]
      rfl
    have ll : l.length ≤ 50 := by
      rw [← hl]
      exact Nat.le_trans (those_len _ _) I.nr
    have lt : ∀ q, q ∈ l → q < h.runs.length := fun q hq => by
      rw [← hl] at hq
      exact (mem_those.mp hq).1
    -- here = here_of_group(self.runs, group_number)
    refine ⟨_, rfl, a, C.h, da, _, _, rfl, ea, T.ch, T.nRuns, hF_runs _ _, _, rfl, a, L.rl, L, h, List.range h.runs.length, g, rfl, I, I.rl, (by rw [List.length_range]; exact I.nr), fun q hq => List.mem_range.mp hq, by omega, fun H1 D s1 nD hD => ?_⟩
    have hD : H1 D = some (.lst (rRefs L l)) := by
      rw [← hl]
      exact hD
    -- told = [len(here)]
    refine ⟨_, rfl, D, _, rfl, .inl (SqL.of hD), (by show 1 ≤ sizeLine; decide), fun t nt => ?_⟩
    rw [rRefs_len]
    have s2 : Same H (upd H1 t (.lst [V.int (l.length : Int)])) := s1.trans (Same.new nt)
    have ntH : H t = none := s1.free nt
    have nDt : D ≠ t := ne_of_none hD nt
    have hD2 : (upd H1 t (.lst [V.int (l.length : Int)])) D = some (.lst (rRefs L l)) := by
      rw [upd_ne nDt]
      exact hD
    refine ⟨_, rfl, D, rfl, ⟨_, SqL.of hD2⟩, for_list (K := K) (a := D) (xs := rRefs L l) (fun i σ H' => ∃ v, σ = [some (.ref a), some (.int g), some (.ref D), some (.ref t), v] ∧ Same H H' ∧ H' D = some (.lst (rRefs L l)) ∧ H' t = some (.lst (nums (l.length :: memL h (l.take i)))))
      ⟨none, rfl, s2, hD2, upd_same⟩ (fun i σ H' _ ⟨_, _, _, e, _⟩ => SqL.of e) ?_ ?_⟩
    · rintro i y σ H' hi ⟨v, rfl, sm, eD, eT⟩
      obtain ⟨q, hq, rfl⟩ := map_get hi
      have hqn := lt q (List.mem_of_getElem? hq)
      have ml := memL_len h (l.take i)
      have ml8 : (l.take i).length ≤ 50 := by
        rw [List.length_take]
        omega
      obtain ⟨dq, eq⟩ := (I.same sm).ra q hqn
      refine ⟨_, rfl, .inl ⟨rfl, _, SqL.of eT⟩, _, rfl, L.ra q, C.r, dq, _, _, rfl, eq, T.cr, T.nNum, rF_number _ _ _, _, rfl, L.ra q, C.r, dq, _, _, rfl, eq, T.cr, T.nSta, rF_stands _ _ _, (by show 2 ≤ sizeLine; decide), fun p np => ?_⟩
      have npt : t ≠ p := ne_of_none eT np
      refine ⟨t, p, _, _, rfl, rfl, (by rw [upd_ne npt]; exact eT), upd_same, ?_, ?_⟩
      · rw [nums_len, List.length_cons]
        show (memL h (l.take i)).length + 1 + 2 ≤ sizeLine
        exact Nat.le_trans (show _ ≤ 200 by omega) (by decide)
      · refine ⟨_, rfl, fun b o e => ?_, ?_, ?_⟩
        · rw [upd_ne (ne_of_none e ntH), upd_ne (ne_of_none (sm _ _ e) np)]
          exact sm _ _ e
        · rw [upd_ne nDt, upd_ne (ne_of_none eD np)]
          exact eD
        · rw [upd_same, take_snoc hq, memL_snoc, show ([V.int (q : Int), V.int ((h.at_ q).stand : Int)] : List V) = nums [q, (h.at_ q).stand] from rfl, nums_app]
          rfl
    · rintro σ H' ⟨v, rfl, sm, eD, eT⟩
      refine ⟨_, rfl, ?_⟩
      rw [rRefs_len, List.take_length] at eT
      refine k.same I es sm ntH ?_
      rw [eT, outV_mk]
      rfl
end
end Gq
namespace Gq
open PySem PySem.Spec PyProof.Rows L2
open PySem.W (Codec)
open Rp05 (House)
/-! ### 9. One call of the list, and the list -/
def spAnswer (C : Cl) : Sp := fun vs H Q _ => ∃ (a nl : Addr) (L : Loc) (h : House) (p : Int) (args : List Int) (c : Rp05.Call), vs = [.ref a, .int p, .ref nl] ∧ At C H a L h ∧ H nl = some (.lst (args.map V.int)) ∧ (∀ x, x ∈ args → 0 ≤ x) ∧ Rp05Neutral.callOf [p :: args] = some c ∧ After C a H L h c Q
def spAns (K : PySem.W.Frag) : Sp := fun vs H Q _ => ∃ (a : Addr) (ns : List Int), vs = [.ref a] ∧ SqL K H a (ns.map V.int) ∧ PyRp05.answers_asked ns = true ∧ ns.length ≤ 320 ∧ (∀ x, x ∈ ns → 0 ≤ x) ∧
  ∀ (H' : Hp) (p : Addr), H' p = some (.lst ((PyRp05.answers ns).map V.int)) → Q (.ref p) H'
/-- a list that is none of the house's own may change -/
theorem At.beside {C : Cl} {H : Hp} {a p : Addr} {L : Loc} {h : House} {xs ys : List V} (I : At C H a L h) (e : H p = some (.lst xs)) (n : ¬ FP a L h.runs.length p) : At C (upd H p (.lst ys)) a L h := by
  refine ⟨?_, ?_, fun q hq => ?_, ?_, fun q hq => ?_, fun q hq => ?_, I.inj, I.ng, I.nr, I.gr, I.br⟩
  · obtain ⟨d, z⟩ := I.ho
    exact ⟨d, by rw [upd_ne fun z => n (.inl z.symm)]; exact z⟩
  · rw [upd_ne fun z => n (.inr (.inl z.symm))]
    exact I.gl
  · obtain ⟨d, z⟩ := I.ga q hq
    exact ⟨d, by rw [upd_ne (ne_of z e (by intro z; cases z))]; exact z⟩
  · rw [upd_ne fun z => n (.inr (.inr (.inl z.symm)))]
    exact I.rl
  · obtain ⟨d, z⟩ := I.ra q hq
    exact ⟨d, by rw [upd_ne fun z => n (.inr (.inr (.inr ⟨q, hq, .inl z.symm⟩)))]; exact z⟩
  · rw [upd_ne fun z => n (.inr (.inr (.inr ⟨q, hq, .inr z.symm⟩)))]
    exact I.ba q hq
theorem cut_mid {ns : List Int} {i n : Nat} (h : i + 1 + n ≤ ns.length) : cutV (ns.map V.int) (some ((i : Int) + 1)) (some ((i : Int) + 1 + (n : Int))) = ((ns.drop (i + 1)).take n).map V.int := by
  have e1 : ((i : Int) + 1) = ((i + 1 : Nat) : Int) := by omega
  have e2 : ((i : Int) + 1 + (n : Int)) = ((i + 1 + n : Nat) : Int) := by omega
  rw [e2, e1]
  unfold cutV
  rw [HT.sIx_nat, HT.sIx_nat, List.length_map, Nat.min_eq_left (by omega), Nat.min_eq_left (by omega), ← List.map_drop, ← List.map_take, show i + 1 + n - (i + 1) = n by omega]
theorem outV_len (an : Rp05.Ans) : (outV an).length = (Rp05Neutral.out an).length := by
  unfold outV
  rw [List.length_map]
section
variable {P : Program} {w : World} {K : PySem.W.Frag} {mg : Str → Option Value} {base : Heap} {C : Cl}
theorem scAns : FnScope ["calls", "house", "given", "place", "call", "behind", "numbers"] ["calls"] (defScope sAnswers) := ⟨rfl, rfl, rfl, by decide +kernel, rfl, by decide +kernel, by decide +kernel⟩
theorem ok_ans {f tb : Addr} {fd : FuncData} (F : Fun K "answers" "answers" sAnswers f fd) (T : Txt K mg C) (mgB : mg "NUMBERS_BEHIND" = some (.ref tb)) (tB : ∀ H, SqT K H tb (nums behind)) (dA : Dfn P w K mg base "answer" 7 ["house", "call", "numbers"] (spAnswer C))
    (dH : Mak P w K mg base C.h 4 ["self"] (spHI C)) : FnOk P w K mg base CX0 8 f fd ["calls"] (spAns K) := by
  obtain ⟨fA, fdA, mgA, kpA, GA, bA⟩ := dA
  obtain ⟨fH, fdH, MH, GH, bH⟩ := dH
  refine F.ok scAns (fun vs H Q E h => ?_) (fun cdv A outer s H vs Q E hr h => ?_)
  · obtain ⟨a, ns, rfl, _⟩ := h
    rfl
  · obtain ⟨a, ns, rfl, hS, hask, hlen, hpos, k⟩ := h
    have hr5 : Room 5 _ := hr.mono (by decide)
    refine ⟨_, pss_cons (ps_set (i := 1) scAns.nd rfl (Or.inl rfl) (pe_make0 MH GH hr5 rfl T.mgH bH .nil pass0))
      (pss_cons (ps_set (i := 2) scAns.nd rfl (Or.inl rfl) (pe_lst pa_nil))
      (pss_cons (ps_set (i := 3) scAns.nd rfl (Or.inl rfl) pe_int)
      (pss_cons (ps_while PassesOwn.never (pt_cmpR op_lt (pv 3) (pe_callB call_len_seq (by rfl) T.bLen PySem.boot_len (pa_cons (pv 0) pa_nil)) (nomark _))
        (pss_cons (ps_set (i := 4) scAns.nd rfl (Or.inl rfl) (pe_ix ix_list (pv 0) (pv 3) (fun _ _ => rfl)))
        (pss_cons (ps_set (i := 5) scAns.nd rfl (Or.inl rfl) (pe_op op_add (pe_op op_add (pv 3) pe_int) (pe_ix ix_tup (pe_glob (v := V.ref tb) rfl mgB rfl) (pv 4) (fun _ _ => rfl))))
        (pss_cons (ps_set (i := 6) scAns.nd rfl (Or.inl rfl) (pe_call GA hr rfl mgA kpA bA .nil pass0 (pa_cons (pv 1) (pa_cons (pv 4) (pa_cons (pe_slice sl_list (pv 0) (po_some (pe_op op_add (pv 3) pe_int)) (po_some (pv 5))) pa_nil)))))
        (pss_cons (ps_expr (pe_bm PySem.F.plainAttrs_list PySem.F.slot_list_append PySem.F.type_list_append mt_append (pv 2) (pa_cons (pe_callB call_len_seq (by rfl) T.bLen PySem.boot_len (pa_cons (pv 6) pa_nil)) pa_nil)))
        (pss_cons (ps_expr (pe_bm PySem.F.plainAttrs_list PySem.F.slot_list_extend PySem.F.type_list_extend mt_extend (pv 2) (pa_cons (pv 6) pa_nil)))
        (pss_one (ps_set (i := 3) scAns.nd rfl (Or.inl rfl) (pv 5)))))))))
      (pss_one (ps_ret (pv 2)))))), ?_⟩
    intro ha dx na nd ne
    refine ⟨ha, dx, rfl, upd_same, fun H1 L1 I1 k1 f1 => ⟨rfl, ?_⟩⟩
    have s1 : Same H H1 := Same.made na nd k1
    refine ⟨Nat.zero_le _, fun gv ngv => ?_⟩
    have s2 : Same H (upd H1 gv (.lst [])) := s1.trans (Same.new ngv)
    have big : ∀ {n : Nat}, n ≤ (PyRp05.answers ns).length → n < sizeLine := fun h => Nat.lt_of_le_of_lt (Nat.le_trans h (asked_short hask)) (by decide)
    refine while_by (fun σ H' => ∃ (v4 v5 v6 : Option V) (i : Nat) (L : Loc) (h : House) (given : List Int), σ = [some (.ref a), some (.ref ha), some (.ref gv), some (.int i), v4, v5, v6] ∧ OnWay ns i h given ∧ i ≤ ns.length ∧ Same H H' ∧ At C H' ha L h ∧
        (∀ b, FP ha L h.runs.length b → H b = none) ∧ ¬ FP ha L h.runs.length gv ∧ H gv = none ∧ H' gv = some (.lst (given.map V.int)))
      (fun σ _ => match σ with | _ :: _ :: _ :: some (.int i) :: _ => ns.length - i.toNat | _ => 0) ?_ ?_ ?_
    · refine ⟨none, none, none, 0, L1, Rp05.init, [], rfl, way_start hask, Nat.zero_le _, s2, I1.same (Same.new ngv), fun b hb => ?_, fun z => ?_, s1.free ngv, upd_same⟩
      · rcases f1 b hb with e | e
        · rw [e]
          exact na
        · by_cases hbx : b = ha
          · rw [hbx]
            exact na
          · rw [upd_ne hbx] at e
            by_cases hbd : b = dx
            · rw [hbd, upd_same] at e
              cases e
            · rw [upd_ne hbd] at e
              exact e
      · rcases z with z | z | z | ⟨q, hq, _⟩
        · obtain ⟨d, e⟩ := I1.ho
          rw [← z, ngv] at e
          cases e
        · have e := I1.gl
          rw [← z, ngv] at e
          cases e
        · have e := I1.rl
          rw [← z, ngv] at e
          cases e
        · exact absurd hq (Nat.not_lt_zero _)
    · rintro σ H2 ⟨v4, v5, v6, i, L, h, given, rfl, W, hi, s3, I, fp, ngf, ng0, hgv⟩
      refine ⟨_, rfl, _, rfl, a, _, rfl, .inl (s3.seq hS), _, _, rfl, rfl, _, rfl, ?_⟩
      rw [List.length_map]
      by_cases hlt : i < ns.length
      · refine if_true_of (decide_eq_true (by omega)) ?_
        obtain ⟨p, j, n, args, c, hp, hj, hb, hl, hargs, hin, hc, W', hz⟩ := way_step W hlt
        refine ⟨_, rfl, _, rfl, a, _, _, _, rfl, rfl, s3.seq hS, atI_nat (v := V.int p) (by rw [List.getElem?_map, hp]; rfl), ?_⟩
        refine ⟨_, rfl, _, _, rfl, rfl, _, rfl, tb, _, _, _, rfl, rfl, tB _, at_of (j := j) (v := V.int (n : Int)) hj (by unfold nums; rw [List.getElem?_map, hb]; rfl), _, _, rfl, rfl, ?_⟩
        refine ⟨_, rfl, _, rfl, _, rfl, _, rfl, _, _, rfl, rfl, _, rfl, _, rfl, _, rfl, a, _, rfl, s3.seq hS, fun nl nnl => ?_⟩
        rw [cut_mid hin, ← hargs]
        have s4 : Same H2 (upd H2 nl (.lst (args.map V.int))) := Same.new nnl
        refine ⟨ha, nl, L, h, p, args, c, rfl, I.same s4, upd_same, fun x hx => hpos x ?_, hc, fun H5 L5 pl I5 k5 f5 npl hpl => ?_⟩
        · rw [hargs] at hx
          exact List.mem_of_mem_drop (List.mem_of_mem_take hx)
        · have s5 : Same H H5 := fun b o e => k5.keep b o (s4 _ _ (s3 _ _ e)) fun z => by
            rw [fp b z] at e
            cases e
          have hgv5 : H5 gv = some (.lst (given.map V.int)) := k5.keep _ _ (s4 _ _ hgv) ngf
          have ngf5 : ¬ FP ha L5 (Rp05.step h c).1.runs.length gv := fun z => by
            rcases f5 gv z with e | e
            · rw [s4 _ _ hgv] at e
              cases e
            · exact ngf e
          have npg : pl ≠ gv := fun z => by
            rw [z, s4 _ _ hgv] at npl
            cases npl
          have hz1 := big hz
          rw [List.length_append, List.length_append] at hz1
          refine ⟨_, rfl, .inl ⟨rfl, _, SqL.of hgv5⟩, _, rfl, pl, _, rfl, .inl (SqL.of hpl), gv, _, _, rfl, rfl, hgv5, ?_, ?_⟩
          · rw [List.length_map]
            omega
          refine ⟨_, rfl, .inl ⟨rfl, _, SqL.of upd_same⟩, _, rfl, gv, pl, _, _, rfl, rfl, upd_same, by rw [upd_ne npg]; exact hpl, ?_, ?_⟩
          · rw [outV_len, List.length_append, List.length_map]
            have : [V.int ((Rp05Neutral.out (Rp05.step h c).2).length : Int)].length = 1 := rfl
            have : [((Rp05Neutral.out (Rp05.step h c).2).length : Int)].length = 1 := rfl
            omega
          rw [upd_upd]
          refine ⟨_, rfl, ⟨some (.int p), some (.int ((i : Int) + 1 + (n : Int))), some (.ref pl), i + 1 + n, L5, (Rp05.step h c).1, _, ?_, W', hin, ?_, I5.beside hgv5 ngf5, ?_, ngf5, ng0, ?_⟩, ?_⟩
          · show [_, _, _, some (V.int ((i : Int) + 1 + (n : Int))), _, _, _] = _
            have e : ((i + 1 + n : Nat) : Int) = (i : Int) + 1 + (n : Int) := by omega
            rw [e]
          · intro b o e
            rw [upd_ne (fun z => by rw [z, ng0] at e; cases e)]
            exact s5 _ _ e
          · intro b hb
            rcases f5 b hb with e | e
            · exact s3.free (s4.free e)
            · exact fp b e
          · rw [upd_same, outV_len]
            unfold outV
            rw [List.map_append, List.map_append]
            rfl
          · show ns.length - ((i : Int) + 1 + (n : Int)).toNat < ns.length - ((i : Int)).toNat
            omega
      · refine if_false_of (decide_eq_false (by omega)) ?_
        refine ⟨_, rfl, k H2 gv ?_⟩
        rw [hgv, way_end W (by omega)]
    · rintro σ H' Q1 Q2 imp ⟨v, hv, v2, hv2, p, ys, e, hs, i, j, e1, e2, b, e3, q⟩
      exact ⟨v, hv, v2, hv2, p, ys, e, hs, i, j, e1, e2, b, e3, imp _ _ q⟩
end
end Gq
namespace Gq
open PySem PySem.Spec PyProof.Rows L2
open PySem.W (Codec)
open Rp05 (House)
theorem vals_ints : ∀ (l : List (Int × Nat)), L2.Vals (l.map fun x => V.int x.1) (l.map fun x => Value.int x.1 x.2)
  | [] => .nil
  | _ :: l => .cons ⟨_, rfl⟩ (vals_ints l)
theorem tup_of {K : PySem.W.Frag} {H : Hp} {tb : Addr} {od : Option Addr} {n : Nat} {sl : Array (Option Value)} {b0 b1 b2 b3 b4 b5 b6 b7 : Nat} (l : K.lookup tb = some ⟨.type "tuple", od, .seq #[.int 1 b0, .int 4 b1, .int 1 b2, .int 2 b3, .int 1 b4, .int 0 b5, .int 1 b6, .int 1 b7] n, sl⟩) : SqT K H tb (nums behind) :=
  .inr ⟨_, _, n, l, rfl, rfl, (by show 8 ≤ sizeLine; decide), vals_ints [(1, b0), (4, b1), (1, b2), (2, b3), (1, b4), (0, b5), (1, b6), (1, b7)]⟩
section
variable {P : Program} {w : World} {K : PySem.W.Frag} {mg : Str → Option Value} {base : Heap} {C : Cl}
theorem scAnswer : FnScope ["house", "call", "numbers"] ["house", "call", "numbers"] (defScope sAnswer) := ⟨rfl, rfl, rfl, by decide +kernel, rfl, by decide +kernel, by decide +kernel⟩
theorem ok_answer {f : Addr} {fd : FuncData} (F : Fun K "answer" "answer" sAnswer f fd) (T : Txt K mg C) (c0 : ∃ t, mg "BEGINS" = some (.int 0 t)) (c1 : ∃ t, mg "GROUP" = some (.int 1 t)) (c2 : ∃ t, mg "SUBMIT" = some (.int 2 t)) (c3 : ∃ t, mg "ENDED" = some (.int 3 t)) (c4 : ∃ t, mg "CANCEL" = some (.int 4 t)) (c5 : ∃ t, mg "STAND" = some (.int 5 t)) (c6 : ∃ t, mg "WHY" = some (.int 6 t)) (m0 : Mth P w K mg base C.h "begins" 4 ["self", "how_many"] (spBegins C)) (m1 : Mth P w K mg base C.h "group" 3 ["self", "number", "most", "keep", "cuts"] (spGroup C)) (m2 : Mth P w K mg base C.h "submit" 6 ["self", "group_set"] (spSubmit C)) (m3 : Mth P w K mg base C.h "ended" 6 ["self", "number", "passed"] (spEnded C)) (m4 : Mth P w K mg base C.h "cancel" 6 ["self", "number"] (spCancel C)) (m5 : Mth P w K mg base C.h "stand" 1 ["self"] (spStandAll C)) (m6 : Mth P w K mg base C.h "why" 5 ["self", "number"] (spWhy C)) (m7 : Mth P w K mg base C.h "members" 3 ["self", "group_number"] (spMembers C)) :
    FnOk P w K mg base CX0 7 f fd ["house", "call", "numbers"] (spAnswer C) := by
  obtain ⟨f0, fd0, m0, G0, B0⟩ := m0
  obtain ⟨f1, fd1, m1, G1, B1⟩ := m1
  obtain ⟨f2, fd2, m2, G2, B2⟩ := m2
  obtain ⟨f3, fd3, m3, G3, B3⟩ := m3
  obtain ⟨f4, fd4, m4, G4, B4⟩ := m4
  obtain ⟨f5, fd5, m5, G5, B5⟩ := m5
  obtain ⟨f6, fd6, m6, G6, B6⟩ := m6
  obtain ⟨f7, fd7, m7, G7, B7⟩ := m7
  refine F.ok scAnswer (fun vs H Q E h => ?_) (fun cdv A outer s H vs Q E hr h => ?_)
  · obtain ⟨a, nl, L, h, p, args, c, rfl, _⟩ := h
    rfl
  · obtain ⟨a, nl, L, h, p, args, c, rfl, I, hnl, hpos, hc, k⟩ := h
    have hr1 : Room 1 _ := hr.mono (by decide)
    have hr3 : Room 3 _ := hr.mono (by decide)
    have hr4 : Room 4 _ := hr.mono (by decide)
    have hr5 : Room 5 _ := hr.mono (by decide)
    refine ⟨_, pss_cons (ps_if (pt_cmpR op_eq (pv 1) (pe_cn rfl c0) (nomark _)) (pss_one (ps_ret (pe_meth (pv 0) T.ch m0 G0 hr4 B0 .nil pass0 (pa_cons (pe_ix ix_list (pv 2) pe_int (fun _ _ => rfl)) pa_nil)))) pss_nil)
      (pss_cons (ps_if (pt_cmpR op_eq (pv 1) (pe_cn rfl c1) (nomark _)) (pss_one (ps_ret (pe_meth (pv 0) T.ch m1 G1 hr3 B1 .nil pass0 (pa_cons (pe_ix ix_list (pv 2) pe_int (fun _ _ => rfl)) (pa_cons (pe_ix ix_list (pv 2) pe_int (fun _ _ => rfl)) (pa_cons (pe_ix ix_list (pv 2) pe_int (fun _ _ => rfl)) (pa_cons (pe_ix ix_list (pv 2) pe_int (fun _ _ => rfl)) pa_nil))))))) pss_nil)
      (pss_cons (ps_if (pt_cmpR op_eq (pv 1) (pe_cn rfl c2) (nomark _)) (pss_one (ps_ret (pe_meth (pv 0) T.ch m2 G2 hr B2 .nil pass0 (pa_cons (pe_ix ix_list (pv 2) pe_int (fun _ _ => rfl)) pa_nil)))) pss_nil)
      (pss_cons (ps_if (pt_cmpR op_eq (pv 1) (pe_cn rfl c3) (nomark _)) (pss_one (ps_ret (pe_meth (pv 0) T.ch m3 G3 hr B3 .nil pass0 (pa_cons (pe_ix ix_list (pv 2) pe_int (fun _ _ => rfl)) (pa_cons (pe_ix ix_list (pv 2) pe_int (fun _ _ => rfl)) pa_nil))))) pss_nil)
      (pss_cons (ps_if (pt_cmpR op_eq (pv 1) (pe_cn rfl c4) (nomark _)) (pss_one (ps_ret (pe_meth (pv 0) T.ch m4 G4 hr B4 .nil pass0 (pa_cons (pe_ix ix_list (pv 2) pe_int (fun _ _ => rfl)) pa_nil)))) pss_nil)
      (pss_cons (ps_if (pt_cmpR op_eq (pv 1) (pe_cn rfl c5) (nomark _)) (pss_one (ps_ret (pe_meth0 (pv 0) T.ch m5 G5 hr1 B5 .nil pass0))) pss_nil)
      (pss_cons (ps_if (pt_cmpR op_eq (pv 1) (pe_cn rfl c6) (nomark _)) (pss_one (ps_ret (pe_meth (pv 0) T.ch m6 G6 hr5 B6 .nil pass0 (pa_cons (pe_ix ix_list (pv 2) pe_int (fun _ _ => rfl)) pa_nil)))) pss_nil)
      (pss_one (ps_ret (pe_meth (pv 0) T.ch m7 G7 hr3 B7 .nil pass0 (pa_cons (pe_ix ix_list (pv 2) pe_int (fun _ _ => rfl)) pa_nil)))))))))), ?_⟩
    obtain ⟨da, ea⟩ := I.ho
    refine ⟨_, rfl, rfl, _, rfl, ?_⟩
    rcases call_inv hc hpos with ⟨rfl, n, rfl, rfl⟩ | ⟨rfl, g, m, kk, t, rfl, rfl⟩ | ⟨rfl, m, rfl, rfl⟩ | ⟨rfl, r, q, rfl, rfl⟩ | ⟨rfl, r, rfl, rfl⟩ | ⟨rfl, rfl, rfl⟩ | ⟨rfl, r, rfl, rfl⟩ | ⟨rfl, g, rfl, rfl⟩
    · refine if_true_of rfl ?_
      exact ⟨_, rfl, a, da, _, rfl, ea, rfl, _, rfl, nl, _, _, _, rfl, rfl, SqL.of hnl, rfl, a, L, h, n, rfl, I, k⟩
    · refine if_false_of rfl ⟨_, rfl, rfl, _, rfl, if_true_of rfl ?_⟩
      exact ⟨_, rfl, a, da, _, rfl, ea, rfl, _, rfl, nl, _, _, _, rfl, rfl, SqL.of hnl, rfl, _, rfl, nl, _, _, _, rfl, rfl, SqL.of hnl, rfl, _, rfl, nl, _, _, _, rfl, rfl, SqL.of hnl, rfl, _, rfl, nl, _, _, _, rfl, rfl, SqL.of hnl, rfl, a, L, h, g, m, kk, t, rfl, I, k⟩
    · refine if_false_of rfl ⟨_, rfl, rfl, _, rfl, if_false_of rfl ⟨_, rfl, rfl, _, rfl, if_true_of rfl ?_⟩⟩
      exact ⟨_, rfl, a, da, _, rfl, ea, rfl, _, rfl, nl, _, _, _, rfl, rfl, SqL.of hnl, rfl, a, L, h, m, rfl, I, k⟩
    · refine if_false_of rfl ⟨_, rfl, rfl, _, rfl, if_false_of rfl ⟨_, rfl, rfl, _, rfl, if_false_of rfl ⟨_, rfl, rfl, _, rfl, if_true_of rfl ?_⟩⟩⟩
      exact ⟨_, rfl, a, da, _, rfl, ea, rfl, _, rfl, nl, _, _, _, rfl, rfl, SqL.of hnl, rfl, _, rfl, nl, _, _, _, rfl, rfl, SqL.of hnl, rfl, a, L, h, r, q, rfl, I, k⟩
    · refine if_false_of rfl ⟨_, rfl, rfl, _, rfl, if_false_of rfl ⟨_, rfl, rfl, _, rfl, if_false_of rfl ⟨_, rfl, rfl, _, rfl, if_false_of rfl ⟨_, rfl, rfl, _, rfl, if_true_of rfl ?_⟩⟩⟩⟩
      exact ⟨_, rfl, a, da, _, rfl, ea, rfl, _, rfl, nl, _, _, _, rfl, rfl, SqL.of hnl, rfl, a, L, h, r, rfl, I, k⟩
    · refine if_false_of rfl ⟨_, rfl, rfl, _, rfl, if_false_of rfl ⟨_, rfl, rfl, _, rfl, if_false_of rfl ⟨_, rfl, rfl, _, rfl, if_false_of rfl ⟨_, rfl, rfl, _, rfl, if_false_of rfl ⟨_, rfl, rfl, _, rfl, if_true_of rfl ?_⟩⟩⟩⟩⟩
      exact ⟨_, rfl, a, da, _, rfl, ea, rfl, a, L, h, rfl, I, k⟩
    · refine if_false_of rfl ⟨_, rfl, rfl, _, rfl, if_false_of rfl ⟨_, rfl, rfl, _, rfl, if_false_of rfl ⟨_, rfl, rfl, _, rfl, if_false_of rfl ⟨_, rfl, rfl, _, rfl, if_false_of rfl ⟨_, rfl, rfl, _, rfl, if_false_of rfl ⟨_, rfl, rfl, _, rfl, if_true_of rfl ?_⟩⟩⟩⟩⟩⟩
      exact ⟨_, rfl, a, da, _, rfl, ea, rfl, _, rfl, nl, _, _, _, rfl, rfl, SqL.of hnl, rfl, a, L, h, r, rfl, I, k⟩
    · refine if_false_of rfl ⟨_, rfl, rfl, _, rfl, if_false_of rfl ⟨_, rfl, rfl, _, rfl, if_false_of rfl ⟨_, rfl, rfl, _, rfl, if_false_of rfl ⟨_, rfl, rfl, _, rfl, if_false_of rfl ⟨_, rfl, rfl, _, rfl, if_false_of rfl ⟨_, rfl, rfl, _, rfl, if_false_of rfl ?_⟩⟩⟩⟩⟩⟩
      exact ⟨_, rfl, a, da, _, rfl, ea, rfl, _, rfl, nl, _, _, _, rfl, rfl, SqL.of hnl, rfl, a, L, h, g, rfl, I, k⟩
end
end Gq
namespace Gq
open PySem PySem.Spec PyProof.Rows L2
open PySem.W (Codec)
open Rp05 (House)
theorem all_mk {P : Program} {w : World} {K : PySem.W.Frag} {h : Heap} {mg : Str → Option Value} {CG CR CH fa tb f0 f1 f2 f3 f4 f5 f6 f7 f8 f9 f10 f11 f12 f13 f14 f15 f16 f17 f18 f19 f20 f21 f22 f23 f24 f25 f26 f27 f28 : Addr} (X : K.In h) (G : h.Ns mainGlobals mg) (hfa : mg "answers" = some (.ref fa))
    {od0 od1 od2 od3 od4 od5 od6 od7 od8 od9 od10 od11 od12 od13 od14 od15 od16 od17 od18 od19 od20 od21 od22 od23 od24 od25 od26 od27 od28 an0 an1 an2 an3 an4 an5 an6 an7 an8 an9 an10 an11 an12 an13 an14 an15 an16 an17 an18 an19 an20 an21 an22 an23 an24 an25 an26 an27 an28 odB : Option Addr} {sl0 sl1 sl2 sl3 sl4 sl5 sl6 sl7 sl8 sl9 sl10 sl11 sl12 sl13 sl14 sl15 sl16 sl17 sl18 sl19 sl20 sl21 sl22 sl23 sl24 sl25 sl26 sl27 sl28 slB : Array (Option Value)} {oc0 oc1 oc2 oc3 oc4 oc5 oc6 oc7 oc8 oc9 oc10 oc11 oc12 oc13 oc14 oc15 oc16 oc17 oc18 oc19 oc20 oc21 oc22 oc23 oc24 oc25 oc26 oc27 oc28 kV0 kV1 kV2 kV3 kV4 kV5 kV6 kV7 kV8 kV9 kV10 kV11 kV12 kV13 kV14 kV15 kV16 kV17 kV18 kV19 kV20 kV21 kV22 kV23 kV24 kV25 kV26 kV27 kV28 dc0 dc1 dc2 dc3 dc4 dc5 dc6 dc7 dc8 dc9 dc10 dc11 dc12 dc13 dc14 dc15 dc16 dc17 dc18 dc19 dc20 dc21 dc22 dc23 dc24 dc25 dc26 dc27 dc28 pm0 pm1 pm2 pm3 pm4 pm5 pm6 pm7 pm8 pm9 pm10 pm11 pm12 pm13 pm14 pm15 pm16 pm17 pm18 pm19 pm20 pm21 pm22 pm23 pm24 pm25 pm26 pm27 pm28 cd0 cd1 cd2 cd3 cd4 cd5 cd6 cd7 cd8 cd9 cd10 cd11 cd12 cd13 cd14 cd15 cd16 cd17 cd18 cd19 cd20 cd21 cd22 cd23 cd24 cd25 cd26 cd27 cd28 ct0 ct1 ct2 ct3 ct4 ct5 ct6 ct7 ct8 ct9 ct10 ct11 ct12 ct13 ct14 ct15 ct16 ct17 ct18 ct19 ct20 ct21 ct22 ct23 ct24 ct25 ct26 ct27 ct28 : Value} {t0 t1 t2 t3 t4 t5 t6 t7 t8 t9 t10 t11 t12 t13 t14 t15 t16 t17 t18 s0 s1 s2 s3 s4 s5 s6 b0 b1 b2 b3 b4 b5 b6 b7 : Nat} {nB : Nat}
    (aCg : PySem.W.nsIn K mainGlobals "Group" = some (some (.ref CG)))
    (aCr : PySem.W.nsIn K mainGlobals "Run" = some (some (.ref CR)))
    (aCh : PySem.W.nsIn K mainGlobals "House" = some (some (.ref CH)))
    (a0 : PySem.W.findIn K (.ref CG) "__init__" = some (some (.ref f0)))
    (i0 : PySem.W.isFn K (.ref f0) = true)
    (l0 : K.lookup f0 = some ⟨oc0, od0, .func (PySem.W.fnOf "__init__" "Group.__init__" (defArgs sGI) (defBody sGI) (defScope sGI) .none kV0 dc0 pm0 an0 cd0 ct0), sl0⟩)
    (c0 : PySem.W.codeIn K cd0 "Group.__init__" = true)
    (k0 : PySem.W.keepIn K (.ref f0) = true)
    (a1 : PySem.W.findIn K (.ref CR) "__init__" = some (some (.ref f1)))
    (i1 : PySem.W.isFn K (.ref f1) = true)
    (l1 : K.lookup f1 = some ⟨oc1, od1, .func (PySem.W.fnOf "__init__" "Run.__init__" (defArgs sRI) (defBody sRI) (defScope sRI) .none kV1 dc1 pm1 an1 cd1 ct1), sl1⟩)
    (c1 : PySem.W.codeIn K cd1 "Run.__init__" = true)
    (k1 : PySem.W.keepIn K (.ref f1) = true)
    (a2 : PySem.W.nsIn K mainGlobals "plain_groups" = some (some (.ref f2)))
    (l2 : K.lookup f2 = some ⟨oc2, od2, .func (PySem.W.fnOf "plain_groups" "plain_groups" (defArgs sPlain) (defBody sPlain) (defScope sPlain) .none kV2 dc2 pm2 an2 cd2 ct2), sl2⟩)
    (c2 : PySem.W.codeIn K cd2 "plain_groups" = true)
    (k2 : PySem.W.keepIn K (.ref f2) = true)
    (a3 : PySem.W.nsIn K mainGlobals "groups_in_set" = some (some (.ref f3)))
    (l3 : K.lookup f3 = some ⟨oc3, od3, .func (PySem.W.fnOf "groups_in_set" "groups_in_set" (defArgs sGis) (defBody sGis) (defScope sGis) .none kV3 dc3 pm3 an3 cd3 ct3), sl3⟩)
    (c3 : PySem.W.codeIn K cd3 "groups_in_set" = true)
    (k3 : PySem.W.keepIn K (.ref f3) = true)
    (a4 : PySem.W.nsIn K mainGlobals "in_range" = some (some (.ref f4)))
    (l4 : K.lookup f4 = some ⟨oc4, od4, .func (PySem.W.fnOf "in_range" "in_range" (defArgs sInR) (defBody sInR) (defScope sInR) .none kV4 dc4 pm4 an4 cd4 ct4), sl4⟩)
    (c4 : PySem.W.codeIn K cd4 "in_range" = true)
    (k4 : PySem.W.keepIn K (.ref f4) = true)
    (a5 : PySem.W.nsIn K mainGlobals "is_here" = some (some (.ref f5)))
    (l5 : K.lookup f5 = some ⟨oc5, od5, .func (PySem.W.fnOf "is_here" "is_here" (defArgs sHere) (defBody sHere) (defScope sHere) .none kV5 dc5 pm5 an5 cd5 ct5), sl5⟩)
    (c5 : PySem.W.codeIn K cd5 "is_here" = true)
    (k5 : PySem.W.keepIn K (.ref f5) = true)
    (a6 : PySem.W.nsIn K mainGlobals "here_of_group" = some (some (.ref f6)))
    (l6 : K.lookup f6 = some ⟨oc6, od6, .func (PySem.W.fnOf "here_of_group" "here_of_group" (defArgs sHog) (defBody sHog) (defScope sHog) .none kV6 dc6 pm6 an6 cd6 ct6), sl6⟩)
    (c6 : PySem.W.codeIn K cd6 "here_of_group" = true)
    (k6 : PySem.W.keepIn K (.ref f6) = true)
    (a7 : PySem.W.nsIn K mainGlobals "runs_told" = some (some (.ref f7)))
    (l7 : K.lookup f7 = some ⟨oc7, od7, .func (PySem.W.fnOf "runs_told" "runs_told" (defArgs sTold) (defBody sTold) (defScope sTold) .none kV7 dc7 pm7 an7 cd7 ct7), sl7⟩)
    (c7 : PySem.W.codeIn K cd7 "runs_told" = true)
    (k7 : PySem.W.keepIn K (.ref f7) = true)
    (a8 : PySem.W.findIn K (.ref CH) "__init__" = some (some (.ref f8)))
    (i8 : PySem.W.isFn K (.ref f8) = true)
    (l8 : K.lookup f8 = some ⟨oc8, od8, .func (PySem.W.fnOf "__init__" "House.__init__" (defArgs sHI) (defBody sHI) (defScope sHI) .none kV8 dc8 pm8 an8 cd8 ct8), sl8⟩)
    (c8 : PySem.W.codeIn K cd8 "House.__init__" = true)
    (k8 : PySem.W.keepIn K (.ref f8) = true)
    (a9 : PySem.W.findIn K (.ref CH) "begins" = some (some (.ref f9)))
    (i9 : PySem.W.isFn K (.ref f9) = true)
    (l9 : K.lookup f9 = some ⟨oc9, od9, .func (PySem.W.fnOf "begins" "House.begins" (defArgs sBegins) (defBody sBegins) (defScope sBegins) .none kV9 dc9 pm9 an9 cd9 ct9), sl9⟩)
    (c9 : PySem.W.codeIn K cd9 "House.begins" = true)
    (k9 : PySem.W.keepIn K (.ref f9) = true)
    (a10 : PySem.W.findIn K (.ref CH) "group" = some (some (.ref f10)))
    (i10 : PySem.W.isFn K (.ref f10) = true)
    (l10 : K.lookup f10 = some ⟨oc10, od10, .func (PySem.W.fnOf "group" "House.group" (defArgs sGroup) (defBody sGroup) (defScope sGroup) .none kV10 dc10 pm10 an10 cd10 ct10), sl10⟩)
    (c10 : PySem.W.codeIn K cd10 "House.group" = true)
    (k10 : PySem.W.keepIn K (.ref f10) = true)
    (a11 : PySem.W.findIn K (.ref CH) "submit" = some (some (.ref f11)))
    (i11 : PySem.W.isFn K (.ref f11) = true)
    (l11 : K.lookup f11 = some ⟨oc11, od11, .func (PySem.W.fnOf "submit" "House.submit" (defArgs sSubmit) (defBody sSubmit) (defScope sSubmit) .none kV11 dc11 pm11 an11 cd11 ct11), sl11⟩)
    (c11 : PySem.W.codeIn K cd11 "House.submit" = true)
    (k11 : PySem.W.keepIn K (.ref f11) = true)
    (a12 : PySem.W.findIn K (.ref CH) "ended" = some (some (.ref f12)))
    (i12 : PySem.W.isFn K (.ref f12) = true)
    (l12 : K.lookup f12 = some ⟨oc12, od12, .func (PySem.W.fnOf "ended" "House.ended" (defArgs sEnded) (defBody sEnded) (defScope sEnded) .none kV12 dc12 pm12 an12 cd12 ct12), sl12⟩)
    (c12 : PySem.W.codeIn K cd12 "House.ended" = true)
    (k12 : PySem.W.keepIn K (.ref f12) = true)
    (a13 : PySem.W.findIn K (.ref CH) "cancel" = some (some (.ref f13)))
    (i13 : PySem.W.isFn K (.ref f13) = true)
    (l13 : K.lookup f13 = some ⟨oc13, od13, .func (PySem.W.fnOf "cancel" "House.cancel" (defArgs sCancel) (defBody sCancel) (defScope sCancel) .none kV13 dc13 pm13 an13 cd13 ct13), sl13⟩)
    (c13 : PySem.W.codeIn K cd13 "House.cancel" = true)
    (k13 : PySem.W.keepIn K (.ref f13) = true)
    (a14 : PySem.W.findIn K (.ref CH) "stand" = some (some (.ref f14)))
    (i14 : PySem.W.isFn K (.ref f14) = true)
    (l14 : K.lookup f14 = some ⟨oc14, od14, .func (PySem.W.fnOf "stand" "House.stand" (defArgs sStandAll) (defBody sStandAll) (defScope sStandAll) .none kV14 dc14 pm14 an14 cd14 ct14), sl14⟩)
    (c14 : PySem.W.codeIn K cd14 "House.stand" = true)
    (k14 : PySem.W.keepIn K (.ref f14) = true)
    (a15 : PySem.W.findIn K (.ref CH) "why" = some (some (.ref f15)))
    (i15 : PySem.W.isFn K (.ref f15) = true)
    (l15 : K.lookup f15 = some ⟨oc15, od15, .func (PySem.W.fnOf "why" "House.why" (defArgs sWhy) (defBody sWhy) (defScope sWhy) .none kV15 dc15 pm15 an15 cd15 ct15), sl15⟩)
    (c15 : PySem.W.codeIn K cd15 "House.why" = true)
    (k15 : PySem.W.keepIn K (.ref f15) = true)
    (a16 : PySem.W.findIn K (.ref CH) "members" = some (some (.ref f16)))
    (i16 : PySem.W.isFn K (.ref f16) = true)
    (l16 : K.lookup f16 = some ⟨oc16, od16, .func (PySem.W.fnOf "members" "House.members" (defArgs sMembers) (defBody sMembers) (defScope sMembers) .none kV16 dc16 pm16 an16 cd16 ct16), sl16⟩)
    (c16 : PySem.W.codeIn K cd16 "House.members" = true)
    (k16 : PySem.W.keepIn K (.ref f16) = true)
    (a17 : PySem.W.findIn K (.ref CH) "is_full" = some (some (.ref f17)))
    (i17 : PySem.W.isFn K (.ref f17) = true)
    (l17 : K.lookup f17 = some ⟨oc17, od17, .func (PySem.W.fnOf "is_full" "House.is_full" (defArgs sFull) (defBody sFull) (defScope sFull) .none kV17 dc17 pm17 an17 cd17 ct17), sl17⟩)
    (c17 : PySem.W.codeIn K cd17 "House.is_full" = true)
    (k17 : PySem.W.keepIn K (.ref f17) = true)
    (a18 : PySem.W.findIn K (.ref CH) "runs_that_stand" = some (some (.ref f18)))
    (i18 : PySem.W.isFn K (.ref f18) = true)
    (l18 : K.lookup f18 = some ⟨oc18, od18, .func (PySem.W.fnOf "runs_that_stand" "House.runs_that_stand" (defArgs sStand) (defBody sStand) (defScope sStand) .none kV18 dc18 pm18 an18 cd18 ct18), sl18⟩)
    (c18 : PySem.W.codeIn K cd18 "House.runs_that_stand" = true)
    (k18 : PySem.W.keepIn K (.ref f18) = true)
    (a19 : PySem.W.findIn K (.ref CH) "push_out" = some (some (.ref f19)))
    (i19 : PySem.W.isFn K (.ref f19) = true)
    (l19 : K.lookup f19 = some ⟨oc19, od19, .func (PySem.W.fnOf "push_out" "House.push_out" (defArgs sPush) (defBody sPush) (defScope sPush) .none kV19 dc19 pm19 an19 cd19 ct19), sl19⟩)
    (c19 : PySem.W.codeIn K cd19 "House.push_out" = true)
    (k19 : PySem.W.keepIn K (.ref f19) = true)
    (a20 : PySem.W.findIn K (.ref CH) "begin_to_run" = some (some (.ref f20)))
    (i20 : PySem.W.isFn K (.ref f20) = true)
    (l20 : K.lookup f20 = some ⟨oc20, od20, .func (PySem.W.fnOf "begin_to_run" "House.begin_to_run" (defArgs sBeg) (defBody sBeg) (defScope sBeg) .none kV20 dc20 pm20 an20 cd20 ct20), sl20⟩)
    (c20 : PySem.W.codeIn K cd20 "House.begin_to_run" = true)
    (k20 : PySem.W.keepIn K (.ref f20) = true)
    (a21 : PySem.W.findIn K (.ref CH) "tell_to_stop" = some (some (.ref f21)))
    (i21 : PySem.W.isFn K (.ref f21) = true)
    (l21 : K.lookup f21 = some ⟨oc21, od21, .func (PySem.W.fnOf "tell_to_stop" "House.tell_to_stop" (defArgs sTell) (defBody sTell) (defScope sTell) .none kV21 dc21 pm21 an21 cd21 ct21), sl21⟩)
    (c21 : PySem.W.codeIn K cd21 "House.tell_to_stop" = true)
    (k21 : PySem.W.keepIn K (.ref f21) = true)
    (a22 : PySem.W.findIn K (.ref CH) "is_outdated" = some (some (.ref f22)))
    (i22 : PySem.W.isFn K (.ref f22) = true)
    (l22 : K.lookup f22 = some ⟨oc22, od22, .func (PySem.W.fnOf "is_outdated" "House.is_outdated" (defArgs sOutd) (defBody sOutd) (defScope sOutd) .none kV22 dc22 pm22 an22 cd22 ct22), sl22⟩)
    (c22 : PySem.W.codeIn K cd22 "House.is_outdated" = true)
    (k22 : PySem.W.keepIn K (.ref f22) = true)
    (a23 : PySem.W.findIn K (.ref CH) "groups_holding_back" = some (some (.ref f23)))
    (i23 : PySem.W.isFn K (.ref f23) = true)
    (l23 : K.lookup f23 = some ⟨oc23, od23, .func (PySem.W.fnOf "groups_holding_back" "House.groups_holding_back" (defArgs sHold) (defBody sHold) (defScope sHold) .none kV23 dc23 pm23 an23 cd23 ct23), sl23⟩)
    (c23 : PySem.W.codeIn K cd23 "House.groups_holding_back" = true)
    (k23 : PySem.W.keepIn K (.ref f23) = true)
    (a24 : PySem.W.findIn K (.ref CH) "is_cut" = some (some (.ref f24)))
    (i24 : PySem.W.isFn K (.ref f24) = true)
    (l24 : K.lookup f24 = some ⟨oc24, od24, .func (PySem.W.fnOf "is_cut" "House.is_cut" (defArgs sCut) (defBody sCut) (defScope sCut) .none kV24 dc24 pm24 an24 cd24 ct24), sl24⟩)
    (c24 : PySem.W.codeIn K cd24 "House.is_cut" = true)
    (k24 : PySem.W.keepIn K (.ref f24) = true)
    (a25 : PySem.W.findIn K (.ref CH) "newer_waiting" = some (some (.ref f25)))
    (i25 : PySem.W.isFn K (.ref f25) = true)
    (l25 : K.lookup f25 = some ⟨oc25, od25, .func (PySem.W.fnOf "newer_waiting" "House.newer_waiting" (defArgs sNewer) (defBody sNewer) (defScope sNewer) .none kV25 dc25 pm25 an25 cd25 ct25), sl25⟩)
    (c25 : PySem.W.codeIn K cd25 "House.newer_waiting" = true)
    (k25 : PySem.W.keepIn K (.ref f25) = true)
    (a26 : PySem.W.findIn K (.ref CH) "older_here" = some (some (.ref f26)))
    (i26 : PySem.W.isFn K (.ref f26) = true)
    (l26 : K.lookup f26 = some ⟨oc26, od26, .func (PySem.W.fnOf "older_here" "House.older_here" (defArgs sOlder) (defBody sOlder) (defScope sOlder) .none kV26 dc26 pm26 an26 cd26 ct26), sl26⟩)
    (c26 : PySem.W.codeIn K cd26 "House.older_here" = true)
    (k26 : PySem.W.keepIn K (.ref f26) = true)
    (a27 : PySem.W.nsIn K mainGlobals "answer" = some (some (.ref f27)))
    (l27 : K.lookup f27 = some ⟨oc27, od27, .func (PySem.W.fnOf "answer" "answer" (defArgs sAnswer) (defBody sAnswer) (defScope sAnswer) .none kV27 dc27 pm27 an27 cd27 ct27), sl27⟩)
    (c27 : PySem.W.codeIn K cd27 "answer" = true)
    (k27 : PySem.W.keepIn K (.ref f27) = true)
    (a28 : PySem.W.nsIn K mainGlobals "answers" = some (some (.ref f28)))
    (l28 : K.lookup f28 = some ⟨oc28, od28, .func (PySem.W.fnOf "answers" "answers" (defArgs sAnswers) (defBody sAnswers) (defScope sAnswers) .none kV28 dc28 pm28 an28 cd28 ct28), sl28⟩)
    (c28 : PySem.W.codeIn K cd28 "answers" = true)
    (k28 : PySem.W.keepIn K (.ref f28) = true)
    (pgg : PySem.W.plainGet K CG Str.empty = true)
    (hdg : PySem.W.hasDictIn K CG = true)
    (pog : PySem.W.plainOver K CG = true)
    (sag : PySem.W.findIn K (.ref CG) "__setattr__" = some (some (.builtin "object.__setattr__")))
    (mkg : PySem.W.makesIn K CG = true)
    (kcg : PySem.W.keepIn K (.ref CG) = true)
    (pgr : PySem.W.plainGet K CR Str.empty = true)
    (hdr : PySem.W.hasDictIn K CR = true)
    (por : PySem.W.plainOver K CR = true)
    (sar : PySem.W.findIn K (.ref CR) "__setattr__" = some (some (.builtin "object.__setattr__")))
    (mkr : PySem.W.makesIn K CR = true)
    (kcr : PySem.W.keepIn K (.ref CR) = true)
    (pgh : PySem.W.plainGet K CH Str.empty = true)
    (hdh : PySem.W.hasDictIn K CH = true)
    (poh : PySem.W.plainOver K CH = true)
    (sah : PySem.W.findIn K (.ref CH) "__setattr__" = some (some (.builtin "object.__setattr__")))
    (mkh : PySem.W.makesIn K CH = true)
    (kch : PySem.W.keepIn K (.ref CH) = true)
    (n0 : PySem.W.findIn K (.ref CG) "most" = some none)
    (n1 : PySem.W.findIn K (.ref CG) "keep" = some none)
    (n2 : PySem.W.findIn K (.ref CG) "cuts" = some none)
    (n3 : PySem.W.findIn K (.ref CR) "number" = some none)
    (n4 : PySem.W.findIn K (.ref CR) "belongs_to" = some none)
    (n5 : PySem.W.findIn K (.ref CR) "stands" = some none)
    (n6 : PySem.W.findIn K (.ref CH) "groups" = some none)
    (n7 : PySem.W.findIn K (.ref CH) "runs" = some none)
    (v0 : PySem.W.nsIn K mainGlobals "WAITS" = some (some (.int (0) t0)))
    (v1 : PySem.W.nsIn K mainGlobals "RUNS" = some (some (.int (1) t1)))
    (v2 : PySem.W.nsIn K mainGlobals "TOLD_TO_STOP" = some (some (.int (2) t2)))
    (v3 : PySem.W.nsIn K mainGlobals "PASSED" = some (some (.int (3) t3)))
    (v4 : PySem.W.nsIn K mainGlobals "FAILED" = some (some (.int (4) t4)))
    (v5 : PySem.W.nsIn K mainGlobals "PUSHED_OUT" = some (some (.int (5) t5)))
    (v6 : PySem.W.nsIn K mainGlobals "STOPPED" = some (some (.int (6) t6)))
    (v7 : PySem.W.nsIn K mainGlobals "CALLED_OFF" = some (some (.int (7) t7)))
    (v8 : PySem.W.nsIn K mainGlobals "WRONG_NUMBER" = some (some (.int (-1) t8)))
    (v9 : PySem.W.nsIn K mainGlobals "NOT_THERE" = some (some (.int (-2) t9)))
    (v10 : PySem.W.nsIn K mainGlobals "TOO_LATE" = some (some (.int (-3) t10)))
    (v11 : PySem.W.nsIn K mainGlobals "TOLD_ALREADY" = some (some (.int (-4) t11)))
    (v12 : PySem.W.nsIn K mainGlobals "WRONG_STAND" = some (some (.int (-5) t12)))
    (v13 : PySem.W.nsIn K mainGlobals "FULL" = some (some (.int (-7) t13)))
    (v14 : PySem.W.nsIn K mainGlobals "GROUPS_LIMIT" = some (some (.int (8) t14)))
    (v15 : PySem.W.nsIn K mainGlobals "MOST_LIMIT" = some (some (.int (4) t15)))
    (v16 : PySem.W.nsIn K mainGlobals "KEEP_LIMIT" = some (some (.int (8) t16)))
    (v17 : PySem.W.nsIn K mainGlobals "HERE_LIMIT" = some (some (.int (20) t17)))
    (v18 : PySem.W.nsIn K mainGlobals "RUNS_LIMIT" = some (some (.int (50) t18)))
    (u0 : PySem.W.nsIn K mainGlobals "BEGINS" = some (some (.int (0) s0)))
    (u1 : PySem.W.nsIn K mainGlobals "GROUP" = some (some (.int (1) s1)))
    (u2 : PySem.W.nsIn K mainGlobals "SUBMIT" = some (some (.int (2) s2)))
    (u3 : PySem.W.nsIn K mainGlobals "ENDED" = some (some (.int (3) s3)))
    (u4 : PySem.W.nsIn K mainGlobals "CANCEL" = some (some (.int (4) s4)))
    (u5 : PySem.W.nsIn K mainGlobals "STAND" = some (some (.int (5) s5)))
    (u6 : PySem.W.nsIn K mainGlobals "WHY" = some (some (.int (6) s6)))
    (z0 : PySem.W.nsIn K mainGlobals "len" = some none)
    (z1 : PySem.W.nsIn K mainGlobals "range" = some none)
    (z2 : PySem.W.nsIn K mainGlobals "all" = some none)
    (aB : PySem.W.nsIn K mainGlobals "NUMBERS_BEHIND" = some (some (.ref tb)))
    (lB : K.lookup tb = some ⟨.type "tuple", odB, .seq #[.int 1 b0, .int 4 b1, .int 1 b2, .int 2 b3, .int 1 b4, .int 0 b5, .int 1 b6, .int 1 b7] nB, slB⟩)
    : ∃ fd : FuncData, (∀ (s : Shared) (us : List Value), us.length = (["calls"] : List Str).length → BindsTo s fd ⟨us, []⟩ ((["calls"] : List Str).zip us)) ∧ ∀ base : Heap, K.In base → base.Ns mainGlobals mg → FnOk P w K mg base CX0 8 fa fd ["calls"] (spAns K) := by
  have e := hfa.symm.trans (PySem.W.mg_of X G a28)
  cases e
  let C : Cl := ⟨CG, CR, CH⟩
  have T : Txt K mg C := ⟨⟨pgg, hdg, pog, sag⟩, ⟨pgr, hdr, por, sar⟩, ⟨pgh, hdh, poh, sah⟩, n0, n1, n2, n3, n4, n5, n6, n7, PySem.W.mg_of X G aCg, PySem.W.mg_of X G aCr, PySem.W.mg_of X G aCh, ⟨_, PySem.W.mg_of X G v0⟩, ⟨_, PySem.W.mg_of X G v1⟩, ⟨_, PySem.W.mg_of X G v2⟩, ⟨_, PySem.W.mg_of X G v3⟩, ⟨_, PySem.W.mg_of X G v4⟩, ⟨_, PySem.W.mg_of X G v5⟩, ⟨_, PySem.W.mg_of X G v6⟩, ⟨_, PySem.W.mg_of X G v7⟩, ⟨_, PySem.W.mg_of X G v8⟩, ⟨_, PySem.W.mg_of X G v9⟩, ⟨_, PySem.W.mg_of X G v10⟩, ⟨_, PySem.W.mg_of X G v11⟩, ⟨_, PySem.W.mg_of X G v12⟩, ⟨_, PySem.W.mg_of X G v13⟩, ⟨_, PySem.W.mg_of X G v14⟩, ⟨_, PySem.W.mg_of X G v15⟩, ⟨_, PySem.W.mg_of X G v16⟩, ⟨_, PySem.W.mg_of X G v17⟩, ⟨_, PySem.W.mg_of X G v18⟩, PySem.W.mg_none_of X G z0, PySem.W.mg_none_of X G z1, PySem.W.mg_none_of X G z2⟩
  have F0 := fun_mk (st := sGI) l0 c0 k0
  have B0 := F0.binds (ps := ["self", "most", "keep", "cuts"]) fun _ _ _ _ _ _ us hl => match us, hl with | [_, _, _, _], _ => rfl
  have F1 := fun_mk (st := sRI) l1 c1 k1
  have B1 := F1.binds (ps := ["self", "number", "belongs_to"]) fun _ _ _ _ _ _ us hl => match us, hl with | [_, _, _], _ => rfl
  have F2 := fun_mk (st := sPlain) l2 c2 k2
  have B2 := F2.binds (ps := ["how_many"]) fun _ _ _ _ _ _ us hl => match us, hl with | [_], _ => rfl
  have F3 := fun_mk (st := sGis) l3 c3 k3
  have B3 := F3.binds (ps := ["group_set", "how_many"]) fun _ _ _ _ _ _ us hl => match us, hl with | [_, _], _ => rfl
  have F4 := fun_mk (st := sInR) l4 c4 k4
  have B4 := F4.binds (ps := ["number", "lowest", "highest"]) fun _ _ _ _ _ _ us hl => match us, hl with | [_, _, _], _ => rfl
  have F5 := fun_mk (st := sHere) l5 c5 k5
  have B5 := F5.binds (ps := ["run"]) fun _ _ _ _ _ _ us hl => match us, hl with | [_], _ => rfl
  have F6 := fun_mk (st := sHog) l6 c6 k6
  have B6 := F6.binds (ps := ["runs", "group_number"]) fun _ _ _ _ _ _ us hl => match us, hl with | [_, _], _ => rfl
  have F7 := fun_mk (st := sTold) l7 c7 k7
  have B7 := F7.binds (ps := ["runs"]) fun _ _ _ _ _ _ us hl => match us, hl with | [_], _ => rfl
  have F8 := fun_mk (st := sHI) l8 c8 k8
  have B8 := F8.binds (ps := ["self"]) fun _ _ _ _ _ _ us hl => match us, hl with | [_], _ => rfl
  have F9 := fun_mk (st := sBegins) l9 c9 k9
  have B9 := F9.binds (ps := ["self", "how_many"]) fun _ _ _ _ _ _ us hl => match us, hl with | [_, _], _ => rfl
  have F10 := fun_mk (st := sGroup) l10 c10 k10
  have B10 := F10.binds (ps := ["self", "number", "most", "keep", "cuts"]) fun _ _ _ _ _ _ us hl => match us, hl with | [_, _, _, _, _], _ => rfl
  have F11 := fun_mk (st := sSubmit) l11 c11 k11
  have B11 := F11.binds (ps := ["self", "group_set"]) fun _ _ _ _ _ _ us hl => match us, hl with | [_, _], _ => rfl
  have F12 := fun_mk (st := sEnded) l12 c12 k12
  have B12 := F12.binds (ps := ["self", "number", "passed"]) fun _ _ _ _ _ _ us hl => match us, hl with | [_, _, _], _ => rfl
  have F13 := fun_mk (st := sCancel) l13 c13 k13
  have B13 := F13.binds (ps := ["self", "number"]) fun _ _ _ _ _ _ us hl => match us, hl with | [_, _], _ => rfl
  have F14 := fun_mk (st := sStandAll) l14 c14 k14
  have B14 := F14.binds (ps := ["self"]) fun _ _ _ _ _ _ us hl => match us, hl with | [_], _ => rfl
  have F15 := fun_mk (st := sWhy) l15 c15 k15
  have B15 := F15.binds (ps := ["self", "number"]) fun _ _ _ _ _ _ us hl => match us, hl with | [_, _], _ => rfl
  have F16 := fun_mk (st := sMembers) l16 c16 k16
  have B16 := F16.binds (ps := ["self", "group_number"]) fun _ _ _ _ _ _ us hl => match us, hl with | [_, _], _ => rfl
  have F17 := fun_mk (st := sFull) l17 c17 k17
  have B17 := F17.binds (ps := ["self"]) fun _ _ _ _ _ _ us hl => match us, hl with | [_], _ => rfl
  have F18 := fun_mk (st := sStand) l18 c18 k18
  have B18 := F18.binds (ps := ["self", "where"]) fun _ _ _ _ _ _ us hl => match us, hl with | [_, _], _ => rfl
  have F19 := fun_mk (st := sPush) l19 c19 k19
  have B19 := F19.binds (ps := ["self"]) fun _ _ _ _ _ _ us hl => match us, hl with | [_], _ => rfl
  have F20 := fun_mk (st := sBeg) l20 c20 k20
  have B20 := F20.binds (ps := ["self"]) fun _ _ _ _ _ _ us hl => match us, hl with | [_], _ => rfl
  have F21 := fun_mk (st := sTell) l21 c21 k21
  have B21 := F21.binds (ps := ["self", "ran_before"]) fun _ _ _ _ _ _ us hl => match us, hl with | [_, _], _ => rfl
  have F22 := fun_mk (st := sOutd) l22 c22 k22
  have B22 := F22.binds (ps := ["self", "run"]) fun _ _ _ _ _ _ us hl => match us, hl with | [_, _], _ => rfl
  have F23 := fun_mk (st := sHold) l23 c23 k23
  have B23 := F23.binds (ps := ["self", "run"]) fun _ _ _ _ _ _ us hl => match us, hl with | [_, _], _ => rfl
  have F24 := fun_mk (st := sCut) l24 c24 k24
  have B24 := F24.binds (ps := ["self", "run"]) fun _ _ _ _ _ _ us hl => match us, hl with | [_, _], _ => rfl
  have F25 := fun_mk (st := sNewer) l25 c25 k25
  have B25 := F25.binds (ps := ["self", "run", "group_number"]) fun _ _ _ _ _ _ us hl => match us, hl with | [_, _, _], _ => rfl
  have F26 := fun_mk (st := sOlder) l26 c26 k26
  have B26 := F26.binds (ps := ["self", "run", "group_number"]) fun _ _ _ _ _ _ us hl => match us, hl with | [_, _, _], _ => rfl
  have F27 := fun_mk (st := sAnswer) l27 c27 k27
  have B27 := F27.binds (ps := ["house", "call", "numbers"]) fun _ _ _ _ _ _ us hl => match us, hl with | [_, _, _], _ => rfl
  have F28 := fun_mk (st := sAnswers) l28 c28 k28
  refine ⟨PySem.W.fnOf "answers" "answers" (defArgs sAnswers) (defBody sAnswers) (defScope sAnswers) .none kV28 dc28 pm28 an28 cd28 ct28, fun s us hu => match us, hu with | [_], _ => .of_eq rfl, fun base _ _ => ?_⟩
  have G0 := ok_gi (P := P) (w := w) (base := base) F0 T
  have mkG : Mak P w K mg base C.g _ _ _ := ⟨_, _, ⟨mkg, a0, i0, kcg⟩, G0, B0⟩
  have G1 := ok_ri (P := P) (w := w) (base := base) F1 T
  have mkR : Mak P w K mg base C.r _ _ _ := ⟨_, _, ⟨mkr, a1, i1, kcr⟩, G1, B1⟩
  have G2 := ok_plain (P := P) (w := w) (base := base) F2 T ⟨mkg, a0, i0, kcg⟩ G0 B0
  have dPlain : Dfn P w K mg base "plain_groups" _ _ _ := ⟨_, _, PySem.W.mg_of X G a2, k2, G2, B2⟩
  have G3 := ok_gis (P := P) (w := w) (base := base) F3 T
  have dGis : Dfn P w K mg base "groups_in_set" _ _ _ := ⟨_, _, PySem.W.mg_of X G a3, k3, G3, B3⟩
  have G4 := ok_inr (P := P) (w := w) (mg := mg) (base := base) F4
  have dInR : Dfn P w K mg base "in_range" _ _ _ := ⟨_, _, PySem.W.mg_of X G a4, k4, G4, B4⟩
  have G5 := ok_here (P := P) (w := w) (base := base) F5 T
  have dHere : Dfn P w K mg base "is_here" _ _ _ := ⟨_, _, PySem.W.mg_of X G a5, k5, G5, B5⟩
  have G7 := ok_told (P := P) (w := w) (base := base) F7 T
  have dTold : Dfn P w K mg base "runs_told" _ _ _ := ⟨_, _, PySem.W.mg_of X G a7, k7, G7, B7⟩
  have G6 := ok_hog (P := P) (w := w) (base := base) F6 T (PySem.W.mg_of X G a5) k5 G5 B5
  have dHog : Dfn P w K mg base "here_of_group" _ _ _ := ⟨_, _, PySem.W.mg_of X G a6, k6, G6, B6⟩
  have G26 := ok_older (P := P) (w := w) (base := base) F26 T (PySem.W.mg_of X G a6) k6 G6 B6
  have mOlder : Mth P w K mg base C.h "older_here" _ _ _ := ⟨_, _, ⟨a26, i26, k26⟩, G26, B26⟩
  have G25 := ok_newer (P := P) (w := w) (base := base) F25 T
  have mNewer : Mth P w K mg base C.h "newer_waiting" _ _ _ := ⟨_, _, ⟨a25, i25, k25⟩, G25, B25⟩
  have G23 := ok_hold (P := P) (w := w) (base := base) F23 T mOlder
  have mHeld : Mth P w K mg base C.h "groups_holding_back" _ _ _ := ⟨_, _, ⟨a23, i23, k23⟩, G23, B23⟩
  have G22 := ok_outd (P := P) (w := w) (base := base) F22 T mNewer
  have mOutd : Mth P w K mg base C.h "is_outdated" _ _ _ := ⟨_, _, ⟨a22, i22, k22⟩, G22, B22⟩
  have G24 := ok_cut (P := P) (w := w) (base := base) F24 T mNewer
  have mCut : Mth P w K mg base C.h "is_cut" _ _ _ := ⟨_, _, ⟨a24, i24, k24⟩, G24, B24⟩
  have G18 := ok_stand (P := P) (w := w) (base := base) F18 T
  have mStand : Mth P w K mg base C.h "runs_that_stand" _ _ _ := ⟨_, _, ⟨a18, i18, k18⟩, G18, B18⟩
  have G17 := ok_full (P := P) (w := w) (base := base) F17 T dHere
  have mFull : Mth P w K mg base C.h "is_full" _ _ _ := ⟨_, _, ⟨a17, i17, k17⟩, G17, B17⟩
  have G19 := ok_push (P := P) (w := w) (base := base) F19 T mStand mOutd
  have mPush : Mth P w K mg base C.h "push_out" _ _ _ := ⟨_, _, ⟨a19, i19, k19⟩, G19, B19⟩
  have G20 := ok_beg (P := P) (w := w) (base := base) F20 T mStand mHeld
  have mBeg : Mth P w K mg base C.h "begin_to_run" _ _ _ := ⟨_, _, ⟨a20, i20, k20⟩, G20, B20⟩
  have G21 := ok_tell (P := P) (w := w) (base := base) F21 T mCut
  have mTell : Mth P w K mg base C.h "tell_to_stop" _ _ _ := ⟨_, _, ⟨a21, i21, k21⟩, G21, B21⟩
  have G8 := ok_hi (P := P) (w := w) (base := base) F8 T dPlain
  have mkH : Mak P w K mg base C.h _ _ _ := ⟨_, _, ⟨mkh, a8, i8, kch⟩, G8, B8⟩
  have G9 := ok_begins (P := P) (w := w) (base := base) F9 T dPlain dInR
  have mBegins : Mth P w K mg base C.h "begins" _ _ _ := ⟨_, _, ⟨a9, i9, k9⟩, G9, B9⟩
  have G10 := ok_group (P := P) (w := w) (base := base) F10 T mkG dInR
  have mGroup : Mth P w K mg base C.h "group" _ _ _ := ⟨_, _, ⟨a10, i10, k10⟩, G10, B10⟩
  have G11 := ok_submit (P := P) (w := w) (base := base) F11 T mFull mStand mkR dGis mPush mBeg mTell dTold
  have mSubmit : Mth P w K mg base C.h "submit" _ _ _ := ⟨_, _, ⟨a11, i11, k11⟩, G11, B11⟩
  have G12 := ok_ended (P := P) (w := w) (base := base) F12 T mBeg dTold
  have mEnded : Mth P w K mg base C.h "ended" _ _ _ := ⟨_, _, ⟨a12, i12, k12⟩, G12, B12⟩
  have G13 := ok_cancel (P := P) (w := w) (base := base) F13 T mBeg dTold dHere
  have mCancel : Mth P w K mg base C.h "cancel" _ _ _ := ⟨_, _, ⟨a13, i13, k13⟩, G13, B13⟩
  have G14 := ok_standAll (P := P) (w := w) (base := base) F14 T
  have mStandAll : Mth P w K mg base C.h "stand" _ _ _ := ⟨_, _, ⟨a14, i14, k14⟩, G14, B14⟩
  have G15 := ok_why (P := P) (w := w) (base := base) F15 T mHeld mOlder dTold
  have mWhy : Mth P w K mg base C.h "why" _ _ _ := ⟨_, _, ⟨a15, i15, k15⟩, G15, B15⟩
  have G16 := ok_members (P := P) (w := w) (base := base) F16 T dHog
  have mMembers : Mth P w K mg base C.h "members" _ _ _ := ⟨_, _, ⟨a16, i16, k16⟩, G16, B16⟩
  have G27 := ok_answer (P := P) (w := w) (base := base) F27 T ⟨_, PySem.W.mg_of X G u0⟩ ⟨_, PySem.W.mg_of X G u1⟩ ⟨_, PySem.W.mg_of X G u2⟩ ⟨_, PySem.W.mg_of X G u3⟩ ⟨_, PySem.W.mg_of X G u4⟩ ⟨_, PySem.W.mg_of X G u5⟩ ⟨_, PySem.W.mg_of X G u6⟩ mBegins mGroup mSubmit mEnded mCancel mStandAll mWhy mMembers
  have dAnswer : Dfn P w K mg base "answer" _ _ _ := ⟨_, _, PySem.W.mg_of X G a27, k27, G27, B27⟩
  exact ok_ans F28 T (PySem.W.mg_of X G aB) (fun H => tup_of lB) dAnswer mkH
end Gq
open PySem PySem.W PyProof.Rows
set_option maxRecDepth 100000 in
set_option maxHeartbeats 0 in
theorem PySem.Challenge.cw_groupqueue_s01_answers_holds : PySem.Challenge.rw_groupqueue_s01_answers.Holds := by
  w_on; k_headS; (case hw => exact ⟨[.list [.int 5]], by decide +kernel, by decide +kernel⟩)
  k_fillS
  refine L2.walk_specK (r := PySem.Challenge.rw_groupqueue_s01_answers) (k := 8) (CX := L2.CX0) (ps := ["calls"]) (sp := Gq.spAns) (by decide +kernel) rfl rfl ⟨rfl, by decide, by decide⟩ (fun w h Y => PySem.W.kIn_of Y) ?F ?S (fun _ _ _ _ z => z)
  case F =>
    intro w mg fa h Y KX G hmg
    refine' Gq.all_mk KX G hmg ?aCg ?aCr ?aCh ?a0 ?i0 ?l0 ?c0 ?k0 ?a1 ?i1 ?l1 ?c1 ?k1 ?a2 ?l2 ?c2 ?k2 ?a3 ?l3 ?c3 ?k3 ?a4 ?l4 ?c4 ?k4 ?a5 ?l5 ?c5 ?k5 ?a6 ?l6 ?c6 ?k6 ?a7 ?l7 ?c7 ?k7 ?a8 ?i8 ?l8 ?c8 ?k8 ?a9 ?i9 ?l9 ?c9 ?k9 ?a10 ?i10 ?l10 ?c10 ?k10 ?a11 ?i11 ?l11 ?c11 ?k11 ?a12 ?i12 ?l12 ?c12 ?k12 ?a13 ?i13 ?l13 ?c13 ?k13 ?a14 ?i14 ?l14 ?c14 ?k14 ?a15 ?i15 ?l15 ?c15 ?k15 ?a16 ?i16 ?l16 ?c16 ?k16 ?a17 ?i17 ?l17 ?c17 ?k17 ?a18 ?i18 ?l18 ?c18 ?k18 ?a19 ?i19 ?l19 ?c19 ?k19 ?a20 ?i20 ?l20 ?c20 ?k20 ?a21 ?i21 ?l21 ?c21 ?k21 ?a22 ?i22 ?l22 ?c22 ?k22 ?a23 ?i23 ?l23 ?c23 ?k23 ?a24 ?i24 ?l24 ?c24 ?k24 ?a25 ?i25 ?l25 ?c25 ?k25 ?a26 ?i26 ?l26 ?c26 ?k26 ?a27 ?l27 ?c27 ?k27 ?a28 ?l28 ?c28 ?k28 ?pgg ?hdg ?pog ?sag ?mkg ?kcg ?pgr ?hdr ?por ?sar ?mkr ?kcr ?pgh ?hdh ?poh ?sah ?mkh ?kch ?n0 ?n1 ?n2 ?n3 ?n4 ?n5 ?n6 ?n7 ?v0 ?v1 ?v2 ?v3 ?v4 ?v5 ?v6 ?v7 ?v8 ?v9 ?v10 ?v11 ?v12 ?v13 ?v14 ?v15 ?v16 ?v17 ?v18 ?u0 ?u1 ?u2 ?u3 ?u4 ?u5 ?u6 ?z0 ?z1 ?z2 ?aB ?lB
    (case aCg => k_is)
    (case aCr => k_is)
    (case aCh => k_is)
    (case a0 => k_is)
    (case i0 => k_is)
    (case l0 => k_is)
    (case c0 => k_is)
    (case k0 => k_is)
    (case a1 => k_is)
    (case i1 => k_is)
    (case l1 => k_is)
    (case c1 => k_is)
    (case k1 => k_is)
    (case a2 => k_is)
    (case l2 => k_is)
    (case c2 => k_is)
    (case k2 => k_is)
    (case a3 => k_is)
    (case l3 => k_is)
    (case c3 => k_is)
    (case k3 => k_is)
    (case a4 => k_is)
    (case l4 => k_is)
    (case c4 => k_is)
    (case k4 => k_is)
    (case a5 => k_is)
    (case l5 => k_is)
    (case c5 => k_is)
    (case k5 => k_is)
    (case a6 => k_is)
    (case l6 => k_is)
    (case c6 => k_is)
    (case k6 => k_is)
    (case a7 => k_is)
    (case l7 => k_is)
    (case c7 => k_is)
    (case k7 => k_is)
    (case a8 => k_is)
    (case i8 => k_is)
    (case l8 => k_is)
    (case c8 => k_is)
    (case k8 => k_is)
    (case a9 => k_is)
    (case i9 => k_is)
    (case l9 => k_is)
    (case c9 => k_is)
    (case k9 => k_is)
    (case a10 => k_is)
    (case i10 => k_is)
    (case l10 => k_is)
    (case c10 => k_is)
    (case k10 => k_is)
    (case a11 => k_is)
    (case i11 => k_is)
    (case l11 => k_is)
    (case c11 => k_is)
    (case k11 => k_is)
    (case a12 => k_is)
    (case i12 => k_is)
    (case l12 => k_is)
    (case c12 => k_is)
    (case k12 => k_is)
    (case a13 => k_is)
    (case i13 => k_is)
    (case l13 => k_is)
    (case c13 => k_is)
    (case k13 => k_is)
    (case a14 => k_is)
    (case i14 => k_is)
    (case l14 => k_is)
    (case c14 => k_is)
    (case k14 => k_is)
    (case a15 => k_is)
    (case i15 => k_is)
    (case l15 => k_is)
    (case c15 => k_is)
    (case k15 => k_is)
    (case a16 => k_is)
    (case i16 => k_is)
    (case l16 => k_is)
    (case c16 => k_is)
    (case k16 => k_is)
    (case a17 => k_is)
    (case i17 => k_is)
    (case l17 => k_is)
    (case c17 => k_is)
    (case k17 => k_is)
    (case a18 => k_is)
    (case i18 => k_is)
    (case l18 => k_is)
    (case c18 => k_is)
    (case k18 => k_is)
    (case a19 => k_is)
    (case i19 => k_is)
    (case l19 => k_is)
    (case c19 => k_is)
    (case k19 => k_is)
    (case a20 => k_is)
    (case i20 => k_is)
    (case l20 => k_is)
    (case c20 => k_is)
    (case k20 => k_is)
    (case a21 => k_is)
    (case i21 => k_is)
    (case l21 => k_is)
    (case c21 => k_is)
    (case k21 => k_is)
    (case a22 => k_is)
    (case i22 => k_is)
    (case l22 => k_is)
    (case c22 => k_is)
    (case k22 => k_is)
    (case a23 => k_is)
    (case i23 => k_is)
    (case l23 => k_is)
    (case c23 => k_is)
    (case k23 => k_is)
    (case a24 => k_is)
    (case i24 => k_is)
    (case l24 => k_is)
    (case c24 => k_is)
    (case k24 => k_is)
    (case a25 => k_is)
    (case i25 => k_is)
    (case l25 => k_is)
    (case c25 => k_is)
    (case k25 => k_is)
    (case a26 => k_is)
    (case i26 => k_is)
    (case l26 => k_is)
    (case c26 => k_is)
    (case k26 => k_is)
    (case a27 => k_is)
    (case l27 => k_is)
    (case c27 => k_is)
    (case k27 => k_is)
    (case a28 => k_is)
    (case l28 => k_is)
    (case c28 => k_is)
    (case k28 => k_is)
    (case pgg => k_is)
    (case hdg => k_is)
    (case pog => k_is)
    (case sag => k_is)
    (case mkg => k_is)
    (case kcg => k_is)
    (case pgr => k_is)
    (case hdr => k_is)
    (case por => k_is)
    (case sar => k_is)
    (case mkr => k_is)
    (case kcr => k_is)
    (case pgh => k_is)
    (case hdh => k_is)
    (case poh => k_is)
    (case sah => k_is)
    (case mkh => k_is)
    (case kch => k_is)
    (case n0 => k_is)
    (case n1 => k_is)
    (case n2 => k_is)
    (case n3 => k_is)
    (case n4 => k_is)
    (case n5 => k_is)
    (case n6 => k_is)
    (case n7 => k_is)
    (case v0 => k_is)
    (case v1 => k_is)
    (case v2 => k_is)
    (case v3 => k_is)
    (case v4 => k_is)
    (case v5 => k_is)
    (case v6 => k_is)
    (case v7 => k_is)
    (case v8 => k_is)
    (case v9 => k_is)
    (case v10 => k_is)
    (case v11 => k_is)
    (case v12 => k_is)
    (case v13 => k_is)
    (case v14 => k_is)
    (case v15 => k_is)
    (case v16 => k_is)
    (case v17 => k_is)
    (case v18 => k_is)
    (case u0 => k_is)
    (case u1 => k_is)
    (case u2 => k_is)
    (case u3 => k_is)
    (case u4 => k_is)
    (case u5 => k_is)
    (case u6 => k_is)
    (case z0 => k_is)
    (case z1 => k_is)
    (case z2 => k_is)
    (case aB => k_is)
    (case lB => k_is)
  case S =>
    intro K H xs a hO hwi hask hx
    cases hx with
    | cons h1 h2 =>
      cases h2
      cases h1 with
      | lst hs ha =>
        have e := L2.ints_dw a.1 _ ha
        subst e
        have q : ((Codec.inLen 0 320 a.1 && a.1.all (Codec.inInt 0 4294967295)) && true) = true := hwi
        rw [Bool.and_eq_true, Bool.and_eq_true] at q
        exact ⟨_, a.1, rfl, hs, hask, (Codec.inNat_iff.mp q.1.1).2, fun x hx => (Codec.inInt_iff.mp (List.all_eq_true.mp q.1.2 x hx)).1, fun H' p hp => .lst (L2.SqL.of hp) (L2.dw_ints _)⟩
